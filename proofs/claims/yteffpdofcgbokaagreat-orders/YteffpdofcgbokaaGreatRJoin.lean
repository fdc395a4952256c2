/-
  The walk over the document's join.
-/
import Derived.Test.YteffpdofcgbokaaGreatRAsk
import Derived.Deep.RegionHeld3
namespace Go.Proofs.YteffpdofcgbokaaGreat
open Go.RowKit

theorem tries_succ (c : Nat) (a b : Int × Int) : Tr.tries (c + 1) a b = Tr.tries c a b ++ [(3, (c : Int))] := by
  unfold Tr.tries
  rw [List.range_succ, List.map_append, ← List.append_assoc]
  rfl
theorem tries_len (c : Nat) (a b : Int × Int) : (Tr.tries c a b).length = 3 + c := by simp [Tr.tries]; omega
theorem filter_take (F : Int × Int → Bool) (ts : List (Int × Int)) (m : Nat) (h : m < ts.length) : (ts.take (m + 1)).filter F = (ts.take m).filter F ++ (if F ts[m] then [ts[m]] else []) := by
  rw [List.take_succ_eq_append_getElem h, List.filter_append]
  simp only [List.filter_cons, List.filter_nil]
theorem six_own (w : World) (b g : Nat) (k n k' n' : Int) (hg : w.heap.size = g) (hb : b ≤ g) :
    (w.alloc (.cells #[.int .i64 0, .int .i64 0, .int .i64 k, .int .i64 n, .int .i64 k', .int .i64 n'] 48)).ownsRow b 48 2 (.slice (some ⟨g, 0, none⟩) 3 3) 3 (tcells (Tr.tries 0 (k, n) (k', n'))) :=
  ⟨rfl, .inr ⟨g, 3, #[.int .i64 0, .int .i64 0, .int .i64 k, .int .i64 n, .int .i64 k', .int .i64 n'], rfl, hb, by rw [← hg]; exact alloc_blk w _, by omega, by unfold maxLen; omega, rfl, rfl⟩⟩
theorem firstL_step {T : List Int} {bs : List (Int × Int)} {m : Nat} (h : m < bs.length) : Tr.firstL T bs (bs.drop m) = if Tr.leastF T bs bs[m] then bs[m] else Tr.firstL T bs (bs.drop (m + 1)) := by
  rw [List.drop_eq_getElem_cons h, Tr.firstL]

set_option maxRecDepth 100000 in
set_option maxHeartbeats 8000000 in
theorem rjoin_any (a1 a2 : Option Addr) (c1 n2 c2 bb : Nat) (l : List (Rd.Cls × Value)) (k n k' n' : Int) (w : World) (hl : l.length ≤ 1000) (hc : RClssIn w bb (.slice a1 l.length c1) l) :
    Calls Tryz.prog 96 #[.agg #[.slice a1 l.length c1, .slice a2 n2 c2], .agg #[.int .i64 k, .int .i64 n], .agg #[.int .i64 k', .int .i64 n']] w fun e w' =>
      e = .returned (.agg #[.int .i64 (Tr.rjoin (supers l) (k, n) (k', n')).1, .int .i64 (Tr.rjoin (supers l) (k, n) (k', n')).2]) ∧ Below w.heap.size w w' := by
  unfold Tr.rjoin
  by_cases h1 : (k, n) = (k', n')
  · rw [if_pos h1]
    simp only [Prod.mk.injEq] at h1
    obtain ⟨rfl, rfl⟩ := h1
    go_enter Tryz.func96, Tryz.ntmps96
    go_wp2
    have C3 := (blks4 w (.cells #[.slice a1 l.length c1, .slice a2 n2 c2] 28) (.cells #[.int .i64 k, .int .i64 n] 48) (.cells #[.int .i64 k, .int .i64 n] 48) (.cells #[.int .i64 k, .int .i64 n] 48)).2.2.2
    have r0 := blk_cell C3 0
    have r1 := blk_cell C3 1
    simp at r0 r1
    refine bodyPost_ret (v := .agg #[.int .i64 k, .int .i64 n]) (by simp [results, Tryz.results96, go_sem]) rfl ?_
    exact ⟨rfl, below4 w _ _ _ _⟩
  · rw [if_neg h1]
    have hn : k = k' → ¬ n = n' := fun a b => h1 (by rw [a, b])
    clear h1
    obtain ⟨i0, hi, hz0, hz1, hz2⟩ := info_parts Tryz.infoType
    generalize hts : Tr.tries l.length (k, n) (k', n') = ts
    have htl : ts.length = 3 + l.length := by rw [← hts]; exact tries_len _ _ _
    generalize hbs : Tr.both (supers l) (k, n) (k', n') = bs
    have hbs' : ts.filter (Tr.bothF (supers l) (k, n) (k', n')) = bs := by rw [← hts, ← hbs]; unfold Tr.both; rw [supers_len]
    have hbl' : bs.length ≤ 1003 := by
      rw [← hbs']
      have := List.length_filter_le (Tr.bothF (supers l) (k, n) (k', n')) ts
      omega
    generalize hr : Tr.firstL (supers l) bs bs = r
    have HR : Hid (Tr.firstL (supers l) bs (bs.drop 0) = r) := hr
    have HTS := hide hts
    have HBS := hide hbs'
    clear hts hbs hbs' hr
    by_cases hk : k = k'
    · have hn' := hn hk
      clear hn
      subst hk
      go_enter Tryz.func96, Tryz.ntmps96
      go_wp2
      go_loopw [7, 8] (fun v i wr => ∃ c : Nat, c ≤ l.length ∧ i = .int .i64 c ∧ wr.ownsRow (w.heap.size + 1 + 1 + 1 + 1) 48 2 v (3 + c) (tcells (Tr.tries c (k, n) (k, n'))) ∧
          Below (w.heap.size + 1 + 1 + 1 + 1) ((((w.alloc (.cells #[.slice a1 l.length c1, .slice a2 n2 c2] 28)).alloc (.cells #[.int .i64 k, .int .i64 n] 48)).alloc (.cells #[.int .i64 k, .int .i64 n'] 48)).alloc (.cells #[.int .i64 0, .int .i64 0] 48)) wr)
        (fun _ i _ => l.length - (intOf i).toNat)
      case atStart => exact ⟨0, by omega, rfl, six_own _ _ _ k n k n' (by simp) (Nat.le_refl _), (Below.refl _ _).alloc (by simp) _⟩
      case round =>
        obtain ⟨c, hcl, rfl, hown, hbl⟩ := hrel
        obtain ⟨va, vc, rfl⟩ := own_shape hown
        have hsz := hbl.size
        simp at hsz
        have hB : Below w.heap.size w wr := (below4 w _ _ _ _).trans (hbl.mono (by omega))
        have F0 := (hbl.block w.heap.size (by omega)).trans (blks4 w _ _ _ _).1
        have x0 := blk_cell F0 0
        simp at x0
        by_cases hcn : c < l.length
        · go_wp2_with (at_builtin; refine wpList_append_own _ rfl _ _ 46 rfl (w.heap.size + 1 + 1 + 1 + 1) 48 i0 _ 2 16 Tryz.underlying46 hi hz0 hz1 hz2 rfl (by decide) _ _ _ rfl (hown.alloc _) ⟨wr.heap.size, 0, none⟩ 1 1 [.int .i64 3, .int .i64 c] rfl rfl ?c1 ?c2 ?c3 ?c4 ?c5 ?_)
          case c1 => exact cells_new _ _ _ _ rfl
          case c2 => intro u hu; simp at hu; rcases hu with rfl | rfl <;> rfl
          case c3 => unfold maxLen; omega
          case c4 => omega
          case c5 => simp; omega
          intro v' w2 hown2 hgrow _
          have hown3 : w2.ownsRow (w.heap.size + 1 + 1 + 1 + 1) 48 2 v' (3 + (c + 1)) (tcells (Tr.tries (c + 1) (k, n) (k, n'))) := by
            rw [tries_succ, tcells_snoc]; exact hown2
          have hbl2 := (hbl.alloc (by omega) (.cells #[.int .i64 3, .int .i64 c] 48)).grown hgrow (by simp; omega) (fun j hj => (hown.lt j hj).1)
          clear hgrow hown hown2 hbl
          go_wp2
          go_roundw
          case rel => exact ⟨c + 1, by omega, by go_num, hown3, hbl2⟩
          case measure => simp [intOf]; omega
        · obtain rfl : c = l.length := by omega
          have A0 := (hbl.block (w.heap.size + 1) (by omega)).trans (blks4 w _ _ _ _).2.1
          have B0 := (hbl.block (w.heap.size + 1 + 1) (by omega)).trans (blks4 w _ _ _ _).2.2.1
          have R0 := (hbl.block (w.heap.size + 1 + 1 + 1) (by omega)).trans (blks4 w _ _ _ _).2.2.2
          rw [unhide HTS] at hown
          obtain ⟨g, hva, hglt, _, hcell⟩ := own_some hown (by omega)
          subst hva
          rename World => w5
          have HC := hide hcell
          clear hcell hown hbl hcl
          go_wp2
          go_loopw [9, 10] (fun u i wr => ∃ m : Nat, m ≤ ts.length ∧ i = .int .i64 m ∧ wr.ownsRow w5.heap.size 48 2 u ((ts.take m).filter (Tr.bothF (supers l) (k, n) (k, n'))).length (tcells ((ts.take m).filter (Tr.bothF (supers l) (k, n) (k, n')))) ∧ Below w5.heap.size w5 wr)
            (fun _ i _ => ts.length - (intOf i).toNat)
          case atStart => exact ⟨0, by omega, rfl, World.ownsRow_nil _ _ _ _, Below.refl _ _⟩
          case round =>
            clear x0
            obtain ⟨m, hm, rfl, hown, hbl⟩ := hrel
            obtain ⟨ua, uc, rfl⟩ := own_shape hown
            have hsz2 := hbl.size
            have hBr : Below w.heap.size w wr := hB.trans (hbl.mono hB.size)
            by_cases hmn : m < ts.length
            · obtain ⟨t1, t2, t3⟩ := tcells_at ts m hmn
              have u0 := unhide HC (m * 2) (by omega)
              have u1 := unhide HC (m * 2 + 1) (by omega)
              rw [t1, ← hbl.cell (p := ⟨g, m * 2, none⟩) hglt] at u0
              rw [t2, ← hbl.cell (p := ⟨g, m * 2 + 1, none⟩) hglt] at u1
              have hft := filter_take (Tr.bothF (supers l) (k, n) (k, n')) ts m hmn
              have hfl : ((ts.take m).filter (Tr.bothF (supers l) (k, n) (k, n'))).length ≤ m := by
                have := List.length_filter_le (Tr.bothF (supers l) (k, n) (k, n')) (ts.take m)
                rw [List.length_take] at this
                omega
              obtain ⟨ti, hti⟩ : ∃ ti, ti = ts[m] := ⟨_, rfl⟩
              rw [← hti] at u0 u1 hft
              have hF : Tr.bothF (supers l) (k, n) (k, n') ti = (Tr.rfits (supers l) k n ti.1 ti.2 && Tr.rfits (supers l) k n' ti.1 ti.2) := rfl
              generalize hX : Tr.rfits (supers l) k n ti.1 ti.2 = X at hF
              generalize hY : Tr.rfits (supers l) k n' ti.1 ti.2 = Y at hF
              rw [hF] at hft
              have HX := hide hX
              have HY := hide hY
              have HFT := hide hft
              generalize hcur : (ts.take m).filter (Tr.bothF (supers l) (k, n) (k, n')) = cur at *
              obtain ⟨ti1, ti2⟩ := ti
              clear hX hY hft hF t1 t2 t3 hti hcur
              have hTm : (m : Int) < (3 : Int) + (l.length : Int) := by omega
              have hTm' : m < 3 + l.length := by omega
              have f0 := blk_cell (stay hbl F0) 0
              have f1 := blk_cell (stay hbl F0) 1
              have p0 := blk_cell (stay hbl A0) 0
              have p1 := blk_cell (stay hbl A0) 1
              have q0 := blk_cell (stay hbl B0) 0
              have q1 := blk_cell (stay hbl B0) 1
              simp at f0 f1 p0 p1 q0 q1 u0 u1
              have lF : w.heap.size < wr.heap.size := lt_of_block (stay hbl F0)
              have lA : w.heap.size + 1 < wr.heap.size := lt_of_block (stay hbl A0)
              have lB : w.heap.size + 1 + 1 < wr.heap.size := lt_of_block (stay hbl B0)
              have lG : g < wr.heap.size := Nat.lt_of_lt_of_le hglt hsz2
              go_wp2
              go_region_held3 (fun w' => w'.cell? ⟨w.heap.size, 0, none⟩ = some (.slice a1 l.length c1) ∧ w'.cell? ⟨w.heap.size, 1, none⟩ = some (.slice a2 n2 c2) ∧ w'.cell? ⟨w.heap.size + 1, 0, none⟩ = some (.int .i64 k) ∧ w'.cell? ⟨w.heap.size + 1, 1, none⟩ = some (.int .i64 n) ∧ w'.cell? ⟨g, m * 2, none⟩ = some (.int .i64 ti1) ∧ w'.cell? ⟨g, m * 2 + 1, none⟩ = some (.int .i64 ti2))
                (first | exact ⟨f0, f1, p0, p1, u0, u1⟩ | exact ⟨(hb6.cell lF).trans f0, (hb6.cell lF).trans f1, (hb6.cell lA).trans p0, (hb6.cell lA).trans p1, (hb6.cell lG).trans u0, (hb6.cell lG).trans u1⟩)
                (first | (go_at_call 94; refine (rfits_any a1 a2 c1 n2 c2 bb l k n ti1 ti2 wr.drew hl (hc.kp (Kp.of_below (e := none) hBr.drew) (by decide) (by decide))).mono ?_; rw [unhide HX]; rintro e w6 ⟨rfl, hb6⟩))
              have hBo6 : Below w5.heap.size w5 w6 := hbl.drew.trans (hb6.mono hsz2)
              have hBr6 : Below w.heap.size w w6 := hB.trans (hBo6.mono hB.size)
              have hown6 := own_kp hown (Kp.of_below (e := none) (show Below wr.heap.size wr w6 from (Below.refl _ _).drew.trans hb6)) (by decide)
              have g0 : w6.cell? ⟨w.heap.size, 0, none⟩ = some (.slice a1 l.length c1) := (hb6.cell lF).trans f0
              have g1 : w6.cell? ⟨w.heap.size, 1, none⟩ = some (.slice a2 n2 c2) := (hb6.cell lF).trans f1
              have s0 : w6.cell? ⟨w.heap.size + 1 + 1, 0, none⟩ = some (.int .i64 k) := (hb6.cell lB).trans q0
              have s1 : w6.cell? ⟨w.heap.size + 1 + 1, 1, none⟩ = some (.int .i64 n') := (hb6.cell lB).trans q1
              have v0 : w6.cell? ⟨g, m * 2, none⟩ = some (.int .i64 ti1) := (hb6.cell lG).trans u0
              have v1 : w6.cell? ⟨g, m * 2 + 1, none⟩ = some (.int .i64 ti2) := (hb6.cell lG).trans u1
              have hs6 : wr.heap.size ≤ w6.heap.size := hb6.size
              have mF : w.heap.size < w6.heap.size := Nat.lt_of_lt_of_le lF hs6
              have mB : w.heap.size + 1 + 1 < w6.heap.size := Nat.lt_of_lt_of_le lB hs6
              have mG : g < w6.heap.size := Nat.lt_of_lt_of_le lG hs6
              clear hb6 f0 f1 p0 p1 q0 q1 u0 u1 lF lA lB lG hown hbl hBr hsz2
              go_wp2
              go_region_held3 (fun w' => w'.cell? ⟨w.heap.size, 0, none⟩ = some (.slice a1 l.length c1) ∧ w'.cell? ⟨w.heap.size, 1, none⟩ = some (.slice a2 n2 c2) ∧ w'.cell? ⟨w.heap.size + 1 + 1, 0, none⟩ = some (.int .i64 k) ∧ w'.cell? ⟨w.heap.size + 1 + 1, 1, none⟩ = some (.int .i64 n') ∧ w'.cell? ⟨g, m * 2, none⟩ = some (.int .i64 ti1) ∧ w'.cell? ⟨g, m * 2 + 1, none⟩ = some (.int .i64 ti2))
                (first | exact ⟨g0, g1, s0, s1, v0, v1⟩ | exact ⟨(hb7.cell mF).trans g0, (hb7.cell mF).trans g1, (hb7.cell mB).trans s0, (hb7.cell mB).trans s1, (hb7.cell mG).trans v0, (hb7.cell mG).trans v1⟩)
                (first | (go_at_call 94; refine (rfits_any a1 a2 c1 n2 c2 bb l k n' ti1 ti2 w6.drew hl (hc.kp (Kp.of_below (e := none) hBr6.drew) (by decide) (by decide))).mono ?_; rw [unhide HY]; rintro e w7 ⟨rfl, hb7⟩))
              have hBo7 : Below w5.heap.size w5 w7 := hBo6.drew.trans (hb7.mono hBo6.size)
              have hown7 := own_kp hown6 (Kp.of_below (e := none) (show Below w6.heap.size w6 w7 from (Below.refl _ _).drew.trans hb7)) (by decide)
              have y0 : w7.cell? ⟨g, m * 2, none⟩ = some (.int .i64 ti1) := (hb7.cell mG).trans v0
              have y1 : w7.cell? ⟨g, m * 2 + 1, none⟩ = some (.int .i64 ti2) := (hb7.cell mG).trans v1
              have hs7 := hBo7.size
              have nG : g < w7.heap.size := Nat.lt_of_lt_of_le mG hb7.size
              clear hb7 g0 g1 s0 s1 v0 v1 mF mB mG hown6 hBo6 hBr6 hs6
              cases X with
              | false =>
                have HG : Hid ((ts.take (m + 1)).filter (Tr.bothF (supers l) (k, n) (k, n')) = cur) := by unfold Hid; rw [unhide HFT]; simp
                clear HFT HX HY
                go_wp2
                go_roundw
                case rel => exact ⟨m + 1, by omega, by go_num, by rw [unhide HG]; exact hown7, hBo7⟩
                case measure => simp [intOf]; omega
              | true =>
                cases Y with
                | false =>
                  have HG : Hid ((ts.take (m + 1)).filter (Tr.bothF (supers l) (k, n) (k, n')) = cur) := by unfold Hid; rw [unhide HFT]; simp
                  clear HFT HX HY
                  go_wp2
                  go_roundw
                  case rel => exact ⟨m + 1, by omega, by go_num, by rw [unhide HG]; exact hown7, hBo7⟩
                  case measure => simp [intOf]; omega
                | true =>
                  have HG : Hid ((ts.take (m + 1)).filter (Tr.bothF (supers l) (k, n) (k, n')) = cur ++ [(ti1, ti2)]) := by unfold Hid; rw [unhide HFT]; simp
                  clear HFT HX HY
                  go_wp2_with (at_builtin; refine wpList_append_own _ rfl _ _ 46 rfl w5.heap.size 48 i0 _ 2 16 Tryz.underlying46 hi hz0 hz1 hz2 rfl (by decide) _ _ _ rfl (hown7.alloc _) ⟨w7.heap.size, 0, none⟩ 1 1 [.int .i64 ti1, .int .i64 ti2] rfl rfl ?c1 ?c2 ?c3 ?c4 ?c5 ?_)
                  case c1 => exact cells_new _ _ _ _ rfl
                  case c2 => intro u hu; simp at hu; rcases hu with rfl | rfl <;> rfl
                  case c3 => unfold maxLen; omega
                  case c4 => omega
                  case c5 => simp; omega
                  intro v' w8 hown8 hgrow _
                  have hown9 : w8.ownsRow w5.heap.size 48 2 v' ((ts.take (m + 1)).filter (Tr.bothF (supers l) (k, n) (k, n'))).length (tcells ((ts.take (m + 1)).filter (Tr.bothF (supers l) (k, n) (k, n')))) := by
                    rw [unhide HG, tcells_snoc, List.length_append]; exact hown8
                  have hBo8 := (hBo7.alloc hs7 (.cells #[.int .i64 ti1, .int .i64 ti2] 48)).grown hgrow (by simp; omega) (fun j hj => (hown7.lt j hj).1)
                  clear hgrow hown8 hown7 hBo7 HG
                  go_wp2
                  go_roundw
                  case rel => exact ⟨m + 1, by omega, by go_num, hown9, hBo8⟩
                  case measure => simp [intOf]; omega
            · obtain rfl : m = ts.length := by omega
              have hF6 := stay hbl F0
              have hR6 := stay hbl R0
              have e1 : (ts.take ts.length).filter (Tr.bothF (supers l) (k, n) (k, n')) = bs := by rw [List.take_length, unhide HBS]
              rw [e1] at hown ⊢
              rw [show ((ts.length : Nat) : Int) = 3 + (l.length : Int) by omega]
              clear e1 HTS HBS HC hm hmn htl
              rename World => w6
              have hBw6 := hBr
              clear hBr hbl
              go_wp2
              go_loopw [13] (fun i wr => ∃ m : Nat, m ≤ bs.length ∧ i = .int .i64 m ∧ Hid (Tr.firstL (supers l) bs (bs.drop m) = r) ∧ Below w6.heap.size w6 wr)
                (fun i _ => bs.length - (intOf i).toNat)
              case atStart => exact ⟨0, by omega, rfl, HR, Below.refl _ _⟩
              case round =>
                clear HR
                obtain ⟨m, hm, rfl, HR, hbl⟩ := hrel
                have hBr : Below w.heap.size w wr := hBw6.trans (hbl.mono hBw6.size)
                by_cases hmn : m < bs.length
                · obtain ⟨g2, hva2, hglt2, _, hcell2⟩ := own_some hown (by omega)
                  obtain ⟨t1, t2, t3⟩ := tcells_at bs m hmn
                  have u0 := hcell2 (m * 2) (by omega)
                  have u1 := hcell2 (m * 2 + 1) (by omega)
                  rw [t1] at u0
                  rw [t2] at u1
                  have hst := firstL_step (T := supers l) (bs := bs) hmn
                  rw [unhide HR] at hst
                  obtain ⟨xi, hxi⟩ : ∃ xi, xi = bs[m] := ⟨_, rfl⟩
                  rw [← hxi] at u0 u1 hst
                  obtain ⟨x1, x2⟩ := xi
                  simp only at u0 u1
                  generalize hL : Tr.leastF (supers l) bs (x1, x2) = L at hst
                  have HL : Hid ((true && (bs.drop 0).all (fun y => Tr.rfits (supers l) x1 x2 y.1 y.2)) = L) := by unfold Hid; rw [Bool.true_and]; exact hL
                  have HST := hide hst
                  have HC2 := hide hcell2
                  have mb : (m : Int) < (bs.length : Int) := by omega
                  clear hL hst hxi t1 t2 t3 hcell2 HR
                  subst hva2
                  go_wp2
                  go_loopw [14, 15] (fun le j w2 => ∃ (q : Nat) (b : Bool), q ≤ bs.length ∧ j = .int .i64 q ∧ le = .bool b ∧ Hid ((b && (bs.drop q).all (fun y => Tr.rfits (supers l) x1 x2 y.1 y.2)) = L) ∧ Below w6.heap.size w6 w2)
                    (fun _ j _ => bs.length - (intOf j).toNat)
                  case atStart => exact ⟨0, true, by omega, rfl, rfl, HL, hbl⟩
                  case round =>
                    clear HL hbl hBr
                    obtain ⟨q, b, hq, rfl, rfl, HL, hbl⟩ := hrel
                    have hBr : Below w.heap.size w wr := hBw6.trans (hbl.mono hBw6.size)
                    have x0 := (hbl.cell (p := ⟨g2, m * 2, none⟩) hglt2).trans u0
                    have x1' := (hbl.cell (p := ⟨g2, m * 2 + 1, none⟩) hglt2).trans u1
                    by_cases hqn : q < bs.length
                    · obtain ⟨t1, t2, t3⟩ := tcells_at bs q hqn
                      have y0 := (hbl.cell (p := ⟨g2, q * 2, none⟩) hglt2).trans ((unhide HC2 (q * 2) (by omega)).trans t1)
                      have y1 := (hbl.cell (p := ⟨g2, q * 2 + 1, none⟩) hglt2).trans ((unhide HC2 (q * 2 + 1) (by omega)).trans t2)
                      have hdr : bs.drop q = bs[q] :: bs.drop (q + 1) := List.drop_eq_getElem_cons hqn
                      have hLL := unhide HL
                      rw [hdr, List.all_cons] at hLL
                      obtain ⟨yi, hyi⟩ : ∃ yi, yi = bs[q] := ⟨_, rfl⟩
                      rw [← hyi] at y0 y1 hLL
                      obtain ⟨y1', y2'⟩ := yi
                      simp only at y0 y1 hLL
                      generalize hZ : Tr.rfits (supers l) x1 x2 y1' y2' = Z at hLL
                      have HZ := hide hZ
                      have HLL := hide hLL
                      have qb : (q : Int) < (bs.length : Int) := by omega
                      have f0 := blk_cell (stay hbl hF6) 0
                      have f1 := blk_cell (stay hbl hF6) 1
                      simp at f0 f1
                      have lF : w.heap.size < wr.heap.size := lt_of_block (stay hbl hF6)
                      have lG : g2 < wr.heap.size := Nat.lt_of_lt_of_le hglt2 hbl.size
                      clear hZ hLL hyi hdr t1 t2 t3 HL
                      go_wp2
                      go_region_held3 (fun w' => w'.cell? ⟨w.heap.size, 0, none⟩ = some (.slice a1 l.length c1) ∧ w'.cell? ⟨w.heap.size, 1, none⟩ = some (.slice a2 n2 c2) ∧ w'.cell? ⟨g2, m * 2, none⟩ = some (.int .i64 x1) ∧ w'.cell? ⟨g2, m * 2 + 1, none⟩ = some (.int .i64 x2) ∧ w'.cell? ⟨g2, q * 2, none⟩ = some (.int .i64 y1') ∧ w'.cell? ⟨g2, q * 2 + 1, none⟩ = some (.int .i64 y2'))
                        (first | exact ⟨f0, f1, x0, x1', y0, y1⟩ | exact ⟨(hb7.cell lF).trans f0, (hb7.cell lF).trans f1, (hb7.cell lG).trans x0, (hb7.cell lG).trans x1', (hb7.cell lG).trans y0, (hb7.cell lG).trans y1⟩)
                        (first | (go_at_call 94; refine (rfits_any a1 a2 c1 n2 c2 bb l x1 x2 y1' y2' wr.drew hl (hc.kp (Kp.of_below (e := none) hBr.drew) (by decide) (by decide))).mono ?_; rw [unhide HZ]; rintro e w7 ⟨rfl, hb7⟩))
                      have hbl7 : Below w6.heap.size w6 w7 := hbl.drew.trans (hb7.mono hbl.size)
                      clear hb7 f0 f1 x0 x1' y0 y1 lF lG hbl hBr
                      cases b with
                      | false =>
                        have HG : Hid ((false && (bs.drop (q + 1)).all (fun y => Tr.rfits (supers l) x1 x2 y.1 y.2)) = L) := by unfold Hid; rw [← unhide HLL]; simp
                        clear HLL HZ
                        go_wp2
                        go_roundw
                        case rel => exact ⟨q + 1, _, by omega, by go_num, rfl, HG, hbl7⟩
                        case measure => simp [intOf]; omega
                      | true =>
                        have HG : Hid ((Z && (bs.drop (q + 1)).all (fun y => Tr.rfits (supers l) x1 x2 y.1 y.2)) = L) := by unfold Hid; rw [← unhide HLL]; simp
                        clear HLL HZ
                        go_wp2
                        go_roundw
                        case rel => exact ⟨q + 1, _, by omega, by go_num, rfl, HG, hbl7⟩
                        case measure => simp [intOf]; omega
                    · have hbL : b = L := by rw [← unhide HL, List.drop_eq_nil_of_le (by omega)]; simp
                      have hR7 := stay hbl hR6
                      have r0 := blk_cell hR7 0
                      have r1 := blk_cell hR7 1
                      have f0 := blk_free hR7 0
                      have f1 := blk_free hR7 1
                      have lR := lt_of_block hR7
                      simp at r0 r1
                      clear HL
                      cases b with
                      | true =>
                        have hrr : r = (x1, x2) := by rw [unhide HST, ← hbL]; rfl
                        have HRR := hide hrr
                        clear hbL hrr HST
                        go_wp2_with fail
                        refine bodyPost_ret (v := .agg #[.int .i64 x1, .int .i64 x2]) (by simp [results, Tryz.results96, go_sem, r0, r1]) rfl ?_
                        exact ⟨by rw [unhide HRR], (hBr.setCell (by simp; omega) _).setCell (by simp; omega) _⟩
                      | false =>
                        have HG : Hid (Tr.firstL (supers l) bs (bs.drop (m + 1)) = r) := by unfold Hid; rw [unhide HST, ← hbL]; rfl
                        clear hbL HST
                        go_wp2
                        go_roundw
                        case rel => exact ⟨m + 1, by omega, by go_num, HG, hbl⟩
                        case measure => simp [intOf]; omega
                · have hrr : r = (0, 0) := by rw [← unhide HR, List.drop_eq_nil_of_le (by omega)]; rfl
                  have HRR := hide hrr
                  have hR7 := stay hbl hR6
                  have r0 := blk_cell hR7 0
                  have r1 := blk_cell hR7 1
                  have f0 := blk_free hR7 0
                  have f1 := blk_free hR7 1
                  have lR := lt_of_block hR7
                  simp at r0 r1
                  clear HR hrr
                  go_wp2_with fail
                  refine bodyPost_ret (v := .agg #[.int .i64 0, .int .i64 0]) (by simp [results, Tryz.results96, go_sem, r0, r1]) rfl ?_
                  exact ⟨by rw [unhide HRR], (hBr.setCell (by simp; omega) _).setCell (by simp; omega) _⟩
    · clear hn
      go_enter Tryz.func96, Tryz.ntmps96
      go_wp2
      go_loopw [7, 8] (fun v i wr => ∃ c : Nat, c ≤ l.length ∧ i = .int .i64 c ∧ wr.ownsRow (w.heap.size + 1 + 1 + 1 + 1) 48 2 v (3 + c) (tcells (Tr.tries c (k, n) (k', n'))) ∧
          Below (w.heap.size + 1 + 1 + 1 + 1) ((((w.alloc (.cells #[.slice a1 l.length c1, .slice a2 n2 c2] 28)).alloc (.cells #[.int .i64 k, .int .i64 n] 48)).alloc (.cells #[.int .i64 k', .int .i64 n'] 48)).alloc (.cells #[.int .i64 0, .int .i64 0] 48)) wr)
        (fun _ i _ => l.length - (intOf i).toNat)
      case atStart => exact ⟨0, by omega, rfl, six_own _ _ _ k n k' n' (by simp) (Nat.le_refl _), (Below.refl _ _).alloc (by simp) _⟩
      case round =>
        obtain ⟨c, hcl, rfl, hown, hbl⟩ := hrel
        obtain ⟨va, vc, rfl⟩ := own_shape hown
        have hsz := hbl.size
        simp at hsz
        have hB : Below w.heap.size w wr := (below4 w _ _ _ _).trans (hbl.mono (by omega))
        have F0 := (hbl.block w.heap.size (by omega)).trans (blks4 w _ _ _ _).1
        have x0 := blk_cell F0 0
        simp at x0
        by_cases hcn : c < l.length
        · go_wp2_with (at_builtin; refine wpList_append_own _ rfl _ _ 46 rfl (w.heap.size + 1 + 1 + 1 + 1) 48 i0 _ 2 16 Tryz.underlying46 hi hz0 hz1 hz2 rfl (by decide) _ _ _ rfl (hown.alloc _) ⟨wr.heap.size, 0, none⟩ 1 1 [.int .i64 3, .int .i64 c] rfl rfl ?c1 ?c2 ?c3 ?c4 ?c5 ?_)
          case c1 => exact cells_new _ _ _ _ rfl
          case c2 => intro u hu; simp at hu; rcases hu with rfl | rfl <;> rfl
          case c3 => unfold maxLen; omega
          case c4 => omega
          case c5 => simp; omega
          intro v' w2 hown2 hgrow _
          have hown3 : w2.ownsRow (w.heap.size + 1 + 1 + 1 + 1) 48 2 v' (3 + (c + 1)) (tcells (Tr.tries (c + 1) (k, n) (k', n'))) := by
            rw [tries_succ, tcells_snoc]; exact hown2
          have hbl2 := (hbl.alloc (by omega) (.cells #[.int .i64 3, .int .i64 c] 48)).grown hgrow (by simp; omega) (fun j hj => (hown.lt j hj).1)
          clear hgrow hown hown2 hbl
          go_wp2
          go_roundw
          case rel => exact ⟨c + 1, by omega, by go_num, hown3, hbl2⟩
          case measure => simp [intOf]; omega
        · obtain rfl : c = l.length := by omega
          have A0 := (hbl.block (w.heap.size + 1) (by omega)).trans (blks4 w _ _ _ _).2.1
          have B0 := (hbl.block (w.heap.size + 1 + 1) (by omega)).trans (blks4 w _ _ _ _).2.2.1
          have R0 := (hbl.block (w.heap.size + 1 + 1 + 1) (by omega)).trans (blks4 w _ _ _ _).2.2.2
          rw [unhide HTS] at hown
          obtain ⟨g, hva, hglt, _, hcell⟩ := own_some hown (by omega)
          subst hva
          rename World => w5
          have HC := hide hcell
          clear hcell hown hbl hcl
          go_wp2
          go_loopw [9, 10] (fun u i wr => ∃ m : Nat, m ≤ ts.length ∧ i = .int .i64 m ∧ wr.ownsRow w5.heap.size 48 2 u ((ts.take m).filter (Tr.bothF (supers l) (k, n) (k', n'))).length (tcells ((ts.take m).filter (Tr.bothF (supers l) (k, n) (k', n')))) ∧ Below w5.heap.size w5 wr)
            (fun _ i _ => ts.length - (intOf i).toNat)
          case atStart => exact ⟨0, by omega, rfl, World.ownsRow_nil _ _ _ _, Below.refl _ _⟩
          case round =>
            clear x0
            obtain ⟨m, hm, rfl, hown, hbl⟩ := hrel
            obtain ⟨ua, uc, rfl⟩ := own_shape hown
            have hsz2 := hbl.size
            have hBr : Below w.heap.size w wr := hB.trans (hbl.mono hB.size)
            by_cases hmn : m < ts.length
            · obtain ⟨t1, t2, t3⟩ := tcells_at ts m hmn
              have u0 := unhide HC (m * 2) (by omega)
              have u1 := unhide HC (m * 2 + 1) (by omega)
              rw [t1, ← hbl.cell (p := ⟨g, m * 2, none⟩) hglt] at u0
              rw [t2, ← hbl.cell (p := ⟨g, m * 2 + 1, none⟩) hglt] at u1
              have hft := filter_take (Tr.bothF (supers l) (k, n) (k', n')) ts m hmn
              have hfl : ((ts.take m).filter (Tr.bothF (supers l) (k, n) (k', n'))).length ≤ m := by
                have := List.length_filter_le (Tr.bothF (supers l) (k, n) (k', n')) (ts.take m)
                rw [List.length_take] at this
                omega
              obtain ⟨ti, hti⟩ : ∃ ti, ti = ts[m] := ⟨_, rfl⟩
              rw [← hti] at u0 u1 hft
              have hF : Tr.bothF (supers l) (k, n) (k', n') ti = (Tr.rfits (supers l) k n ti.1 ti.2 && Tr.rfits (supers l) k' n' ti.1 ti.2) := rfl
              generalize hX : Tr.rfits (supers l) k n ti.1 ti.2 = X at hF
              generalize hY : Tr.rfits (supers l) k' n' ti.1 ti.2 = Y at hF
              rw [hF] at hft
              have HX := hide hX
              have HY := hide hY
              have HFT := hide hft
              generalize hcur : (ts.take m).filter (Tr.bothF (supers l) (k, n) (k', n')) = cur at *
              obtain ⟨ti1, ti2⟩ := ti
              clear hX hY hft hF t1 t2 t3 hti hcur
              have hTm : (m : Int) < (3 : Int) + (l.length : Int) := by omega
              have hTm' : m < 3 + l.length := by omega
              have f0 := blk_cell (stay hbl F0) 0
              have f1 := blk_cell (stay hbl F0) 1
              have p0 := blk_cell (stay hbl A0) 0
              have p1 := blk_cell (stay hbl A0) 1
              have q0 := blk_cell (stay hbl B0) 0
              have q1 := blk_cell (stay hbl B0) 1
              simp at f0 f1 p0 p1 q0 q1 u0 u1
              have lF : w.heap.size < wr.heap.size := lt_of_block (stay hbl F0)
              have lA : w.heap.size + 1 < wr.heap.size := lt_of_block (stay hbl A0)
              have lB : w.heap.size + 1 + 1 < wr.heap.size := lt_of_block (stay hbl B0)
              have lG : g < wr.heap.size := Nat.lt_of_lt_of_le hglt hsz2
              go_wp2
              go_region_held3 (fun w' => w'.cell? ⟨w.heap.size, 0, none⟩ = some (.slice a1 l.length c1) ∧ w'.cell? ⟨w.heap.size, 1, none⟩ = some (.slice a2 n2 c2) ∧ w'.cell? ⟨w.heap.size + 1, 0, none⟩ = some (.int .i64 k) ∧ w'.cell? ⟨w.heap.size + 1, 1, none⟩ = some (.int .i64 n) ∧ w'.cell? ⟨g, m * 2, none⟩ = some (.int .i64 ti1) ∧ w'.cell? ⟨g, m * 2 + 1, none⟩ = some (.int .i64 ti2))
                (first | exact ⟨f0, f1, p0, p1, u0, u1⟩ | exact ⟨(hb6.cell lF).trans f0, (hb6.cell lF).trans f1, (hb6.cell lA).trans p0, (hb6.cell lA).trans p1, (hb6.cell lG).trans u0, (hb6.cell lG).trans u1⟩)
                (first | (go_at_call 94; refine (rfits_any a1 a2 c1 n2 c2 bb l k n ti1 ti2 wr.drew hl (hc.kp (Kp.of_below (e := none) hBr.drew) (by decide) (by decide))).mono ?_; rw [unhide HX]; rintro e w6 ⟨rfl, hb6⟩))
              have hBo6 : Below w5.heap.size w5 w6 := hbl.drew.trans (hb6.mono hsz2)
              have hBr6 : Below w.heap.size w w6 := hB.trans (hBo6.mono hB.size)
              have hown6 := own_kp hown (Kp.of_below (e := none) (show Below wr.heap.size wr w6 from (Below.refl _ _).drew.trans hb6)) (by decide)
              have g0 : w6.cell? ⟨w.heap.size, 0, none⟩ = some (.slice a1 l.length c1) := (hb6.cell lF).trans f0
              have g1 : w6.cell? ⟨w.heap.size, 1, none⟩ = some (.slice a2 n2 c2) := (hb6.cell lF).trans f1
              have s0 : w6.cell? ⟨w.heap.size + 1 + 1, 0, none⟩ = some (.int .i64 k') := (hb6.cell lB).trans q0
              have s1 : w6.cell? ⟨w.heap.size + 1 + 1, 1, none⟩ = some (.int .i64 n') := (hb6.cell lB).trans q1
              have v0 : w6.cell? ⟨g, m * 2, none⟩ = some (.int .i64 ti1) := (hb6.cell lG).trans u0
              have v1 : w6.cell? ⟨g, m * 2 + 1, none⟩ = some (.int .i64 ti2) := (hb6.cell lG).trans u1
              have hs6 : wr.heap.size ≤ w6.heap.size := hb6.size
              have mF : w.heap.size < w6.heap.size := Nat.lt_of_lt_of_le lF hs6
              have mB : w.heap.size + 1 + 1 < w6.heap.size := Nat.lt_of_lt_of_le lB hs6
              have mG : g < w6.heap.size := Nat.lt_of_lt_of_le lG hs6
              clear hb6 f0 f1 p0 p1 q0 q1 u0 u1 lF lA lB lG hown hbl hBr hsz2
              go_wp2
              go_region_held3 (fun w' => w'.cell? ⟨w.heap.size, 0, none⟩ = some (.slice a1 l.length c1) ∧ w'.cell? ⟨w.heap.size, 1, none⟩ = some (.slice a2 n2 c2) ∧ w'.cell? ⟨w.heap.size + 1 + 1, 0, none⟩ = some (.int .i64 k') ∧ w'.cell? ⟨w.heap.size + 1 + 1, 1, none⟩ = some (.int .i64 n') ∧ w'.cell? ⟨g, m * 2, none⟩ = some (.int .i64 ti1) ∧ w'.cell? ⟨g, m * 2 + 1, none⟩ = some (.int .i64 ti2))
                (first | exact ⟨g0, g1, s0, s1, v0, v1⟩ | exact ⟨(hb7.cell mF).trans g0, (hb7.cell mF).trans g1, (hb7.cell mB).trans s0, (hb7.cell mB).trans s1, (hb7.cell mG).trans v0, (hb7.cell mG).trans v1⟩)
                (first | (go_at_call 94; refine (rfits_any a1 a2 c1 n2 c2 bb l k' n' ti1 ti2 w6.drew hl (hc.kp (Kp.of_below (e := none) hBr6.drew) (by decide) (by decide))).mono ?_; rw [unhide HY]; rintro e w7 ⟨rfl, hb7⟩))
              have hBo7 : Below w5.heap.size w5 w7 := hBo6.drew.trans (hb7.mono hBo6.size)
              have hown7 := own_kp hown6 (Kp.of_below (e := none) (show Below w6.heap.size w6 w7 from (Below.refl _ _).drew.trans hb7)) (by decide)
              have y0 : w7.cell? ⟨g, m * 2, none⟩ = some (.int .i64 ti1) := (hb7.cell mG).trans v0
              have y1 : w7.cell? ⟨g, m * 2 + 1, none⟩ = some (.int .i64 ti2) := (hb7.cell mG).trans v1
              have hs7 := hBo7.size
              have nG : g < w7.heap.size := Nat.lt_of_lt_of_le mG hb7.size
              clear hb7 g0 g1 s0 s1 v0 v1 mF mB mG hown6 hBo6 hBr6 hs6
              cases X with
              | false =>
                have HG : Hid ((ts.take (m + 1)).filter (Tr.bothF (supers l) (k, n) (k', n')) = cur) := by unfold Hid; rw [unhide HFT]; simp
                clear HFT HX HY
                go_wp2
                go_roundw
                case rel => exact ⟨m + 1, by omega, by go_num, by rw [unhide HG]; exact hown7, hBo7⟩
                case measure => simp [intOf]; omega
              | true =>
                cases Y with
                | false =>
                  have HG : Hid ((ts.take (m + 1)).filter (Tr.bothF (supers l) (k, n) (k', n')) = cur) := by unfold Hid; rw [unhide HFT]; simp
                  clear HFT HX HY
                  go_wp2
                  go_roundw
                  case rel => exact ⟨m + 1, by omega, by go_num, by rw [unhide HG]; exact hown7, hBo7⟩
                  case measure => simp [intOf]; omega
                | true =>
                  have HG : Hid ((ts.take (m + 1)).filter (Tr.bothF (supers l) (k, n) (k', n')) = cur ++ [(ti1, ti2)]) := by unfold Hid; rw [unhide HFT]; simp
                  clear HFT HX HY
                  go_wp2_with (at_builtin; refine wpList_append_own _ rfl _ _ 46 rfl w5.heap.size 48 i0 _ 2 16 Tryz.underlying46 hi hz0 hz1 hz2 rfl (by decide) _ _ _ rfl (hown7.alloc _) ⟨w7.heap.size, 0, none⟩ 1 1 [.int .i64 ti1, .int .i64 ti2] rfl rfl ?c1 ?c2 ?c3 ?c4 ?c5 ?_)
                  case c1 => exact cells_new _ _ _ _ rfl
                  case c2 => intro u hu; simp at hu; rcases hu with rfl | rfl <;> rfl
                  case c3 => unfold maxLen; omega
                  case c4 => omega
                  case c5 => simp; omega
                  intro v' w8 hown8 hgrow _
                  have hown9 : w8.ownsRow w5.heap.size 48 2 v' ((ts.take (m + 1)).filter (Tr.bothF (supers l) (k, n) (k', n'))).length (tcells ((ts.take (m + 1)).filter (Tr.bothF (supers l) (k, n) (k', n')))) := by
                    rw [unhide HG, tcells_snoc, List.length_append]; exact hown8
                  have hBo8 := (hBo7.alloc hs7 (.cells #[.int .i64 ti1, .int .i64 ti2] 48)).grown hgrow (by simp; omega) (fun j hj => (hown7.lt j hj).1)
                  clear hgrow hown8 hown7 hBo7 HG
                  go_wp2
                  go_roundw
                  case rel => exact ⟨m + 1, by omega, by go_num, hown9, hBo8⟩
                  case measure => simp [intOf]; omega
            · obtain rfl : m = ts.length := by omega
              have hF6 := stay hbl F0
              have hR6 := stay hbl R0
              have e1 : (ts.take ts.length).filter (Tr.bothF (supers l) (k, n) (k', n')) = bs := by rw [List.take_length, unhide HBS]
              rw [e1] at hown ⊢
              rw [show ((ts.length : Nat) : Int) = 3 + (l.length : Int) by omega]
              clear e1 HTS HBS HC hm hmn htl
              rename World => w6
              have hBw6 := hBr
              clear hBr hbl
              go_wp2
              go_loopw [13] (fun i wr => ∃ m : Nat, m ≤ bs.length ∧ i = .int .i64 m ∧ Hid (Tr.firstL (supers l) bs (bs.drop m) = r) ∧ Below w6.heap.size w6 wr)
                (fun i _ => bs.length - (intOf i).toNat)
              case atStart => exact ⟨0, by omega, rfl, HR, Below.refl _ _⟩
              case round =>
                clear HR
                obtain ⟨m, hm, rfl, HR, hbl⟩ := hrel
                have hBr : Below w.heap.size w wr := hBw6.trans (hbl.mono hBw6.size)
                by_cases hmn : m < bs.length
                · obtain ⟨g2, hva2, hglt2, _, hcell2⟩ := own_some hown (by omega)
                  obtain ⟨t1, t2, t3⟩ := tcells_at bs m hmn
                  have u0 := hcell2 (m * 2) (by omega)
                  have u1 := hcell2 (m * 2 + 1) (by omega)
                  rw [t1] at u0
                  rw [t2] at u1
                  have hst := firstL_step (T := supers l) (bs := bs) hmn
                  rw [unhide HR] at hst
                  obtain ⟨xi, hxi⟩ : ∃ xi, xi = bs[m] := ⟨_, rfl⟩
                  rw [← hxi] at u0 u1 hst
                  obtain ⟨x1, x2⟩ := xi
                  simp only at u0 u1
                  generalize hL : Tr.leastF (supers l) bs (x1, x2) = L at hst
                  have HL : Hid ((true && (bs.drop 0).all (fun y => Tr.rfits (supers l) x1 x2 y.1 y.2)) = L) := by unfold Hid; rw [Bool.true_and]; exact hL
                  have HST := hide hst
                  have HC2 := hide hcell2
                  have mb : (m : Int) < (bs.length : Int) := by omega
                  clear hL hst hxi t1 t2 t3 hcell2 HR
                  subst hva2
                  go_wp2
                  go_loopw [14, 15] (fun le j w2 => ∃ (q : Nat) (b : Bool), q ≤ bs.length ∧ j = .int .i64 q ∧ le = .bool b ∧ Hid ((b && (bs.drop q).all (fun y => Tr.rfits (supers l) x1 x2 y.1 y.2)) = L) ∧ Below w6.heap.size w6 w2)
                    (fun _ j _ => bs.length - (intOf j).toNat)
                  case atStart => exact ⟨0, true, by omega, rfl, rfl, HL, hbl⟩
                  case round =>
                    clear HL hbl hBr
                    obtain ⟨q, b, hq, rfl, rfl, HL, hbl⟩ := hrel
                    have hBr : Below w.heap.size w wr := hBw6.trans (hbl.mono hBw6.size)
                    have x0 := (hbl.cell (p := ⟨g2, m * 2, none⟩) hglt2).trans u0
                    have x1' := (hbl.cell (p := ⟨g2, m * 2 + 1, none⟩) hglt2).trans u1
                    by_cases hqn : q < bs.length
                    · obtain ⟨t1, t2, t3⟩ := tcells_at bs q hqn
                      have y0 := (hbl.cell (p := ⟨g2, q * 2, none⟩) hglt2).trans ((unhide HC2 (q * 2) (by omega)).trans t1)
                      have y1 := (hbl.cell (p := ⟨g2, q * 2 + 1, none⟩) hglt2).trans ((unhide HC2 (q * 2 + 1) (by omega)).trans t2)
                      have hdr : bs.drop q = bs[q] :: bs.drop (q + 1) := List.drop_eq_getElem_cons hqn
                      have hLL := unhide HL
                      rw [hdr, List.all_cons] at hLL
                      obtain ⟨yi, hyi⟩ : ∃ yi, yi = bs[q] := ⟨_, rfl⟩
                      rw [← hyi] at y0 y1 hLL
                      obtain ⟨y1', y2'⟩ := yi
                      simp only at y0 y1 hLL
                      generalize hZ : Tr.rfits (supers l) x1 x2 y1' y2' = Z at hLL
                      have HZ := hide hZ
                      have HLL := hide hLL
                      have qb : (q : Int) < (bs.length : Int) := by omega
                      have f0 := blk_cell (stay hbl hF6) 0
                      have f1 := blk_cell (stay hbl hF6) 1
                      simp at f0 f1
                      have lF : w.heap.size < wr.heap.size := lt_of_block (stay hbl hF6)
                      have lG : g2 < wr.heap.size := Nat.lt_of_lt_of_le hglt2 hbl.size
                      clear hZ hLL hyi hdr t1 t2 t3 HL
                      go_wp2
                      go_region_held3 (fun w' => w'.cell? ⟨w.heap.size, 0, none⟩ = some (.slice a1 l.length c1) ∧ w'.cell? ⟨w.heap.size, 1, none⟩ = some (.slice a2 n2 c2) ∧ w'.cell? ⟨g2, m * 2, none⟩ = some (.int .i64 x1) ∧ w'.cell? ⟨g2, m * 2 + 1, none⟩ = some (.int .i64 x2) ∧ w'.cell? ⟨g2, q * 2, none⟩ = some (.int .i64 y1') ∧ w'.cell? ⟨g2, q * 2 + 1, none⟩ = some (.int .i64 y2'))
                        (first | exact ⟨f0, f1, x0, x1', y0, y1⟩ | exact ⟨(hb7.cell lF).trans f0, (hb7.cell lF).trans f1, (hb7.cell lG).trans x0, (hb7.cell lG).trans x1', (hb7.cell lG).trans y0, (hb7.cell lG).trans y1⟩)
                        (first | (go_at_call 94; refine (rfits_any a1 a2 c1 n2 c2 bb l x1 x2 y1' y2' wr.drew hl (hc.kp (Kp.of_below (e := none) hBr.drew) (by decide) (by decide))).mono ?_; rw [unhide HZ]; rintro e w7 ⟨rfl, hb7⟩))
                      have hbl7 : Below w6.heap.size w6 w7 := hbl.drew.trans (hb7.mono hbl.size)
                      clear hb7 f0 f1 x0 x1' y0 y1 lF lG hbl hBr
                      cases b with
                      | false =>
                        have HG : Hid ((false && (bs.drop (q + 1)).all (fun y => Tr.rfits (supers l) x1 x2 y.1 y.2)) = L) := by unfold Hid; rw [← unhide HLL]; simp
                        clear HLL HZ
                        go_wp2
                        go_roundw
                        case rel => exact ⟨q + 1, _, by omega, by go_num, rfl, HG, hbl7⟩
                        case measure => simp [intOf]; omega
                      | true =>
                        have HG : Hid ((Z && (bs.drop (q + 1)).all (fun y => Tr.rfits (supers l) x1 x2 y.1 y.2)) = L) := by unfold Hid; rw [← unhide HLL]; simp
                        clear HLL HZ
                        go_wp2
                        go_roundw
                        case rel => exact ⟨q + 1, _, by omega, by go_num, rfl, HG, hbl7⟩
                        case measure => simp [intOf]; omega
                    · have hbL : b = L := by rw [← unhide HL, List.drop_eq_nil_of_le (by omega)]; simp
                      have hR7 := stay hbl hR6
                      have r0 := blk_cell hR7 0
                      have r1 := blk_cell hR7 1
                      have f0 := blk_free hR7 0
                      have f1 := blk_free hR7 1
                      have lR := lt_of_block hR7
                      simp at r0 r1
                      clear HL
                      cases b with
                      | true =>
                        have hrr : r = (x1, x2) := by rw [unhide HST, ← hbL]; rfl
                        have HRR := hide hrr
                        clear hbL hrr HST
                        go_wp2_with fail
                        refine bodyPost_ret (v := .agg #[.int .i64 x1, .int .i64 x2]) (by simp [results, Tryz.results96, go_sem, r0, r1]) rfl ?_
                        exact ⟨by rw [unhide HRR], (hBr.setCell (by simp; omega) _).setCell (by simp; omega) _⟩
                      | false =>
                        have HG : Hid (Tr.firstL (supers l) bs (bs.drop (m + 1)) = r) := by unfold Hid; rw [unhide HST, ← hbL]; rfl
                        clear hbL HST
                        go_wp2
                        go_roundw
                        case rel => exact ⟨m + 1, by omega, by go_num, HG, hbl⟩
                        case measure => simp [intOf]; omega
                · have hrr : r = (0, 0) := by rw [← unhide HR, List.drop_eq_nil_of_le (by omega)]; rfl
                  have HRR := hide hrr
                  have hR7 := stay hbl hR6
                  have r0 := blk_cell hR7 0
                  have r1 := blk_cell hR7 1
                  have f0 := blk_free hR7 0
                  have f1 := blk_free hR7 1
                  have lR := lt_of_block hR7
                  simp at r0 r1
                  clear HR hrr
                  go_wp2_with fail
                  refine bodyPost_ret (v := .agg #[.int .i64 0, .int .i64 0]) (by simp [results, Tryz.results96, go_sem, r0, r1]) rfl ?_
                  exact ⟨by rw [unhide HRR], (hBr.setCell (by simp; omega) _).setCell (by simp; omega) _⟩
end Go.Proofs.YteffpdofcgbokaaGreat
