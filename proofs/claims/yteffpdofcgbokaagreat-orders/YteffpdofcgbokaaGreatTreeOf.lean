/-
  The walk over types.TreeOf.
-/
import Derived.Test.YteffpdofcgbokaaGreatFile
import Derived.Test.YteffpdofcgbokaaGreatTree3
namespace Go.Proofs.YteffpdofcgbokaaGreat
open Go.RowKit

/-- the list of a file's tree -/
def Tr.given : List Int := [-1, 0, 1, 1, 1, 1, 1]
def Tr.tree (cs : List Rd.Cls) : List Int := Tr.given ++ cs.map Rd.Cls.above
theorem tree_len (cs : List Rd.Cls) : (Tr.tree cs).length = 7 + cs.length := by simp [Tr.tree, Tr.given]; omega

/-- the list of the fields of a file's tree: of the given classes none -/
def Tr.fvals (l : List (Rd.Cls × Value)) : List Value := List.replicate 7 (.slice none 0 0) ++ l.map Prod.snd
theorem Tryz.infoTys : (Tryz.prog.info? 46).map (fun i => (i.zero, i.size, i.bytes)) = some (some (.slice none 0 0), 1, 24) := by kernel_rfl
theorem seven_own (w : World) (b g : Nat) (t : TypeId) (hg : w.heap.size = g) (hb : b ≤ g) (u : Value) : (w.alloc (.cells #[u, u, u, u, u, u, u] t)).ownsRow b t 1 (.slice (some ⟨g, 0, none⟩) 7 7) 7 (List.replicate 7 u) :=
  ⟨rfl, .inr ⟨g, 7, #[u, u, u, u, u, u, u], rfl, hb, by rw [← hg]; exact alloc_blk w _, by omega, by unfold maxLen; omega, rfl, rfl⟩⟩

theorem Kp.set2 {e : TypeId} {b i j : Nat} {w : World} {g : Nat} {cs : Array Value} (h : w.heap[g]? = some (.cells cs e (0, 0))) (u u' : Value) : Kp (some e) b w ((w.setCell ⟨g, i, none⟩ u).setCell ⟨g, j, none⟩ u') := by
  intro k cs' t hk hc ht
  have h1 := Kp.set (b := b) (i := i) h u k cs' t hk hc ht
  rw [Below.heap_setCell _ _ _ _ ?_]; exact h1
  intro hk
  simp only at hk
  subst hk
  rw [hc] at h
  simp at h
  exact ht (by rw [h.2])

def lenOf : Value → Nat | .slice _ n _ => n | _ => 0

theorem two_own (w : World) (b g : Nat) (u v : Value) (t : TypeId) (hg : w.heap.size = g) (hb : b ≤ g) : (w.alloc (.cells #[u, v] t)).ownsRow b t 1 (.slice (some ⟨g, 0, none⟩) 2 2) 2 [u, v] :=
  ⟨rfl, .inr ⟨g, 2, #[u, v], rfl, hb, by rw [← hg]; exact alloc_blk w _, by omega, by unfold maxLen; omega, rfl, rfl⟩⟩

theorem own_some {b size n : Nat} {e : TypeId} {a : Option Addr} {m c : Nat} {xs : List Value} {w : World} (h : w.ownsRow b e size (.slice a m c) n xs) (hn : 0 < n) :
    ∃ g, a = some ⟨g, 0, none⟩ ∧ g < w.heap.size ∧ b ≤ g ∧ ∀ j, j < xs.length → w.cell? ⟨g, j, none⟩ = xs[j]? := by
  obtain ⟨h1, ⟨_, h2⟩ | ⟨g, cap, cur, h3, h4, h5, h6, h7, h8, h9⟩⟩ := h
  · omega
  · simp only [Value.slice.injEq] at h3
    refine ⟨g, h3.1, lt_of_block h5, h4, fun j hj => ?_⟩
    rw [blk_cell h5, ← h9, List.getElem?_take, if_pos (by omega)]
    simp
theorem ccells_at (l : List (Rd.Cls × Value)) (k : Nat) (h : k < l.length) : (ccells l)[k * 2]? = some (.int .i64 l[k].1.above) ∧ (ccells l)[k * 2 + 1]? = some l[k].2 ∧ k * 2 + 1 < (ccells l).length := by
  induction l generalizing k with
  | nil => simp at h
  | cons x r ih =>
    cases k with
    | zero => simp [ccells]
    | succ j =>
      have hj : j < r.length := by simpa using h
      obtain ⟨p, q, z⟩ := ih j hj
      have e : ccells (x :: r) = .int .i64 x.1.above :: x.2 :: ccells r := by simp [ccells]
      rw [e, show (j + 1) * 2 = j * 2 + 1 + 1 by omega]
      refine ⟨by simpa using p, by simpa using q, by simp; omega⟩

set_option maxRecDepth 100000 in
set_option maxHeartbeats 4000000 in
theorem treeOf_any (a1 a2 : Option Addr) (n1 c1 n2 c2 b : Nat) (l : List (Rd.Cls × Value)) (w : World) (hl : l.length ≤ 6) (hc : ClssIn w b (.slice a1 n1 c1) l) :
    Calls Tryz.prog 40 #[.agg #[.slice a1 n1 c1, .slice a2 n2 c2]] w fun e w' =>
      ∃ g cap ya yn yc, e = .returned (.agg #[.slice (some ⟨g, 0, none⟩) (Tr.tree (l.map Prod.fst)).length cap, .slice ya yn yc]) ∧ TreeIn w' g (Tr.tree (l.map Prod.fst)) ∧ w'.ownsRow w.heap.size 46 1 (.slice ya yn yc) (7 + l.length) (Tr.fvals l) ∧ w.heap.size ≤ g ∧ Below w.heap.size w w' := by
  obtain ⟨xa, xc, hsh⟩ := own_shape hc.1
  simp only [Value.slice.injEq] at hsh
  obtain ⟨rfl, hn1, rfl⟩ := hsh
  subst hn1
  obtain ⟨i0, hi, hz0, hz1, hz2⟩ := info_parts Tryz.infoInt
  obtain ⟨j0, hj, hy0, hy1, hy2⟩ := info_parts Tryz.infoTys
  have hmk : ∀ w : World, (Instr.makeSlice 85 (.int .i64 7) (.int .i64 7)).run Tryz.prog w = .ok (.slice (some ⟨w.heap.size, 0, none⟩) 7 7) (w.alloc (.cells #[.slice none 0 0, .slice none 0 0, .slice none 0 0, .slice none 0 0, .slice none 0 0, .slice none 0 0, .slice none 0 0] 46)) := fun _ => by kernel_rfl
  go_enter Tryz.func40, Tryz.ntmps40
  go_wp2
  go_loopw [3] (fun v wr => ∃ k : Nat, 2 ≤ k ∧ k ≤ 7 ∧ wr.ownsRow (w.heap.size + 1 + 1) 3 1 v k ((Tr.given.take k).map (Value.int .i64)) ∧ lenOf v = k ∧ Below (w.heap.size + 1 + 1) ((w.alloc (.cells #[.slice a1 l.length c1, .slice a2 n2 c2] 38)).alloc (.cells #[.slice none 0 0, .slice none 0 0] 87)) wr)
    (fun v _ => 7 - lenOf v)
  case atStart =>
    refine ⟨2, by omega, by omega, ?_, rfl, (Below.refl _ _).alloc (by simp) _⟩
    exact two_own ((w.alloc (.cells #[.slice a1 l.length c1, .slice a2 n2 c2] 38)).alloc (.cells #[.slice none 0 0, .slice none 0 0] 87)) (w.heap.size + 1 + 1) (w.heap.size + 1 + 1) (.int .i64 (-1)) (.int .i64 0) 3 (by simp) (Nat.le_refl _)
  case round =>
    obtain ⟨k, hk0, hk1, hown, hlen, hbl⟩ := hrel
    obtain ⟨va, vc, rfl⟩ := own_shape hown
    clear hlen
    have hsz := hbl.size
    simp at hsz
    by_cases hkn : k < 7
    · go_wp2_with (at_builtin; refine wpList_append_own _ rfl _ _ 58 rfl (w.heap.size + 1 + 1) 3 i0 _ 1 8 Tryz.underlying58 hi hz0 hz1 hz2 rfl (by decide) _ _ _ rfl (hown.alloc _) ⟨wr.heap.size, 0, none⟩ 1 1 [.int .i64 1] rfl rfl ?c1 ?c2 ?c3 ?c4 ?c5 ?_)
      case c1 => exact cells_new _ _ _ _ rfl
      case c2 => intro u hu; simp at hu; subst hu; rfl
      case c3 => unfold maxLen; omega
      case c4 => omega
      case c5 => simp; omega
      intro v' w2 hown2 hgrow _
      obtain ⟨va', vc', rfl⟩ := own_shape hown2
      have hown3 : w2.ownsRow (w.heap.size + 1 + 1) 3 1 (.slice va' (k + 1) vc') (k + 1) ((Tr.given.take (k + 1)).map (Value.int .i64)) := by
        have e : (Tr.given.take (k + 1)) = Tr.given.take k ++ [1] := by
          match k, hk0, hkn with
          | 2, _, _ => rfl
          | 3, _, _ => rfl
          | 4, _, _ => rfl
          | 5, _, _ => rfl
          | 6, _, _ => rfl
        rw [e, List.map_append]
        simpa using hown2
      have hbl2 := (hbl.alloc (by omega) (.cells #[.int .i64 1] 3)).grown hgrow (by simp; omega) (fun j hj => (hown.lt j hj).1)
      clear hgrow hown hown2 hbl
      go_wp2
      go_roundw
      case rel => exact ⟨k + 1, by omega, by omega, hown3, rfl, hbl2⟩
      case measure => simp [lenOf]; omega
    · obtain rfl : k = 7 := by omega
      have hB : Below w.heap.size w wr := (below2 w _ _).trans (hbl.mono (by omega))
      have hf0 := (hbl.block w.heap.size (by omega)).trans (alloc1_blk w _ _)
      have hf0' := (Below.heap_alloc wr (.cells #[.slice none 0 0, .slice none 0 0, .slice none 0 0, .slice none 0 0, .slice none 0 0, .slice none 0 0, .slice none 0 0] 46) _ (lt_of_block hf0)).trans hf0
      have x0 := blk_cell hf0' 0
      simp at x0
      have hbl1 := hbl.alloc (by omega) (.cells #[.slice none 0 0, .slice none 0 0, .slice none 0 0, .slice none 0 0, .slice none 0 0, .slice none 0 0, .slice none 0 0] 46)
      have hfs : (wr.alloc (.cells #[.slice none 0 0, .slice none 0 0, .slice none 0 0, .slice none 0 0, .slice none 0 0, .slice none 0 0, .slice none 0 0] 46)).ownsRow (w.heap.size + 1 + 1) 46 1 (.slice (some ⟨wr.heap.size, 0, none⟩) 7 7) 7 (List.replicate 7 (.slice none 0 0)) := seven_own wr _ _ _ rfl (by omega) _
      have hown1 := hown.alloc (.cells #[.slice none 0 0, .slice none 0 0, .slice none 0 0, .slice none 0 0, .slice none 0 0, .slice none 0 0, .slice none 0 0] 46)
      clear hown hbl
      go_wp2
      go_loopw [3, 4, 18] (fun v u i w3 => ∃ k : Nat, k ≤ l.length ∧ i = .int .i64 k ∧ w3.ownsRow (w.heap.size + 1 + 1) 3 1 v (7 + k) ((Tr.given ++ ((l.map Prod.fst).take k).map Rd.Cls.above).map (Value.int .i64)) ∧
          w3.ownsRow (w.heap.size + 1 + 1) 46 1 u (7 + k) (List.replicate 7 (.slice none 0 0) ++ (l.map Prod.snd).take k) ∧
          Below (w.heap.size + 1 + 1) ((w.alloc (.cells #[.slice a1 l.length c1, .slice a2 n2 c2] 38)).alloc (.cells #[.slice none 0 0, .slice none 0 0] 87)) w3)
        (fun _ _ i _ => l.length - (intOf i).toNat)
      case atStart => exact ⟨0, by omega, rfl, by simpa [Tr.given] using hown1, by simpa using hfs, hbl1⟩
      case round =>
        clear hown1 hbl1 hB hf0 hf0' x0 hsz hfs
        obtain ⟨k, hk, rfl, hown, hfs, hbl⟩ := hrel
        obtain ⟨va, vc, rfl⟩ := own_shape hown
        obtain ⟨za, zc, rfl⟩ := own_shape hfs
        have hsz := hbl.size
        simp at hsz
        have hB : Below w.heap.size w wr := (below2 w _ _).trans (hbl.mono (by omega))
        by_cases hkn : k < l.length
        · obtain ⟨g, hg, hglt, _, hcell⟩ := own_some (own_kp hc.1 (Kp.of_below (e := none) hB) (by decide)) (by omega)
          obtain ⟨e1, e2, e3⟩ := ccells_at l k hkn
          have x0 := hcell (k * 2) (by omega)
          have x1 := hcell (k * 2 + 1) (by omega)
          rw [e1] at x0
          rw [e2] at x1
          obtain ⟨ua, uc, hu⟩ := own_shape (hc.2 _ (List.getElem_mem hkn))
          rw [hu] at x1
          generalize hab : l[k].1.above = ab at *
          have HAb : Hid (List.map Rd.Cls.above [l[k].1] = [ab]) := by unfold Hid; simp [hab]
          have HA : Hid ((l.map Prod.fst).take (k + 1) = (l.map Prod.fst).take k ++ [l[k].1]) := by
            unfold Hid
            rw [List.take_succ_eq_append_getElem (by simpa using hkn)]
            simp
          have HB : Hid ((l.map Prod.snd).take (k + 1) = (l.map Prod.snd).take k ++ [.slice ua l[k].1.fields.length uc]) := by
            unfold Hid
            rw [List.take_succ_eq_append_getElem (by simpa using hkn), ← hu]
            simp
          generalize l[k].1.fields.length = fl at *
          clear hcell e1 e2 e3 hab hu
          subst hg
          generalize hxs : ((Tr.given ++ ((l.map Prod.fst).take k).map Rd.Cls.above).map (Value.int .i64)) = xs at hown
          have HXS := hide hxs
          clear hxs
          generalize hys : (List.replicate 7 (Value.slice none 0 0) ++ (l.map Prod.snd).take k) = ys at hfs
          have HYS := hide hys
          clear hys
          go_wp2_with (at_builtin; refine wpList_append_own _ rfl _ _ 58 rfl (w.heap.size + 1 + 1) 3 i0 _ 1 8 Tryz.underlying58 hi hz0 hz1 hz2 rfl (by decide) _ _ _ rfl ((hown.alloc _).alloc _) ⟨wr.heap.size + 1, 0, none⟩ 1 1 [.int .i64 ab] rfl rfl ?d1 ?d2 ?d3 ?d4 ?d5 ?_)
          case d1 => exact cells_new _ _ _ _ (by simp)
          case d2 => intro u hu; simp at hu; subst hu; rfl
          case d3 => unfold maxLen; omega
          case d4 => omega
          case d5 => simp; omega
          intro v' w2 hown2 hgrow _
          have hown3 : w2.ownsRow (w.heap.size + 1 + 1) 3 1 v' (7 + (k + 1)) ((Tr.given ++ ((l.map Prod.fst).take (k + 1)).map Rd.Cls.above).map (Value.int .i64)) := by
            have e : ((Tr.given ++ ((l.map Prod.fst).take (k + 1)).map Rd.Cls.above).map (Value.int .i64)) = ((Tr.given ++ ((l.map Prod.fst).take k).map Rd.Cls.above).map (Value.int .i64)) ++ [.int .i64 ab] := by
              rw [unhide HA, List.map_append (f := Rd.Cls.above), unhide HAb]
              simp only [List.map_append, List.append_assoc]
              rfl
            rw [e, unhide HXS]
            exact hown2
          have hbl2 := ((hbl.alloc (by omega) _).alloc (by simp; omega) _).grown hgrow (by simp; omega) (fun j hj => (hown.lt j hj).1)
          have hfs2 := own_kp ((hfs.alloc (.cells #[.int .i64 ab, .slice ua fl uc] 143)).alloc (.cells #[.int .i64 ab] 3)) (Kp.of_grown (b := w.heap.size + 1 + 1) hgrow ((hown.alloc _).alloc _)) (by decide)
          have hcl : w2.heap[wr.heap.size]? = some (.cells #[.int .i64 ab, .slice ua fl uc] 143 (0, 0)) := Kp.of_grown (b := 0) hgrow ((hown.alloc _).alloc _) _ _ _ (Nat.zero_le _) ((Below.heap_alloc _ _ _ (by simp)).trans (alloc_blk wr _)) (by decide)
          have y1 := blk_cell hcl 1
          have ly := lt_of_block hcl
          simp at y1
          clear hgrow hown hown2 hbl hfs
          have hs2 := hbl2.size
          simp at hs2
          go_wp2_with (at_builtin; refine wpList_append_own _ rfl _ _ 85 rfl (w.heap.size + 1 + 1) 46 j0 _ 1 24 Tryz.underlying85 hj hy0 hy1 hy2 rfl (by decide) _ _ _ rfl (hfs2.alloc _) ⟨w2.heap.size, 0, none⟩ 1 1 [.slice ua fl uc] rfl rfl ?d1 ?d2 ?d3 ?d4 ?d5 ?_)
          case d1 => exact cells_new _ _ _ _ (by simp)
          case d2 => intro u hu; simp at hu; subst hu; rfl
          case d3 => unfold maxLen; omega
          case d4 => omega
          case d5 => simp; omega
          intro v'' w3 hfs3 hgrow3 _
          have hown4 := own_kp (hown3.alloc (.cells #[.slice ua fl uc] 46)) (Kp.of_grown (b := w.heap.size + 1 + 1) hgrow3 (hfs2.alloc _)) (by decide)
          have hfs4 : w3.ownsRow (w.heap.size + 1 + 1) 46 1 v'' (7 + (k + 1)) (List.replicate 7 (.slice none 0 0) ++ (l.map Prod.snd).take (k + 1)) := by
            rw [unhide HB, ← List.append_assoc, unhide HYS]
            exact hfs3
          have hbl3 := (hbl2.alloc (by omega) _).grown hgrow3 (by simp; omega) (fun j hj => (hfs2.lt j hj).1)
          clear hgrow3 hown3 hfs2 hfs3 hbl2
          go_wp2
          go_roundw
          case rel => exact ⟨k + 1, by omega, by go_num, hown4, hfs4, hbl3⟩
          case measure => simp [intOf]; omega
        · obtain rfl : k = l.length := by omega
          have hr0 := (hbl.block (w.heap.size + 1) (by omega)).trans (alloc2_blk w _ _)
          have x0 := blk_cell hr0 0
          have x1 := blk_cell hr0 1
          have f0 := blk_free hr0 0
          have f1 := blk_free hr0 1
          simp at x0 x1
          have ht : ((l.map Prod.fst).take l.length) = l.map Prod.fst := List.take_of_length_le (by simp)
          rw [ht] at hown
          have ht2 : ((l.map Prod.snd).take l.length) = l.map Prod.snd := List.take_of_length_le (by simp)
          rw [ht2] at hfs
          obtain ⟨g, hva, hglt, hgb, hcell⟩ := own_some hown (by omega)
          subst hva
          have HC := hide hcell
          clear hcell
          go_wp2_with fail
          refine bodyPost_ret (v := .agg #[.slice (some ⟨g, 0, none⟩) (7 + l.length) vc, .slice za (7 + l.length) zc]) (by simp [results, Tryz.results40, go_sem, x0, x1]) rfl ?_
          refine ⟨g, vc, za, 7 + l.length, zc, by rw [tree_len, List.length_map], ⟨by simpa using hglt, fun i hi => ?_⟩, ?_, by omega, (hB.setCell (by simp) _).setCell (by simp) _⟩
          · rw [World.cell?_of_block (w := wr) ((Below.heap_setCell _ _ _ g (by simp; omega)).trans (Below.heap_setCell wr _ _ g (by simp; omega)))]
            have hi' : i < ((Tr.tree (l.map Prod.fst)).map (Value.int .i64)).length := by simpa using hi
            have h2 := unhide HC i hi'
            have h3 : ((Tr.tree (l.map Prod.fst)).map (Value.int .i64))[i]? = some (.int .i64 ((Tr.tree (l.map Prod.fst)).getD i 0)) := by
              rw [List.getElem?_map, List.getD_eq_getElem?_getD, List.getElem?_eq_getElem hi]
              rfl
            rw [h2]
            exact h3
          · exact own_kp (own_mono hfs (by omega)) (Kp.set2 hr0 _ _) (by decide)
end Go.Proofs.YteffpdofcgbokaaGreat
