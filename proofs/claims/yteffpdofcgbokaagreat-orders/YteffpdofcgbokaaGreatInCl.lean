/-
  The walks over faults.allPlain and faults.InClasses.
-/
import Derived.Test.YteffpdofcgbokaaGreatTreeOf
namespace Go.Proofs.YteffpdofcgbokaaGreat
open Go.RowKit
variable {ya : Option Addr} {yn yc : Nat}

theorem tcells_at (l : List (Int × Int)) (k : Nat) (h : k < l.length) : (tcells l)[k * 2]? = some (.int .i64 l[k].1) ∧ (tcells l)[k * 2 + 1]? = some (.int .i64 l[k].2) ∧ k * 2 + 1 < (tcells l).length := by
  induction l generalizing k with
  | nil => simp at h
  | cons x r ih =>
    cases k with
    | zero => simp [tcells]
    | succ j =>
      have hj : j < r.length := by simpa using h
      obtain ⟨p, q, z⟩ := ih j hj
      have e : tcells (x :: r) = .int .i64 x.1 :: .int .i64 x.2 :: tcells r := by simp [tcells]
      rw [e, show (j + 1) * 2 = j * 2 + 1 + 1 by omega]
      refine ⟨by simpa using p, by simpa using q, by simp; omega⟩

theorem allPlain_cons {l : List Int} {x : Int × Int} {r : List (Int × Int)} : Tr.allPlainB l (x :: r) = (Tr.plainB l x.1 x.2 && Tr.allPlainB l r) := by simp [Tr.allPlainB]

set_option maxRecDepth 100000 in
set_option maxHeartbeats 2000000 in
theorem allPlain_any (l : List Int) (a : Option Addr) (cap : Nat) (fa : Option Addr) (fn fc b : Nat) (fs : List (Int × Int)) (w : World) (hfl : fs.length ≤ 1000) (hT : TysAt w b (.slice fa fn fc) fs) :
    Calls Tryz.prog 110 #[.agg #[.slice a l.length cap, .slice ya yn yc], .slice fa fn fc] w fun e w' => e = .returned (.bool (Tr.allPlainB l fs)) ∧ Below w.heap.size w w' := by
  obtain ⟨xa, xc, hsh⟩ := own_shape hT
  simp only [Value.slice.injEq] at hsh
  obtain ⟨rfl, hn1, rfl⟩ := hsh
  subst hn1
  generalize hr : Tr.allPlainB l fs = r
  have HR : Hid (Tr.allPlainB l (fs.drop 0) = r) := by unfold Hid; simpa using hr
  clear hr
  have hB1 : Below w.heap.size w (w.alloc (.cells #[.slice a l.length cap, .slice ya yn yc] 87)) := (Below.refl _ _).alloc (Nat.le_refl _) _
  have hx1 := alloc_blk w (.cells #[.slice a l.length cap, .slice ya yn yc] 87)
  go_enter Tryz.func110, Tryz.ntmps110
  go_wp2
  go_loopw [9] (fun i wr => ∃ k : Nat, k ≤ fs.length ∧ i = .int .i64 k ∧ Hid (Tr.allPlainB l (fs.drop k) = r) ∧ Below w.heap.size w wr ∧
      wr.heap[w.heap.size]? = some (.cells #[.slice a l.length cap, .slice ya yn yc] 87 (0, 0)))
    (fun i _ => fs.length - (intOf i).toNat)
  case atStart => exact ⟨0, by omega, rfl, HR, hB1, hx1⟩
  case round =>
    clear hB1 hx1 HR
    obtain ⟨k, hk, rfl, HR, hB, hx⟩ := hrel
    have hBs := hB.size
    by_cases hkn : k < fs.length
    · obtain ⟨g, hg, hglt, hbg, hcell⟩ := own_some (own_kp hT (Kp.of_below (e := none) hB) (by decide)) (by omega)
      obtain ⟨e1, e2, e3⟩ := tcells_at fs k hkn
      have x0 := hcell (k * 2) (by omega)
      have x1 := hcell (k * 2 + 1) (by omega)
      rw [e1] at x0
      rw [e2] at x1
      have hd : fs.drop k = fs[k] :: fs.drop (k + 1) := List.drop_eq_getElem_cons hkn
      have hr := unhide HR
      rw [hd, allPlain_cons] at hr
      generalize hf1 : fs[k].1 = f1 at *
      generalize hf2 : fs[k].2 = f2 at *
      have c0 := blk_cell hx 0
      have c1 := blk_cell hx 1
      have lx := lt_of_block hx
      simp at c0 c1
      clear hcell e1 e2 e3 hf1 hf2 hd hbg
      subst hg
      cases hp : Tr.plainB l f1 f2 with
      | true =>
        have HF : Hid (Tr.allPlainB l (fs.drop (k + 1)) = r) := by unfold Hid; rw [← hr, hp]; simp
        have HP := hide hp
        clear hp hr
        go_wp2_with fail
        refine (isPlain_any l a cap f1 f2 _).mono ?_
        rw [unhide HP]
        rintro e w2 ⟨rfl, hb2⟩
        have hB2 : Below w.heap.size w w2 := (hB.alloc hBs _).trans (hb2.mono (by simp; omega))
        have hx2 := stay hb2 ((Below.heap_alloc wr (.cells #[.int .i64 f1, .int .i64 f2] 48) _ lx).trans hx)
        clear hb2 hB hx c0 c1 x0 x1 lx
        go_wp2
        go_roundw
        case rel => exact ⟨k + 1, by omega, by go_num, HF, hB2, hx2⟩
        case measure => simp [intOf]; omega
      | false =>
        have hf : r = false := by rw [← hr, hp]; simp
        have HF := hide hf
        have HP := hide hp
        clear hp hr hf
        go_wp2_with fail
        refine (isPlain_any l a cap f1 f2 _).mono ?_
        rw [unhide HP]
        rintro e w2 ⟨rfl, hb2⟩
        have hB2 : Below w.heap.size w w2 := (hB.alloc hBs _).trans (hb2.mono (by simp; omega))
        go_wp2
        go_ret
        exact ⟨by rw [unhide HF]; rfl, hB2⟩
    · have hf : r = true := by rw [← unhide HR, List.drop_eq_nil_of_le (by omega)]; rfl
      have HF := hide hf
      clear hf
      go_wp2
      go_ret
      exact ⟨by rw [unhide HF]; rfl, hB⟩

/-- the first own class that may not be: (3, its number), or (0, 0) -/
def Tr.inCl (l : List Int) : Nat → List Rd.Cls → Int × Int
  | _, [] => (0, 0)
  | k, c :: r => if 7 + (k : Int) ≤ c.above then (3, 7 + (k : Int)) else if Tr.allPlainB l c.fields = false then (3, 7 + (k : Int)) else Tr.inCl l (k + 1) r

set_option maxRecDepth 100000 in
set_option maxHeartbeats 4000000 in
theorem inClasses_any (a1 a2 : Option Addr) (n1 c1 n2 c2 b : Nat) (l : List (Rd.Cls × Value)) (w : World) (hl : l.length ≤ 6) (hfl : ∀ p ∈ l, p.1.fields.length ≤ 1000) (hc : ClssIn w b (.slice a1 n1 c1) l) :
    Calls Tryz.prog 69 #[.agg #[.slice a1 n1 c1, .slice a2 n2 c2]] w fun e w' =>
      e = .returned (.agg #[.int .i64 (Tr.inCl (Tr.tree (l.map Prod.fst)) 0 (l.map Prod.fst)).1, .int .i64 (Tr.inCl (Tr.tree (l.map Prod.fst)) 0 (l.map Prod.fst)).2, .int .i64 0]) ∧ Below w.heap.size w w' := by
  obtain ⟨xa, xc, hsh⟩ := own_shape hc.1
  simp only [Value.slice.injEq] at hsh
  obtain ⟨rfl, hn1, rfl⟩ := hsh
  subst hn1
  generalize ht : Tr.tree (l.map Prod.fst) = T
  generalize hr : Tr.inCl T 0 (l.map Prod.fst) = r
  have HT := hide ht
  have HR : Hid (Tr.inCl T 0 ((l.map Prod.fst).drop 0) = r) := by unfold Hid; simpa using hr
  clear hr ht
  have hB0 := below2 w (.cells #[.slice a1 l.length c1, .slice a2 n2 c2] 38) (.cells #[.int .i64 0, .int .i64 0, .int .i64 0] 40)
  go_enter Tryz.func69, Tryz.ntmps69
  go_wp2_with fail
  refine (treeOf_any a1 a2 l.length c1 n2 c2 b l _ hl (hc.kp (Kp.of_below (e := none) hB0) (by decide) (by decide))).mono ?_
  rw [unhide HT]
  rintro e w1 ⟨g, cap, ya, yn, yc, rfl, hTr, hFs, hg, hb1⟩
  clear hFs
  have hB1 := hB0.trans (hb1.mono (by simp; omega))
  have hf := stay hb1 (alloc1_blk w _ _)
  have hres := stay hb1 (alloc2_blk w _ _)
  have lt1 := lt_of_block hres
  have x0 := blk_cell hf 0
  simp at x0
  have lt0 := lt_of_block hf
  have ht1 := alloc_blk w1 (.cells #[.slice (some ⟨g, 0, none⟩) T.length cap, .slice ya yn yc] 87)
  have hb0 : Below w.heap.size w (w1.alloc (.cells #[.slice (some ⟨g, 0, none⟩) T.length cap, .slice ya yn yc] 87)) := hB1.alloc hB1.size _
  have hres1 := (Below.heap_alloc w1 (.cells #[.slice (some ⟨g, 0, none⟩) T.length cap, .slice ya yn yc] 87) _ lt1).trans hres
  clear hf hres hB1 hb1
  go_wp2
  go_loopw [12] (fun i wr => ∃ k : Nat, k ≤ l.length ∧ i = .int .i64 k ∧ Hid (Tr.inCl T k ((l.map Prod.fst).drop k) = r) ∧ Below w.heap.size w wr ∧
      wr.heap[w1.heap.size]? = some (.cells #[.slice (some ⟨g, 0, none⟩) T.length cap, .slice ya yn yc] 87 (0, 0)) ∧ wr.heap[w.heap.size + 1]? = some (.cells #[.int .i64 0, .int .i64 0, .int .i64 0] 40 (0, 0)))
    (fun i _ => l.length - (intOf i).toNat)
  case atStart => exact ⟨0, by omega, rfl, HR, hb0, ht1, hres1⟩
  case round =>
    clear hb0 ht1 hres1 HR x0
    obtain ⟨k, hk, rfl, HR, hB, htr, hres⟩ := hrel
    have hBs := hB.size
    have lt2 := lt_of_block htr
    have lt3 := lt_of_block hres
    by_cases hkn : k < l.length
    · have hcr := hc.kp (Kp.of_below (e := none) hB) (by decide) (by decide)
      obtain ⟨g', hg', hglt, hbg, hcell⟩ := own_some hcr.1 (by omega)
      obtain ⟨e1, e2, e3⟩ := ccells_at l k hkn
      have x0 := hcell (k * 2) (by omega)
      have x1 := hcell (k * 2 + 1) (by omega)
      rw [e1] at x0
      rw [e2] at x1
      have hfk := hfl _ (List.getElem_mem hkn)
      have htk := hcr.2 _ (List.getElem_mem hkn)
      obtain ⟨ua, uc, hu⟩ := own_shape htk
      rw [hu] at x1 htk
      have hd : (l.map Prod.fst).drop k = l[k].1 :: (l.map Prod.fst).drop (k + 1) := by
        rw [List.drop_eq_getElem_cons (by simpa using hkn)]
        simp
      have hr := unhide HR
      rw [hd, Tr.inCl] at hr
      generalize hcl : l[k].1 = cl at *
      have c0 := blk_cell htr 0
      have c1 := blk_cell htr 1
      simp at c0 c1
      clear hcell e1 e2 e3 hcl hd hbg hu hcr
      subst hg'
      by_cases h1 : 7 + (k : Int) ≤ cl.above
      · rw [if_pos h1] at hr
        have HF := hide hr
        clear hr
        have y0 := blk_cell hres 0
        have y1 := blk_cell hres 1
        have y2 := blk_cell hres 2
        have f0 := blk_free hres 0
        have f1 := blk_free hres 1
        have f2 := blk_free hres 2
        simp at y0 y1 y2
        go_wp2
        refine bodyPost_ret (v := .agg #[.int .i64 3, .int .i64 (7 + (k : Int)), .int .i64 0]) (by simp [results, Tryz.results69, go_sem, y0, y1, y2, lt3]) rfl ?_
        exact ⟨by rw [← unhide HF], (((hB.setCell (by simp) _).setCell (by simp) _).setCell (by simp) _).alloc (by simp; omega) _⟩
      · rw [if_neg h1] at hr
        cases hp : Tr.allPlainB T cl.fields with
        | true =>
          rw [hp, if_neg (by simp)] at hr
          have HF := hide hr
          have HP := hide hp
          clear hr hp
          go_wp2_with fail
          refine (allPlain_any T (some ⟨g, 0, none⟩) cap ua cl.fields.length uc b cl.fields _ hfk (htk.kp (Kp.alloc (e := none) _ _) (by decide))).mono ?_
          rw [unhide HP]
          rintro e w2 ⟨rfl, hb2⟩
          have hB2 : Below w.heap.size w w2 := (hB.alloc hBs _).trans (hb2.mono (by simp; omega))
          have htr2 := stay hb2 ((Below.heap_alloc wr (.cells #[.int .i64 cl.above, .slice ua cl.fields.length uc] 143) _ lt2).trans htr)
          have hres2 := stay hb2 ((Below.heap_alloc wr (.cells #[.int .i64 cl.above, .slice ua cl.fields.length uc] 143) _ lt3).trans hres)
          clear hb2 hB htr hres x0 x1 c0 c1
          go_wp2
          go_roundw
          case rel => exact ⟨k + 1, by omega, by go_num, HF, hB2, htr2, hres2⟩
          case measure => simp [intOf]; omega
        | false =>
          rw [hp, if_pos rfl] at hr
          have HF := hide hr
          have HP := hide hp
          clear hr hp
          go_wp2_with fail
          refine (allPlain_any T (some ⟨g, 0, none⟩) cap ua cl.fields.length uc b cl.fields _ hfk (htk.kp (Kp.alloc (e := none) _ _) (by decide))).mono ?_
          rw [unhide HP]
          rintro e w2 ⟨rfl, hb2⟩
          have hB2 : Below w.heap.size w w2 := (hB.alloc hBs _).trans (hb2.mono (by simp; omega))
          have htr2 := stay hb2 ((Below.heap_alloc wr (.cells #[.int .i64 cl.above, .slice ua cl.fields.length uc] 143) _ lt2).trans htr)
          have hres2 := stay hb2 ((Below.heap_alloc wr (.cells #[.int .i64 cl.above, .slice ua cl.fields.length uc] 143) _ lt3).trans hres)
          have y0 := blk_cell hres2 0
          have y1 := blk_cell hres2 1
          have y2 := blk_cell hres2 2
          have f0 := blk_free hres2 0
          have f1 := blk_free hres2 1
          have f2 := blk_free hres2 2
          simp at y0 y1 y2
          go_wp2
          refine bodyPost_ret (v := .agg #[.int .i64 3, .int .i64 (7 + (k : Int)), .int .i64 0]) (by simp [results, Tryz.results69, go_sem, y0, y1, y2]) rfl ?_
          exact ⟨by rw [← unhide HF], ((hB2.setCell (by simp) _).setCell (by simp) _).setCell (by simp) _⟩
    · have hf : r = (0, 0) := by rw [← unhide HR, List.drop_eq_nil_of_le (by simp; omega)]; rfl
      have HF := hide hf.symm
      clear hf
      have y0 := blk_cell hres 0
      have y1 := blk_cell hres 1
      have y2 := blk_cell hres 2
      have f0 := blk_free hres 0
      have f1 := blk_free hres 1
      have f2 := blk_free hres 2
      simp at y0 y1 y2
      go_wp2
      refine bodyPost_ret (v := .agg #[.int .i64 0, .int .i64 0, .int .i64 0]) (by simp [results, Tryz.results69, go_sem, y0, y1, y2]) rfl ?_
      exact ⟨by rw [← unhide HF], ((hB.setCell (by simp) _).setCell (by simp) _).setCell (by simp) _⟩
end Go.Proofs.YteffpdofcgbokaaGreat
