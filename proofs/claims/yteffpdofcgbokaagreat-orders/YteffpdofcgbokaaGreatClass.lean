/-
  The walk over the reader's method class: a class and its own fields.
-/
import Derived.Test.YteffpdofcgbokaaGreatReps
namespace Go.Proofs.YteffpdofcgbokaaGreat
open Go.RowKit

theorem tys_len (s : List UInt8) (n : Nat) (t : Rd.St) : (Rd.tys s n t).1.length = n := Rd.rep_len _ _ _

set_option maxRecDepth 100000 in
set_option maxHeartbeats 1000000 in
theorem class_any (s : ByteArray) (B : Nat) (t : Rd.St) (w : World) (hs : s.size ≤ maxLen) (hR : RdAt w B s t) :
    Calls Tryz.prog 108 #[.pointer (some ⟨B, 0, none⟩)] w fun e w' =>
      ∃ v, e = .returned (.agg #[.int .i64 (Rd.cls s.data.toList t).1.above, v]) ∧ TysAt w' w.heap.size v (Rd.cls s.data.toList t).1.fields ∧ RdAt w' B s (Rd.cls s.data.toList t).2 ∧ Gr B w w' := by
  have hlt := hR.lt
  unfold Rd.cls
  dsimp only
  generalize hr1 : Rd.nx s.data.toList t = r1
  generalize hr2 : Rd.cn s.data.toList 0 4 r1.2 = r2
  have hbd := Rd.cn_bd s.data.toList 0 4 r1.2 (by omega)
  rw [hr2] at hbd
  obtain ⟨hbd0, hbd1⟩ := hbd
  have H1 := hide hr1
  have H2 := hide hr2
  clear hr1 hr2
  go_enter Tryz.func108, Tryz.ntmps108
  go_wp2_with fail
  refine (next_any s B t _ hs ((hR.alloc _).alloc _)).mono ?_
  rw [unhide H1]
  rintro e w1 ⟨rfl, hR1, hg1⟩
  have hg := (((Gr.refl B w).alloc _).alloc _).trans hg1
  have hb := hg1.own (alloc2_blk w _ _) (by omega)
  have hc := hg1.own (alloc1_blk w _ _) (by omega)
  have k0 := blk_cell hb 0
  have f0 := blk_free hb 0
  simp only [List.getElem?_toArray, List.getElem?_cons_zero] at k0
  go_wp2_with fail
  clear k0 f0
  refine (count_any s B 0 4 r1.2 _ hs (hR1.set (by simp; omega) _)).mono ?_
  rw [unhide H2]
  rintro e w2 ⟨rfl, hR2, hg2⟩
  have hg' := (hg.set (.inl (by simp)) _).trans hg2
  have hb2 := hg2.own (set_blk hb _) (by omega)
  have hc2 := hg2.own ((Below.heap_setCell w1 ⟨w.heap.size + 1, 0, none⟩ (.int .i64 r1.1) w.heap.size (by simp)).trans hc) (by omega)
  have hs1 := hg1.size
  have hs2 := hg2.size
  simp at hs1 hs2
  clear hb hc hg hg1 hg2 hR1
  go_wp2_with fail
  refine (types_any s B r2.1 r2.2 _ hs hbd0 (by omega) hR2).mono ?_
  rintro e w3 ⟨v, rfl, ho3, hR3, hg3⟩
  obtain ⟨va, vc, rfl⟩ := own_shape ho3
  have hsz := hg'.size
  have hb3 := hg3.own hb2 (by omega)
  have hc3 := hg3.own hc2 (by omega)
  have k1 := blk_cell hb3 1
  have f1 := blk_free hb3 1
  have k0 := blk_cell hb3 0
  have k2 := blk_cell hc3 0
  have f2 := blk_free hc3 0
  have k3 := blk_cell hc3 1
  have f3 := blk_free hc3 1
  simp at k0 k1 k2 k3
  go_wp2_with fail
  refine bodyPost_ret (v := .agg #[.int .i64 r1.1, .slice va r2.1.toNat vc]) (by simp [results, Tryz.results108, go_sem, k2, k3]) rfl ?_
  refine ⟨_, rfl, ?_, ((hR3.set (by simp; omega) _).set (by simp; omega) _).set (by simp; omega) _, (((hg'.trans hg3).set (.inl (by simp)) _).set (.inl (by simp)) _).set (.inl (by simp)) _⟩
  unfold TysAt
  rw [tys_len]
  exact own_mono (ownsRow_setCell_below (ownsRow_setCell_below (ownsRow_setCell_below ho3 (by simp; omega) _) (by simp; omega) _) (by simp; omega) _) hsz
end Go.Proofs.YteffpdofcgbokaaGreat
