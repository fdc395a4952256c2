/-
  The walk over the document's reader: Read.
-/
import Derived.Test.YteffpdofcgbokaaGreatRRead
namespace Go.Proofs.YteffpdofcgbokaaGreat
open Go.RowKit

theorem mps_le (s : List UInt8) (i L H : Int) (hL0 : 0 ≤ L) (hL : L ≤ 8) (hH : H ≤ 8) : (Rf.mps s i L H).2 ≤ i + 2200 ∨ (Rf.mps s i L H).2 < 0 := by
  have rl : ∀ k : Nat, (Rf.rep (Rf.mp s L H) k (i + 1)).2 ≤ i + 1 + 34 * (k : Int) ∨ (Rf.rep (Rf.mp s L H) k (i + 1)).2 < 0 := by
    intro k
    induction k with
    | zero => left; simp [Rf.rep]
    | succ k ih =>
      unfold Rf.rep
      split
      · right; simp
      · split
        · right; simp
        · rename_i h1 h2
          have := (mp_step (s := s) (L := L) (H := H) (i := (Rf.rep (Rf.mp s L H) k (i + 1)).2) (by omega) hH hL hL0).1
          left
          simp only
          omega
  unfold Rf.mps
  split
  · right; simp
  · have hb := Rf.cnt_bd s i 0 64 (by omega)
    have := rl (Rf.cnt s i 0 64).toNat
    omega
theorem mth_le (s : List UInt8) (i : Int) : (Rf.mth s i).2 ≤ (s.length : Int) + 2200 := by
  unfold Rf.mth
  simp only
  split
  · simp only; omega
  split
  · simp only; omega
  split
  · simp only; omega
  split
  · simp only; omega
  split
  · simp only; omega
  split
  · simp only; omega
  simp only
  generalize hj : i + 3 + 2 * Rf.cnt s (i + 2) 0 4 = j at *
  have h1 := Rf.cnt_bd s (j + 2) 0 8 (by omega)
  have h2 := Rf.cnt_bd s (j + 3) 0 8 (by omega)
  have h3 := Rf.hnds_le s (j + 5 + Rf.cnt s (j + 4) 1 120)
  have := mps_le s (Rf.hnds s (j + 5 + Rf.cnt s (j + 4) 1 120)).2 (Rf.cnt s (j + 2) 0 8) (Rf.cnt s (j + 3) 0 8) (by omega) h1.2 h2.2
  omega
theorem cls_le (s : List UInt8) (i : Int) : (Rf.cls s i).2 ≤ i + 10 ∨ (Rf.cls s i).2 < 0 := by
  unfold Rf.cls
  split
  · right; simp
  · have := Rf.cnt_bd s (i + 1) 0 4 (by omega)
    left
    simp only
    omega

/-- what Read gives -/
def RReadPost (s : List UInt8) (w : World) (e : Ending) (w' : World) : Prop :=
  ∃ a1 n1 c1 a2 n2 c2, e = .returned (.tuple #[.agg #[.slice a1 n1 c1, .slice a2 n2 c2], .bool ((Rf.fil s).2.2 == (s.length : Int))]) ∧
    ((Rf.fil s).2.2 = (s.length : Int) → ∃ l1 l2, l1.map Prod.fst = Rf.given ++ (Rf.fil s).1 ∧ RClssIn w' w.heap.size (.slice a1 n1 c1) l1 ∧ l2.map Prod.fst = (Rf.fil s).2.1 ∧ RMthsIn w' w.heap.size (.slice a2 n2 c2) l2) ∧ Below w.heap.size w w'

set_option maxRecDepth 100000 in
set_option maxHeartbeats 4000000 in
theorem rread_no (s : ByteArray) (w : World) (x y n : Int) (hs : s.size ≤ maxLen) (HX : Hid (Rf.at' s.data.toList 0 = x)) (HY : Hid (Rf.at' s.data.toList 1 = y)) (HN : Hid (Rf.cnt s.data.toList 2 0 6 = n)) (h : (x != 83) = true ∨ ((x != 83) = false ∧ (y != 77) = true) ∨ ((x != 83) = false ∧ (y != 77) = false ∧ n < 0)) :
    Calls Tryz.prog 20 #[.string s] w fun e w' => ∃ a1 n1 c1 a2 n2 c2, e = .returned (.tuple #[.agg #[.slice a1 n1 c1, .slice a2 n2 c2], .bool false]) ∧ Below w.heap.size w w' := by
  rcases h with h1 | ⟨h1, h2⟩ | ⟨h1, h2, h3⟩
  all_goals
    go_enter Tryz.func20, Tryz.ntmps20
    go_wp2_with fail
    refine (given_any _).mono ?_
    rintro e w1 ⟨ga, gc, rfl, hg, hb1⟩
    have C1 := stay hb1 (alloc_blk w _)
    have hB1 := ((Below.refl w.heap.size w).alloc (Nat.le_refl _) _).trans (hb1.mono (by simp))
    have lt1 := lt_of_block C1
    have z0 := blk_cell C1 0
    have z1 := blk_cell C1 1
    have g0 := blk_free C1 0
    have g1 := blk_free C1 1
    simp at z0 z1
    have s1 := hB1.size
    go_wp2_with fail
    refine (rat_any s 0 _ hs).mono ?_
    rw [unhide HX]
    rintro e w0 ⟨rfl, rfl⟩
    go_wp2_with fail
    refine (rat_any s 1 _ hs).mono ?_
    rw [unhide HY]
    rintro e w0 ⟨rfl, rfl⟩
    go_wp2_with fail
    refine (rcount_any s 2 0 6 _ hs).mono ?_
    rw [unhide HN]
    rintro e w0 ⟨rfl, rfl⟩
    go_wp2_with fail
    refine bodyPost_ret (v := .tuple #[.agg #[.slice ga 7 gc, .slice none 0 0], .bool false]) (by simp [results, Tryz.results20, go_sem, z0, z1, lt1]) rfl ?_
    exact ⟨_, _, _, _, _, _, rfl, by repeat (first | refine Below.alloc ?_ (by simp; omega) _ | refine Below.setCell ?_ (by simp) _ | exact hB1)⟩
end Go.Proofs.YteffpdofcgbokaaGreat
