/-
  readMethod of the document's reader, by one contract.
-/
import Derived.Test.YteffpdofcgbokaaGreatRMethod2
namespace Go.Proofs.YteffpdofcgbokaaGreat
open Go.RowKit

/-- what readMethod gives: a method's twelve cells and the place; where there is one, the document's -/
def RMthPost (s : List UInt8) (i : Int) (w : World) (e : Ending) (w' : World) : Prop :=
  ∃ x0 x1 a2 n2 c2 x3 x4 x5 x6 sb a8 n8 c8 a9 n9 c9 x10 x11, e = .returned (.tuple #[.agg #[.int .i64 x0, .int .i64 x1, .slice a2 n2 c2, .int .i64 x3, .int .i64 x4, .int .i64 x5, .int .i64 x6, .string sb, .slice a8 n8 c8, .slice a9 n9 c9, .int .i64 x10, .int .i64 x11], .int .i64 (Rf.mth s i).2]) ∧
        (0 ≤ (Rf.mth s i).2 → [.int .i64 x0, .int .i64 x1, .slice a2 n2 c2, .int .i64 x3, .int .i64 x4, .int .i64 x5, .int .i64 x6, .string sb, .slice a8 n8 c8, .slice a9 n9 c9, .int .i64 x10, .int .i64 x11] = rmthCells (Rf.mth s i).1 ⟨.slice a2 n2 c2, sb, .slice a8 n8 c8, .slice a9 n9 c9⟩ ∧
          RMthIn w' w.heap.size (Rf.mth s i).1 ⟨.slice a2 n2 c2, sb, .slice a8 n8 c8, .slice a9 n9 c9⟩) ∧ Below w.heap.size w w'

theorem rmth_any (s : ByteArray) (i : Int) (w : World) (hs : s.size ≤ 15000) (hi0 : 0 ≤ i) (hi1 : i ≤ 50000) :
    Calls Tryz.prog 48 #[.string s, .int .i64 i] w fun e w' => RMthPost s.data.toList i w e w' := by
  have hsm : s.size ≤ maxLen := by unfold maxLen; omega
  have hlen : s.data.toList.length = s.size := by simp
  have fail : (Rf.mth s.data.toList i).2 = -1 → (Calls Tryz.prog 48 #[.string s, .int .i64 i] w fun e w' =>
      ∃ x0 x1 a2 n2 c2 x3 x4 x5 x6 sb a8 n8 c8 a9 n9 c9 x10 x11, e = .returned (.tuple #[.agg #[.int .i64 x0, .int .i64 x1, .slice a2 n2 c2, .int .i64 x3, .int .i64 x4, .int .i64 x5, .int .i64 x6, .string sb, .slice a8 n8 c8, .slice a9 n9 c9, .int .i64 x10, .int .i64 x11], .int .i64 (-1)]) ∧ Below w.heap.size w w') → Calls Tryz.prog 48 #[.string s, .int .i64 i] w fun e w' => RMthPost s.data.toList i w e w' := by
    intro hm hc
    refine hc.mono ?_
    rintro e w' ⟨x0, x1, a2, n2, c2, x3, x4, x5, x6, sb, a8, n8, c8, a9, n9, c9, x10, x11, rfl, hb⟩
    refine ⟨x0, x1, a2, n2, c2, x3, x4, x5, x6, sb, a8, n8, c8, a9, n9, c9, x10, x11, by rw [hm], fun h => ?_, hb⟩
    rw [hm] at h
    exact absurd h (by decide)
  have hpb := Rf.cnt_bd s.data.toList (i + 2) 0 4 (by omega)
  by_cases hp : Rf.cnt s.data.toList (i + 2) 0 4 < 0
  · refine fail ?_ (rmth_no1 s i _ w hsm hi0 hi1 (hide rfl) hp)
    unfold Rf.mth
    simp only
    rw [if_pos hp]
  generalize hpe : Rf.cnt s.data.toList (i + 2) 0 4 = p at *
  have hlb := Rf.cnt_bd s.data.toList (i + 3 + 2 * p + 2) 0 8 (by omega)
  have hhb := Rf.cnt_bd s.data.toList (i + 3 + 2 * p + 3) 0 8 (by omega)
  have hnb := Rf.cnt_bd s.data.toList (i + 3 + 2 * p + 4) 1 120 (by omega)
  by_cases hl : Rf.cnt s.data.toList (i + 3 + 2 * p + 2) 0 8 < 0
  · refine fail ?_ (rmth_no2 s i p _ _ _ w hsm hi0 hi1 (hide hpe) (hide rfl) (hide rfl) (hide rfl) (by omega) (by omega) hl)
    unfold Rf.mth
    simp only
    rw [hpe, if_neg hp, if_pos hl]
  by_cases hh : Rf.cnt s.data.toList (i + 3 + 2 * p + 3) 0 8 < 0
  · refine fail ?_ (rmth_no3 s i p _ _ _ w hsm hi0 hi1 (hide hpe) (hide rfl) (hide rfl) (hide rfl) (by omega) (by omega) (by omega) hh)
    unfold Rf.mth
    simp only
    rw [hpe, if_neg hp, if_neg hl, if_pos hh]
  by_cases hn : Rf.cnt s.data.toList (i + 3 + 2 * p + 4) 1 120 < 0
  · refine fail ?_ (rmth_no4 s i p _ _ _ w hsm hi0 hi1 (hide hpe) (hide rfl) (hide rfl) (hide rfl) (by omega) (by omega) (by omega) (by omega) hn)
    unfold Rf.mth
    simp only
    rw [hpe, if_neg hp, if_neg hl, if_neg hh, if_pos hn]
  by_cases hfit : (s.size : Int) < i + 3 + 2 * p + 5 + Rf.cnt s.data.toList (i + 3 + 2 * p + 4) 1 120
  · refine fail ?_ (rmth_no5 s i p _ _ _ w hsm hi0 hi1 (hide hpe) (hide rfl) (hide rfl) (hide rfl) (by omega) (by omega) (by omega) (by omega) (by omega) (by omega) hfit)
    unfold Rf.mth
    simp only
    rw [hpe, if_neg hp, if_neg hl, if_neg hh, if_neg hn, hlen, if_pos hfit]
  obtain ⟨j, hj⟩ := Int.eq_ofNat_of_zero_le (show 0 ≤ i + 3 + 2 * p by omega)
  obtain ⟨n, hne⟩ := Int.eq_ofNat_of_zero_le (show 0 ≤ Rf.cnt s.data.toList (i + 3 + 2 * p + 4) 1 120 by omega)
  have hle := Rf.hnds_le s.data.toList ((j : Int) + 5 + (n : Int))
  have hnle : n ≤ 120 := by omega
  have hfit' : j + 5 + n ≤ s.size := by omega
  rw [hj] at hl hh hn hne hlb hhb hnb hfit
  by_cases hq : (Rf.hnds s.data.toList ((j : Int) + 5 + (n : Int))).2 < 0
  · refine fail ?_ (rmth_no6 s i p _ _ j n _ w hsm hi0 hi1 (hide hpe) hj (hide rfl) (hide rfl) (hide hne) (by omega) (by omega) (by omega) (by omega) (by omega) (by omega) hnle hfit' (hide rfl) hq)
    unfold Rf.mth
    simp only
    rw [hpe, hj, if_neg hp, if_neg hl, if_neg hh, if_neg hn, hlen, if_neg hfit, hne, if_pos hq]
  have hx : Rf.mth s.data.toList i = (⟨⟨Rf.at' s.data.toList i, Rf.at' s.data.toList (i + 1), Rf.tys s.data.toList (i + 3) p.toNat, (Rf.at' s.data.toList (j : Int), Rf.at' s.data.toList ((j : Int) + 1)), Rf.cnt s.data.toList ((j : Int) + 2) 0 8, Rf.cnt s.data.toList ((j : Int) + 3) 0 8, Rf.codeTo s.data.toList ((j : Int) + 5) n, (Rf.hnds s.data.toList ((j : Int) + 5 + (n : Int))).1,
      (Rf.mps s.data.toList (Rf.hnds s.data.toList ((j : Int) + 5 + (n : Int))).2 (Rf.cnt s.data.toList ((j : Int) + 2) 0 8) (Rf.cnt s.data.toList ((j : Int) + 3) 0 8)).1⟩, (Rf.hnds s.data.toList ((j : Int) + 5 + (n : Int))).2, (Rf.mps s.data.toList (Rf.hnds s.data.toList ((j : Int) + 5 + (n : Int))).2 (Rf.cnt s.data.toList ((j : Int) + 2) 0 8) (Rf.cnt s.data.toList ((j : Int) + 3) 0 8)).2⟩,
      (Rf.mps s.data.toList (Rf.hnds s.data.toList ((j : Int) + 5 + (n : Int))).2 (Rf.cnt s.data.toList ((j : Int) + 2) 0 8) (Rf.cnt s.data.toList ((j : Int) + 3) 0 8)).2) := by
    unfold Rf.mth
    simp only
    rw [hpe, hj, if_neg hp, if_neg hl, if_neg hh, if_neg hn, hlen, if_neg hfit, hne, if_neg hq]
    rfl
  unfold RMthPost
  rw [hx]
  refine (rmth_yes s i p _ _ _ _ _ _ _ j n _ _ w hsm hi0 hi1 (hide hpe) hj (hide rfl) (hide rfl) (hide hne) (by omega) (by omega) (by omega) (by omega) (by omega) (by omega) hnle hfit' (hide rfl) (by omega) (by omega) (hide rfl) (hide rfl) (hide rfl) (hide rfl) (hide rfl) (hide rfl)).mono ?_
  rintro e w' ⟨a2, n2, c2, sb, a8, n8, c8, a9, n9, c9, rfl, hin, hb⟩
  exact ⟨_, _, _, _, _, _, _, _, _, _, _, _, _, _, _, _, _, _, rfl, fun _ => ⟨rfl, hin⟩, hb⟩
end Go.Proofs.YteffpdofcgbokaaGreat
