/-
  The walks over the law's own functions: ordered, plays (of Fits and Join).
-/
import Derived.Test.YteffpdofcgbokaaGreatRCalls2
import Derived.Test.YteffpdofcgbokaaGreatLUp
namespace Go.Proofs.YteffpdofcgbokaaGreat
open Go.RowKit

set_option maxRecDepth 100000 in
set_option maxHeartbeats 4000000 in
theorem ordered_any (o : OpD) (w : World) (hs : o.file.size ≤ maxLen) :
    Calls Tryz.prog 34 #[o.val] w fun e w' => e = .returned (.bool true) ∧ Below w.heap.size w w' := by
  obtain ⟨kind, s, k, n, k', n', entry, heap, depth, fuel, ia, il, ic⟩ := o
  simp only [OpD.val] at hs ⊢
  have hF := fun w => Fits_any s k n k' n' w hs
  have hJ := fun w => Join_any s k n k' n' w hs
  have hF2 := fun w => rFits_any s k n k' n' w hs
  have hJ2 := fun w => rJoin_any s k n k' n' w hs
  generalize Tr.fitsR (Rd.read s.data.toList) (k, n) (k', n') = R at *
  generalize Tr.rtErr (Rd.read s.data.toList) (k, n) (k', n') = E at *
  generalize Tr.joinR (Rd.read s.data.toList) (k, n) (k', n') = J at *
  obtain ⟨j1, j2⟩ := J
  simp only at hJ hJ2
  have HF := hide hF
  have HJ := hide hJ
  have HF2 := hide hF2
  have HJ2 := hide hJ2
  clear hF hJ hF2 hJ2
  have C0 := alloc_blk w (.cells #[.int .i64 kind, .string s, .int .i64 k, .int .i64 n, .int .i64 k', .int .i64 n', .int .i64 entry, .int .i64 heap, .int .i64 depth, .int .i64 fuel, .slice ia il ic] 60)
  have hB0 : Below w.heap.size w (w.alloc (.cells #[.int .i64 kind, .string s, .int .i64 k, .int .i64 n, .int .i64 k', .int .i64 n', .int .i64 entry, .int .i64 heap, .int .i64 depth, .int .i64 fuel, .slice ia il ic] 60)) := (Below.refl _ _).alloc (Nat.le_refl _) _
  by_cases h3 : kind = 3
  · subst h3
    go_enter Tryz.func34, Tryz.ntmps34
    go_wp2_with fail
    refine (unhide HF _).mono ?_
    rintro e w1 ⟨rfl, hb1⟩
    have hB1 := hB0.trans (hb1.mono (by simp))
    have C1 := stay hb1 C0
    have x1 := blk_cell C1 1
    have x2 := blk_cell C1 2
    have x3 := blk_cell C1 3
    have x4 := blk_cell C1 4
    have x5 := blk_cell C1 5
    have l1 := lt_of_block C1
    simp at x1 x2 x3 x4 x5
    clear C0 hB0
    go_wp2_with fail
    refine (unhide HF2 _).mono ?_
    rintro e w2 ⟨rfl, hb2⟩
    go_wp2
    go_ret
    exact ⟨by simp, hB1.trans (hb2.mono hB1.size)⟩
  · have h3' : (kind == 3) = false := by simp [h3]
    clear h3
    go_enter Tryz.func34, Tryz.ntmps34
    go_wp2_with fail
    refine (unhide HJ _).mono ?_
    rintro e w1 ⟨rfl, hb1⟩
    have hB1 := hB0.trans (hb1.mono (by simp))
    have C1 := stay1 (stay hb1 C0) (.cells #[.int .i64 j1, .int .i64 j2] 48)
    have C2 := alloc_blk w1 (.cells #[.int .i64 j1, .int .i64 j2] 48)
    have x1 := blk_cell C1 1
    have x2 := blk_cell C1 2
    have x3 := blk_cell C1 3
    have x4 := blk_cell C1 4
    have x5 := blk_cell C1 5
    have l1 := lt_of_block C1
    have hs1 := hB1.size
    simp at x1 x2 x3 x4 x5 l1
    clear C0 hB0
    go_wp2_with fail
    refine (unhide HJ2 _).mono ?_
    rintro e w2 ⟨rfl, hb2⟩
    have hB2 := (hB1.alloc hs1 _).trans (hb2.mono (by simp; omega))
    have C3 := stay1 (stay hb2 C2) (.cells #[.int .i64 j1, .int .i64 j2] 48)
    have y0 := blk_cell C3 0
    have y1 := blk_cell C3 1
    have l2 := lt_of_block C3
    have hs2 := hB2.size
    simp at y0 y1 l2
    clear x1 x2 x3 x4 x5
    go_wp2
    go_ret
    exact ⟨by simp, hB2.alloc hs2 _⟩

set_option maxRecDepth 100000 in
set_option maxHeartbeats 4000000 in
theorem plays_ord (o : OpD) (p : Value) (w : World) (hs : o.file.size ≤ maxLen) (h1 : 3 ≤ o.kind) (h2 : o.kind ≤ 4) :
    Calls Tryz.prog 16 #[p, o.val] w fun e w' => e = .returned (.bool true) ∧ Below w.heap.size w w' := by
  have ho := fun w => ordered_any o w hs
  have HO := hide ho
  clear ho
  obtain ⟨kind, s, k, n, k', n', entry, heap, depth, fuel, ia, il, ic⟩ := o
  simp only [OpD.val] at hs h1 h2 HO ⊢
  have hk : kind = 3 ∨ kind = 4 := by omega
  clear h1 h2
  rcases hk with rfl | rfl
  all_goals
    go_enter Tryz.func16, Tryz.ntmps16
    go_wp2_with fail
    refine (unhide HO _).mono ?_
    rintro e w1 ⟨rfl, hb1⟩
    go_wp2
    go_ret
    exact ⟨rfl, ((Below.refl _ _).alloc (Nat.le_refl _) _).trans (hb1.mono (by simp))⟩
end Go.Proofs.YteffpdofcgbokaaGreat
