/-
  The walks over the statements' own fits and join.
-/
import Derived.Test.YtpgklckplchhgaaCalls2
namespace Go.Proofs.Ytpgklckplchhgaa
open Go.RowKit

set_option maxRecDepth 100000 in
set_option maxHeartbeats 2000000 in
theorem kfits_any (s : ByteArray) (k n k' n' : Int) (w : World) (hs : s.size ≤ maxLen) :
    Calls Try.prog 8 #[.string s, .agg #[.int .i64 k, .int .i64 n], .agg #[.int .i64 k', .int .i64 n']] w fun e w' =>
      e = .returned (.bool (Tr.fitsR (Rd.read s.data.toList) (k, n) (k', n'))) ∧ Below w.heap.size w w' := by
  have hrt := fun w => Fits_any s k n k' n' w hs
  have HRT := hide hrt
  clear hrt
  have himp : Tr.fitsR (Rd.read s.data.toList) (k, n) (k', n') = true → Tr.rtErr (Rd.read s.data.toList) (k, n) (k', n') = 0 := by
    unfold Tr.fitsR
    split
    · intro _; assumption
    · simp
  generalize Tr.rtErr (Rd.read s.data.toList) (k, n) (k', n') = r at *
  generalize Tr.fitsR (Rd.read s.data.toList) (k, n) (k', n') = f at *
  cases f with
  | true =>
    have h0 := himp rfl
    clear himp
    subst h0
    go_enter Try.func8, Try.ntmps8
    go_wp2_with fail
    refine (unhide HRT _).mono ?_
    rintro e w1 ⟨rfl, hb1⟩
    go_wp2
    go_ret
    exact ⟨rfl, (below2 w _ _).trans (hb1.mono (by simp; omega))⟩
  | false =>
    clear himp
    go_enter Try.func8, Try.ntmps8
    go_wp2_with fail
    refine (unhide HRT _).mono ?_
    rintro e w1 ⟨rfl, hb1⟩
    go_wp2
    go_ret
    exact ⟨rfl, (below2 w _ _).trans (hb1.mono (by simp; omega))⟩

set_option maxRecDepth 100000 in
set_option maxHeartbeats 2000000 in
theorem kjoin_any (s : ByteArray) (k n k' n' : Int) (w : World) (hs : s.size ≤ maxLen) :
    Calls Try.prog 11 #[.string s, .agg #[.int .i64 k, .int .i64 n], .agg #[.int .i64 k', .int .i64 n']] w fun e w' =>
      e = .returned (.tuple #[.agg #[.int .i64 (Tr.joinR (Rd.read s.data.toList) (k, n) (k', n')).1, .int .i64 (Tr.joinR (Rd.read s.data.toList) (k, n) (k', n')).2], .bool (Tr.rtErr (Rd.read s.data.toList) (k, n) (k', n') == 0)]) ∧ Below w.heap.size w w' := by
  have hrt := fun w => Join_any s k n k' n' w hs
  have HRT := hide hrt
  clear hrt
  generalize Tr.rtErr (Rd.read s.data.toList) (k, n) (k', n') = r at *
  generalize Tr.joinR (Rd.read s.data.toList) (k, n) (k', n') = j at *
  go_enter Try.func11, Try.ntmps11
  go_wp2_with fail
  refine (unhide HRT _).mono ?_
  rintro e w1 ⟨rfl, hb1⟩
  have hB1 := (below3 w _ _ _).trans (hb1.mono (by simp; omega))
  have C2 := stay hb1 (blks3 w _ _ _).2.2
  have r0 := blk_cell C2 0
  have r1 := blk_cell C2 1
  have f0 := blk_free C2 0
  have f1 := blk_free C2 1
  have l2 := lt_of_block C2
  simp at r0 r1
  have hs1 := hB1.size
  go_wp2_with fail
  refine bodyPost_ret (v := .tuple #[.agg #[.int .i64 j.1, .int .i64 j.2], .bool (r == 0)]) (by simp [results, Try.results11, go_sem, r0, r1, l2]) rfl ?_
  exact ⟨rfl, by repeat (first | exact hB1 | refine Below.alloc ?_ (by simp; omega) _ | refine Below.setCell ?_ (by simp; omega) _)⟩
end Go.Proofs.Ytpgklckplchhgaa
