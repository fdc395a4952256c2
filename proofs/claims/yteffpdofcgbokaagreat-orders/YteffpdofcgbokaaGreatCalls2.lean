/-
  The walks over stackmap.Fits and stackmap.Join.
-/
import Derived.Test.YteffpdofcgbokaaGreatRTree
namespace Go.Proofs.YteffpdofcgbokaaGreat
open Go.RowKit

/-- what Fits answers, what Join answers -/
def Tr.fitsR (f : Rd.Fil × Int) (a b : Int × Int) : Bool := if Tr.rtErr f a b = 0 then Tr.fitsB (Tr.tree f.1.classes) a.1 a.2 b.1 b.2 else false
def Tr.joinR (f : Rd.Fil × Int) (a b : Int × Int) : Int × Int := if Tr.rtErr f a b = 0 then Tr.joinT (Tr.tree f.1.classes) a b else (0, 0)

theorem tree_small (s : List UInt8) : (Tr.tree (Rd.read s).1.classes).length ≤ 1000 := by
  have := (read_bd s).1
  rw [tree_len]
  omega

set_option maxRecDepth 100000 in
set_option maxHeartbeats 2000000 in
theorem Fits_any (s : ByteArray) (k n k' n' : Int) (w : World) (hs : s.size ≤ maxLen) :
    Calls Tryz.prog 55 #[.string s, .agg #[.int .i64 k, .int .i64 n], .agg #[.int .i64 k', .int .i64 n']] w fun e w' =>
      e = .returned (.tuple #[.bool (Tr.fitsR (Rd.read s.data.toList) (k, n) (k', n')), .int .i64 (Tr.rtErr (Rd.read s.data.toList) (k, n) (k', n'))]) ∧ Below w.heap.size w w' := by
  have hsm := tree_small s.data.toList
  have hrt := fun w => readTree_any s k n k' n' w hs
  have HRT := hide hrt
  clear hrt
  unfold Tr.fitsR
  dsimp only
  generalize Rd.read s.data.toList = q at *
  generalize Tr.tree q.1.classes = T at *
  generalize hr : Tr.rtErr q (k, n) (k', n') = r at *
  clear hr
  by_cases h0 : r = 0
  · rw [if_pos h0]
    have h0' : (r != 0) = false := by simp [h0]
    have H0 := hide h0
    clear h0
    go_enter Tryz.func55, Tryz.ntmps55
    go_wp2_with fail
    refine (unhide HRT _).mono ?_
    rintro e w1 ⟨a, m, c, ya, yn, yc, rfl, hok, hb1⟩
    obtain ⟨g, rfl, rfl, hT⟩ := hok (unhide H0)
    have hB1 := (below2 w _ _).trans (hb1.mono (by simp; omega))
    have C0 := stay hb1 (alloc1_blk w _ _)
    have C1 := stay hb1 (alloc2_blk w _ _)
    have t0 := blk_cell C0 0
    have t1 := blk_cell C0 1
    have u0 := blk_cell C1 0
    have u1 := blk_cell C1 1
    have l0 := lt_of_block C0
    have l1 := lt_of_block C1
    simp at t0 t1 u0 u1
    have hs1 := hB1.size
    clear hok
    go_wp2_with fail
    refine (tfits_any T g c k n k' n' _ hsm (hT.alloc _)).mono ?_
    rintro e w2 ⟨rfl, hb2⟩
    go_wp2
    go_ret2
    exact ⟨by rw [unhide H0]; rfl, (hB1.alloc hs1 _).trans (hb2.mono (by simp; omega))⟩
  · rw [if_neg h0]
    have h0' : (r != 0) = true := by simp [h0]
    have H0 := hide h0
    clear h0
    go_enter Tryz.func55, Tryz.ntmps55
    go_wp2_with fail
    refine (unhide HRT _).mono ?_
    rintro e w1 ⟨a, m, c, ya, yn, yc, rfl, hok, hb1⟩
    have hB1 := (below2 w _ _).trans (hb1.mono (by simp; omega))
    clear hok
    go_wp2
    go_ret2
    exact ⟨rfl, hB1.alloc hB1.size _⟩

set_option maxRecDepth 100000 in
set_option maxHeartbeats 2000000 in
theorem Join_any (s : ByteArray) (k n k' n' : Int) (w : World) (hs : s.size ≤ maxLen) :
    Calls Tryz.prog 57 #[.string s, .agg #[.int .i64 k, .int .i64 n], .agg #[.int .i64 k', .int .i64 n']] w fun e w' =>
      e = .returned (.tuple #[.agg #[.int .i64 (Tr.joinR (Rd.read s.data.toList) (k, n) (k', n')).1, .int .i64 (Tr.joinR (Rd.read s.data.toList) (k, n) (k', n')).2], .int .i64 (Tr.rtErr (Rd.read s.data.toList) (k, n) (k', n'))]) ∧ Below w.heap.size w w' := by
  have hsm := tree_small s.data.toList
  have hrt := fun w => readTree_any s k n k' n' w hs
  have HRT := hide hrt
  clear hrt
  unfold Tr.joinR
  generalize Rd.read s.data.toList = q at *
  generalize Tr.tree q.1.classes = T at *
  generalize hr : Tr.rtErr q (k, n) (k', n') = r at *
  clear hr
  by_cases h0 : r = 0
  · rw [if_pos h0]
    generalize hj : Tr.joinT T (k, n) (k', n') = j
    have HJ := hide hj
    clear hj
    have h0' : (r != 0) = false := by simp [h0]
    have H0 := hide h0
    clear h0
    go_enter Tryz.func57, Tryz.ntmps57
    go_wp2_with fail
    refine (unhide HRT _).mono ?_
    rintro e w1 ⟨a, m, c, ya, yn, yc, rfl, hok, hb1⟩
    obtain ⟨g, rfl, rfl, hT⟩ := hok (unhide H0)
    have hB1 := (below3 w _ _ _).trans (hb1.mono (by simp; omega))
    have C0 := stay hb1 (blks3 w _ _ _).1
    have C1 := stay hb1 (blks3 w _ _ _).2.1
    have C2 := stay hb1 (blks3 w _ _ _).2.2
    have t0 := blk_cell C0 0
    have t1 := blk_cell C0 1
    have u0 := blk_cell C1 0
    have u1 := blk_cell C1 1
    have l0 := lt_of_block C0
    have l1 := lt_of_block C1
    simp at t0 t1 u0 u1
    have hs1 := hB1.size
    clear hok
    go_wp2_with fail
    refine (tjoin_any T g c k n k' n' _ hsm (hT.alloc _)).mono ?_
    rw [unhide HJ]
    rintro e w2 ⟨rfl, hb2⟩
    have D2 := stay hb2 (stay1 C2 _)
    have r0 := blk_cell D2 0
    have r1 := blk_cell D2 1
    have f0 := blk_free D2 0
    have f1 := blk_free D2 1
    simp at r0 r1
    have hB2 := (hB1.alloc hs1 _).trans (hb2.mono (by simp; omega))
    go_wp2_with fail
    refine bodyPost_ret (v := .tuple #[.agg #[.int .i64 j.1, .int .i64 j.2], .int .i64 0]) (by simp [results, Tryz.results57, go_sem, r0, r1]) rfl ?_
    exact ⟨by rw [unhide H0], (hB2.setCell (by simp; omega) _).setCell (by simp; omega) _⟩
  · rw [if_neg h0]
    have h0' : (r != 0) = true := by simp [h0]
    have H0 := hide h0
    clear h0
    go_enter Tryz.func57, Tryz.ntmps57
    go_wp2_with fail
    refine (unhide HRT _).mono ?_
    rintro e w1 ⟨a, m, c, ya, yn, yc, rfl, hok, hb1⟩
    have hB1 := (below3 w _ _ _).trans (hb1.mono (by simp; omega))
    have C2 := stay hb1 (blks3 w _ _ _).2.2
    have r0 := blk_cell C2 0
    have r1 := blk_cell C2 1
    have f0 := blk_free C2 0
    have f1 := blk_free C2 1
    have l2 := lt_of_block C2
    simp at r0 r1
    clear hok
    have hs1 := hB1.size
    go_wp2_with fail
    refine bodyPost_ret (v := .tuple #[.agg #[.int .i64 0, .int .i64 0], .int .i64 r]) (by simp [results, Tryz.results57, go_sem, r0, r1, l2]) rfl ?_
    exact ⟨rfl, by repeat (first | exact hB1 | refine Below.alloc ?_ (by simp; omega) _ | refine Below.setCell ?_ (by simp; omega) _)⟩
end Go.Proofs.YteffpdofcgbokaaGreat
