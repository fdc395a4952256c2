/-
  The walk over the document's Join: its answer is the program's.
-/
import Derived.Test.YteffpdofcgbokaaGreatRCalls
namespace Go.Proofs.YteffpdofcgbokaaGreat
open Go.RowKit

set_option maxRecDepth 100000 in
set_option maxHeartbeats 4000000 in
theorem rJoin_any (s : ByteArray) (k n k' n' : Int) (w : World) (hs : s.size ≤ maxLen) :
    Calls Tryz.prog 58 #[.string s, .agg #[.int .i64 k, .int .i64 n], .agg #[.int .i64 k', .int .i64 n']] w fun e w' =>
      e = .returned (.tuple #[.agg #[.int .i64 (Tr.joinR (Rd.read s.data.toList) (k, n) (k', n')).1, .int .i64 (Tr.joinR (Rd.read s.data.toList) (k, n) (k', n')).2], .int .i64 (Tr.rtErr (Rd.read s.data.toList) (k, n) (k', n'))]) ∧ Below w.heap.size w w' := by
  have hgs := fun l1 hl1 => given_supers l1 (Rf.fil s.data.toList).1 hl1
  have hbd := (fil_bd s.data.toList).1
  have hcd := fun w => rclassed_any s w hs
  unfold RClsdPost at hcd
  have hways := asked_ways s.data.toList (k, n) (k', n')
  dsimp only at hways
  generalize Tr.fitsR (Rd.read s.data.toList) (k, n) (k', n') = R at *
  generalize Tr.rtErr (Rd.read s.data.toList) (k, n) (k', n') = E at *
  generalize Tr.joinR (Rd.read s.data.toList) (k, n) (k', n') = J at *
  generalize Rf.classed s.data.toList = C at *
  generalize Rf.fil s.data.toList = Fi at *
  generalize hT : Tr.tree Fi.1 = T at *
  have hTl : T.length = 7 + Fi.1.length := by rw [← hT, tree_len]
  clear hT
  have HCD := hide hcd
  have HGS := hide hgs
  clear hcd hgs
  rcases hways with ⟨h0, rfl, _, rfl⟩ | ⟨h0, h1, rfl, _, rfl⟩ | ⟨h0, h1, h2, rfl, _, hR⟩
  · have h0' : (C.1 != 0) = true := by simp [h0]
    have H0 := hide h0
    clear h0
    go_enter Tryz.func58, Tryz.ntmps58
    go_wp2_with fail
    refine (unhide HCD _).mono ?_
    rintro e w1 ⟨a1, n1, c1, a2, n2, c2, rfl, hok, hb1⟩
    have hB1 := (below3 w _ _ _).trans (hb1.mono (by simp; omega))
    have R0 := stay1 (stay hb1 (blks3 w _ _ _).2.2) (.cells #[.slice a1 n1 c1, .slice a2 n2 c2] 28)
    have r0 := blk_cell R0 0
    have r1 := blk_cell R0 1
    have f0 := blk_free R0 0
    have f1 := blk_free R0 1
    have lr := lt_of_block R0
    have hs1 := hB1.size
    simp at r0 r1 lr
    clear hok
    go_wp2_with fail
    refine bodyPost_ret (v := .tuple #[.agg #[.int .i64 0, .int .i64 0], .int .i64 C.1]) (by simp [results, Tryz.results58, go_sem, r0, r1]) rfl ?_
    exact ⟨rfl, by repeat (first | exact hB1 | refine Below.alloc ?_ (by first | omega | (simp; omega)) _ | refine Below.setCell ?_ (by simp; omega) _)⟩
  · have h0' : (C.1 != 0) = false := by simp [h0]
    generalize hx : Tr.argB T k n = x at *
    generalize hy : Tr.argB T k' n' = y at *
    have HX := hide hx
    have HY := hide hy
    have H0 := hide h0
    have H1 := hide h1
    clear hx hy h0 h1
    go_enter Tryz.func58, Tryz.ntmps58
    go_wp2_with fail
    refine (unhide HCD _).mono ?_
    rintro e w1 ⟨a1, n1, c1, a2, n2, c2, rfl, hok, hb1⟩
    obtain ⟨l1, l2, hl1, hc1, hl2, hc2⟩ := hok (unhide H0)
    obtain ⟨xa, xc, hsh⟩ := own_shape hc1.1
    simp only [Value.slice.injEq] at hsh
    obtain ⟨rfl, rfl, rfl⟩ := hsh
    obtain ⟨hg1, _, hg3⟩ := unhide HGS l1 hl1
    have hll : T.length = l1.length := by omega
    have hB1 := (below3 w _ _ _).trans (hb1.mono (by simp; omega))
    have C0 := stay1 (stay hb1 (blks3 w _ _ _).1) (.cells #[.slice a1 l1.length c1, .slice a2 n2 c2] 28)
    have C1 := stay1 (stay hb1 (blks3 w _ _ _).2.1) (.cells #[.slice a1 l1.length c1, .slice a2 n2 c2] 28)
    have CR := stay1 (stay hb1 (blks3 w _ _ _).2.2) (.cells #[.slice a1 l1.length c1, .slice a2 n2 c2] 28)
    have C2 := alloc_blk w1 (.cells #[.slice a1 l1.length c1, .slice a2 n2 c2] 28)
    have t0 := blk_cell C0 0
    have t1 := blk_cell C0 1
    have l0 := lt_of_block C0
    simp at t0 t1 l0
    have hs1 := hB1.size
    clear hok hl1 hl2 hc1 hc2 hg1 hg3
    go_wp2_with fail
    refine (show Calls Tryz.prog _ _ _ _ from by have := rasked_any T a1 a2 c1 n2 c2 k n (w1.alloc (.cells #[.slice a1 l1.length c1, .slice a2 n2 c2] 28)); rw [hll] at this; exact this).mono ?_
    rw [unhide HX]
    rintro e w2 ⟨rfl, hb2⟩
    have hB2 := (hB1.alloc hs1 _).trans (hb2.mono (by simp; omega))
    have u0 := blk_cell (stay hb2 C1) 0
    have u1 := blk_cell (stay hb2 C1) 1
    have v0 := blk_cell (stay hb2 C2) 0
    have v1 := blk_cell (stay hb2 C2) 1
    have l1' := lt_of_block (stay hb2 C1)
    have l2' := lt_of_block (stay hb2 C2)
    simp at u0 u1 v0 v1
    clear t0 t1 l0
    go_wp2_with fail
    refine (show Calls Tryz.prog _ _ _ _ from by have := rasked_any T a1 a2 c1 n2 c2 k' n' w2; rw [hll] at this; exact this).mono ?_
    rw [unhide HY]
    rintro e w3 ⟨rfl, hb3⟩
    have hB3 := hB2.trans (hb3.mono hB2.size)
    have R0 := stay hb3 (stay hb2 CR)
    have r0 := blk_cell R0 0
    have r1 := blk_cell R0 1
    have f0 := blk_free R0 0
    have f1 := blk_free R0 1
    have lr := lt_of_block R0
    simp at r0 r1
    clear hb3 hb2 hb1 u0 u1 v0 v1
    cases x with
    | false =>
      go_wp2_with fail
      refine bodyPost_ret (v := .tuple #[.agg #[.int .i64 0, .int .i64 0], .int .i64 13]) (by simp [results, Tryz.results58, go_sem, r0, r1]) rfl ?_
      exact ⟨rfl, (hB3.setCell (by simp; omega) _).setCell (by simp; omega) _⟩
    | true =>
      obtain rfl : y = false := by simpa using unhide H1
      go_wp2_with fail
      refine bodyPost_ret (v := .tuple #[.agg #[.int .i64 0, .int .i64 0], .int .i64 13]) (by simp [results, Tryz.results58, go_sem, r0, r1]) rfl ?_
      exact ⟨rfl, (hB3.setCell (by simp; omega) _).setCell (by simp; omega) _⟩
  · have h0' : (C.1 != 0) = false := by simp [h0]
    have HX := hide h1
    have HY := hide h2
    have H0 := hide h0
    have HR := hide hR
    clear h1 h2 h0 hR
    go_enter Tryz.func58, Tryz.ntmps58
    go_wp2_with fail
    refine (unhide HCD _).mono ?_
    rintro e w1 ⟨a1, n1, c1, a2, n2, c2, rfl, hok, hb1⟩
    obtain ⟨l1, l2, hl1, hc1, hl2, hc2⟩ := hok (unhide H0)
    obtain ⟨xa, xc, hsh⟩ := own_shape hc1.1
    simp only [Value.slice.injEq] at hsh
    obtain ⟨rfl, rfl, rfl⟩ := hsh
    obtain ⟨hg1, _, hg3⟩ := unhide HGS l1 hl1
    have hll : T.length = l1.length := by omega
    have HL3 : Hid (l1.length ≤ 1000) := by unfold Hid; omega
    have HG1 := hide hg1
    have hB1 := (below3 w _ _ _).trans (hb1.mono (by simp; omega))
    have C0 := stay1 (stay hb1 (blks3 w _ _ _).1) (.cells #[.slice a1 l1.length c1, .slice a2 n2 c2] 28)
    have C1 := stay1 (stay hb1 (blks3 w _ _ _).2.1) (.cells #[.slice a1 l1.length c1, .slice a2 n2 c2] 28)
    have CR := stay1 (stay hb1 (blks3 w _ _ _).2.2) (.cells #[.slice a1 l1.length c1, .slice a2 n2 c2] 28)
    have C2 := alloc_blk w1 (.cells #[.slice a1 l1.length c1, .slice a2 n2 c2] 28)
    have t0 := blk_cell C0 0
    have t1 := blk_cell C0 1
    have l0 := lt_of_block C0
    simp at t0 t1 l0
    have hs1 := hB1.size
    clear hok hl1 hl2 hc2 hg1 hg3
    go_wp2_with fail
    refine (show Calls Tryz.prog _ _ _ _ from by have := rasked_any T a1 a2 c1 n2 c2 k n (w1.alloc (.cells #[.slice a1 l1.length c1, .slice a2 n2 c2] 28)); rw [hll] at this; exact this).mono ?_
    rw [unhide HX]
    rintro e w2 ⟨rfl, hb2⟩
    have hB2 := (hB1.alloc hs1 _).trans (hb2.mono (by simp; omega))
    have u0 := blk_cell (stay hb2 C1) 0
    have u1 := blk_cell (stay hb2 C1) 1
    have v0 := blk_cell (stay hb2 C2) 0
    have v1 := blk_cell (stay hb2 C2) 1
    have l1' := lt_of_block (stay hb2 C1)
    have l2' := lt_of_block (stay hb2 C2)
    simp at u0 u1 v0 v1
    clear t0 t1 l0
    go_wp2_with fail
    refine (show Calls Tryz.prog _ _ _ _ from by have := rasked_any T a1 a2 c1 n2 c2 k' n' w2; rw [hll] at this; exact this).mono ?_
    rw [unhide HY]
    rintro e w3 ⟨rfl, hb3⟩
    have hB3 := hB2.trans (hb3.mono hB2.size)
    have D0 := stay hb3 (stay hb2 C0)
    have D1 := stay hb3 (stay hb2 C1)
    have D2 := stay hb3 (stay hb2 C2)
    have R0 := stay hb3 (stay hb2 CR)
    have hc3 := ((hc1.kp (Kp.alloc (e := none) _ (.cells #[.slice a1 l1.length c1, .slice a2 n2 c2] 28)) (by decide) (by decide)).kp (Kp.of_below (e := none) hb2) (by decide) (by decide)).kp (Kp.of_below (e := none) hb3) (by decide) (by decide)
    clear hb3 hb2 hb1 u0 u1 v0 v1 hc1 C0 C1 C2 l1' l2'
    have t0 := blk_cell D0 0
    have t1 := blk_cell D0 1
    have u0 := blk_cell D1 0
    have u1 := blk_cell D1 1
    have v0 := blk_cell D2 0
    have v1 := blk_cell D2 1
    have l0 := lt_of_block D0
    have l1' := lt_of_block D1
    have l2' := lt_of_block D2
    simp at t0 t1 u0 u1 v0 v1
    go_wp2_with fail
    refine (rjoin_any a1 a2 c1 n2 c2 _ l1 k n k' n' w3 (unhide HL3) hc3).mono ?_
    rw [unhide HG1, ← unhide HR]
    rintro e w4 ⟨rfl, hb4⟩
    have R1 := stay hb4 R0
    have r0 := blk_cell R1 0
    have r1 := blk_cell R1 1
    have f0 := blk_free R1 0
    have f1 := blk_free R1 1
    have lr := lt_of_block R1
    simp at r0 r1
    have hB4 := hB3.trans (hb4.mono hB3.size)
    clear t0 t1 u0 u1 v0 v1
    go_wp2_with fail
    refine bodyPost_ret (v := .tuple #[.agg #[.int .i64 J.1, .int .i64 J.2], .int .i64 0]) (by simp [results, Tryz.results58, go_sem, r0, r1]) rfl ?_
    exact ⟨rfl, (hB4.setCell (by simp; omega) _).setCell (by simp; omega) _⟩
end Go.Proofs.YteffpdofcgbokaaGreat
