/-
  The walks over the statement Upper, one a case.
-/
import Derived.Test.YtpgklckplchhgaaOrdW
namespace Go.Proofs.Ytpgklckplchhgaa
open Go.RowKit

set_option maxRecDepth 100000 in
set_option maxHeartbeats 2000000 in
theorem upper_no1 (a : Option Addr) (len cap N : Nat) (zs : Nat → Int) (k1 n1 k2 n2 k3 n3 : Int) (w : World) (hlen : len ≤ 9223372036854775807) (hU : UpsIn w a len zs) (HN : Hid (N = min len 6)) (hN6 : N ≤ 6)
    (h : Kp1.mayB k1 n1 (7 + (N : Int)) = false) :
    Calls Try.prog 4 #[.slice a len cap, .agg #[.int .i64 k1, .int .i64 n1], .agg #[.int .i64 k2, .int .i64 n2], .agg #[.int .i64 k3, .int .i64 n3]] w fun e w' => e = .returned (.bool true) ∧ Below w.heap.size w w' := by
  have hE := E_no1 (zs := zs) hN6 (k' := k2) (n' := n2) h
  have hJ := J_no hN6 hE
  have i0 := inv_start (k1 := k1) (n1 := n1) (k2 := k2) (n2 := n2) (k3 := k3) (n3 := n3) w
  go_enter Try.func4, Try.ntmps4
  go_wp2_with (first
    | (go_at_call 5; refine (tower_inv a len cap (unhide HN) hlen hU _ (by assumption)).mono ?_; rintro e w1 ⟨s, rfl, hs, hi⟩; obtain ⟨c1, c2, c3, c4, c5, c6⟩ := hi.1.cells)
    | (go_at_call 6; refine (may_inv _ _ _ _ (by assumption)).mono ?_; rintro e w1 ⟨rfl, hi⟩; obtain ⟨c1, c2, c3, c4, c5, c6⟩ := hi.1.cells)
    | (go_at_call 10; refine (Join_inv _ (by assumption) hN6 _ _ _ _ _ (by assumption)).mono ?_; rintro e w1 ⟨rfl, hi⟩))
  go_ret
  exact ⟨rfl, ((show Inv w w.heap.size k1 n1 k2 n2 k3 n3 _ by assumption).alloc _).2⟩

set_option maxRecDepth 100000 in
set_option maxHeartbeats 2000000 in
theorem upper_no2 (a : Option Addr) (len cap N : Nat) (zs : Nat → Int) (k1 n1 k2 n2 k3 n3 : Int) (w : World) (hlen : len ≤ 9223372036854775807) (hU : UpsIn w a len zs) (HN : Hid (N = min len 6)) (hN6 : N ≤ 6)
    (_hx : Kp1.mayB k1 n1 (7 + (N : Int)) = true) (h : Kp1.mayB k2 n2 (7 + (N : Int)) = false) :
    Calls Try.prog 4 #[.slice a len cap, .agg #[.int .i64 k1, .int .i64 n1], .agg #[.int .i64 k2, .int .i64 n2], .agg #[.int .i64 k3, .int .i64 n3]] w fun e w' => e = .returned (.bool true) ∧ Below w.heap.size w w' := by
  have hE := E_no2 (zs := zs) hN6 (k := k1) (n := n1) h
  have hJ := J_no hN6 hE
  have i0 := inv_start (k1 := k1) (n1 := n1) (k2 := k2) (n2 := n2) (k3 := k3) (n3 := n3) w
  go_enter Try.func4, Try.ntmps4
  go_wp2_with (first
    | (go_at_call 5; refine (tower_inv a len cap (unhide HN) hlen hU _ (by assumption)).mono ?_; rintro e w1 ⟨s, rfl, hs, hi⟩; obtain ⟨c1, c2, c3, c4, c5, c6⟩ := hi.1.cells)
    | (go_at_call 6; refine (may_inv _ _ _ _ (by assumption)).mono ?_; rintro e w1 ⟨rfl, hi⟩; obtain ⟨c1, c2, c3, c4, c5, c6⟩ := hi.1.cells)
    | (go_at_call 10; refine (Join_inv _ (by assumption) hN6 _ _ _ _ _ (by assumption)).mono ?_; rintro e w1 ⟨rfl, hi⟩))
  go_ret
  exact ⟨rfl, ((show Inv w w.heap.size k1 n1 k2 n2 k3 n3 _ by assumption).alloc _).2⟩

set_option maxRecDepth 100000 in
set_option maxHeartbeats 2000000 in
theorem upper_0 (a : Option Addr) (len cap N : Nat) (zs : Nat → Int) (k1 n1 k2 n2 k3 n3 : Int) (w : World) (hlen : len ≤ 9223372036854775807) (hU : UpsIn w a len zs) (HN : Hid (N = min len 6)) (hN6 : N ≤ 6)
    (hx : Kp1.mayB k1 n1 (7 + (N : Int)) = true) (hy : Kp1.mayB k2 n2 (7 + (N : Int)) = true) (hE1 : Kp1.E zs N k1 n1 k2 n2 = 0) (hE2 : Kp1.E zs N k2 n2 k1 n1 = 0) (hJ2 : Kp1.J zs N k2 n2 k1 n1 = Kp1.J zs N k1 n1 k2 n2) (ho : Kp1.F zs N k1 n1 (Kp1.J zs N k1 n1 k2 n2).1 (Kp1.J zs N k1 n1 k2 n2).2 = true) (ht : Kp1.F zs N k2 n2 (Kp1.J zs N k1 n1 k2 n2).1 (Kp1.J zs N k1 n1 k2 n2).2 = true) (hz : Kp1.mayB k3 n3 (7 + (N : Int)) = false) :
    Calls Try.prog 4 #[.slice a len cap, .agg #[.int .i64 k1, .int .i64 n1], .agg #[.int .i64 k2, .int .i64 n2], .agg #[.int .i64 k3, .int .i64 n3]] w fun e w' => e = .returned (.bool true) ∧ Below w.heap.size w w' := by
  have i0 := inv_start (k1 := k1) (n1 := n1) (k2 := k2) (n2 := n2) (k3 := k3) (n3 := n3) w
  go_enter Try.func4, Try.ntmps4
  go_wp2_with (first
    | (go_at_call 5; refine (tower_inv a len cap (unhide HN) hlen hU _ (by assumption)).mono ?_; rintro e w1 ⟨s, rfl, hs, hi⟩; obtain ⟨c1, c2, c3, c4, c5, c6⟩ := hi.1.cells)
    | (go_at_call 6; refine (may_inv _ _ _ _ (by assumption)).mono ?_; rintro e w1 ⟨rfl, hi⟩; obtain ⟨c1, c2, c3, c4, c5, c6⟩ := hi.1.cells)
    | (go_at_call 10; refine (Join_inv _ (by assumption) hN6 _ _ _ _ _ (by assumption)).mono ?_; rintro e w1 ⟨rfl, hi⟩))
  refine (join_inv _ (by assumption) hN6 _ _ _ _ _ (by assumption)).mono ?_
  rintro e v1 ⟨rfl, i1, b1⟩
  obtain ⟨c1, c2, c3, c4, c5, c6⟩ := i1.1.cells
  have l1 := lt_of_block i1.1.1
  have l1' := lt_of_block i1.1.2.1
  have l1'' := lt_of_block i1.1.2.2
  go_wp2_with fail
  refine (join_inv _ (by assumption) hN6 _ _ _ _ _ (i1.alloc _)).mono ?_
  rw [hJ2]
  rintro e v2 ⟨rfl, i2, b2⟩
  have X2 := stay b2 (alloc_blk v1 _)
  obtain ⟨c1, c2, c3, c4, c5, c6⟩ := i2.1.cells
  have x0 := blk_cell X2 0
  have x1 := blk_cell X2 1
  have l2 := lt_of_block i2.1.1
  have l2' := lt_of_block i2.1.2.1
  have l2'' := lt_of_block i2.1.2.2
  have lx2 := lt_of_block X2
  simp at x0 x1
  go_wp2_with fail
  refine (fits_inv _ (by assumption) hN6 _ _ _ _ _ (i2.alloc _)).mono ?_
  rintro e v3 ⟨rfl, i3, b3⟩
  have X3 := stay b3 (stay1 X2 _)
  have Y3 := stay b3 (alloc_blk v2 _)
  clear x0 x1
  obtain ⟨c1, c2, c3, c4, c5, c6⟩ := i3.1.cells
  have x0 := blk_cell X3 0
  have x1 := blk_cell X3 1
  have y0 := blk_cell Y3 0
  have y1 := blk_cell Y3 1
  simp at x0 x1 y0 y1
  go_wp2_with fail
  refine (fits_inv _ (by assumption) hN6 _ _ _ _ _ i3).mono ?_
  rintro e v4 ⟨rfl, i4, b4⟩
  have X4 := stay b4 X3
  have Y4 := stay b4 Y3
  clear x0 x1 y0 y1
  obtain ⟨c1, c2, c3, c4, c5, c6⟩ := i4.1.cells
  have x0 := blk_cell X4 0
  have x1 := blk_cell X4 1
  have y0 := blk_cell Y4 0
  have y1 := blk_cell Y4 1
  simp at x0 x1 y0 y1
  go_wp2
  go_ret
  exact ⟨rfl, i4.2⟩

set_option maxRecDepth 100000 in
set_option maxHeartbeats 2000000 in
theorem upper_1 (a : Option Addr) (len cap N : Nat) (zs : Nat → Int) (k1 n1 k2 n2 k3 n3 : Int) (w : World) (hlen : len ≤ 9223372036854775807) (hU : UpsIn w a len zs) (HN : Hid (N = min len 6)) (hN6 : N ≤ 6)
    (hx : Kp1.mayB k1 n1 (7 + (N : Int)) = true) (hy : Kp1.mayB k2 n2 (7 + (N : Int)) = true) (hE1 : Kp1.E zs N k1 n1 k2 n2 = 0) (hE2 : Kp1.E zs N k2 n2 k1 n1 = 0) (hJ2 : Kp1.J zs N k2 n2 k1 n1 = Kp1.J zs N k1 n1 k2 n2) (ho : Kp1.F zs N k1 n1 (Kp1.J zs N k1 n1 k2 n2).1 (Kp1.J zs N k1 n1 k2 n2).2 = true) (ht : Kp1.F zs N k2 n2 (Kp1.J zs N k1 n1 k2 n2).1 (Kp1.J zs N k1 n1 k2 n2).2 = true) (hz : Kp1.mayB k3 n3 (7 + (N : Int)) = true) (hr : Kp1.F zs N (Kp1.J zs N k1 n1 k2 n2).1 (Kp1.J zs N k1 n1 k2 n2).2 k3 n3 = true) :
    Calls Try.prog 4 #[.slice a len cap, .agg #[.int .i64 k1, .int .i64 n1], .agg #[.int .i64 k2, .int .i64 n2], .agg #[.int .i64 k3, .int .i64 n3]] w fun e w' => e = .returned (.bool true) ∧ Below w.heap.size w w' := by
  have i0 := inv_start (k1 := k1) (n1 := n1) (k2 := k2) (n2 := n2) (k3 := k3) (n3 := n3) w
  go_enter Try.func4, Try.ntmps4
  go_wp2_with (first
    | (go_at_call 5; refine (tower_inv a len cap (unhide HN) hlen hU _ (by assumption)).mono ?_; rintro e w1 ⟨s, rfl, hs, hi⟩; obtain ⟨c1, c2, c3, c4, c5, c6⟩ := hi.1.cells)
    | (go_at_call 6; refine (may_inv _ _ _ _ (by assumption)).mono ?_; rintro e w1 ⟨rfl, hi⟩; obtain ⟨c1, c2, c3, c4, c5, c6⟩ := hi.1.cells)
    | (go_at_call 10; refine (Join_inv _ (by assumption) hN6 _ _ _ _ _ (by assumption)).mono ?_; rintro e w1 ⟨rfl, hi⟩))
  refine (join_inv _ (by assumption) hN6 _ _ _ _ _ (by assumption)).mono ?_
  rintro e v1 ⟨rfl, i1, b1⟩
  obtain ⟨c1, c2, c3, c4, c5, c6⟩ := i1.1.cells
  have l1 := lt_of_block i1.1.1
  have l1' := lt_of_block i1.1.2.1
  have l1'' := lt_of_block i1.1.2.2
  go_wp2_with fail
  refine (join_inv _ (by assumption) hN6 _ _ _ _ _ (i1.alloc _)).mono ?_
  rw [hJ2]
  rintro e v2 ⟨rfl, i2, b2⟩
  have X2 := stay b2 (alloc_blk v1 _)
  obtain ⟨c1, c2, c3, c4, c5, c6⟩ := i2.1.cells
  have x0 := blk_cell X2 0
  have x1 := blk_cell X2 1
  have l2 := lt_of_block i2.1.1
  have l2' := lt_of_block i2.1.2.1
  have l2'' := lt_of_block i2.1.2.2
  have lx2 := lt_of_block X2
  simp at x0 x1
  go_wp2_with fail
  refine (fits_inv _ (by assumption) hN6 _ _ _ _ _ (i2.alloc _)).mono ?_
  rintro e v3 ⟨rfl, i3, b3⟩
  have X3 := stay b3 (stay1 X2 _)
  have Y3 := stay b3 (alloc_blk v2 _)
  clear x0 x1
  obtain ⟨c1, c2, c3, c4, c5, c6⟩ := i3.1.cells
  have x0 := blk_cell X3 0
  have x1 := blk_cell X3 1
  have y0 := blk_cell Y3 0
  have y1 := blk_cell Y3 1
  simp at x0 x1 y0 y1
  go_wp2_with fail
  refine (fits_inv _ (by assumption) hN6 _ _ _ _ _ i3).mono ?_
  rintro e v4 ⟨rfl, i4, b4⟩
  have X4 := stay b4 X3
  have Y4 := stay b4 Y3
  clear x0 x1 y0 y1
  obtain ⟨c1, c2, c3, c4, c5, c6⟩ := i4.1.cells
  have x0 := blk_cell X4 0
  have x1 := blk_cell X4 1
  have y0 := blk_cell Y4 0
  have y1 := blk_cell Y4 1
  simp at x0 x1 y0 y1
  go_wp2_with fail
  refine (fits_inv _ (by assumption) hN6 _ _ _ _ _ i4).mono ?_
  rintro e v5 ⟨rfl, i5, b5⟩
  have X5 := stay b5 X4
  clear x0 x1 y0 y1
  obtain ⟨c1, c2, c3, c4, c5, c6⟩ := i5.1.cells
  have x0 := blk_cell X5 0
  have x1 := blk_cell X5 1
  simp at x0 x1
  go_wp2_with fail
  refine (fits_inv _ (by assumption) hN6 _ _ _ _ _ i5).mono ?_
  rintro e v6 ⟨rfl, i6, b6⟩
  have X6 := stay b6 X5
  clear x0 x1
  obtain ⟨c1, c2, c3, c4, c5, c6⟩ := i6.1.cells
  have x0 := blk_cell X6 0
  have x1 := blk_cell X6 1
  simp at x0 x1
  go_wp2_with fail
  refine (fits_inv _ (by assumption) hN6 _ _ _ _ _ i6).mono ?_
  rintro e v7 ⟨rfl, i7, b7⟩
  go_wp2
  go_ret
  exact ⟨rfl, i7.2⟩

set_option maxRecDepth 100000 in
set_option maxHeartbeats 2000000 in
theorem upper_2 (a : Option Addr) (len cap N : Nat) (zs : Nat → Int) (k1 n1 k2 n2 k3 n3 : Int) (w : World) (hlen : len ≤ 9223372036854775807) (hU : UpsIn w a len zs) (HN : Hid (N = min len 6)) (hN6 : N ≤ 6)
    (hx : Kp1.mayB k1 n1 (7 + (N : Int)) = true) (hy : Kp1.mayB k2 n2 (7 + (N : Int)) = true) (hE1 : Kp1.E zs N k1 n1 k2 n2 = 0) (hE2 : Kp1.E zs N k2 n2 k1 n1 = 0) (hJ2 : Kp1.J zs N k2 n2 k1 n1 = Kp1.J zs N k1 n1 k2 n2) (ho : Kp1.F zs N k1 n1 (Kp1.J zs N k1 n1 k2 n2).1 (Kp1.J zs N k1 n1 k2 n2).2 = true) (ht : Kp1.F zs N k2 n2 (Kp1.J zs N k1 n1 k2 n2).1 (Kp1.J zs N k1 n1 k2 n2).2 = true) (hz : Kp1.mayB k3 n3 (7 + (N : Int)) = true) (hr : Kp1.F zs N (Kp1.J zs N k1 n1 k2 n2).1 (Kp1.J zs N k1 n1 k2 n2).2 k3 n3 = false) (hp : Kp1.F zs N k1 n1 k3 n3 = false) :
    Calls Try.prog 4 #[.slice a len cap, .agg #[.int .i64 k1, .int .i64 n1], .agg #[.int .i64 k2, .int .i64 n2], .agg #[.int .i64 k3, .int .i64 n3]] w fun e w' => e = .returned (.bool true) ∧ Below w.heap.size w w' := by
  have i0 := inv_start (k1 := k1) (n1 := n1) (k2 := k2) (n2 := n2) (k3 := k3) (n3 := n3) w
  go_enter Try.func4, Try.ntmps4
  go_wp2_with (first
    | (go_at_call 5; refine (tower_inv a len cap (unhide HN) hlen hU _ (by assumption)).mono ?_; rintro e w1 ⟨s, rfl, hs, hi⟩; obtain ⟨c1, c2, c3, c4, c5, c6⟩ := hi.1.cells)
    | (go_at_call 6; refine (may_inv _ _ _ _ (by assumption)).mono ?_; rintro e w1 ⟨rfl, hi⟩; obtain ⟨c1, c2, c3, c4, c5, c6⟩ := hi.1.cells)
    | (go_at_call 10; refine (Join_inv _ (by assumption) hN6 _ _ _ _ _ (by assumption)).mono ?_; rintro e w1 ⟨rfl, hi⟩))
  refine (join_inv _ (by assumption) hN6 _ _ _ _ _ (by assumption)).mono ?_
  rintro e v1 ⟨rfl, i1, b1⟩
  obtain ⟨c1, c2, c3, c4, c5, c6⟩ := i1.1.cells
  have l1 := lt_of_block i1.1.1
  have l1' := lt_of_block i1.1.2.1
  have l1'' := lt_of_block i1.1.2.2
  go_wp2_with fail
  refine (join_inv _ (by assumption) hN6 _ _ _ _ _ (i1.alloc _)).mono ?_
  rw [hJ2]
  rintro e v2 ⟨rfl, i2, b2⟩
  have X2 := stay b2 (alloc_blk v1 _)
  obtain ⟨c1, c2, c3, c4, c5, c6⟩ := i2.1.cells
  have x0 := blk_cell X2 0
  have x1 := blk_cell X2 1
  have l2 := lt_of_block i2.1.1
  have l2' := lt_of_block i2.1.2.1
  have l2'' := lt_of_block i2.1.2.2
  have lx2 := lt_of_block X2
  simp at x0 x1
  go_wp2_with fail
  refine (fits_inv _ (by assumption) hN6 _ _ _ _ _ (i2.alloc _)).mono ?_
  rintro e v3 ⟨rfl, i3, b3⟩
  have X3 := stay b3 (stay1 X2 _)
  have Y3 := stay b3 (alloc_blk v2 _)
  clear x0 x1
  obtain ⟨c1, c2, c3, c4, c5, c6⟩ := i3.1.cells
  have x0 := blk_cell X3 0
  have x1 := blk_cell X3 1
  have y0 := blk_cell Y3 0
  have y1 := blk_cell Y3 1
  simp at x0 x1 y0 y1
  go_wp2_with fail
  refine (fits_inv _ (by assumption) hN6 _ _ _ _ _ i3).mono ?_
  rintro e v4 ⟨rfl, i4, b4⟩
  have X4 := stay b4 X3
  have Y4 := stay b4 Y3
  clear x0 x1 y0 y1
  obtain ⟨c1, c2, c3, c4, c5, c6⟩ := i4.1.cells
  have x0 := blk_cell X4 0
  have x1 := blk_cell X4 1
  have y0 := blk_cell Y4 0
  have y1 := blk_cell Y4 1
  simp at x0 x1 y0 y1
  go_wp2_with fail
  refine (fits_inv _ (by assumption) hN6 _ _ _ _ _ i4).mono ?_
  rintro e v5 ⟨rfl, i5, b5⟩
  have X5 := stay b5 X4
  clear x0 x1 y0 y1
  obtain ⟨c1, c2, c3, c4, c5, c6⟩ := i5.1.cells
  have x0 := blk_cell X5 0
  have x1 := blk_cell X5 1
  simp at x0 x1
  go_wp2_with fail
  refine (fits_inv _ (by assumption) hN6 _ _ _ _ _ i5).mono ?_
  rintro e v6 ⟨rfl, i6, b6⟩
  have X6 := stay b6 X5
  clear x0 x1
  obtain ⟨c1, c2, c3, c4, c5, c6⟩ := i6.1.cells
  have x0 := blk_cell X6 0
  have x1 := blk_cell X6 1
  simp at x0 x1
  go_wp2_with fail
  refine (fits_inv _ (by assumption) hN6 _ _ _ _ _ i6).mono ?_
  rintro e v7 ⟨rfl, i7, b7⟩
  go_wp2
  go_ret
  exact ⟨rfl, i7.2⟩

set_option maxRecDepth 100000 in
set_option maxHeartbeats 2000000 in
theorem upper_3 (a : Option Addr) (len cap N : Nat) (zs : Nat → Int) (k1 n1 k2 n2 k3 n3 : Int) (w : World) (hlen : len ≤ 9223372036854775807) (hU : UpsIn w a len zs) (HN : Hid (N = min len 6)) (hN6 : N ≤ 6)
    (hx : Kp1.mayB k1 n1 (7 + (N : Int)) = true) (hy : Kp1.mayB k2 n2 (7 + (N : Int)) = true) (hE1 : Kp1.E zs N k1 n1 k2 n2 = 0) (hE2 : Kp1.E zs N k2 n2 k1 n1 = 0) (hJ2 : Kp1.J zs N k2 n2 k1 n1 = Kp1.J zs N k1 n1 k2 n2) (ho : Kp1.F zs N k1 n1 (Kp1.J zs N k1 n1 k2 n2).1 (Kp1.J zs N k1 n1 k2 n2).2 = true) (ht : Kp1.F zs N k2 n2 (Kp1.J zs N k1 n1 k2 n2).1 (Kp1.J zs N k1 n1 k2 n2).2 = true) (hz : Kp1.mayB k3 n3 (7 + (N : Int)) = true) (hr : Kp1.F zs N (Kp1.J zs N k1 n1 k2 n2).1 (Kp1.J zs N k1 n1 k2 n2).2 k3 n3 = false) (hp : Kp1.F zs N k1 n1 k3 n3 = true) (hq : Kp1.F zs N k2 n2 k3 n3 = false) :
    Calls Try.prog 4 #[.slice a len cap, .agg #[.int .i64 k1, .int .i64 n1], .agg #[.int .i64 k2, .int .i64 n2], .agg #[.int .i64 k3, .int .i64 n3]] w fun e w' => e = .returned (.bool true) ∧ Below w.heap.size w w' := by
  have i0 := inv_start (k1 := k1) (n1 := n1) (k2 := k2) (n2 := n2) (k3 := k3) (n3 := n3) w
  go_enter Try.func4, Try.ntmps4
  go_wp2_with (first
    | (go_at_call 5; refine (tower_inv a len cap (unhide HN) hlen hU _ (by assumption)).mono ?_; rintro e w1 ⟨s, rfl, hs, hi⟩; obtain ⟨c1, c2, c3, c4, c5, c6⟩ := hi.1.cells)
    | (go_at_call 6; refine (may_inv _ _ _ _ (by assumption)).mono ?_; rintro e w1 ⟨rfl, hi⟩; obtain ⟨c1, c2, c3, c4, c5, c6⟩ := hi.1.cells)
    | (go_at_call 10; refine (Join_inv _ (by assumption) hN6 _ _ _ _ _ (by assumption)).mono ?_; rintro e w1 ⟨rfl, hi⟩))
  refine (join_inv _ (by assumption) hN6 _ _ _ _ _ (by assumption)).mono ?_
  rintro e v1 ⟨rfl, i1, b1⟩
  obtain ⟨c1, c2, c3, c4, c5, c6⟩ := i1.1.cells
  have l1 := lt_of_block i1.1.1
  have l1' := lt_of_block i1.1.2.1
  have l1'' := lt_of_block i1.1.2.2
  go_wp2_with fail
  refine (join_inv _ (by assumption) hN6 _ _ _ _ _ (i1.alloc _)).mono ?_
  rw [hJ2]
  rintro e v2 ⟨rfl, i2, b2⟩
  have X2 := stay b2 (alloc_blk v1 _)
  obtain ⟨c1, c2, c3, c4, c5, c6⟩ := i2.1.cells
  have x0 := blk_cell X2 0
  have x1 := blk_cell X2 1
  have l2 := lt_of_block i2.1.1
  have l2' := lt_of_block i2.1.2.1
  have l2'' := lt_of_block i2.1.2.2
  have lx2 := lt_of_block X2
  simp at x0 x1
  go_wp2_with fail
  refine (fits_inv _ (by assumption) hN6 _ _ _ _ _ (i2.alloc _)).mono ?_
  rintro e v3 ⟨rfl, i3, b3⟩
  have X3 := stay b3 (stay1 X2 _)
  have Y3 := stay b3 (alloc_blk v2 _)
  clear x0 x1
  obtain ⟨c1, c2, c3, c4, c5, c6⟩ := i3.1.cells
  have x0 := blk_cell X3 0
  have x1 := blk_cell X3 1
  have y0 := blk_cell Y3 0
  have y1 := blk_cell Y3 1
  simp at x0 x1 y0 y1
  go_wp2_with fail
  refine (fits_inv _ (by assumption) hN6 _ _ _ _ _ i3).mono ?_
  rintro e v4 ⟨rfl, i4, b4⟩
  have X4 := stay b4 X3
  have Y4 := stay b4 Y3
  clear x0 x1 y0 y1
  obtain ⟨c1, c2, c3, c4, c5, c6⟩ := i4.1.cells
  have x0 := blk_cell X4 0
  have x1 := blk_cell X4 1
  have y0 := blk_cell Y4 0
  have y1 := blk_cell Y4 1
  simp at x0 x1 y0 y1
  go_wp2_with fail
  refine (fits_inv _ (by assumption) hN6 _ _ _ _ _ i4).mono ?_
  rintro e v5 ⟨rfl, i5, b5⟩
  have X5 := stay b5 X4
  clear x0 x1 y0 y1
  obtain ⟨c1, c2, c3, c4, c5, c6⟩ := i5.1.cells
  have x0 := blk_cell X5 0
  have x1 := blk_cell X5 1
  simp at x0 x1
  go_wp2_with fail
  refine (fits_inv _ (by assumption) hN6 _ _ _ _ _ i5).mono ?_
  rintro e v6 ⟨rfl, i6, b6⟩
  have X6 := stay b6 X5
  clear x0 x1
  obtain ⟨c1, c2, c3, c4, c5, c6⟩ := i6.1.cells
  have x0 := blk_cell X6 0
  have x1 := blk_cell X6 1
  simp at x0 x1
  go_wp2_with fail
  refine (fits_inv _ (by assumption) hN6 _ _ _ _ _ i6).mono ?_
  rintro e v7 ⟨rfl, i7, b7⟩
  go_wp2
  go_ret
  exact ⟨rfl, i7.2⟩

end Go.Proofs.Ytpgklckplchhgaa
