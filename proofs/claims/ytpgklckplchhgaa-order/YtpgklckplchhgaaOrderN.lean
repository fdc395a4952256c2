/-
  The walks over the statement Order where the first two are types: the first is Ref of another class.
-/
import Derived.Test.YtpgklckplchhgaaOrdW
namespace Go.Proofs.Ytpgklckplchhgaa
open Go.RowKit

set_option maxRecDepth 100000 in
set_option maxHeartbeats 2000000 in
theorem order_n_f0 (a : Option Addr) (len cap N : Nat) (zs : Nat → Int) (n1 k2 n2 k3 n3 : Int) (w : World) (hlen : len ≤ 9223372036854775807) (hU : UpsIn w a len zs) (HN : Hid (N = min len 6)) (hN6 : N ≤ 6) (hk : (n1 == 0) = false) (hp1 : n1 < 7 + (N : Int)) (hNl : N ≤ len) (hr : Kp1.F zs N 3 n1 3 (Kp1.ab zs n1) = true) (hf : Kp1.F zs N 3 (Kp1.ab zs n1) 3 n1 = false) (hn : Kp1.F zs N 2 0 3 n1 = true) (hi1 : Kp1.F zs N 1 0 3 n1 = false)
    (hx : Kp1.mayB 3 n1 (7 + (N : Int)) = true) (hy : Kp1.mayB k2 n2 (7 + (N : Int)) = true) (hs0 : Kp1.F zs N 3 n1 3 n1 = true) (ht : Kp1.F zs N 3 n1 0 0 = true) (h12 : Kp1.F zs N 3 n1 k2 n2 = false) (hz : Kp1.mayB k3 n3 (7 + (N : Int)) = false) :
    Calls Try.prog 3 #[.slice a len cap, .agg #[.int .i64 3, .int .i64 n1], .agg #[.int .i64 k2, .int .i64 n2], .agg #[.int .i64 k3, .int .i64 n3]] w fun e w' => e = .returned (.bool true) ∧ Below w.heap.size w w' := by
  have i0 := inv_start (k1 := 3) (n1 := n1) (k2 := k2) (n2 := n2) (k3 := k3) (n3 := n3) w
  go_enter Try.func3, Try.ntmps3
  go_wp2_with (first
    | (go_at_call 5; refine (tower_inv a len cap (unhide HN) hlen hU _ (by assumption)).mono ?_; rintro e w1 ⟨s, rfl, hs, hi⟩; obtain ⟨c1, c2, c3, c4, c5, c6⟩ := hi.1.cells)
    | (go_at_call 6; refine (may_inv _ _ _ _ (by assumption)).mono ?_; rintro e w1 ⟨rfl, hi⟩; obtain ⟨c1, c2, c3, c4, c5, c6⟩ := hi.1.cells)
    | (go_at_call 8; refine (fits_inv _ (by assumption) hN6 _ _ _ _ _ (by assumption)).mono ?_; rintro e w1 ⟨rfl, hi, _⟩; obtain ⟨c1, c2, c3, c4, c5, c6⟩ := hi.1.cells)
    | (go_at_call 7; refine (Fits_inv _ (by assumption) hN6 _ _ _ _ _ (by assumption)).mono ?_; rintro e w1 ⟨rfl, hi⟩))
  refine (above_inv a len cap hU n1 (by omega) (by omega) _ (by assumption)).mono ?_
  rintro e W2 ⟨rfl, iX⟩
  obtain ⟨c1, c2, c3, c4, c5, c6⟩ := iX.1.cells
  have lX := lt_of_block iX.1.1
  go_wp2_with fail
  refine (fits_inv _ (by assumption) hN6 _ _ _ _ _ (iX.alloc _)).mono ?_
  rintro e W3 ⟨rfl, iY, bY⟩
  have cY := stay bY (alloc_blk _ _)
  have y0 := blk_cell cY 0
  have y1 := blk_cell cY 1
  obtain ⟨c1, c2, c3, c4, c5, c6⟩ := iY.1.cells
  simp at y0 y1
  go_wp2_with fail
  refine (fits_inv _ (by assumption) hN6 _ _ _ _ _ iY).mono ?_
  rintro e W4 ⟨rfl, iZ, _⟩
  go_wp2
  go_ret
  exact ⟨rfl, iZ.2⟩

set_option maxRecDepth 100000 in
set_option maxHeartbeats 2000000 in
theorem order_n_f1 (a : Option Addr) (len cap N : Nat) (zs : Nat → Int) (n1 k2 n2 k3 n3 : Int) (w : World) (hlen : len ≤ 9223372036854775807) (hU : UpsIn w a len zs) (HN : Hid (N = min len 6)) (hN6 : N ≤ 6) (hk : (n1 == 0) = false) (hp1 : n1 < 7 + (N : Int)) (hNl : N ≤ len) (hr : Kp1.F zs N 3 n1 3 (Kp1.ab zs n1) = true) (hf : Kp1.F zs N 3 (Kp1.ab zs n1) 3 n1 = false) (hn : Kp1.F zs N 2 0 3 n1 = true) (hi1 : Kp1.F zs N 1 0 3 n1 = false)
    (hx : Kp1.mayB 3 n1 (7 + (N : Int)) = true) (hy : Kp1.mayB k2 n2 (7 + (N : Int)) = true) (hs0 : Kp1.F zs N 3 n1 3 n1 = true) (ht : Kp1.F zs N 3 n1 0 0 = true) (h12 : Kp1.F zs N 3 n1 k2 n2 = false) (hz : Kp1.mayB k3 n3 (7 + (N : Int)) = true) :
    Calls Try.prog 3 #[.slice a len cap, .agg #[.int .i64 3, .int .i64 n1], .agg #[.int .i64 k2, .int .i64 n2], .agg #[.int .i64 k3, .int .i64 n3]] w fun e w' => e = .returned (.bool true) ∧ Below w.heap.size w w' := by
  have i0 := inv_start (k1 := 3) (n1 := n1) (k2 := k2) (n2 := n2) (k3 := k3) (n3 := n3) w
  go_enter Try.func3, Try.ntmps3
  go_wp2_with (first
    | (go_at_call 5; refine (tower_inv a len cap (unhide HN) hlen hU _ (by assumption)).mono ?_; rintro e w1 ⟨s, rfl, hs, hi⟩; obtain ⟨c1, c2, c3, c4, c5, c6⟩ := hi.1.cells)
    | (go_at_call 6; refine (may_inv _ _ _ _ (by assumption)).mono ?_; rintro e w1 ⟨rfl, hi⟩; obtain ⟨c1, c2, c3, c4, c5, c6⟩ := hi.1.cells)
    | (go_at_call 8; refine (fits_inv _ (by assumption) hN6 _ _ _ _ _ (by assumption)).mono ?_; rintro e w1 ⟨rfl, hi, _⟩; obtain ⟨c1, c2, c3, c4, c5, c6⟩ := hi.1.cells)
    | (go_at_call 7; refine (Fits_inv _ (by assumption) hN6 _ _ _ _ _ (by assumption)).mono ?_; rintro e w1 ⟨rfl, hi⟩))
  refine (above_inv a len cap hU n1 (by omega) (by omega) _ (by assumption)).mono ?_
  rintro e W2 ⟨rfl, iX⟩
  obtain ⟨c1, c2, c3, c4, c5, c6⟩ := iX.1.cells
  have lX := lt_of_block iX.1.1
  go_wp2_with fail
  refine (fits_inv _ (by assumption) hN6 _ _ _ _ _ (iX.alloc _)).mono ?_
  rintro e W3 ⟨rfl, iY, bY⟩
  have cY := stay bY (alloc_blk _ _)
  have y0 := blk_cell cY 0
  have y1 := blk_cell cY 1
  obtain ⟨c1, c2, c3, c4, c5, c6⟩ := iY.1.cells
  simp at y0 y1
  go_wp2_with fail
  refine (fits_inv _ (by assumption) hN6 _ _ _ _ _ iY).mono ?_
  rintro e W4 ⟨rfl, iZ, _⟩
  go_wp2
  go_ret
  exact ⟨rfl, iZ.2⟩

set_option maxRecDepth 100000 in
set_option maxHeartbeats 2000000 in
theorem order_n_t0 (a : Option Addr) (len cap N : Nat) (zs : Nat → Int) (n1 k2 n2 k3 n3 : Int) (w : World) (hlen : len ≤ 9223372036854775807) (hU : UpsIn w a len zs) (HN : Hid (N = min len 6)) (hN6 : N ≤ 6) (hk : (n1 == 0) = false) (hp1 : n1 < 7 + (N : Int)) (hNl : N ≤ len) (hr : Kp1.F zs N 3 n1 3 (Kp1.ab zs n1) = true) (hf : Kp1.F zs N 3 (Kp1.ab zs n1) 3 n1 = false) (hn : Kp1.F zs N 2 0 3 n1 = true) (hi1 : Kp1.F zs N 1 0 3 n1 = false)
    (hx : Kp1.mayB 3 n1 (7 + (N : Int)) = true) (hy : Kp1.mayB k2 n2 (7 + (N : Int)) = true) (hs0 : Kp1.F zs N 3 n1 3 n1 = true) (ht : Kp1.F zs N 3 n1 0 0 = true) (h12 : Kp1.F zs N 3 n1 k2 n2 = true) (h21 : Kp1.F zs N k2 n2 3 n1 = false) (hz : Kp1.mayB k3 n3 (7 + (N : Int)) = false) :
    Calls Try.prog 3 #[.slice a len cap, .agg #[.int .i64 3, .int .i64 n1], .agg #[.int .i64 k2, .int .i64 n2], .agg #[.int .i64 k3, .int .i64 n3]] w fun e w' => e = .returned (.bool true) ∧ Below w.heap.size w w' := by
  have i0 := inv_start (k1 := 3) (n1 := n1) (k2 := k2) (n2 := n2) (k3 := k3) (n3 := n3) w
  go_enter Try.func3, Try.ntmps3
  go_wp2_with (first
    | (go_at_call 5; refine (tower_inv a len cap (unhide HN) hlen hU _ (by assumption)).mono ?_; rintro e w1 ⟨s, rfl, hs, hi⟩; obtain ⟨c1, c2, c3, c4, c5, c6⟩ := hi.1.cells)
    | (go_at_call 6; refine (may_inv _ _ _ _ (by assumption)).mono ?_; rintro e w1 ⟨rfl, hi⟩; obtain ⟨c1, c2, c3, c4, c5, c6⟩ := hi.1.cells)
    | (go_at_call 8; refine (fits_inv _ (by assumption) hN6 _ _ _ _ _ (by assumption)).mono ?_; rintro e w1 ⟨rfl, hi, _⟩; obtain ⟨c1, c2, c3, c4, c5, c6⟩ := hi.1.cells)
    | (go_at_call 7; refine (Fits_inv _ (by assumption) hN6 _ _ _ _ _ (by assumption)).mono ?_; rintro e w1 ⟨rfl, hi⟩))
  refine (above_inv a len cap hU n1 (by omega) (by omega) _ (by assumption)).mono ?_
  rintro e W2 ⟨rfl, iX⟩
  obtain ⟨c1, c2, c3, c4, c5, c6⟩ := iX.1.cells
  have lX := lt_of_block iX.1.1
  go_wp2_with fail
  refine (fits_inv _ (by assumption) hN6 _ _ _ _ _ (iX.alloc _)).mono ?_
  rintro e W3 ⟨rfl, iY, bY⟩
  have cY := stay bY (alloc_blk _ _)
  have y0 := blk_cell cY 0
  have y1 := blk_cell cY 1
  obtain ⟨c1, c2, c3, c4, c5, c6⟩ := iY.1.cells
  simp at y0 y1
  go_wp2_with fail
  refine (fits_inv _ (by assumption) hN6 _ _ _ _ _ iY).mono ?_
  rintro e W4 ⟨rfl, iZ, _⟩
  go_wp2
  go_ret
  exact ⟨rfl, iZ.2⟩

set_option maxRecDepth 100000 in
set_option maxHeartbeats 2000000 in
theorem order_n_t2 (a : Option Addr) (len cap N : Nat) (zs : Nat → Int) (n1 k2 n2 k3 n3 : Int) (w : World) (hlen : len ≤ 9223372036854775807) (hU : UpsIn w a len zs) (HN : Hid (N = min len 6)) (hN6 : N ≤ 6) (hk : (n1 == 0) = false) (hp1 : n1 < 7 + (N : Int)) (hNl : N ≤ len) (hr : Kp1.F zs N 3 n1 3 (Kp1.ab zs n1) = true) (hf : Kp1.F zs N 3 (Kp1.ab zs n1) 3 n1 = false) (hn : Kp1.F zs N 2 0 3 n1 = true) (hi1 : Kp1.F zs N 1 0 3 n1 = false)
    (hx : Kp1.mayB 3 n1 (7 + (N : Int)) = true) (hy : Kp1.mayB k2 n2 (7 + (N : Int)) = true) (hs0 : Kp1.F zs N 3 n1 3 n1 = true) (ht : Kp1.F zs N 3 n1 0 0 = true) (h12 : Kp1.F zs N 3 n1 k2 n2 = true) (h21 : Kp1.F zs N k2 n2 3 n1 = false) (hz : Kp1.mayB k3 n3 (7 + (N : Int)) = true) (h23 : Kp1.F zs N k2 n2 k3 n3 = false) :
    Calls Try.prog 3 #[.slice a len cap, .agg #[.int .i64 3, .int .i64 n1], .agg #[.int .i64 k2, .int .i64 n2], .agg #[.int .i64 k3, .int .i64 n3]] w fun e w' => e = .returned (.bool true) ∧ Below w.heap.size w w' := by
  have i0 := inv_start (k1 := 3) (n1 := n1) (k2 := k2) (n2 := n2) (k3 := k3) (n3 := n3) w
  go_enter Try.func3, Try.ntmps3
  go_wp2_with (first
    | (go_at_call 5; refine (tower_inv a len cap (unhide HN) hlen hU _ (by assumption)).mono ?_; rintro e w1 ⟨s, rfl, hs, hi⟩; obtain ⟨c1, c2, c3, c4, c5, c6⟩ := hi.1.cells)
    | (go_at_call 6; refine (may_inv _ _ _ _ (by assumption)).mono ?_; rintro e w1 ⟨rfl, hi⟩; obtain ⟨c1, c2, c3, c4, c5, c6⟩ := hi.1.cells)
    | (go_at_call 8; refine (fits_inv _ (by assumption) hN6 _ _ _ _ _ (by assumption)).mono ?_; rintro e w1 ⟨rfl, hi, _⟩; obtain ⟨c1, c2, c3, c4, c5, c6⟩ := hi.1.cells)
    | (go_at_call 7; refine (Fits_inv _ (by assumption) hN6 _ _ _ _ _ (by assumption)).mono ?_; rintro e w1 ⟨rfl, hi⟩))
  refine (above_inv a len cap hU n1 (by omega) (by omega) _ (by assumption)).mono ?_
  rintro e W2 ⟨rfl, iX⟩
  obtain ⟨c1, c2, c3, c4, c5, c6⟩ := iX.1.cells
  have lX := lt_of_block iX.1.1
  go_wp2_with fail
  refine (fits_inv _ (by assumption) hN6 _ _ _ _ _ (iX.alloc _)).mono ?_
  rintro e W3 ⟨rfl, iY, bY⟩
  have cY := stay bY (alloc_blk _ _)
  have y0 := blk_cell cY 0
  have y1 := blk_cell cY 1
  obtain ⟨c1, c2, c3, c4, c5, c6⟩ := iY.1.cells
  simp at y0 y1
  go_wp2_with fail
  refine (fits_inv _ (by assumption) hN6 _ _ _ _ _ iY).mono ?_
  rintro e W4 ⟨rfl, iZ, _⟩
  go_wp2
  go_ret
  exact ⟨rfl, iZ.2⟩

set_option maxRecDepth 100000 in
set_option maxHeartbeats 2000000 in
theorem order_n_t3 (a : Option Addr) (len cap N : Nat) (zs : Nat → Int) (n1 k2 n2 k3 n3 : Int) (w : World) (hlen : len ≤ 9223372036854775807) (hU : UpsIn w a len zs) (HN : Hid (N = min len 6)) (hN6 : N ≤ 6) (hk : (n1 == 0) = false) (hp1 : n1 < 7 + (N : Int)) (hNl : N ≤ len) (hr : Kp1.F zs N 3 n1 3 (Kp1.ab zs n1) = true) (hf : Kp1.F zs N 3 (Kp1.ab zs n1) 3 n1 = false) (hn : Kp1.F zs N 2 0 3 n1 = true) (hi1 : Kp1.F zs N 1 0 3 n1 = false)
    (hx : Kp1.mayB 3 n1 (7 + (N : Int)) = true) (hy : Kp1.mayB k2 n2 (7 + (N : Int)) = true) (hs0 : Kp1.F zs N 3 n1 3 n1 = true) (ht : Kp1.F zs N 3 n1 0 0 = true) (h12 : Kp1.F zs N 3 n1 k2 n2 = true) (h21 : Kp1.F zs N k2 n2 3 n1 = false) (hz : Kp1.mayB k3 n3 (7 + (N : Int)) = true) (h23 : Kp1.F zs N k2 n2 k3 n3 = true) (h13 : Kp1.F zs N 3 n1 k3 n3 = true) :
    Calls Try.prog 3 #[.slice a len cap, .agg #[.int .i64 3, .int .i64 n1], .agg #[.int .i64 k2, .int .i64 n2], .agg #[.int .i64 k3, .int .i64 n3]] w fun e w' => e = .returned (.bool true) ∧ Below w.heap.size w w' := by
  have i0 := inv_start (k1 := 3) (n1 := n1) (k2 := k2) (n2 := n2) (k3 := k3) (n3 := n3) w
  go_enter Try.func3, Try.ntmps3
  go_wp2_with (first
    | (go_at_call 5; refine (tower_inv a len cap (unhide HN) hlen hU _ (by assumption)).mono ?_; rintro e w1 ⟨s, rfl, hs, hi⟩; obtain ⟨c1, c2, c3, c4, c5, c6⟩ := hi.1.cells)
    | (go_at_call 6; refine (may_inv _ _ _ _ (by assumption)).mono ?_; rintro e w1 ⟨rfl, hi⟩; obtain ⟨c1, c2, c3, c4, c5, c6⟩ := hi.1.cells)
    | (go_at_call 8; refine (fits_inv _ (by assumption) hN6 _ _ _ _ _ (by assumption)).mono ?_; rintro e w1 ⟨rfl, hi, _⟩; obtain ⟨c1, c2, c3, c4, c5, c6⟩ := hi.1.cells)
    | (go_at_call 7; refine (Fits_inv _ (by assumption) hN6 _ _ _ _ _ (by assumption)).mono ?_; rintro e w1 ⟨rfl, hi⟩))
  refine (above_inv a len cap hU n1 (by omega) (by omega) _ (by assumption)).mono ?_
  rintro e W2 ⟨rfl, iX⟩
  obtain ⟨c1, c2, c3, c4, c5, c6⟩ := iX.1.cells
  have lX := lt_of_block iX.1.1
  go_wp2_with fail
  refine (fits_inv _ (by assumption) hN6 _ _ _ _ _ (iX.alloc _)).mono ?_
  rintro e W3 ⟨rfl, iY, bY⟩
  have cY := stay bY (alloc_blk _ _)
  have y0 := blk_cell cY 0
  have y1 := blk_cell cY 1
  obtain ⟨c1, c2, c3, c4, c5, c6⟩ := iY.1.cells
  simp at y0 y1
  go_wp2_with fail
  refine (fits_inv _ (by assumption) hN6 _ _ _ _ _ iY).mono ?_
  rintro e W4 ⟨rfl, iZ, _⟩
  go_wp2
  go_ret
  exact ⟨rfl, iZ.2⟩

set_option maxRecDepth 100000 in
set_option maxHeartbeats 2000000 in
theorem order_n_e0 (a : Option Addr) (len cap N : Nat) (zs : Nat → Int) (n1 k3 n3 : Int) (w : World) (hlen : len ≤ 9223372036854775807) (hU : UpsIn w a len zs) (HN : Hid (N = min len 6)) (hN6 : N ≤ 6) (hk : (n1 == 0) = false) (hp1 : n1 < 7 + (N : Int)) (hNl : N ≤ len) (hr : Kp1.F zs N 3 n1 3 (Kp1.ab zs n1) = true) (hf : Kp1.F zs N 3 (Kp1.ab zs n1) 3 n1 = false) (hn : Kp1.F zs N 2 0 3 n1 = true) (hi1 : Kp1.F zs N 1 0 3 n1 = false)
    (hx : Kp1.mayB 3 n1 (7 + (N : Int)) = true) (hs0 : Kp1.F zs N 3 n1 3 n1 = true) (ht : Kp1.F zs N 3 n1 0 0 = true)  (hz : Kp1.mayB k3 n3 (7 + (N : Int)) = false) :
    Calls Try.prog 3 #[.slice a len cap, .agg #[.int .i64 3, .int .i64 n1], .agg #[.int .i64 3, .int .i64 n1], .agg #[.int .i64 k3, .int .i64 n3]] w fun e w' => e = .returned (.bool true) ∧ Below w.heap.size w w' := by
  have i0 := inv_start (k1 := 3) (n1 := n1) (k2 := 3) (n2 := n1) (k3 := k3) (n3 := n3) w
  go_enter Try.func3, Try.ntmps3
  go_wp2_with (first
    | (go_at_call 5; refine (tower_inv a len cap (unhide HN) hlen hU _ (by assumption)).mono ?_; rintro e w1 ⟨s, rfl, hs, hi⟩; obtain ⟨c1, c2, c3, c4, c5, c6⟩ := hi.1.cells)
    | (go_at_call 6; refine (may_inv _ _ _ _ (by assumption)).mono ?_; rintro e w1 ⟨rfl, hi⟩; obtain ⟨c1, c2, c3, c4, c5, c6⟩ := hi.1.cells)
    | (go_at_call 8; refine (fits_inv _ (by assumption) hN6 _ _ _ _ _ (by assumption)).mono ?_; rintro e w1 ⟨rfl, hi, _⟩; obtain ⟨c1, c2, c3, c4, c5, c6⟩ := hi.1.cells)
    | (go_at_call 7; refine (Fits_inv _ (by assumption) hN6 _ _ _ _ _ (by assumption)).mono ?_; rintro e w1 ⟨rfl, hi⟩))
  refine (above_inv a len cap hU n1 (by omega) (by omega) _ (by assumption)).mono ?_
  rintro e W2 ⟨rfl, iX⟩
  obtain ⟨c1, c2, c3, c4, c5, c6⟩ := iX.1.cells
  have lX := lt_of_block iX.1.1
  go_wp2_with fail
  refine (fits_inv _ (by assumption) hN6 _ _ _ _ _ (iX.alloc _)).mono ?_
  rintro e W3 ⟨rfl, iY, bY⟩
  have cY := stay bY (alloc_blk _ _)
  have y0 := blk_cell cY 0
  have y1 := blk_cell cY 1
  obtain ⟨c1, c2, c3, c4, c5, c6⟩ := iY.1.cells
  simp at y0 y1
  go_wp2_with fail
  refine (fits_inv _ (by assumption) hN6 _ _ _ _ _ iY).mono ?_
  rintro e W4 ⟨rfl, iZ, _⟩
  go_wp2
  go_ret
  exact ⟨rfl, iZ.2⟩

set_option maxRecDepth 100000 in
set_option maxHeartbeats 2000000 in
theorem order_n_e2 (a : Option Addr) (len cap N : Nat) (zs : Nat → Int) (n1 k3 n3 : Int) (w : World) (hlen : len ≤ 9223372036854775807) (hU : UpsIn w a len zs) (HN : Hid (N = min len 6)) (hN6 : N ≤ 6) (hk : (n1 == 0) = false) (hp1 : n1 < 7 + (N : Int)) (hNl : N ≤ len) (hr : Kp1.F zs N 3 n1 3 (Kp1.ab zs n1) = true) (hf : Kp1.F zs N 3 (Kp1.ab zs n1) 3 n1 = false) (hn : Kp1.F zs N 2 0 3 n1 = true) (hi1 : Kp1.F zs N 1 0 3 n1 = false)
    (hx : Kp1.mayB 3 n1 (7 + (N : Int)) = true) (hs0 : Kp1.F zs N 3 n1 3 n1 = true) (ht : Kp1.F zs N 3 n1 0 0 = true)  (hz : Kp1.mayB k3 n3 (7 + (N : Int)) = true) (h23 : Kp1.F zs N 3 n1 k3 n3 = false) :
    Calls Try.prog 3 #[.slice a len cap, .agg #[.int .i64 3, .int .i64 n1], .agg #[.int .i64 3, .int .i64 n1], .agg #[.int .i64 k3, .int .i64 n3]] w fun e w' => e = .returned (.bool true) ∧ Below w.heap.size w w' := by
  have i0 := inv_start (k1 := 3) (n1 := n1) (k2 := 3) (n2 := n1) (k3 := k3) (n3 := n3) w
  go_enter Try.func3, Try.ntmps3
  go_wp2_with (first
    | (go_at_call 5; refine (tower_inv a len cap (unhide HN) hlen hU _ (by assumption)).mono ?_; rintro e w1 ⟨s, rfl, hs, hi⟩; obtain ⟨c1, c2, c3, c4, c5, c6⟩ := hi.1.cells)
    | (go_at_call 6; refine (may_inv _ _ _ _ (by assumption)).mono ?_; rintro e w1 ⟨rfl, hi⟩; obtain ⟨c1, c2, c3, c4, c5, c6⟩ := hi.1.cells)
    | (go_at_call 8; refine (fits_inv _ (by assumption) hN6 _ _ _ _ _ (by assumption)).mono ?_; rintro e w1 ⟨rfl, hi, _⟩; obtain ⟨c1, c2, c3, c4, c5, c6⟩ := hi.1.cells)
    | (go_at_call 7; refine (Fits_inv _ (by assumption) hN6 _ _ _ _ _ (by assumption)).mono ?_; rintro e w1 ⟨rfl, hi⟩))
  refine (above_inv a len cap hU n1 (by omega) (by omega) _ (by assumption)).mono ?_
  rintro e W2 ⟨rfl, iX⟩
  obtain ⟨c1, c2, c3, c4, c5, c6⟩ := iX.1.cells
  have lX := lt_of_block iX.1.1
  go_wp2_with fail
  refine (fits_inv _ (by assumption) hN6 _ _ _ _ _ (iX.alloc _)).mono ?_
  rintro e W3 ⟨rfl, iY, bY⟩
  have cY := stay bY (alloc_blk _ _)
  have y0 := blk_cell cY 0
  have y1 := blk_cell cY 1
  obtain ⟨c1, c2, c3, c4, c5, c6⟩ := iY.1.cells
  simp at y0 y1
  go_wp2_with fail
  refine (fits_inv _ (by assumption) hN6 _ _ _ _ _ iY).mono ?_
  rintro e W4 ⟨rfl, iZ, _⟩
  go_wp2
  go_ret
  exact ⟨rfl, iZ.2⟩

set_option maxRecDepth 100000 in
set_option maxHeartbeats 2000000 in
theorem order_n_e3 (a : Option Addr) (len cap N : Nat) (zs : Nat → Int) (n1 k3 n3 : Int) (w : World) (hlen : len ≤ 9223372036854775807) (hU : UpsIn w a len zs) (HN : Hid (N = min len 6)) (hN6 : N ≤ 6) (hk : (n1 == 0) = false) (hp1 : n1 < 7 + (N : Int)) (hNl : N ≤ len) (hr : Kp1.F zs N 3 n1 3 (Kp1.ab zs n1) = true) (hf : Kp1.F zs N 3 (Kp1.ab zs n1) 3 n1 = false) (hn : Kp1.F zs N 2 0 3 n1 = true) (hi1 : Kp1.F zs N 1 0 3 n1 = false)
    (hx : Kp1.mayB 3 n1 (7 + (N : Int)) = true) (hs0 : Kp1.F zs N 3 n1 3 n1 = true) (ht : Kp1.F zs N 3 n1 0 0 = true)  (hz : Kp1.mayB k3 n3 (7 + (N : Int)) = true) (h23 : Kp1.F zs N 3 n1 k3 n3 = true) :
    Calls Try.prog 3 #[.slice a len cap, .agg #[.int .i64 3, .int .i64 n1], .agg #[.int .i64 3, .int .i64 n1], .agg #[.int .i64 k3, .int .i64 n3]] w fun e w' => e = .returned (.bool true) ∧ Below w.heap.size w w' := by
  have i0 := inv_start (k1 := 3) (n1 := n1) (k2 := 3) (n2 := n1) (k3 := k3) (n3 := n3) w
  go_enter Try.func3, Try.ntmps3
  go_wp2_with (first
    | (go_at_call 5; refine (tower_inv a len cap (unhide HN) hlen hU _ (by assumption)).mono ?_; rintro e w1 ⟨s, rfl, hs, hi⟩; obtain ⟨c1, c2, c3, c4, c5, c6⟩ := hi.1.cells)
    | (go_at_call 6; refine (may_inv _ _ _ _ (by assumption)).mono ?_; rintro e w1 ⟨rfl, hi⟩; obtain ⟨c1, c2, c3, c4, c5, c6⟩ := hi.1.cells)
    | (go_at_call 8; refine (fits_inv _ (by assumption) hN6 _ _ _ _ _ (by assumption)).mono ?_; rintro e w1 ⟨rfl, hi, _⟩; obtain ⟨c1, c2, c3, c4, c5, c6⟩ := hi.1.cells)
    | (go_at_call 7; refine (Fits_inv _ (by assumption) hN6 _ _ _ _ _ (by assumption)).mono ?_; rintro e w1 ⟨rfl, hi⟩))
  refine (above_inv a len cap hU n1 (by omega) (by omega) _ (by assumption)).mono ?_
  rintro e W2 ⟨rfl, iX⟩
  obtain ⟨c1, c2, c3, c4, c5, c6⟩ := iX.1.cells
  have lX := lt_of_block iX.1.1
  go_wp2_with fail
  refine (fits_inv _ (by assumption) hN6 _ _ _ _ _ (iX.alloc _)).mono ?_
  rintro e W3 ⟨rfl, iY, bY⟩
  have cY := stay bY (alloc_blk _ _)
  have y0 := blk_cell cY 0
  have y1 := blk_cell cY 1
  obtain ⟨c1, c2, c3, c4, c5, c6⟩ := iY.1.cells
  simp at y0 y1
  go_wp2_with fail
  refine (fits_inv _ (by assumption) hN6 _ _ _ _ _ iY).mono ?_
  rintro e W4 ⟨rfl, iZ, _⟩
  go_wp2
  go_ret
  exact ⟨rfl, iZ.2⟩

end Go.Proofs.Ytpgklckplchhgaa
