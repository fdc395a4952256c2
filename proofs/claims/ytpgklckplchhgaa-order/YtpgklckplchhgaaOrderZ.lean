/-
  The walks over the statement Order where the first two are types: the first is Ref of the class 0.
-/
import Derived.Test.YtpgklckplchhgaaOrdW
namespace Go.Proofs.Ytpgklckplchhgaa
open Go.RowKit

set_option maxRecDepth 100000 in
set_option maxHeartbeats 2000000 in
theorem order_0_f0 (a : Option Addr) (len cap N : Nat) (zs : Nat → Int) (k2 n2 k3 n3 : Int) (w : World) (hlen : len ≤ 9223372036854775807) (hU : UpsIn w a len zs) (HN : Hid (N = min len 6)) (hN6 : N ≤ 6)  (hn : Kp1.F zs N 2 0 3 0 = true) (hi1 : Kp1.F zs N 1 0 3 0 = false)
    (hx : Kp1.mayB 3 0 (7 + (N : Int)) = true) (hy : Kp1.mayB k2 n2 (7 + (N : Int)) = true) (hs0 : Kp1.F zs N 3 0 3 0 = true) (ht : Kp1.F zs N 3 0 0 0 = true) (h12 : Kp1.F zs N 3 0 k2 n2 = false) (hz : Kp1.mayB k3 n3 (7 + (N : Int)) = false) :
    Calls Try.prog 3 #[.slice a len cap, .agg #[.int .i64 3, .int .i64 0], .agg #[.int .i64 k2, .int .i64 n2], .agg #[.int .i64 k3, .int .i64 n3]] w fun e w' => e = .returned (.bool true) ∧ Below w.heap.size w w' := by
  have i0 := inv_start (k1 := 3) (n1 := 0) (k2 := k2) (n2 := n2) (k3 := k3) (n3 := n3) w
  go_enter Try.func3, Try.ntmps3
  go_wp2_with (first
    | (go_at_call 5; refine (tower_inv a len cap (unhide HN) hlen hU _ (by assumption)).mono ?_; rintro e w1 ⟨s, rfl, hs, hi⟩; obtain ⟨c1, c2, c3, c4, c5, c6⟩ := hi.1.cells)
    | (go_at_call 6; refine (may_inv _ _ _ _ (by assumption)).mono ?_; rintro e w1 ⟨rfl, hi⟩; obtain ⟨c1, c2, c3, c4, c5, c6⟩ := hi.1.cells)
    | (go_at_call 8; refine (fits_inv _ (by assumption) hN6 _ _ _ _ _ (by assumption)).mono ?_; rintro e w1 ⟨rfl, hi, _⟩; obtain ⟨c1, c2, c3, c4, c5, c6⟩ := hi.1.cells)
    | (go_at_call 7; refine (Fits_inv _ (by assumption) hN6 _ _ _ _ _ (by assumption)).mono ?_; rintro e w1 ⟨rfl, hi⟩))
  go_ret
  exact ⟨rfl, (show Inv w w.heap.size 3 0 k2 n2 k3 n3 _ by assumption).2⟩

set_option maxRecDepth 100000 in
set_option maxHeartbeats 2000000 in
theorem order_0_f1 (a : Option Addr) (len cap N : Nat) (zs : Nat → Int) (k2 n2 k3 n3 : Int) (w : World) (hlen : len ≤ 9223372036854775807) (hU : UpsIn w a len zs) (HN : Hid (N = min len 6)) (hN6 : N ≤ 6)  (hn : Kp1.F zs N 2 0 3 0 = true) (hi1 : Kp1.F zs N 1 0 3 0 = false)
    (hx : Kp1.mayB 3 0 (7 + (N : Int)) = true) (hy : Kp1.mayB k2 n2 (7 + (N : Int)) = true) (hs0 : Kp1.F zs N 3 0 3 0 = true) (ht : Kp1.F zs N 3 0 0 0 = true) (h12 : Kp1.F zs N 3 0 k2 n2 = false) (hz : Kp1.mayB k3 n3 (7 + (N : Int)) = true) :
    Calls Try.prog 3 #[.slice a len cap, .agg #[.int .i64 3, .int .i64 0], .agg #[.int .i64 k2, .int .i64 n2], .agg #[.int .i64 k3, .int .i64 n3]] w fun e w' => e = .returned (.bool true) ∧ Below w.heap.size w w' := by
  have i0 := inv_start (k1 := 3) (n1 := 0) (k2 := k2) (n2 := n2) (k3 := k3) (n3 := n3) w
  go_enter Try.func3, Try.ntmps3
  go_wp2_with (first
    | (go_at_call 5; refine (tower_inv a len cap (unhide HN) hlen hU _ (by assumption)).mono ?_; rintro e w1 ⟨s, rfl, hs, hi⟩; obtain ⟨c1, c2, c3, c4, c5, c6⟩ := hi.1.cells)
    | (go_at_call 6; refine (may_inv _ _ _ _ (by assumption)).mono ?_; rintro e w1 ⟨rfl, hi⟩; obtain ⟨c1, c2, c3, c4, c5, c6⟩ := hi.1.cells)
    | (go_at_call 8; refine (fits_inv _ (by assumption) hN6 _ _ _ _ _ (by assumption)).mono ?_; rintro e w1 ⟨rfl, hi, _⟩; obtain ⟨c1, c2, c3, c4, c5, c6⟩ := hi.1.cells)
    | (go_at_call 7; refine (Fits_inv _ (by assumption) hN6 _ _ _ _ _ (by assumption)).mono ?_; rintro e w1 ⟨rfl, hi⟩))
  go_ret
  exact ⟨rfl, (show Inv w w.heap.size 3 0 k2 n2 k3 n3 _ by assumption).2⟩

set_option maxRecDepth 100000 in
set_option maxHeartbeats 2000000 in
theorem order_0_t0 (a : Option Addr) (len cap N : Nat) (zs : Nat → Int) (k2 n2 k3 n3 : Int) (w : World) (hlen : len ≤ 9223372036854775807) (hU : UpsIn w a len zs) (HN : Hid (N = min len 6)) (hN6 : N ≤ 6)  (hn : Kp1.F zs N 2 0 3 0 = true) (hi1 : Kp1.F zs N 1 0 3 0 = false)
    (hx : Kp1.mayB 3 0 (7 + (N : Int)) = true) (hy : Kp1.mayB k2 n2 (7 + (N : Int)) = true) (hs0 : Kp1.F zs N 3 0 3 0 = true) (ht : Kp1.F zs N 3 0 0 0 = true) (h12 : Kp1.F zs N 3 0 k2 n2 = true) (h21 : Kp1.F zs N k2 n2 3 0 = false) (hz : Kp1.mayB k3 n3 (7 + (N : Int)) = false) :
    Calls Try.prog 3 #[.slice a len cap, .agg #[.int .i64 3, .int .i64 0], .agg #[.int .i64 k2, .int .i64 n2], .agg #[.int .i64 k3, .int .i64 n3]] w fun e w' => e = .returned (.bool true) ∧ Below w.heap.size w w' := by
  have i0 := inv_start (k1 := 3) (n1 := 0) (k2 := k2) (n2 := n2) (k3 := k3) (n3 := n3) w
  go_enter Try.func3, Try.ntmps3
  go_wp2_with (first
    | (go_at_call 5; refine (tower_inv a len cap (unhide HN) hlen hU _ (by assumption)).mono ?_; rintro e w1 ⟨s, rfl, hs, hi⟩; obtain ⟨c1, c2, c3, c4, c5, c6⟩ := hi.1.cells)
    | (go_at_call 6; refine (may_inv _ _ _ _ (by assumption)).mono ?_; rintro e w1 ⟨rfl, hi⟩; obtain ⟨c1, c2, c3, c4, c5, c6⟩ := hi.1.cells)
    | (go_at_call 8; refine (fits_inv _ (by assumption) hN6 _ _ _ _ _ (by assumption)).mono ?_; rintro e w1 ⟨rfl, hi, _⟩; obtain ⟨c1, c2, c3, c4, c5, c6⟩ := hi.1.cells)
    | (go_at_call 7; refine (Fits_inv _ (by assumption) hN6 _ _ _ _ _ (by assumption)).mono ?_; rintro e w1 ⟨rfl, hi⟩))
  go_ret
  exact ⟨rfl, (show Inv w w.heap.size 3 0 k2 n2 k3 n3 _ by assumption).2⟩

set_option maxRecDepth 100000 in
set_option maxHeartbeats 2000000 in
theorem order_0_t2 (a : Option Addr) (len cap N : Nat) (zs : Nat → Int) (k2 n2 k3 n3 : Int) (w : World) (hlen : len ≤ 9223372036854775807) (hU : UpsIn w a len zs) (HN : Hid (N = min len 6)) (hN6 : N ≤ 6)  (hn : Kp1.F zs N 2 0 3 0 = true) (hi1 : Kp1.F zs N 1 0 3 0 = false)
    (hx : Kp1.mayB 3 0 (7 + (N : Int)) = true) (hy : Kp1.mayB k2 n2 (7 + (N : Int)) = true) (hs0 : Kp1.F zs N 3 0 3 0 = true) (ht : Kp1.F zs N 3 0 0 0 = true) (h12 : Kp1.F zs N 3 0 k2 n2 = true) (h21 : Kp1.F zs N k2 n2 3 0 = false) (hz : Kp1.mayB k3 n3 (7 + (N : Int)) = true) (h23 : Kp1.F zs N k2 n2 k3 n3 = false) :
    Calls Try.prog 3 #[.slice a len cap, .agg #[.int .i64 3, .int .i64 0], .agg #[.int .i64 k2, .int .i64 n2], .agg #[.int .i64 k3, .int .i64 n3]] w fun e w' => e = .returned (.bool true) ∧ Below w.heap.size w w' := by
  have i0 := inv_start (k1 := 3) (n1 := 0) (k2 := k2) (n2 := n2) (k3 := k3) (n3 := n3) w
  go_enter Try.func3, Try.ntmps3
  go_wp2_with (first
    | (go_at_call 5; refine (tower_inv a len cap (unhide HN) hlen hU _ (by assumption)).mono ?_; rintro e w1 ⟨s, rfl, hs, hi⟩; obtain ⟨c1, c2, c3, c4, c5, c6⟩ := hi.1.cells)
    | (go_at_call 6; refine (may_inv _ _ _ _ (by assumption)).mono ?_; rintro e w1 ⟨rfl, hi⟩; obtain ⟨c1, c2, c3, c4, c5, c6⟩ := hi.1.cells)
    | (go_at_call 8; refine (fits_inv _ (by assumption) hN6 _ _ _ _ _ (by assumption)).mono ?_; rintro e w1 ⟨rfl, hi, _⟩; obtain ⟨c1, c2, c3, c4, c5, c6⟩ := hi.1.cells)
    | (go_at_call 7; refine (Fits_inv _ (by assumption) hN6 _ _ _ _ _ (by assumption)).mono ?_; rintro e w1 ⟨rfl, hi⟩))
  go_ret
  exact ⟨rfl, (show Inv w w.heap.size 3 0 k2 n2 k3 n3 _ by assumption).2⟩

set_option maxRecDepth 100000 in
set_option maxHeartbeats 2000000 in
theorem order_0_t3 (a : Option Addr) (len cap N : Nat) (zs : Nat → Int) (k2 n2 k3 n3 : Int) (w : World) (hlen : len ≤ 9223372036854775807) (hU : UpsIn w a len zs) (HN : Hid (N = min len 6)) (hN6 : N ≤ 6)  (hn : Kp1.F zs N 2 0 3 0 = true) (hi1 : Kp1.F zs N 1 0 3 0 = false)
    (hx : Kp1.mayB 3 0 (7 + (N : Int)) = true) (hy : Kp1.mayB k2 n2 (7 + (N : Int)) = true) (hs0 : Kp1.F zs N 3 0 3 0 = true) (ht : Kp1.F zs N 3 0 0 0 = true) (h12 : Kp1.F zs N 3 0 k2 n2 = true) (h21 : Kp1.F zs N k2 n2 3 0 = false) (hz : Kp1.mayB k3 n3 (7 + (N : Int)) = true) (h23 : Kp1.F zs N k2 n2 k3 n3 = true) (h13 : Kp1.F zs N 3 0 k3 n3 = true) :
    Calls Try.prog 3 #[.slice a len cap, .agg #[.int .i64 3, .int .i64 0], .agg #[.int .i64 k2, .int .i64 n2], .agg #[.int .i64 k3, .int .i64 n3]] w fun e w' => e = .returned (.bool true) ∧ Below w.heap.size w w' := by
  have i0 := inv_start (k1 := 3) (n1 := 0) (k2 := k2) (n2 := n2) (k3 := k3) (n3 := n3) w
  go_enter Try.func3, Try.ntmps3
  go_wp2_with (first
    | (go_at_call 5; refine (tower_inv a len cap (unhide HN) hlen hU _ (by assumption)).mono ?_; rintro e w1 ⟨s, rfl, hs, hi⟩; obtain ⟨c1, c2, c3, c4, c5, c6⟩ := hi.1.cells)
    | (go_at_call 6; refine (may_inv _ _ _ _ (by assumption)).mono ?_; rintro e w1 ⟨rfl, hi⟩; obtain ⟨c1, c2, c3, c4, c5, c6⟩ := hi.1.cells)
    | (go_at_call 8; refine (fits_inv _ (by assumption) hN6 _ _ _ _ _ (by assumption)).mono ?_; rintro e w1 ⟨rfl, hi, _⟩; obtain ⟨c1, c2, c3, c4, c5, c6⟩ := hi.1.cells)
    | (go_at_call 7; refine (Fits_inv _ (by assumption) hN6 _ _ _ _ _ (by assumption)).mono ?_; rintro e w1 ⟨rfl, hi⟩))
  go_ret
  exact ⟨rfl, (show Inv w w.heap.size 3 0 k2 n2 k3 n3 _ by assumption).2⟩

set_option maxRecDepth 100000 in
set_option maxHeartbeats 2000000 in
theorem order_0_e0 (a : Option Addr) (len cap N : Nat) (zs : Nat → Int) (k3 n3 : Int) (w : World) (hlen : len ≤ 9223372036854775807) (hU : UpsIn w a len zs) (HN : Hid (N = min len 6)) (hN6 : N ≤ 6)  (hn : Kp1.F zs N 2 0 3 0 = true) (hi1 : Kp1.F zs N 1 0 3 0 = false)
    (hx : Kp1.mayB 3 0 (7 + (N : Int)) = true) (hs0 : Kp1.F zs N 3 0 3 0 = true) (ht : Kp1.F zs N 3 0 0 0 = true)  (hz : Kp1.mayB k3 n3 (7 + (N : Int)) = false) :
    Calls Try.prog 3 #[.slice a len cap, .agg #[.int .i64 3, .int .i64 0], .agg #[.int .i64 3, .int .i64 0], .agg #[.int .i64 k3, .int .i64 n3]] w fun e w' => e = .returned (.bool true) ∧ Below w.heap.size w w' := by
  have i0 := inv_start (k1 := 3) (n1 := 0) (k2 := 3) (n2 := 0) (k3 := k3) (n3 := n3) w
  go_enter Try.func3, Try.ntmps3
  go_wp2_with (first
    | (go_at_call 5; refine (tower_inv a len cap (unhide HN) hlen hU _ (by assumption)).mono ?_; rintro e w1 ⟨s, rfl, hs, hi⟩; obtain ⟨c1, c2, c3, c4, c5, c6⟩ := hi.1.cells)
    | (go_at_call 6; refine (may_inv _ _ _ _ (by assumption)).mono ?_; rintro e w1 ⟨rfl, hi⟩; obtain ⟨c1, c2, c3, c4, c5, c6⟩ := hi.1.cells)
    | (go_at_call 8; refine (fits_inv _ (by assumption) hN6 _ _ _ _ _ (by assumption)).mono ?_; rintro e w1 ⟨rfl, hi, _⟩; obtain ⟨c1, c2, c3, c4, c5, c6⟩ := hi.1.cells)
    | (go_at_call 7; refine (Fits_inv _ (by assumption) hN6 _ _ _ _ _ (by assumption)).mono ?_; rintro e w1 ⟨rfl, hi⟩))
  go_ret
  exact ⟨rfl, (show Inv w w.heap.size 3 0 3 0 k3 n3 _ by assumption).2⟩

set_option maxRecDepth 100000 in
set_option maxHeartbeats 2000000 in
theorem order_0_e2 (a : Option Addr) (len cap N : Nat) (zs : Nat → Int) (k3 n3 : Int) (w : World) (hlen : len ≤ 9223372036854775807) (hU : UpsIn w a len zs) (HN : Hid (N = min len 6)) (hN6 : N ≤ 6)  (hn : Kp1.F zs N 2 0 3 0 = true) (hi1 : Kp1.F zs N 1 0 3 0 = false)
    (hx : Kp1.mayB 3 0 (7 + (N : Int)) = true) (hs0 : Kp1.F zs N 3 0 3 0 = true) (ht : Kp1.F zs N 3 0 0 0 = true)  (hz : Kp1.mayB k3 n3 (7 + (N : Int)) = true) (h23 : Kp1.F zs N 3 0 k3 n3 = false) :
    Calls Try.prog 3 #[.slice a len cap, .agg #[.int .i64 3, .int .i64 0], .agg #[.int .i64 3, .int .i64 0], .agg #[.int .i64 k3, .int .i64 n3]] w fun e w' => e = .returned (.bool true) ∧ Below w.heap.size w w' := by
  have i0 := inv_start (k1 := 3) (n1 := 0) (k2 := 3) (n2 := 0) (k3 := k3) (n3 := n3) w
  go_enter Try.func3, Try.ntmps3
  go_wp2_with (first
    | (go_at_call 5; refine (tower_inv a len cap (unhide HN) hlen hU _ (by assumption)).mono ?_; rintro e w1 ⟨s, rfl, hs, hi⟩; obtain ⟨c1, c2, c3, c4, c5, c6⟩ := hi.1.cells)
    | (go_at_call 6; refine (may_inv _ _ _ _ (by assumption)).mono ?_; rintro e w1 ⟨rfl, hi⟩; obtain ⟨c1, c2, c3, c4, c5, c6⟩ := hi.1.cells)
    | (go_at_call 8; refine (fits_inv _ (by assumption) hN6 _ _ _ _ _ (by assumption)).mono ?_; rintro e w1 ⟨rfl, hi, _⟩; obtain ⟨c1, c2, c3, c4, c5, c6⟩ := hi.1.cells)
    | (go_at_call 7; refine (Fits_inv _ (by assumption) hN6 _ _ _ _ _ (by assumption)).mono ?_; rintro e w1 ⟨rfl, hi⟩))
  go_ret
  exact ⟨rfl, (show Inv w w.heap.size 3 0 3 0 k3 n3 _ by assumption).2⟩

set_option maxRecDepth 100000 in
set_option maxHeartbeats 2000000 in
theorem order_0_e3 (a : Option Addr) (len cap N : Nat) (zs : Nat → Int) (k3 n3 : Int) (w : World) (hlen : len ≤ 9223372036854775807) (hU : UpsIn w a len zs) (HN : Hid (N = min len 6)) (hN6 : N ≤ 6)  (hn : Kp1.F zs N 2 0 3 0 = true) (hi1 : Kp1.F zs N 1 0 3 0 = false)
    (hx : Kp1.mayB 3 0 (7 + (N : Int)) = true) (hs0 : Kp1.F zs N 3 0 3 0 = true) (ht : Kp1.F zs N 3 0 0 0 = true)  (hz : Kp1.mayB k3 n3 (7 + (N : Int)) = true) (h23 : Kp1.F zs N 3 0 k3 n3 = true) :
    Calls Try.prog 3 #[.slice a len cap, .agg #[.int .i64 3, .int .i64 0], .agg #[.int .i64 3, .int .i64 0], .agg #[.int .i64 k3, .int .i64 n3]] w fun e w' => e = .returned (.bool true) ∧ Below w.heap.size w w' := by
  have i0 := inv_start (k1 := 3) (n1 := 0) (k2 := 3) (n2 := 0) (k3 := k3) (n3 := n3) w
  go_enter Try.func3, Try.ntmps3
  go_wp2_with (first
    | (go_at_call 5; refine (tower_inv a len cap (unhide HN) hlen hU _ (by assumption)).mono ?_; rintro e w1 ⟨s, rfl, hs, hi⟩; obtain ⟨c1, c2, c3, c4, c5, c6⟩ := hi.1.cells)
    | (go_at_call 6; refine (may_inv _ _ _ _ (by assumption)).mono ?_; rintro e w1 ⟨rfl, hi⟩; obtain ⟨c1, c2, c3, c4, c5, c6⟩ := hi.1.cells)
    | (go_at_call 8; refine (fits_inv _ (by assumption) hN6 _ _ _ _ _ (by assumption)).mono ?_; rintro e w1 ⟨rfl, hi, _⟩; obtain ⟨c1, c2, c3, c4, c5, c6⟩ := hi.1.cells)
    | (go_at_call 7; refine (Fits_inv _ (by assumption) hN6 _ _ _ _ _ (by assumption)).mono ?_; rintro e w1 ⟨rfl, hi⟩))
  go_ret
  exact ⟨rfl, (show Inv w w.heap.size 3 0 3 0 k3 n3 _ by assumption).2⟩

end Go.Proofs.Ytpgklckplchhgaa
