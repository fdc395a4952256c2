/-
  The pieces of the walks over the statements Order and Upper: their calls, the boxes of their three types kept.
-/
import Derived.Test.YtpgklckplchhgaaTow
namespace Go.Proofs.Ytpgklckplchhgaa
open Go.RowKit

/-- the three boxes -/
def Bx (W : World) (g : Nat) (k1 n1 k2 n2 k3 n3 : Int) : Prop :=
  W.heap[g]? = some (.cells #[.int .i64 k1, .int .i64 n1] 24 (0, 0)) ∧ W.heap[g + 1]? = some (.cells #[.int .i64 k2, .int .i64 n2] 24 (0, 0)) ∧ W.heap[g + 1 + 1]? = some (.cells #[.int .i64 k3, .int .i64 n3] 24 (0, 0))
theorem Bx.stay {W W' : World} {g : Nat} {k1 n1 k2 n2 k3 n3 : Int} (h : Bx W g k1 n1 k2 n2 k3 n3) (hb : Below W.heap.size W W') : Bx W' g k1 n1 k2 n2 k3 n3 :=
  ⟨Go.Proofs.Ytpgklckplchhgaa.stay hb h.1, Go.Proofs.Ytpgklckplchhgaa.stay hb h.2.1, Go.Proofs.Ytpgklckplchhgaa.stay hb h.2.2⟩
theorem Bx.cells {W : World} {g : Nat} {k1 n1 k2 n2 k3 n3 : Int} (h : Bx W g k1 n1 k2 n2 k3 n3) :
    W.cell? ⟨g, 0, none⟩ = some (.int .i64 k1) ∧ W.cell? ⟨g, 1, none⟩ = some (.int .i64 n1) ∧ W.cell? ⟨g + 1, 0, none⟩ = some (.int .i64 k2) ∧ W.cell? ⟨g + 1, 1, none⟩ = some (.int .i64 n2) ∧
    W.cell? ⟨g + 1 + 1, 0, none⟩ = some (.int .i64 k3) ∧ W.cell? ⟨g + 1 + 1, 1, none⟩ = some (.int .i64 n3) := by
  obtain ⟨a, b, c⟩ := h
  exact ⟨blk_cell a 0, blk_cell a 1, blk_cell b 0, blk_cell b 1, blk_cell c 0, blk_cell c 1⟩

section
variable {W0 : World} {g : Nat} {k1 n1 k2 n2 k3 n3 : Int} {zs : Nat → Int} {N : Nat}

/-- the boxes, and all that was there -/
def Inv (W0 : World) (g : Nat) (k1 n1 k2 n2 k3 n3 : Int) (W : World) : Prop := Bx W g k1 n1 k2 n2 k3 n3 ∧ Below W0.heap.size W0 W
theorem Inv.on {W W' : World} (h : Inv W0 g k1 n1 k2 n2 k3 n3 W) (hb : Below W.heap.size W W') : Inv W0 g k1 n1 k2 n2 k3 n3 W' := ⟨h.1.stay hb, h.2.trans (hb.mono h.2.size)⟩
theorem Inv.alloc {W : World} (h : Inv W0 g k1 n1 k2 n2 k3 n3 W) (o : Obj) : Inv W0 g k1 n1 k2 n2 k3 n3 (W.alloc o) := h.on ((Below.refl _ _).alloc (Nat.le_refl _) _)

theorem tower_small (s : ByteArray) (hs : s.data.toList = Kp1.towerL zs N) (hN : N ≤ 6) : s.size ≤ maxLen := by
  have h1 : s.size = s.data.toList.length := by simp
  rw [h1, hs]
  simp [Kp1.towerL, tw_len, maxLen]
  omega

theorem fits_inv (s : ByteArray) (hs : Hid (s.data.toList = Kp1.towerL zs N)) (hN : N ≤ 6) (k n k' n' : Int) (W : World) (h : Inv W0 g k1 n1 k2 n2 k3 n3 W) :
    Calls Try.prog 8 #[.string s, .agg #[.int .i64 k, .int .i64 n], .agg #[.int .i64 k', .int .i64 n']] W fun e W' => e = .returned (.bool (Kp1.F zs N k n k' n')) ∧ Inv W0 g k1 n1 k2 n2 k3 n3 W' ∧ Below W.heap.size W W' := by
  refine (kfits_any s k n k' n' W (tower_small s hs.out hN)).mono ?_
  rintro e W' ⟨rfl, hb⟩
  rw [hs.out]
  exact ⟨rfl, h.on hb, hb⟩
theorem may_inv (k n c : Int) (W : World) (h : Inv W0 g k1 n1 k2 n2 k3 n3 W) :
    Calls Try.prog 6 #[.agg #[.int .i64 k, .int .i64 n], .int .i64 c] W fun e W' => e = .returned (.bool (Kp1.mayB k n c)) ∧ Inv W0 g k1 n1 k2 n2 k3 n3 W' := by
  refine (may_any k n c W).mono ?_
  rintro e W' ⟨rfl, hb⟩
  exact ⟨rfl, h.on hb⟩
theorem Fits_inv (s : ByteArray) (hs : Hid (s.data.toList = Kp1.towerL zs N)) (hN : N ≤ 6) (k n k' n' : Int) (W : World) (h : Inv W0 g k1 n1 k2 n2 k3 n3 W) :
    Calls Try.prog 7 #[.string s, .agg #[.int .i64 k, .int .i64 n], .agg #[.int .i64 k', .int .i64 n']] W fun e W' => e = .returned (.tuple #[.bool (Kp1.F zs N k n k' n'), .int .i64 (Kp1.E zs N k n k' n')]) ∧ Inv W0 g k1 n1 k2 n2 k3 n3 W' := by
  refine (Fits_any s k n k' n' W (tower_small s hs.out hN)).mono ?_
  rintro e W' ⟨rfl, hb⟩
  rw [hs.out]
  exact ⟨rfl, h.on hb⟩
theorem Join_inv (s : ByteArray) (hs : Hid (s.data.toList = Kp1.towerL zs N)) (hN : N ≤ 6) (k n k' n' : Int) (W : World) (h : Inv W0 g k1 n1 k2 n2 k3 n3 W) :
    Calls Try.prog 10 #[.string s, .agg #[.int .i64 k, .int .i64 n], .agg #[.int .i64 k', .int .i64 n']] W fun e W' => e = .returned (.tuple #[.agg #[.int .i64 (Kp1.J zs N k n k' n').1, .int .i64 (Kp1.J zs N k n k' n').2], .int .i64 (Kp1.E zs N k n k' n')]) ∧ Inv W0 g k1 n1 k2 n2 k3 n3 W' := by
  refine (Join_any s k n k' n' W (tower_small s hs.out hN)).mono ?_
  rintro e W' ⟨rfl, hb⟩
  rw [hs.out]
  exact ⟨rfl, h.on hb⟩
theorem join_inv (s : ByteArray) (hs : Hid (s.data.toList = Kp1.towerL zs N)) (hN : N ≤ 6) (k n k' n' : Int) (W : World) (h : Inv W0 g k1 n1 k2 n2 k3 n3 W) :
    Calls Try.prog 11 #[.string s, .agg #[.int .i64 k, .int .i64 n], .agg #[.int .i64 k', .int .i64 n']] W fun e W' => e = .returned (.tuple #[.agg #[.int .i64 (Kp1.J zs N k n k' n').1, .int .i64 (Kp1.J zs N k n k' n').2], .bool (Kp1.E zs N k n k' n' == 0)]) ∧ Inv W0 g k1 n1 k2 n2 k3 n3 W' ∧ Below W.heap.size W W' := by
  refine (kjoin_any s k n k' n' W (tower_small s hs.out hN)).mono ?_
  rintro e W' ⟨rfl, hb⟩
  rw [hs.out]
  exact ⟨rfl, h.on hb, hb⟩
theorem tower_inv (a : Option Addr) (len cap : Nat) (hNl : N = min len 6) (hlen : len ≤ 9223372036854775807) (hU : UpsIn W0 a len zs) (W : World) (h : Inv W0 g k1 n1 k2 n2 k3 n3 W) :
    Calls Try.prog 5 #[.slice a len cap] W fun e W' => ∃ s : ByteArray, e = .returned (.tuple #[.string s, .int .i64 (7 + (N : Int))]) ∧ Hid (s.data.toList = Kp1.towerL zs N) ∧ Inv W0 g k1 n1 k2 n2 k3 n3 W' := by
  refine (tower_any a len cap zs W hlen (hU.below h.2)).mono ?_
  rintro e W' ⟨s, rfl, hs, hb⟩
  subst hNl
  exact ⟨s, rfl, hs, h.on hb⟩
theorem above_inv (a : Option Addr) (len cap : Nat) (hU : UpsIn W0 a len zs) (c : Int) (hc : c ≤ 12) (hc1 : c - 7 < (len : Int)) (W : World) (h : Inv W0 g k1 n1 k2 n2 k3 n3 W) :
    Calls Try.prog 9 #[.slice a len cap, .int .i64 c] W fun e W' => e = .returned (.int .i64 (Kp1.ab zs c)) ∧ Inv W0 g k1 n1 k2 n2 k3 n3 W' := by
  refine (above_any a len cap zs c W hc hc1 (hU.below h.2)).mono ?_
  rintro e W' ⟨rfl, rfl⟩
  exact ⟨rfl, h⟩
theorem inv_start (w : World) : Inv w w.heap.size k1 n1 k2 n2 k3 n3 (((w.alloc (.cells #[.int .i64 k1, .int .i64 n1] 24)).alloc (.cells #[.int .i64 k2, .int .i64 n2] 24)).alloc (.cells #[.int .i64 k3, .int .i64 n3] 24)) :=
  ⟨blks3 w _ _ _, below3 w _ _ _⟩
end

set_option maxRecDepth 100000 in
set_option maxHeartbeats 2000000 in
theorem order_no1 (a : Option Addr) (len cap : Nat) (zs : Nat → Int) (k1 n1 k2 n2 k3 n3 : Int) (w : World) (hlen : len ≤ 9223372036854775807) (hU : UpsIn w a len zs)
    (h : Kp1.mayB k1 n1 (7 + ((min len 6 : Nat) : Int)) = false) :
    Calls Try.prog 3 #[.slice a len cap, .agg #[.int .i64 k1, .int .i64 n1], .agg #[.int .i64 k2, .int .i64 n2], .agg #[.int .i64 k3, .int .i64 n3]] w fun e w' => e = .returned (.bool true) ∧ Below w.heap.size w w' := by
  obtain ⟨N, hN⟩ : ∃ N, N = min len 6 := ⟨_, rfl⟩
  rw [← hN] at h
  have hN6 : N ≤ 6 := by omega
  have HN := hide hN
  clear hN
  have hE := E_no1 (zs := zs) hN6 (k' := k2) (n' := n2) h
  have hF := F_no hN6 hE
  have i0 := inv_start (k1 := k1) (n1 := n1) (k2 := k2) (n2 := n2) (k3 := k3) (n3 := n3) w
  go_enter Try.func3, Try.ntmps3
  go_wp2_with (first
    | (go_at_call 5; refine (tower_inv a len cap (unhide HN) hlen hU _ (by assumption)).mono ?_; rintro e w1 ⟨s, rfl, hs, hi⟩; obtain ⟨c1, c2, c3, c4, c5, c6⟩ := hi.1.cells)
    | (go_at_call 6; refine (may_inv _ _ _ _ (by assumption)).mono ?_; rintro e w1 ⟨rfl, hi⟩; obtain ⟨c1, c2, c3, c4, c5, c6⟩ := hi.1.cells)
    | (go_at_call 8; refine (fits_inv _ (by assumption) hN6 _ _ _ _ _ (by assumption)).mono ?_; rintro e w1 ⟨rfl, hi, _⟩; obtain ⟨c1, c2, c3, c4, c5, c6⟩ := hi.1.cells)
    | (go_at_call 7; refine (Fits_inv _ (by assumption) hN6 _ _ _ _ _ (by assumption)).mono ?_; rintro e w1 ⟨rfl, hi⟩))
  go_ret
  exact ⟨rfl, (show Inv w w.heap.size k1 n1 k2 n2 k3 n3 _ by assumption).2⟩

set_option maxRecDepth 100000 in
set_option maxHeartbeats 2000000 in
theorem order_no2 (a : Option Addr) (len cap : Nat) (zs : Nat → Int) (k1 n1 k2 n2 k3 n3 : Int) (w : World) (hlen : len ≤ 9223372036854775807) (hU : UpsIn w a len zs)
    (hx : Kp1.mayB k1 n1 (7 + ((min len 6 : Nat) : Int)) = true) (h : Kp1.mayB k2 n2 (7 + ((min len 6 : Nat) : Int)) = false) :
    Calls Try.prog 3 #[.slice a len cap, .agg #[.int .i64 k1, .int .i64 n1], .agg #[.int .i64 k2, .int .i64 n2], .agg #[.int .i64 k3, .int .i64 n3]] w fun e w' => e = .returned (.bool true) ∧ Below w.heap.size w w' := by
  obtain ⟨N, hN⟩ : ∃ N, N = min len 6 := ⟨_, rfl⟩
  rw [← hN] at h hx
  have hN6 : N ≤ 6 := by omega
  have HN := hide hN
  clear hN
  have hE := E_no2 (zs := zs) hN6 (k := k1) (n := n1) h
  have hF := F_no hN6 hE
  have i0 := inv_start (k1 := k1) (n1 := n1) (k2 := k2) (n2 := n2) (k3 := k3) (n3 := n3) w
  go_enter Try.func3, Try.ntmps3
  go_wp2_with (first
    | (go_at_call 5; refine (tower_inv a len cap (unhide HN) hlen hU _ (by assumption)).mono ?_; rintro e w1 ⟨s, rfl, hs, hi⟩; obtain ⟨c1, c2, c3, c4, c5, c6⟩ := hi.1.cells)
    | (go_at_call 6; refine (may_inv _ _ _ _ (by assumption)).mono ?_; rintro e w1 ⟨rfl, hi⟩; obtain ⟨c1, c2, c3, c4, c5, c6⟩ := hi.1.cells)
    | (go_at_call 8; refine (fits_inv _ (by assumption) hN6 _ _ _ _ _ (by assumption)).mono ?_; rintro e w1 ⟨rfl, hi, _⟩; obtain ⟨c1, c2, c3, c4, c5, c6⟩ := hi.1.cells)
    | (go_at_call 7; refine (Fits_inv _ (by assumption) hN6 _ _ _ _ _ (by assumption)).mono ?_; rintro e w1 ⟨rfl, hi⟩))
  go_ret
  exact ⟨rfl, (show Inv w w.heap.size k1 n1 k2 n2 k3 n3 _ by assumption).2⟩

end Go.Proofs.Ytpgklckplchhgaa
