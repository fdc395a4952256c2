/-
  The walks over the statement's own helpers may and above.
-/
import Derived.Test.YtpgklckplchhgaaKeep1
namespace Go.Proofs.Ytpgklckplchhgaa
open Go.RowKit

def Kp1.mayB (k n c : Int) : Bool :=
  if k = 0 then n == 0 else if k = 1 then n == 0 else if k = 2 then n == 0
  else if k = 3 then (decide (0 ≤ n) && decide (n < c)) else if k = 4 then (decide (0 ≤ n) && decide (n < 120)) else false

set_option maxRecDepth 100000 in
set_option maxHeartbeats 2000000 in
theorem may_any (k n c : Int) (w : World) :
    Calls Try.prog 6 #[.agg #[.int .i64 k, .int .i64 n], .int .i64 c] w fun e w' => e = .returned (.bool (Kp1.mayB k n c)) ∧ Below w.heap.size w w' := by
  unfold Kp1.mayB
  by_cases h0 : k = 0
  · rw [if_pos h0]
    subst h0
    go_enter Try.func6, Try.ntmps6
    go_wp2
    go_ret
    exact ⟨rfl, (Below.refl _ _).alloc (Nat.le_refl _) _⟩
  · rw [if_neg h0]
    by_cases h1 : k = 1
    · rw [if_pos h1]
      subst h1
      go_enter Try.func6, Try.ntmps6
      go_wp2
      go_ret
      exact ⟨rfl, (Below.refl _ _).alloc (Nat.le_refl _) _⟩
    · rw [if_neg h1]
      by_cases h2 : k = 2
      · rw [if_pos h2]
        subst h2
        go_enter Try.func6, Try.ntmps6
        go_wp2
        go_ret
        exact ⟨rfl, (Below.refl _ _).alloc (Nat.le_refl _) _⟩
      · rw [if_neg h2]
        by_cases h3 : k = 3
        · rw [if_pos h3]
          subst h3
          by_cases hn : 0 ≤ n
          · go_enter Try.func6, Try.ntmps6
            go_wp2
            go_ret
            exact ⟨by simp [hn], (Below.refl _ _).alloc (Nat.le_refl _) _⟩
          · go_enter Try.func6, Try.ntmps6
            go_wp2
            go_ret
            exact ⟨by simp; omega, (Below.refl _ _).alloc (Nat.le_refl _) _⟩
        · rw [if_neg h3]
          by_cases h4 : k = 4
          · rw [if_pos h4]
            subst h4
            by_cases hn : 0 ≤ n
            · go_enter Try.func6, Try.ntmps6
              go_wp2
              go_ret
              exact ⟨by simp [hn], (Below.refl _ _).alloc (Nat.le_refl _) _⟩
            · go_enter Try.func6, Try.ntmps6
              go_wp2
              go_ret
              exact ⟨by simp; omega, (Below.refl _ _).alloc (Nat.le_refl _) _⟩
          · rw [if_neg h4]
            have g0 : (k == 0) = false := by simp [h0]
            have g1 : (k == 1) = false := by simp [h1]
            have g2 : (k == 2) = false := by simp [h2]
            have g3 : (k == 3) = false := by simp [h3]
            have g4 : (k == 4) = false := by simp [h4]
            clear h0 h1 h2 h3 h4
            go_enter Try.func6, Try.ntmps6
            go_wp2
            go_ret
            exact ⟨rfl, (Below.refl _ _).alloc (Nat.le_refl _) _⟩

/-- the class above one of a tower -/
def Kp1.ab (zs : Nat → Int) (c : Int) : Int := if c ≤ 1 then 0 else if c < 7 then 1 else Kp1.pk (zs (c - 7).toNat) c

set_option maxRecDepth 100000 in
set_option maxHeartbeats 2000000 in
theorem above_any (a : Option Addr) (len cap : Nat) (zs : Nat → Int) (c : Int) (w : World) (hc : c ≤ 12) (hc1 : c - 7 < (len : Int)) (hU : UpsIn w a len zs) :
    Calls Try.prog 9 #[.slice a len cap, .int .i64 c] w fun e w' => e = .returned (.int .i64 (Kp1.ab zs c)) ∧ w = w' := by
  unfold Kp1.ab
  by_cases h1 : c ≤ 1
  · rw [if_pos h1]
    go_enter Try.func9, Try.ntmps9
    go_wp2
    go_ret
    exact ⟨rfl, rfl⟩
  · rw [if_neg h1]
    by_cases h7 : c < 7
    · rw [if_pos h7]
      go_enter Try.func9, Try.ntmps9
      go_wp2
      go_ret
      exact ⟨rfl, rfl⟩
    · rw [if_neg h7]
      obtain ⟨k, hk⟩ := Int.eq_ofNat_of_zero_le (show 0 ≤ c - 7 by omega)
      obtain rfl : c = (k : Int) + 7 := by omega
      have e : ((k : Int) + 7 - 7).toNat = k := by omega
      rw [e]
      clear hk e
      obtain ⟨⟨b, off, e1, e2, e3⟩, e4, e5⟩ := hU k (by omega)
      generalize zs k = z at *
      subst e1
      go_enter Try.func9, Try.ntmps9
      go_wp2_with fail
      refine (pick_any z _ _ e4 e5 (by omega) (by omega)).mono ?_
      rintro e w1 ⟨rfl, rfl⟩
      go_wp2
      go_ret
      exact ⟨rfl, rfl⟩
end Go.Proofs.Ytpgklckplchhgaa
