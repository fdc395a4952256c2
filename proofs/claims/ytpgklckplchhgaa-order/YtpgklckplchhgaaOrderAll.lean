/-
  The statement Order answers true, whatever its arguments.
-/
import Derived.Test.YtpgklckplchhgaaOrderK
import Derived.Test.YtpgklckplchhgaaOrderZ
import Derived.Test.YtpgklckplchhgaaOrderN
namespace Go.Proofs.Ytpgklckplchhgaa
open Go.RowKit

theorem order_all (a : Option Addr) (len cap : Nat) (zs : Nat → Int) (k1 n1 k2 n2 k3 n3 : Int) (w : World) (hlen : len ≤ 9223372036854775807) (hU : UpsIn w a len zs) :
    Calls Try.prog 3 #[.slice a len cap, .agg #[.int .i64 k1, .int .i64 n1], .agg #[.int .i64 k2, .int .i64 n2], .agg #[.int .i64 k3, .int .i64 n3]] w fun e w' => e = .returned (.bool true) ∧ Below w.heap.size w w' := by
  cases hx : Kp1.mayB k1 n1 (7 + ((min len 6 : Nat) : Int)) with
  | false => exact order_no1 a len cap zs k1 n1 k2 n2 k3 n3 w hlen hU hx
  | true =>
    cases hy : Kp1.mayB k2 n2 (7 + ((min len 6 : Nat) : Int)) with
    | false => exact order_no2 a len cap zs k1 n1 k2 n2 k3 n3 w hlen hU hx hy
    | true =>
      obtain ⟨N, hN⟩ : ∃ N, N = min len 6 := ⟨_, rfl⟩
      rw [← hN] at hx hy
      have hN6 : N ≤ 6 := by omega
      have hNl : N ≤ len := by omega
      have HN := hide hN
      have ok := T_ok zs N
      have A1 := (may_iff zs N k1 n1).1 hx
      have A2 := (may_iff zs N k2 n2).1 hy
      have A0 : Tr.Arg (Kp1.T zs N) 0 0 := .inl ⟨rfl, rfl⟩
      have hs0 : Kp1.F zs N k1 n1 k1 n1 = true := by rw [F_ok hN6 A1 A1]; exact Tr.fits_refl _ _ _
      have ht : Kp1.F zs N k1 n1 0 0 = true := by rw [F_ok hN6 A1 A0]; exact (Tr.fits_iff ..).2 (.inr (.inl rfl))
      have tr : Kp1.mayB k3 n3 (7 + (N : Int)) = true → Kp1.F zs N k1 n1 k2 n2 = true → Kp1.F zs N k2 n2 k3 n3 = true → Kp1.F zs N k1 n1 k3 n3 = true := by
        intro hz h1 h2
        have A3 := (may_iff zs N k3 n3).1 hz
        rw [F_ok hN6 A1 A2] at h1
        rw [F_ok hN6 A2 A3] at h2
        rw [F_ok hN6 A1 A3]
        exact Tr.fits_trans ok A1 A2 A3 h1 h2
      have an : Kp1.F zs N k1 n1 k2 n2 = true → Kp1.F zs N k2 n2 k1 n1 = true → k1 = k2 ∧ n1 = n2 := by
        intro h1 h2
        rw [F_ok hN6 A1 A2] at h1
        rw [F_ok hN6 A2 A1] at h2
        exact Tr.fits_anti ok A1 A2 h1 h2
      have ref : ∀ m, Tr.Arg (Kp1.T zs N) 3 m → Kp1.F zs N 2 0 3 m = true ∧ Kp1.F zs N 1 0 3 m = false := by
        intro m hm
        rw [F_ok hN6 (.inr (.inr (.inl ⟨rfl, rfl⟩))) hm, F_ok hN6 (.inr (.inl ⟨rfl, rfl⟩)) hm]
        refine ⟨(Tr.fits_iff ..).2 (.inr (.inr (.inl ⟨rfl, rfl⟩))), ?_⟩
        rw [Bool.eq_false_iff]
        intro hc
        rcases (Tr.fits_iff ..).1 hc with ⟨e, _⟩ | e | ⟨_, e⟩ | ⟨_, e, _⟩ <;> omega
      have up : ∀ m, Tr.Arg (Kp1.T zs N) 3 m → m ≠ 0 → 0 < m ∧ m < 7 + (N : Int) ∧ Kp1.F zs N 3 m 3 (Kp1.ab zs m) = true ∧ Kp1.F zs N 3 (Kp1.ab zs m) 3 m = false := by
        intro m hm h0
        have hr : 0 ≤ m ∧ m < 7 + (N : Int) := by
          unfold Tr.Arg at hm
          rw [T_len] at hm
          omega
        have hl : m < ((Kp1.T zs N).length : Int) := by rw [T_len]; omega
        have e := T_ab zs N m (by omega) hr.2
        have u1 := Tr.ov_lt ok (show 0 ≤ m by omega)
        have u2 := Tr.ov_pos ok (show 0 < m by omega) hl
        have u3 := Tr.below_up ok (show 0 < m by omega) hl
        rw [e] at u1 u2 u3
        have hm' : Tr.Arg (Kp1.T zs N) 3 (Kp1.ab zs m) := .inr (.inr (.inr (.inl ⟨rfl, u2, by omega⟩)))
        rw [F_ok hN6 hm hm', F_ok hN6 hm' hm]
        refine ⟨by omega, hr.2, Tr.fits_ref.2 (.inr u3), ?_⟩
        rw [Bool.eq_false_iff]
        intro hc
        rcases Tr.fits_ref.1 hc with g | g
        · omega
        · have := Tr.below_lt ok (by omega) (by omega) g
          omega
      have cas : Kp1.F zs N k1 n1 k2 n2 = false ∨ (Kp1.F zs N k1 n1 k2 n2 = true ∧ Kp1.F zs N k2 n2 k1 n1 = false) ∨ (k1 = k2 ∧ n1 = n2) := by
        cases h1 : Kp1.F zs N k1 n1 k2 n2 with
        | false => exact .inl rfl
        | true =>
          cases h2 : Kp1.F zs N k2 n2 k1 n1 with
          | false => exact .inr (.inl ⟨rfl, rfl⟩)
          | true => exact .inr (.inr (an h1 h2))
      by_cases hk : k1 = 3
      · subst hk
        obtain ⟨hn, hi1⟩ := ref n1 A1
        by_cases h0 : n1 = 0
        · subst h0
          rcases cas with h12 | ⟨h12, h21⟩ | ⟨rfl, rfl⟩
          · cases hz : Kp1.mayB k3 n3 (7 + (N : Int)) with
            | false => exact order_0_f0 a len cap N zs k2 n2 k3 n3 w hlen hU HN hN6 hn hi1 hx hy hs0 ht h12 hz
            | true => exact order_0_f1 a len cap N zs k2 n2 k3 n3 w hlen hU HN hN6 hn hi1 hx hy hs0 ht h12 hz
          · cases hz : Kp1.mayB k3 n3 (7 + (N : Int)) with
            | false => exact order_0_t0 a len cap N zs k2 n2 k3 n3 w hlen hU HN hN6 hn hi1 hx hy hs0 ht h12 h21 hz
            | true =>
              cases h23 : Kp1.F zs N k2 n2 k3 n3 with
              | false => exact order_0_t2 a len cap N zs k2 n2 k3 n3 w hlen hU HN hN6 hn hi1 hx hy hs0 ht h12 h21 hz h23
              | true => exact order_0_t3 a len cap N zs k2 n2 k3 n3 w hlen hU HN hN6 hn hi1 hx hy hs0 ht h12 h21 hz h23 (tr hz h12 h23)
          · cases hz : Kp1.mayB k3 n3 (7 + (N : Int)) with
            | false => exact order_0_e0 a len cap N zs k3 n3 w hlen hU HN hN6 hn hi1 hx hs0 ht hz
            | true =>
              cases h23 : Kp1.F zs N 3 0 k3 n3 with
              | false => exact order_0_e2 a len cap N zs k3 n3 w hlen hU HN hN6 hn hi1 hx hs0 ht hz h23
              | true => exact order_0_e3 a len cap N zs k3 n3 w hlen hU HN hN6 hn hi1 hx hs0 ht hz h23
        · obtain ⟨hp0, hp1, hr, hf⟩ := up n1 A1 h0
          have hk : (n1 == 0) = false := by simp [h0]
          rcases cas with h12 | ⟨h12, h21⟩ | ⟨rfl, rfl⟩
          · cases hz : Kp1.mayB k3 n3 (7 + (N : Int)) with
            | false => exact order_n_f0 a len cap N zs n1 k2 n2 k3 n3 w hlen hU HN hN6 hk hp1 hNl hr hf hn hi1 hx hy hs0 ht h12 hz
            | true => exact order_n_f1 a len cap N zs n1 k2 n2 k3 n3 w hlen hU HN hN6 hk hp1 hNl hr hf hn hi1 hx hy hs0 ht h12 hz
          · cases hz : Kp1.mayB k3 n3 (7 + (N : Int)) with
            | false => exact order_n_t0 a len cap N zs n1 k2 n2 k3 n3 w hlen hU HN hN6 hk hp1 hNl hr hf hn hi1 hx hy hs0 ht h12 h21 hz
            | true =>
              cases h23 : Kp1.F zs N k2 n2 k3 n3 with
              | false => exact order_n_t2 a len cap N zs n1 k2 n2 k3 n3 w hlen hU HN hN6 hk hp1 hNl hr hf hn hi1 hx hy hs0 ht h12 h21 hz h23
              | true => exact order_n_t3 a len cap N zs n1 k2 n2 k3 n3 w hlen hU HN hN6 hk hp1 hNl hr hf hn hi1 hx hy hs0 ht h12 h21 hz h23 (tr hz h12 h23)
          · cases hz : Kp1.mayB k3 n3 (7 + (N : Int)) with
            | false => exact order_n_e0 a len cap N zs n1 k3 n3 w hlen hU HN hN6 hk hp1 hNl hr hf hn hi1 hx hs0 ht hz
            | true =>
              cases h23 : Kp1.F zs N 3 n1 k3 n3 with
              | false => exact order_n_e2 a len cap N zs n1 k3 n3 w hlen hU HN hN6 hk hp1 hNl hr hf hn hi1 hx hs0 ht hz h23
              | true => exact order_n_e3 a len cap N zs n1 k3 n3 w hlen hU HN hN6 hk hp1 hNl hr hf hn hi1 hx hs0 ht hz h23
      · have hk' : (k1 != 3) = true := by simp [hk]
        rcases cas with h12 | ⟨h12, h21⟩ | ⟨rfl, rfl⟩
        · cases hz : Kp1.mayB k3 n3 (7 + (N : Int)) with
          | false => exact order_k_f0 a len cap N zs k1 n1 k2 n2 k3 n3 w hlen hU HN hN6 hk' hx hy hs0 ht h12 hz
          | true => exact order_k_f1 a len cap N zs k1 n1 k2 n2 k3 n3 w hlen hU HN hN6 hk' hx hy hs0 ht h12 hz
        · cases hz : Kp1.mayB k3 n3 (7 + (N : Int)) with
          | false => exact order_k_t0 a len cap N zs k1 n1 k2 n2 k3 n3 w hlen hU HN hN6 hk' hx hy hs0 ht h12 h21 hz
          | true =>
            cases h23 : Kp1.F zs N k2 n2 k3 n3 with
            | false => exact order_k_t2 a len cap N zs k1 n1 k2 n2 k3 n3 w hlen hU HN hN6 hk' hx hy hs0 ht h12 h21 hz h23
            | true => exact order_k_t3 a len cap N zs k1 n1 k2 n2 k3 n3 w hlen hU HN hN6 hk' hx hy hs0 ht h12 h21 hz h23 (tr hz h12 h23)
        · cases hz : Kp1.mayB k3 n3 (7 + (N : Int)) with
          | false => exact order_k_e0 a len cap N zs k1 n1 k3 n3 w hlen hU HN hN6 hk' hx hs0 ht hz
          | true =>
            cases h23 : Kp1.F zs N k1 n1 k3 n3 with
            | false => exact order_k_e2 a len cap N zs k1 n1 k3 n3 w hlen hU HN hN6 hk' hx hs0 ht hz h23
            | true => exact order_k_e3 a len cap N zs k1 n1 k3 n3 w hlen hU HN hN6 hk' hx hs0 ht hz h23
end Go.Proofs.Ytpgklckplchhgaa
