/-
  The statement Upper answers true, whatever its arguments.
-/
import Derived.Test.YtpgklckplchhgaaUpperW
namespace Go.Proofs.Ytpgklckplchhgaa
open Go.RowKit

theorem upper_all (a : Option Addr) (len cap : Nat) (zs : Nat → Int) (k1 n1 k2 n2 k3 n3 : Int) (w : World) (hlen : len ≤ 9223372036854775807) (hU : UpsIn w a len zs) :
    Calls Try.prog 4 #[.slice a len cap, .agg #[.int .i64 k1, .int .i64 n1], .agg #[.int .i64 k2, .int .i64 n2], .agg #[.int .i64 k3, .int .i64 n3]] w fun e w' => e = .returned (.bool true) ∧ Below w.heap.size w w' := by
  obtain ⟨N, hN⟩ : ∃ N, N = min len 6 := ⟨_, rfl⟩
  have hN6 : N ≤ 6 := by omega
  have HN := hide hN
  cases hx : Kp1.mayB k1 n1 (7 + (N : Int)) with
  | false => exact upper_no1 a len cap N zs k1 n1 k2 n2 k3 n3 w hlen hU HN hN6 hx
  | true =>
    cases hy : Kp1.mayB k2 n2 (7 + (N : Int)) with
    | false => exact upper_no2 a len cap N zs k1 n1 k2 n2 k3 n3 w hlen hU HN hN6 hx hy
    | true =>
      have ok := T_ok zs N
      have A1 := (may_iff zs N k1 n1).1 hx
      have A2 := (may_iff zs N k2 n2).1 hy
      have hE1 := E_ok hN6 A1 A2
      have hE2 := E_ok hN6 A2 A1
      have j1 := J_ok hN6 A1 A2
      have j2 := J_ok hN6 A2 A1
      have hJ2 : Kp1.J zs N k2 n2 k1 n1 = Kp1.J zs N k1 n1 k2 n2 := by rw [j1, j2]; exact Tr.join_comm ok A2 A1
      obtain ⟨s1, s2, s3, s4⟩ := Tr.join_spec ok A1 A2
      rw [← j1] at s1 s2 s3 s4
      rw [← F_ok hN6 A1 s1] at s2
      rw [← F_ok hN6 A2 s1] at s3
      cases hz : Kp1.mayB k3 n3 (7 + (N : Int)) with
      | false => exact upper_0 a len cap N zs k1 n1 k2 n2 k3 n3 w hlen hU HN hN6 hx hy hE1 hE2 hJ2 s2 s3 hz
      | true =>
        have A3 := (may_iff zs N k3 n3).1 hz
        cases hr : Kp1.F zs N (Kp1.J zs N k1 n1 k2 n2).1 (Kp1.J zs N k1 n1 k2 n2).2 k3 n3 with
        | true => exact upper_1 a len cap N zs k1 n1 k2 n2 k3 n3 w hlen hU HN hN6 hx hy hE1 hE2 hJ2 s2 s3 hz hr
        | false =>
          cases hp : Kp1.F zs N k1 n1 k3 n3 with
          | false => exact upper_2 a len cap N zs k1 n1 k2 n2 k3 n3 w hlen hU HN hN6 hx hy hE1 hE2 hJ2 s2 s3 hz hr hp
          | true =>
            cases hq : Kp1.F zs N k2 n2 k3 n3 with
            | false => exact upper_3 a len cap N zs k1 n1 k2 n2 k3 n3 w hlen hU HN hN6 hx hy hE1 hE2 hJ2 s2 s3 hz hr hp hq
            | true =>
              exfalso
              rw [F_ok hN6 A1 A3] at hp
              rw [F_ok hN6 A2 A3] at hq
              rw [F_ok hN6 s1 A3, s4 _ _ A3 hp hq] at hr
              cases hr
end Go.Proofs.Ytpgklckplchhgaa
