/-
  What Fits and Join answer of a tower (no Go in sight).
-/
import Derived.Test.YtpgklckplchhgaaParse
import Derived.Test.YtpgklckplchhgaaOrd
namespace Go.Proofs.Ytpgklckplchhgaa

/-- the tree of a tower -/
def Kp1.T (zs : Nat → Int) (n : Nat) : List Int := Tr.tree (Kp1.towerC zs n)
theorem T_len (zs : Nat → Int) (n : Nat) : (Kp1.T zs n).length = 7 + n := by unfold Kp1.T; rw [tree_len]; simp [Kp1.towerC]

theorem T_own (zs : Nat → Int) (n i : Nat) (h : i < n) : (Kp1.T zs n).getD (7 + i) 0 = Kp1.pk (zs i) (7 + (i : Int)) := by
  unfold Kp1.T Tr.tree Kp1.towerC
  rw [List.getD_eq_getElem?_getD, List.getElem?_append_right (by simp [Tr.given])]
  simp [Tr.given, h]

theorem T_ok (zs : Nat → Int) (n : Nat) : Tr.Ok (Kp1.T zs n) := by
  refine ⟨by rw [T_len]; omega, rfl, ?_⟩
  intro i h0 hl
  rw [T_len] at hl
  by_cases h7 : i < 7
  · have : ∀ j, j < 7 → 0 < j → (Kp1.T zs n).getD j 0 = Tr.given.getD j 0 := by
      intro j hj _
      unfold Kp1.T Tr.tree
      rw [List.getD_eq_getElem?_getD, List.getD_eq_getElem?_getD, List.getElem?_append_left (by simpa [Tr.given] using hj)]
    rw [this i h7 h0]
    match i, h0, h7 with
    | 1, _, _ => decide
    | 2, _, _ => decide
    | 3, _, _ => decide
    | 4, _, _ => decide
    | 5, _, _ => decide
    | 6, _, _ => decide
  · obtain ⟨j, rfl⟩ : ∃ j, i = 7 + j := ⟨i - 7, by omega⟩
    rw [T_own zs n j (by omega)]
    have := pk_bd (zs j) (7 + (j : Int)) (by omega)
    omega

theorem T_ab (zs : Nat → Int) (n : Nat) (c : Int) (h0 : 0 < c) (hl : c < 7 + (n : Int)) : Tr.ov (Kp1.T zs n) c = Kp1.ab zs c := by
  unfold Tr.ov Kp1.ab
  rw [if_neg (by omega), if_neg (by rw [T_len]; omega)]
  by_cases h7 : c < 7
  · have e : ∀ j : Nat, j < 7 → 0 < j → (Kp1.T zs n).getD j 0 = if (j : Int) ≤ 1 then 0 else 1 := by
      intro j hj hp
      unfold Kp1.T Tr.tree
      rw [List.getD_eq_getElem?_getD, List.getElem?_append_left (by simpa [Tr.given] using hj)]
      match j, hp, hj with
      | 1, _, _ => rfl
      | 2, _, _ => rfl
      | 3, _, _ => rfl
      | 4, _, _ => rfl
      | 5, _, _ => rfl
      | 6, _, _ => rfl
    rw [e c.toNat (by omega) (by omega), show ((c.toNat : Nat) : Int) = c by omega, if_pos h7]
  · rw [if_neg (by omega), if_neg h7]
    obtain ⟨j, hj⟩ : ∃ j : Nat, c = 7 + (j : Int) := ⟨(c - 7).toNat, by omega⟩
    subst hj
    rw [show (7 + (j : Int)).toNat = 7 + j by omega, T_own zs n j (by omega), show (7 + (j : Int) - 7).toNat = j by omega]

theorem may_iff (zs : Nat → Int) (n : Nat) (k m : Int) : Kp1.mayB k m (7 + (n : Int)) = true ↔ Tr.Arg (Kp1.T zs n) k m := by
  unfold Kp1.mayB Tr.Arg
  rw [T_len]
  by_cases h0 : k = 0
  · rw [if_pos h0]; simp [h0]
  · rw [if_neg h0]
    by_cases h1 : k = 1
    · rw [if_pos h1]; simp [h1]
    · rw [if_neg h1]
      by_cases h2 : k = 2
      · rw [if_pos h2]; simp [h2]
      · rw [if_neg h2]
        by_cases h3 : k = 3
        · rw [if_pos h3]; simp [h3]
        · rw [if_neg h3]
          by_cases h4 : k = 4
          · rw [if_pos h4]; simp [h4]
          · rw [if_neg h4]; simp; omega
theorem may_arg (zs : Nat → Int) (n : Nat) (k m : Int) : Kp1.mayB k m (7 + (n : Int)) = Tr.argB (Kp1.T zs n) k m := by
  rw [Bool.eq_iff_iff, may_iff zs, Tr.arg_iff]

theorem inCl_tower (l : List Int) (zs : Nat → Int) (n : Nat) : ∀ k, Tr.inCl l k (((List.range n).map (fun i => (⟨Kp1.pk (zs i) (7 + (i : Int)), []⟩ : Rd.Cls))).drop k) = (0, 0) := by
  intro k
  generalize hm : n - k = m
  induction m generalizing k with
  | zero => rw [List.drop_eq_nil_of_le (by simp; omega)]; rfl
  | succ j ih =>
    rw [List.drop_eq_getElem_cons (by simp; omega)]
    unfold Tr.inCl
    have hb := pk_bd (zs k) (7 + (k : Int)) (by omega)
    simp only [List.getElem_map, List.getElem_range]
    rw [if_neg (by omega), if_neg (by simp [Tr.allPlainB])]
    exact ih (k + 1) (by omega)

/-- what Fits answers of a tower; its error; what Join answers -/
def Kp1.F (zs : Nat → Int) (N : Nat) (k n k' n' : Int) : Bool := Tr.fitsR (Rd.read (Kp1.towerL zs N)) (k, n) (k', n')
def Kp1.E (zs : Nat → Int) (N : Nat) (k n k' n' : Int) : Int := Tr.rtErr (Rd.read (Kp1.towerL zs N)) (k, n) (k', n')
def Kp1.J (zs : Nat → Int) (N : Nat) (k n k' n' : Int) : Int × Int := Tr.joinR (Rd.read (Kp1.towerL zs N)) (k, n) (k', n')

theorem E_val (zs : Nat → Int) (N : Nat) (hN : N ≤ 6) (k n k' n' : Int) :
    Kp1.E zs N k n k' n' = if Tr.argB (Kp1.T zs N) k n = false then 13 else if Tr.argB (Kp1.T zs N) k' n' = false then 13 else 0 := by
  obtain ⟨r1, r2⟩ := read_tower zs N hN
  have hi : Tr.inCl (Tr.tree (Kp1.towerC zs N)) 0 (Kp1.towerC zs N) = (0, 0) := inCl_tower _ zs N 0
  unfold Kp1.E Tr.rtErr
  rw [r1, r2, if_neg (by simp), hi, if_neg (by simp)]
  rfl
theorem F_val (zs : Nat → Int) (N : Nat) (hN : N ≤ 6) (k n k' n' : Int) :
    Kp1.F zs N k n k' n' = if Kp1.E zs N k n k' n' = 0 then Tr.fitsB (Kp1.T zs N) k n k' n' else false := by
  obtain ⟨r1, r2⟩ := read_tower zs N hN
  unfold Kp1.F Tr.fitsR Kp1.E
  rw [r2]
  rfl
theorem J_val (zs : Nat → Int) (N : Nat) (hN : N ≤ 6) (k n k' n' : Int) :
    Kp1.J zs N k n k' n' = if Kp1.E zs N k n k' n' = 0 then Tr.joinT (Kp1.T zs N) (k, n) (k', n') else (0, 0) := by
  obtain ⟨r1, r2⟩ := read_tower zs N hN
  unfold Kp1.J Tr.joinR Kp1.E
  rw [r2]
  rfl

theorem E_no1 {zs : Nat → Int} {N : Nat} (hN : N ≤ 6) {k n k' n' : Int} (h : Kp1.mayB k n (7 + (N : Int)) = false) : Kp1.E zs N k n k' n' = 13 := by
  rw [may_arg zs] at h
  rw [E_val zs N hN, if_pos h]
theorem E_no2 {zs : Nat → Int} {N : Nat} (hN : N ≤ 6) {k n k' n' : Int} (h : Kp1.mayB k' n' (7 + (N : Int)) = false) : Kp1.E zs N k n k' n' = 13 := by
  rw [may_arg zs] at h
  rw [E_val zs N hN]
  rw [h]
  split <;> rfl
theorem E_ok {zs : Nat → Int} {N : Nat} (hN : N ≤ 6) {k n k' n' : Int} (h : Tr.Arg (Kp1.T zs N) k n) (h' : Tr.Arg (Kp1.T zs N) k' n') : Kp1.E zs N k n k' n' = 0 := by
  rw [E_val zs N hN, if_neg (by rw [(Tr.arg_iff ..).2 h]; simp), if_neg (by rw [(Tr.arg_iff ..).2 h']; simp)]
theorem F_no {zs : Nat → Int} {N : Nat} (hN : N ≤ 6) {k n k' n' : Int} (h : Kp1.E zs N k n k' n' = 13) : Kp1.F zs N k n k' n' = false := by
  rw [F_val zs N hN, if_neg (by omega)]
theorem F_ok {zs : Nat → Int} {N : Nat} (hN : N ≤ 6) {k n k' n' : Int} (h : Tr.Arg (Kp1.T zs N) k n) (h' : Tr.Arg (Kp1.T zs N) k' n') : Kp1.F zs N k n k' n' = Tr.fitsB (Kp1.T zs N) k n k' n' := by
  rw [F_val zs N hN, if_pos (E_ok hN h h')]
theorem J_no {zs : Nat → Int} {N : Nat} (hN : N ≤ 6) {k n k' n' : Int} (h : Kp1.E zs N k n k' n' = 13) : Kp1.J zs N k n k' n' = (0, 0) := by
  rw [J_val zs N hN, if_neg (by omega)]
theorem J_ok {zs : Nat → Int} {N : Nat} (hN : N ≤ 6) {k n k' n' : Int} (h : Tr.Arg (Kp1.T zs N) k n) (h' : Tr.Arg (Kp1.T zs N) k' n') : Kp1.J zs N k n k' n' = Tr.joinT (Kp1.T zs N) (k, n) (k', n') := by
  rw [J_val zs N hN, if_pos (E_ok hN h h')]
end Go.Proofs.Ytpgklckplchhgaa
