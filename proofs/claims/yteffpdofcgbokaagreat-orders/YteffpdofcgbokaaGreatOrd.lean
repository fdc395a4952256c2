/-
  What fits what is an order, and the join is the least upper bound, over a list of classes in which each class lies below one with a lower number (no Go in sight).
-/
import Derived.Test.YteffpdofcgbokaaGreatTPlain
namespace Go.Proofs.YteffpdofcgbokaaGreat.Tr

/-- each class but the first lies below one with a lower number -/
def Ok (l : List Int) : Prop := 0 < l.length ∧ l.getD 0 0 = -1 ∧ ∀ i, 0 < i → i < l.length → 0 ≤ l.getD i 0 ∧ l.getD i 0 < (i : Int)

def itr (l : List Int) : Nat → Int → Int
  | 0, a => a
  | k + 1, a => itr l k (ov l a)

theorem itr_add (l : List Int) (i j : Nat) (a : Int) : itr l (i + j) a = itr l j (itr l i a) := by
  induction i generalizing a with
  | zero => simp [itr]
  | succ k ih => rw [show k + 1 + j = (k + j) + 1 by omega]; simp [itr, ih]

theorem ov_neg (l : List Int) (a : Int) (h : a < 0) : ov l a = -1 := by simp [ov, h]
theorem itr_neg (l : List Int) (k : Nat) : itr l k (-1) = -1 := by
  induction k with
  | zero => rfl
  | succ j ih => simp [itr, ov_neg l (-1) (by omega), ih]

theorem ov_lt {l : List Int} (h : Ok l) {a : Int} (ha : 0 ≤ a) : ov l a < a ∧ -1 ≤ ov l a := by
  unfold ov
  rw [if_neg (by omega)]
  split
  · omega
  · by_cases h0 : a.toNat = 0
    · rw [h0, h.2.1]; omega
    · have := h.2.2 a.toNat (by omega) (by omega)
      omega
theorem ov_pos {l : List Int} (h : Ok l) {a : Int} (ha : 0 < a) (hl : a < (l.length : Int)) : 0 ≤ ov l a := by
  unfold ov
  rw [if_neg (by omega), if_neg (by omega)]
  exact (h.2.2 a.toNat (by omega) (by omega)).1

/-- a way of m steps that ends at a class goes down by at least m -/
theorem itr_down {l : List Int} (h : Ok l) (m : Nat) (a : Int) (hr : 0 ≤ itr l m a) : itr l m a + (m : Int) ≤ a := by
  induction m generalizing a with
  | zero => simp [itr]
  | succ k ih =>
    simp only [itr] at hr ⊢
    have h1 := ih (ov l a) hr
    by_cases ha : 0 ≤ a
    · have := ov_lt h ha
      omega
    · rw [ov_neg l a (by omega), itr_neg] at hr
      omega

theorem upTo_iff (l : List Int) (high : Int) (n : Nat) (pos : Int) (hh : 0 ≤ high) : upTo l high n pos = true ↔ ∃ j, j < n ∧ itr l j pos = high := by
  induction n generalizing pos with
  | zero => simp [upTo]
  | succ k ih =>
    unfold upTo
    by_cases h1 : pos = -1
    · rw [if_pos h1]
      constructor
      · intro h; cases h
      · rintro ⟨j, _, hj⟩
        rw [h1, itr_neg] at hj
        omega
    · rw [if_neg h1]
      by_cases h2 : pos = high
      · rw [if_pos h2]
        exact ⟨fun _ => ⟨0, by omega, h2⟩, fun _ => rfl⟩
      · rw [if_neg h2, ih]
        constructor
        · rintro ⟨j, hj, e⟩
          exact ⟨j + 1, by omega, e⟩
        · rintro ⟨j, hj, e⟩
          cases j with
          | zero => exact absurd e h2
          | succ i => exact ⟨i, by omega, e⟩

theorem below_iff {l : List Int} (h : Ok l) {a b : Int} (hb : 0 ≤ b) (hl : a < (l.length : Int)) : below l a b = true ↔ ∃ j, itr l (j + 1) a = b := by
  unfold below
  rw [upTo_iff l b _ _ hb]
  constructor
  · rintro ⟨j, _, e⟩
    exact ⟨j, e⟩
  · rintro ⟨j, e⟩
    have := itr_down h (j + 1) a (by omega)
    exact ⟨j, by omega, e⟩

theorem below_lt {l : List Int} (h : Ok l) {a b : Int} (hb : 0 ≤ b) (hl : a < (l.length : Int)) (hab : below l a b = true) : b < a := by
  obtain ⟨j, e⟩ := (below_iff h hb hl).1 hab
  have := itr_down h (j + 1) a (by omega)
  omega

theorem below_trans {l : List Int} (h : Ok l) {a b c : Int} (hb : 0 ≤ b) (hc : 0 ≤ c) (hl : a < (l.length : Int)) (h1 : below l a b = true) (h2 : below l b c = true) : below l a c = true := by
  have hba := below_lt h hb hl h1
  obtain ⟨i, e⟩ := (below_iff h hb hl).1 h1
  obtain ⟨j, f⟩ := (below_iff h hc (by omega)).1 h2
  refine (below_iff h hc hl).2 ⟨i + 1 + j, ?_⟩
  rw [show i + 1 + j + 1 = (i + 1) + (j + 1) by omega, itr_add, e, f]

theorem below_up {l : List Int} (h : Ok l) {a : Int} (ha : 0 < a) (hl : a < (l.length : Int)) : below l a (ov l a) = true :=
  (below_iff h (ov_pos h ha hl) hl).2 ⟨0, rfl⟩

theorem below_zero {l : List Int} (h : Ok l) (n : Nat) : ∀ {a : Int}, a.toNat ≤ n → 0 < a → a < (l.length : Int) → below l a 0 = true := by
  induction n with
  | zero => intro a h1 h2 _; omega
  | succ k ih =>
    intro a h1 ha hl
    have hu := below_up h ha hl
    have h3 := ov_lt h (show 0 ≤ a by omega)
    have h4 := ov_pos h ha hl
    by_cases h0 : ov l a = 0
    · rw [h0] at hu; exact hu
    · exact below_trans h h4 (by omega) hl hu (ih (by omega) (by omega) (by omega))

/-- where a has gone up by one step: what is above a is that, or above that -/
theorem below_step {l : List Int} (h : Ok l) {a c : Int} (ha : 0 ≤ a) (hc : 0 ≤ c) (hl : a < (l.length : Int)) (hac : below l a c = true) : c = ov l a ∨ below l (ov l a) c = true := by
  obtain ⟨j, e⟩ := (below_iff h hc hl).1 hac
  have hov := ov_lt h ha
  cases j with
  | zero => left; exact e.symm
  | succ i => right; exact (below_iff h hc (by omega)).2 ⟨i, e⟩

theorem fits_iff (l : List Int) (k n k' n' : Int) : fitsB l k n k' n' = true ↔ (k = k' ∧ n = n') ∨ k' = 0 ∨ (k' = 3 ∧ k = 2) ∨ (k' = 3 ∧ k = 3 ∧ below l n n' = true) := by
  unfold fitsB
  by_cases h1 : k = k' ∧ n = n'
  · rw [if_pos h1]; simp [h1]
  · rw [if_neg h1]
    by_cases h2 : k' = 0
    · rw [if_pos h2]; simp [h2]
    · rw [if_neg h2]
      by_cases h3 : k' = 3
      · rw [if_neg (by omega)]
        by_cases h4 : k = 2
        · rw [if_pos h4]; simp [h3, h4]
        · rw [if_neg h4]
          by_cases h5 : k = 3
          · rw [if_pos h5]
            constructor
            · intro hb; exact .inr (.inr (.inr ⟨h3, h5, hb⟩))
            · rintro (⟨a, b⟩ | a | ⟨a, b⟩ | ⟨a, b, c⟩)
              · exact absurd ⟨a, b⟩ h1
              · exact absurd a h2
              · exact absurd b h4
              · exact c
          · rw [if_neg h5]
            constructor
            · intro hb; cases hb
            · rintro (⟨a, b⟩ | a | ⟨a, b⟩ | ⟨a, b, c⟩)
              · exact absurd ⟨a, b⟩ h1
              · exact absurd a h2
              · exact absurd b h4
              · exact absurd b h5
      · rw [if_pos h3]
        constructor
        · intro hb; cases hb
        · rintro (⟨a, b⟩ | a | ⟨a, b⟩ | ⟨a, b, c⟩)
          · exact absurd ⟨a, b⟩ h1
          · exact absurd a h2
          · exact absurd a h3
          · exact absurd a h3

/-- what an argument may be -/
def Arg (l : List Int) (k n : Int) : Prop := (k = 0 ∧ n = 0) ∨ (k = 1 ∧ n = 0) ∨ (k = 2 ∧ n = 0) ∨ (k = 3 ∧ 0 ≤ n ∧ n < (l.length : Int)) ∨ (k = 4 ∧ 0 ≤ n ∧ n < 120)

theorem arg_iff (l : List Int) (k n : Int) : argB l k n = true ↔ Arg l k n := by
  unfold argB settledB plainB hasB Arg
  by_cases h4 : k = 4
  · rw [if_pos h4]; simp [h4]
  · rw [if_neg h4]
    by_cases h0 : k = 0 ∨ k = 2
    · rw [if_pos h0]; simp; omega
    · rw [if_neg h0]
      by_cases h1 : k = 1
      · rw [if_pos h1]; simp [h1]
      · rw [if_neg h1]
        by_cases h3 : k = 3
        · rw [if_pos h3]; simp [h3]
        · rw [if_neg h3]; simp; omega

theorem fits_refl (l : List Int) (k n : Int) : fitsB l k n k n = true := (fits_iff l k n k n).2 (.inl ⟨rfl, rfl⟩)

theorem fits_anti {l : List Int} (h : Ok l) {k n k' n' : Int} (ha : Arg l k n) (hb : Arg l k' n') (h1 : fitsB l k n k' n' = true) (h2 : fitsB l k' n' k n = true) : k = k' ∧ n = n' := by
  rcases (fits_iff ..).1 h1 with e | e | ⟨e1, e2⟩ | ⟨e1, e2, e3⟩
  · exact e
  · rcases (fits_iff ..).1 h2 with f | f | ⟨f1, f2⟩ | ⟨f1, f2, f3⟩
    · exact ⟨f.1.symm, f.2.symm⟩
    · unfold Arg at ha hb; omega
    · omega
    · omega
  · rcases (fits_iff ..).1 h2 with f | f | ⟨f1, f2⟩ | ⟨f1, f2, f3⟩ <;> omega
  · rcases (fits_iff ..).1 h2 with f | f | ⟨f1, f2⟩ | ⟨f1, f2, f3⟩
    · exact ⟨f.1.symm, f.2.symm⟩
    · omega
    · omega
    · have g1 := below_lt h (by unfold Arg at hb; omega) (by unfold Arg at ha; omega) e3
      have g2 := below_lt h (by unfold Arg at ha; omega) (by unfold Arg at hb; omega) f3
      omega

theorem fits_trans {l : List Int} (h : Ok l) {k n k' n' k2 n2 : Int} (ha : Arg l k n) (hb : Arg l k' n') (hc : Arg l k2 n2) (h1 : fitsB l k n k' n' = true) (h2 : fitsB l k' n' k2 n2 = true) : fitsB l k n k2 n2 = true := by
  rcases (fits_iff ..).1 h2 with ⟨rfl, rfl⟩ | f | ⟨f1, f2⟩ | ⟨f1, f2, f3⟩
  · exact h1
  · exact (fits_iff ..).2 (.inr (.inl f))
  · rcases (fits_iff ..).1 h1 with ⟨rfl, rfl⟩ | e | ⟨e1, e2⟩ | ⟨e1, e2, e3⟩
    · exact h2
    · omega
    · omega
    · omega
  · rcases (fits_iff ..).1 h1 with ⟨rfl, rfl⟩ | e | ⟨e1, e2⟩ | ⟨e1, e2, e3⟩
    · exact h2
    · omega
    · exact (fits_iff ..).2 (.inr (.inr (.inl ⟨f1, e2⟩)))
    · refine (fits_iff ..).2 (.inr (.inr (.inr ⟨f1, e2, ?_⟩)))
      exact below_trans h (by unfold Arg at hb; omega) (by unfold Arg at hc; omega) (by unfold Arg at ha; omega) e3 f3

/-- b is a, or below it -/
def At (l : List Int) (b a : Int) : Prop := a = b ∨ below l b a = true

theorem meetTo_spec {l : List Int} (h : Ok l) {b : Int} (hb : 0 ≤ b) (hbl : b < (l.length : Int)) (n : Nat) : ∀ {a : Int}, 0 ≤ a → a < (l.length : Int) → a < (n : Int) →
    (0 ≤ meetTo l b n a ∧ meetTo l b n a < (l.length : Int)) ∧ At l a (meetTo l b n a) ∧ At l b (meetTo l b n a) ∧ ∀ c, 0 ≤ c → At l a c → At l b c → At l (meetTo l b n a) c := by
  induction n with
  | zero => intro a h0 _ h2; omega
  | succ k ih =>
    intro a h0 hl hn
    unfold meetTo
    by_cases h1 : a = b
    · rw [if_pos h1]
      exact ⟨⟨h0, hl⟩, .inl rfl, .inl h1, fun c _ hc _ => hc⟩
    · rw [if_neg h1]
      by_cases h2 : below l b a = true
      · rw [if_pos h2]
        exact ⟨⟨h0, hl⟩, .inl rfl, .inr h2, fun c _ hc _ => hc⟩
      · rw [if_neg h2]
        have hz : 0 < a := by
          rcases Int.lt_or_le 0 a with g | g
          · exact g
          · exfalso
            have ea : a = 0 := by omega
            subst ea
            exact h2 (below_zero h b.toNat (Nat.le_refl _) (by omega) hbl)
        have u1 := ov_lt h h0
        have u2 := ov_pos h hz hl
        obtain ⟨g1, g2, g3, g4⟩ := ih u2 (by omega) (by omega)
        refine ⟨g1, ?_, g3, ?_⟩
        · rcases g2 with g | g
          · right; rw [g]; exact below_up h hz hl
          · right; exact below_trans h u2 g1.1 hl (below_up h hz hl) g
        · intro c hc ca cb
          refine g4 c hc ?_ cb
          rcases ca with ca | ca
          · subst ca
            rcases cb with cb | cb
            · exact absurd cb h1
            · exact absurd cb h2
          · rcases below_step h h0 hc hl ca with e | e
            · exact .inl e
            · exact .inr e

theorem meet_spec {l : List Int} (h : Ok l) {a b : Int} (ha : 0 ≤ a) (hal : a < (l.length : Int)) (hb : 0 ≤ b) (hbl : b < (l.length : Int)) :
    (0 ≤ meet l a b ∧ meet l a b < (l.length : Int)) ∧ At l a (meet l a b) ∧ At l b (meet l a b) ∧ ∀ c, 0 ≤ c → At l a c → At l b c → At l (meet l a b) c :=
  meetTo_spec h hb hbl l.length ha hal hal

theorem fits_ref {l : List Int} {a b : Int} : fitsB l 3 a 3 b = true ↔ At l a b := by
  rw [fits_iff]
  unfold At
  constructor
  · rintro (⟨_, e⟩ | e | ⟨_, e⟩ | ⟨_, _, e⟩)
    · exact .inl e.symm
    · omega
    · omega
    · exact .inr e
  · rintro (e | e)
    · exact .inl ⟨rfl, e.symm⟩
    · exact .inr (.inr (.inr ⟨rfl, rfl, e⟩))

/-- the join: both fit it; it fits whatever both fit -/
theorem join_spec {l : List Int} (h : Ok l) {k n k' n' : Int} (ha : Arg l k n) (hb : Arg l k' n') :
    Arg l (joinT l (k, n) (k', n')).1 (joinT l (k, n) (k', n')).2 ∧
    fitsB l k n (joinT l (k, n) (k', n')).1 (joinT l (k, n) (k', n')).2 = true ∧ fitsB l k' n' (joinT l (k, n) (k', n')).1 (joinT l (k, n) (k', n')).2 = true ∧
    ∀ k2 n2, Arg l k2 n2 → fitsB l k n k2 n2 = true → fitsB l k' n' k2 n2 = true → fitsB l (joinT l (k, n) (k', n')).1 (joinT l (k, n) (k', n')).2 k2 n2 = true := by
  unfold joinT
  dsimp only
  by_cases h1 : fitsB l k n k' n' = true
  · rw [if_pos h1]
    exact ⟨hb, h1, fits_refl _ _ _, fun _ _ _ _ g => g⟩
  · rw [if_neg h1]
    by_cases h2 : fitsB l k' n' k n = true
    · rw [if_pos h2]
      exact ⟨ha, fits_refl _ _ _, h2, fun _ _ _ g _ => g⟩
    · rw [if_neg h2]
      have top : ∀ k n, fitsB l k n 0 0 = true := fun k n => (fits_iff ..).2 (.inr (.inl rfl))
      by_cases hk : k = 3
      · rw [if_neg (by omega)]
        by_cases hk' : k' = 3
        · rw [if_neg (by omega)]
          subst hk hk'
          obtain ⟨g1, g2, g3, g4⟩ := meet_spec h (a := n) (b := n') (by unfold Arg at ha; omega) (by unfold Arg at ha; omega) (by unfold Arg at hb; omega) (by unfold Arg at hb; omega)
          refine ⟨.inr (.inr (.inr (.inl ⟨rfl, g1.1, g1.2⟩))), fits_ref.2 g2, fits_ref.2 g3, ?_⟩
          intro k2 n2 hc c1 c2
          rcases (fits_iff ..).1 c1 with ⟨rfl, rfl⟩ | e | ⟨e1, e2⟩ | ⟨rfl, e2, e3⟩
          · exact absurd c2 h2
          · subst e; exact (fits_iff ..).2 (.inr (.inl rfl))
          · omega
          · exact fits_ref.2 (g4 n2 (by unfold Arg at hc; omega) (fits_ref.1 c1) (fits_ref.1 c2))
        · rw [if_pos hk']
          refine ⟨.inl ⟨rfl, rfl⟩, top _ _, top _ _, ?_⟩
          intro k2 n2 hc c1 c2
          rcases (fits_iff ..).1 c2 with ⟨rfl, rfl⟩ | e | ⟨e1, e2⟩ | ⟨e1, e2, e3⟩
          · exact absurd c1 h1
          · subst e; exact (fits_iff ..).2 (.inr (.inl rfl))
          · exact absurd ((fits_iff l k' n' k n).2 (.inr (.inr (.inl ⟨hk, e2⟩)))) h2
          · omega
      · rw [if_pos hk]
        refine ⟨.inl ⟨rfl, rfl⟩, top _ _, top _ _, ?_⟩
        intro k2 n2 hc c1 c2
        rcases (fits_iff ..).1 c1 with ⟨rfl, rfl⟩ | e | ⟨e1, e2⟩ | ⟨e1, e2, e3⟩
        · exact absurd c2 h2
        · subst e; exact (fits_iff ..).2 (.inr (.inl rfl))
        · rcases (fits_iff ..).1 c2 with ⟨rfl, rfl⟩ | f | ⟨f1, f2⟩ | ⟨f1, f2, f3⟩
          · exact absurd c1 h1
          · omega
          · exfalso
            unfold Arg at ha hb
            exact h1 ((fits_iff l k n k' n').2 (.inl ⟨by omega, by omega⟩))
          · exact absurd ((fits_iff l k n k' n').2 (.inr (.inr (.inl ⟨f2, e2⟩)))) h1
        · omega

theorem join_comm {l : List Int} (h : Ok l) {k n k' n' : Int} (ha : Arg l k n) (hb : Arg l k' n') : joinT l (k, n) (k', n') = joinT l (k', n') (k, n) := by
  obtain ⟨a1, a2, a3, a4⟩ := join_spec h ha hb
  obtain ⟨b1, b2, b3, b4⟩ := join_spec h hb ha
  have := fits_anti h a1 b1 (a4 _ _ b1 b3 b2) (b4 _ _ a1 a3 a2)
  exact Prod.ext this.1 this.2
end Go.Proofs.YteffpdofcgbokaaGreat.Tr
