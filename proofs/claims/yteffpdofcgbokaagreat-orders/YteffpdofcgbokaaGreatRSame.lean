/-
  What the program's reader tells of a file is what the document's tells (no Go in sight).
-/
import Derived.Test.YteffpdofcgbokaaGreatRClsd
namespace Go.Proofs.YteffpdofcgbokaaGreat

theorem read_fil (s : List UInt8) : (Rd.read s).2 = (if 15000 < s.length then 1 else if (Rf.fil s).2.2 ≠ (s.length : Int) then 2 else 0) ∧
    ((Rd.read s).2 = 0 → (Rd.read s).1.classes = (Rf.fil s).1 ∧ (Rd.read s).1.methods = (Rf.fil s).2.1.map Rf.Mth.m) := by
  obtain ⟨h1, h2⟩ := Rf.fil_same s
  unfold Rd.read
  by_cases hl : 15000 < s.length
  · rw [if_pos hl, if_pos hl]
    exact ⟨rfl, fun h => absurd h (by decide)⟩
  · rw [if_neg hl, if_neg hl]
    by_cases hf : (Rf.fil s).2.2 = (s.length : Int)
    · obtain ⟨b, p⟩ := h1.2 hf
      rw [if_neg (by rw [b, p]; simp), if_neg (fun h => h hf)]
      exact ⟨rfl, fun _ => h2 hf⟩
    · rw [if_pos hf]
      have hn : (Rd.fil s ⟨0, false⟩).2.bad = true ∨ (Rd.fil s ⟨0, false⟩).2.pos ≠ s.length := by
        rcases Bool.eq_false_or_eq_true (Rd.fil s ⟨0, false⟩).2.bad with hb | hb
        · exact .inl hb
        · right
          intro hp
          exact hf (h1.1 ⟨hb, hp⟩)
      rw [if_pos hn]
      exact ⟨rfl, fun h => absurd h (by decide)⟩

/-- the error ahead of the types is the document's -/
theorem classed_rt (s : List UInt8) (a b : Int × Int) :
    Tr.rtErr (Rd.read s) a b = if (Rf.classed s).1 ≠ 0 then (Rf.classed s).1 else if Tr.argB (Tr.tree (Rf.fil s).1) a.1 a.2 = false then 13 else if Tr.argB (Tr.tree (Rf.fil s).1) b.1 b.2 = false then 13 else 0 := by
  obtain ⟨h1, h2⟩ := read_fil s
  unfold Tr.rtErr Rf.classed
  by_cases hl : 15000 < s.length
  · rw [if_pos hl] at h1 ⊢
    rw [h1]
    rfl
  · rw [if_neg hl] at h1 ⊢
    by_cases hf : (Rf.fil s).2.2 = (s.length : Int)
    · have hn : ¬ (Rf.fil s).2.2 ≠ (s.length : Int) := fun h => h hf
      rw [if_neg hn] at h1
      simp only [if_neg hn]
      rw [(h2 h1).1, h1, if_neg (by simp)]
      have hi := inCl_err (Tr.tree (Rf.fil s).1) 0 (Rf.fil s).1
      have hp : (Tr.inCl (Tr.tree (Rf.fil s).1) 0 (Rf.fil s).1).1 = 3 → 0 ≤ (Tr.inCl (Tr.tree (Rf.fil s).1) 0 (Rf.fil s).1).2 := by
        have gen : ∀ (l : List Int) (k : Nat) (cs : List Rd.Cls), 0 ≤ (Tr.inCl l k cs).2 := by
          intro l k cs
          induction cs generalizing k with
          | nil => simp [Tr.inCl]
          | cons c r ih =>
            unfold Tr.inCl
            split
            · simp only; omega
            · split
              · simp only; omega
              · exact ih _
        exact fun _ => gen _ _ _
      rcases hi with hi | hi
      · rw [if_neg (by rw [hi]; simp)]
        have hb : Tr.badOf (Tr.inCl (Tr.tree (Rf.fil s).1) 0 (Rf.fil s).1) = -1 := by unfold Tr.badOf; rw [if_pos hi]
        rw [hb]
        simp
      · have hb : Tr.badOf (Tr.inCl (Tr.tree (Rf.fil s).1) 0 (Rf.fil s).1) = (Tr.inCl (Tr.tree (Rf.fil s).1) 0 (Rf.fil s).1).2 := by unfold Tr.badOf; rw [if_neg (by omega)]
        rw [if_pos (by rw [hi]; decide), hi, hb, if_pos (hp hi)]
        rfl
    · rw [if_pos hf] at h1 ⊢
      rw [h1]
      rfl
end Go.Proofs.YteffpdofcgbokaaGreat
