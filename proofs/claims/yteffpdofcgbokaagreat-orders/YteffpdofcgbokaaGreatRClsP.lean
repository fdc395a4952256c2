/-
  What the document says of a file without an error ahead of the types (no Go in sight).
-/
import Derived.Test.YteffpdofcgbokaaGreatRSame
import Derived.Test.YteffpdofcgbokaaGreatRTree
import Derived.Test.YteffpdofcgbokaaGreatRJoinP
namespace Go.Proofs.YteffpdofcgbokaaGreat

theorem nx_pos (s : List UInt8) (t : Rd.St) : 0 ≤ (Rd.nx s t).1 := by
  unfold Rd.nx
  split
  · simp
  · split
    · simp
    · simp only; omega
theorem read_pos (s : List UInt8) : ∀ c ∈ (Rd.read s).1.classes, 0 ≤ c.above := by
  unfold Rd.read
  split
  · simp
  · split
    · simp
    · simp only [Rd.fil]
      refine rep_all (fun c : Rd.Cls => 0 ≤ c.above) _ (fun t => ?_) _ _
      simp only [Rd.cls]
      exact nx_pos s t
theorem inCl_lt (l : List Int) (cs : List Rd.Cls) : ∀ k : Nat, (Tr.inCl l k cs).1 = 0 → ∀ i, i < cs.length → (cs.map Rd.Cls.above).getD i 0 < 7 + (k : Int) + (i : Int) := by
  induction cs with
  | nil => intro k _ i hi; simp at hi
  | cons c r ih =>
    intro k h i hi
    unfold Tr.inCl at h
    by_cases h1 : 7 + (k : Int) ≤ c.above
    · rw [if_pos h1] at h; simp at h
    · rw [if_neg h1] at h
      by_cases h2 : Tr.allPlainB l c.fields = false
      · rw [if_pos h2] at h; simp at h
      · rw [if_neg h2] at h
        cases i with
        | zero => simp; omega
        | succ j =>
          have := ih (k + 1) h j (by simpa using hi)
          simp only [List.map_cons, List.getD_cons_succ]
          omega
theorem tree_ok (cs : List Rd.Cls) (h0 : ∀ c ∈ cs, 0 ≤ c.above) (h : (Tr.inCl (Tr.tree cs) 0 cs).1 = 0) : Tr.Ok (Tr.tree cs) := by
  refine ⟨by rw [tree_len]; omega, rfl, fun i hi hl => ?_⟩
  rw [tree_len] at hl
  by_cases h7 : i < 7
  · have : i = 1 ∨ i = 2 ∨ i = 3 ∨ i = 4 ∨ i = 5 ∨ i = 6 := by omega
    rcases this with rfl | rfl | rfl | rfl | rfl | rfl <;> (unfold Tr.tree Tr.given; simp)
  · obtain ⟨j, rfl⟩ : ∃ j, i = 7 + j := ⟨i - 7, by omega⟩
    have hj : j < cs.length := by omega
    have e : (Tr.tree cs).getD (7 + j) 0 = (cs.map Rd.Cls.above).getD j 0 := by
      unfold Tr.tree
      rw [List.getD_eq_getElem?_getD, List.getD_eq_getElem?_getD, List.getElem?_append_right (by simp [Tr.given])]
      simp [Tr.given]
    rw [e]
    have hlt := inCl_lt _ cs 0 h j hj
    refine ⟨?_, by omega⟩
    have hg : (cs.map Rd.Cls.above).getD j 0 = cs[j].above := by simp [List.getD_eq_getElem?_getD, hj]
    rw [hg]
    exact h0 _ (List.getElem_mem hj)

/-- what the document says of a file without an error ahead of the types -/
theorem classed_ok (s : List UInt8) (h : (Rf.classed s).1 = 0) : Tr.Ok (Tr.tree (Rf.fil s).1) ∧ (Rd.read s).1.classes = (Rf.fil s).1 := by
  obtain ⟨h1, h2⟩ := read_fil s
  unfold Rf.classed at h
  by_cases hl : 15000 < s.length
  · rw [if_pos hl] at h; simp at h
  · rw [if_neg hl] at h h1
    by_cases hf : (Rf.fil s).2.2 ≠ (s.length : Int)
    · rw [if_pos hf] at h; simp at h
    · rw [if_neg hf] at h h1
      have hc := (h2 h1).1
      refine ⟨tree_ok _ (fun c hc' => read_pos s c (by rw [hc]; exact hc')) ?_, hc⟩
      by_cases hb : 0 ≤ Tr.badOf (Tr.inCl (Tr.tree (Rf.fil s).1) 0 (Rf.fil s).1)
      · rw [if_pos hb] at h; simp at h
      · unfold Tr.badOf at hb
        by_cases h0 : (Tr.inCl (Tr.tree (Rf.fil s).1) 0 (Rf.fil s).1).1 = 0
        · exact h0
        · rw [if_neg h0] at hb
          exfalso
          have gen : ∀ (l : List Int) (k : Nat) (cs : List Rd.Cls), 0 ≤ (Tr.inCl l k cs).2 := by
            intro l k cs
            induction cs generalizing k with
            | nil => simp [Tr.inCl]
            | cons c r ih =>
              unfold Tr.inCl
              split
              · simp only; omega
              · split
                · simp only; omega
                · exact ih _
          exact hb (gen _ _ _)
end Go.Proofs.YteffpdofcgbokaaGreat
