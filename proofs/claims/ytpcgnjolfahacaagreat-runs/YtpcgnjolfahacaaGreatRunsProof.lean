/-
  PLAIN: for every script the statement Runs (every Run of the script gives the document's answer, nothing is wrong on the machine that knows of each value what it is, and every list stays as its owner wrote it) returns true, and the script reads afterwards as it read before. No condition.
-/
import Derived.Test.YtpcgnjolfahacaaGreatPk13
namespace Go.Proofs.YtpcgnjolfahacaaGreat.runsProof
open Go.ChangeShapes Go.WideShapes Go.ChangeAt Go.RowKit Go.Joins

theorem own : ownKnob Tryz.prog.godebug = none := by kernel_rfl
theorem laidOut : laidOutB Tryz.prog = true := by kernel_rfl

set_option maxRecDepth 100000 in
theorem lifted (os : Os) (started : os.Started) (H : Type) (enc : TypeId × Value → H) :
    ReturnsInHanded {} Tryz.checked os 4 .any (Rows.runsSpec.pre6 enc Tryz.prog Tryz.f4 Rows.runsRow.domain false) (Rows.runsSpec.post enc Tryz.prog Tryz.f4 false true false false) := by
  refine returnsInHanded_of_change_sized (C := Tryz.checked) own started (by kernel_rfl) Tryz.func4
    (ChangeSpec.witness6 (enc := enc) (C := Tryz.checked) false ⟨#[], #[.slice none 0 0], []⟩ 8 (by kernel_rfl) (by kernel_rfl) (by kernel_rfl) (by kernel_rfl)) ?_
  intro W base args ds gs before hval0 hW hcnd hsz0 _
  have hval : ∀ (j : Nat) t v, Tryz.f4.params[j]? = some t → args[j]? = some v → Value.okWide Tryz.prog W .any base t v := hval0
  have hW' := hW
  obtain ⟨p, q, hA0, hV, rfl, hfz, hnd⟩ := hW
  have hA : DataW.TrodAll enc Tryz.prog W 0 (fun _ => true) true Tryz.f4.params.toList args.toList ds p := hA0
  rw [Tryz.params4] at hA hval
  obtain ⟨v0, vs0, d0, ds0, p0, q0, hargs, rfl, rfl, h0, r0⟩ := trodAll_cons hA
  obtain ⟨rfl, rfl, rfl⟩ := trodAll_nil r0
  obtain rfl : args = #[v0] := by cases args; simp_all
  obtain ⟨rfl, rfl⟩ := trodVars_none hV
  obtain ⟨a0, len0, cap0, rfl⟩ := okWide_slice Tryz.underlying33 (hval 0 33 v0 rfl rfl)
  have k0 := h0
  have lt0 : ∀ x ∈ p0, x.block < W.heap.size := by obtain ⟨m, hm⟩ := k0; exact DataW.trod_lt m _ _ _ hm
  have hsz : ∀ k ∈ d0.weights Tryz.prog 33, k ≤ reachBytes := fun k hk => by
    have := List.all_eq_true.1 hsz0 k (DataW.weights_mem_each (j := 0) (t := 33) (by rw [Tryz.params4]; rfl) rfl k hk)
    simpa using this
  obtain ⟨V, I, hlen, hV0, hok⟩ : ∃ (V : Nat → OpD) (I : Nat → List Int), len0 ≤ 1300000000000 ∧ V7 W a0 len0 V ∧ ∀ i, i < len0 → (V i).file.size ≤ maxLen ∧ (V i).il = (I i).length ∧ (I i).length ≤ 20000000000000 ∧ Ft W (V i).ia (I i) := by
    obtain ⟨fuel, hf⟩ := h0
    obtain ⟨a, len, cap, V, I, hc, h1, h2, h3⟩ := Bdc (c0 := .slice a0 len0 cap0) (by simpa [Value.cells] using hf)
    simp only [Value.slice.injEq] at hc
    obtain ⟨rfl, rfl, rfl⟩ := hc
    obtain ⟨k1, k2⟩ := h1 reachBytes hsz
    unfold reachBytes at k1 k2
    exact ⟨V, I, by omega, h2, fun i hi => ⟨(h3 i hi).1, (h3 i hi).2.1, by have := k2 i hi; omega, (h3 i hi).2.2⟩⟩
  clear hA0 hval0
  refine (Bl3 a0 len0 cap0 V I W hlen hV0 hok).mono fun e W' ⟨he, bel⟩ => ?_
  subst he
  exact ⟨_, rfl, _, _, _, [], _, [], hW', trodAll_mk1 (shut_bool Tryz.underlying4 _), (trodAll_cons_mk (Below.trod laidOut (by kernel_rfl) (of_decide_eq_true (by kernel_rfl)) k0 bel lt0) trodAll_mk0), rfl, bel.frame _, fun h => by cases h⟩

theorem and_mk {a b : Bool} (ha : a = true) (hb : b = true) : (a && b) = true := by rw [ha, hb]; rfl
theorem named : Tryz.pinned.checked.prog.funcNamed Rows.runsRow.func = some 4 := by kernel_rfl
set_option maxRecDepth 100000 in
set_option maxHeartbeats 40000000 in
/-- its parts one by one: together they want more memory than there is -/
theorem joined : joinedFacts Tryz.pinned.checked.prog 4 Tryz.f4 Rows.runsSpec Rows.runsRow = true := by
  unfold joinedFacts
  repeat' (with_reducible refine and_mk ?_ ?_)
  all_goals (as_aux_lemma => kernel_rfl)

theorem over : Rows.runsRow.holds Tryz.pinned (OpenSpec.ofChange Rows.runsSpec) :=
  OpenClaim.holds_of_wide 4 Tryz.f4 rfl rfl rfl rfl rfl rfl rfl ⟨rfl, rfl, rfl, rfl, rfl⟩ rfl rfl rfl rfl rfl named Tryz.func4 joined
    (of_decide_eq_true (by kernel_rfl)) (by unfold Func.isWrapper; first | (rw [if_pos (by decide +kernel)]; kernel_rfl) | (rw [if_neg (by decide +kernel)]; exact ⟨rfl, rfl⟩))
    (fun os started H enc _ => lifted os started H enc)
end Go.Proofs.YtpcgnjolfahacaaGreat.runsProof

namespace Go.Proofs.YtpcgnjolfahacaaGreat
/-- the given statement -/
theorem runs_holds : Rows.RunsSaid := runsProof.over
#print axioms runs_holds
end Go.Proofs.YtpcgnjolfahacaaGreat
