/-
  PLAIN: for every script of bulk at most 1048576 the statement Runs (every Run of the script gives the document's answer, nothing is wrong on the machine that knows of each value what it is, and every list stays as its owner wrote it) returns true, and the script reads afterwards as it read before. Condition: what comes in holds together at most 1048576 values and letters.
-/
import Derived.Test.YtpcgnjolfahacaaGreatPk06
namespace Go.Proofs.YtpcgnjolfahacaaGreat.runsProof
open Go.ChangeShapes Go.WideShapes Go.ChangeAt Go.RowKit Go.Joins

theorem own : ownKnob Tryz.prog.godebug = none := by kernel_rfl
theorem laidOut : laidOutB Tryz.prog = true := by kernel_rfl

set_option maxRecDepth 100000 in
theorem lifted (os : Os) (started : os.Started) (H : Type) (enc : TypeId × Value → H) (F : Stop.Interp) :
    ReturnsInHanded {} Tryz.checked os 4 .any ((Rows.OpenSpec.upto Rows.runsSpec).pre6 enc Tryz.prog Tryz.f4 Rows.runsUptoRow.domain false) (((Rows.OpenSpec.upto Rows.runsSpec).at F).post enc Tryz.prog Tryz.f4 false true false false) := by
  refine returnsInHanded_of_cond (C := Tryz.checked) (s := Rows.OpenSpec.upto Rows.runsSpec) (k := Rows.uptoSmall) rfl own started (by kernel_rfl) Tryz.func4
    (OpenSpec.witness (enc := enc) (C := Tryz.checked) (s := Rows.OpenSpec.upto Rows.runsSpec) (k := Rows.uptoSmall) rfl false ⟨#[], #[.slice none 0 0], []⟩ 8 (by kernel_rfl) (by kernel_rfl) (by kernel_rfl)
      (x := ([.nil], [], [])) (by kernel_rfl) rfl (by kernel_rfl)) ?_
  intro W base args ds gs before hval0 hW _ hk _
  have hval : ∀ (j : Nat) t v, Tryz.f4.params[j]? = some t → args[j]? = some v → Value.okWide Tryz.prog W .any base t v := hval0
  have hW' := hW
  obtain ⟨p, q, hA0, hV, rfl, hfz, hnd⟩ := hW
  have hA : DataW.TrodAll enc Tryz.prog W 0 (fun _ => true) true Tryz.f4.params.toList args.toList ds p := hA0
  rw [Tryz.params4] at hA hval
  obtain ⟨v0, vs0, d0, ds0, p0, q0, hargs, rfl, rfl, h0, r0⟩ := trodAll_cons hA
  obtain ⟨rfl, rfl, rfl⟩ := trodAll_nil r0
  obtain rfl : args = #[v0] := by cases args; simp_all
  obtain ⟨rfl, rfl⟩ := trodVars_none hV
  obtain ⟨a0, len0, cap0, rfl⟩ := okWide_slice Tryz.underlying33 (hval 0 33 v0 rfl rfl)
  have k0 := h0
  have lt0 : ∀ x ∈ p0, x.block < W.heap.size := by obtain ⟨m, hm⟩ := k0; exact DataW.trod_lt m _ _ _ hm
  have hbk : Rows.uptoBulk d0 ≤ 1048576 := by
    have h : Rows.uptoBulkAll ([d0] ++ []) ≤ 1048576 := of_decide_eq_true hk
    simp only [List.append_nil, Rows.uptoBulkAll] at h
    omega
  obtain ⟨V, I, hlen, hV0, hok⟩ : ∃ (V : Nat → OpD) (I : Nat → List Int), len0 ≤ 1100000 ∧ V7 W a0 len0 V ∧ ∀ i, i < len0 → (V i).file.size ≤ maxLen ∧ (V i).il = (I i).length ∧ (I i).length ≤ 2000000 ∧ Ft W (V i).ia (I i) := by
    obtain ⟨fuel, hf⟩ := h0
    obtain ⟨a, len, cap, V, I, hc, h1, h2, h3⟩ := Bdc (c0 := .slice a0 len0 cap0) (by simpa [Value.cells] using hf)
    simp only [Value.slice.injEq] at hc
    obtain ⟨rfl, rfl, rfl⟩ := hc
    simp only at h1 h3
    exact ⟨V, I, by omega, h2, fun i hi => ⟨(h3 i hi).1, (h3 i hi).2.1, by have := (h3 i hi).2.2.1; omega, (h3 i hi).2.2.2⟩⟩
  clear hA0 hval0
  refine (Bl3 a0 len0 cap0 V I W hlen hV0 hok).mono fun e W' ⟨he, bel⟩ => ?_
  subst he
  exact ⟨_, rfl, _, _, _, [], _, [], hW', trodAll_mk1 (shut_bool Tryz.underlying4 _), (trodAll_cons_mk (Below.trod laidOut (by kernel_rfl) (of_decide_eq_true (by kernel_rfl)) k0 bel lt0) trodAll_mk0), rfl, bel.frame _, fun h => by cases h⟩

theorem and_mk {a b : Bool} (ha : a = true) (hb : b = true) : (a && b) = true := by rw [ha, hb]; rfl
theorem named : Tryz.pinned.checked.prog.funcNamed Rows.runsUptoRow.func = some 4 := by kernel_rfl
set_option maxRecDepth 100000 in
set_option maxHeartbeats 40000000 in
/-- its parts one by one: together they want more memory than there is -/
theorem joined : joinedFacts Tryz.pinned.checked.prog 4 Tryz.f4 Rows.runsSpec Rows.runsUptoRow = true := by
  unfold joinedFacts
  repeat' (with_reducible refine and_mk ?_ ?_)
  all_goals (as_aux_lemma => kernel_rfl)

theorem over : Rows.runsUptoRow.holds Tryz.pinned (Rows.OpenSpec.upto Rows.runsSpec) :=
  OpenClaim.holds_of_cond 4 Tryz.f4 rfl rfl rfl rfl rfl rfl rfl ⟨rfl, rfl, rfl, rfl, rfl⟩ rfl rfl rfl rfl rfl named Tryz.func4 joined
    (of_decide_eq_true (by kernel_rfl)) (by unfold Func.isWrapper; first | (rw [if_pos (by decide +kernel)]; kernel_rfl) | (rw [if_neg (by decide +kernel)]; exact ⟨rfl, rfl⟩))
    (fun os started H enc _ F => lifted os started H enc F)
end Go.Proofs.YtpcgnjolfahacaaGreat.runsProof

namespace Go.Proofs.YtpcgnjolfahacaaGreat
/-- the given statement -/
theorem runs_holds : Rows.RunsUptoSaid := runsProof.over
#print axioms runs_holds
end Go.Proofs.YtpcgnjolfahacaaGreat
