/-
  Forms: Check tells an error of form just where there is one.
-/
import Derived.Test.YteffpdofcgbokaaGreatPk18
namespace Go.Proofs.YteffpdofcgbokaaGreat
open Go.RowKit

/-- the numbers of what is no error of form -/
def Ck.late (e : Int) : Prop := e = 0 ∨ e = 8 ∨ e = 9 ∨ e = 10 ∨ e = 11
theorem handlers_late (T : List Int) (mp : Int → Option Ck.Fr) (p : Int) (lo : List (Int × Int)) (hs : List Rd.Hnd) : Ck.late (Ck.handlers T mp p lo hs) := by
  induction hs with
  | nil => exact .inl rfl
  | cons h r ih =>
    unfold Ck.handlers
    repeat' split
    all_goals first | exact ih | (unfold Ck.late; omega)
theorem look_late (T : List Int) (mp : Int → Option Ck.Fr) (H : Int) (R : Option Ck.Fr) (op n nxt len : Int) (h : Ck.late H) : Ck.late (Ck.look T mp H R op n nxt len) := by
  unfold Ck.look
  repeat' split
  all_goals first | exact h | (unfold Ck.late; omega)
theorem lookAll_late (ah : Nat → Option Ck.Fr) (lk : Nat → Ck.Fr → Int) (h : ∀ p x, Ck.late (lk p x)) (l : List Nat) : Ck.late (Ck.lookAll ah lk l).1 := by
  induction l with
  | nil => exact .inl rfl
  | cons p r ih =>
    unfold Ck.lookAll
    split
    · exact ih
    · split
      · exact h _ _
      · exact ih
theorem mChecked_late (cs : List Rd.Cls) (ms : List Rd.Mth) (m : Rd.Mth) : Ck.late (Ck.mChecked cs ms m).1 := by
  unfold Ck.mChecked Ck.checked
  split
  · exact .inr (.inr (.inl rfl))
  · exact lookAll_late _ _ (fun p x => look_late _ _ _ _ _ _ _ _ (handlers_late _ _ _ _ _)) _
theorem firstOf_late (CR : Rd.Mth → Int × Int) (h : ∀ m, Ck.late (CR m).1) (l : List Rd.Mth) (k : Nat) : Ck.late (Ck.firstOf CR k l).1 := by
  induction l generalizing k with
  | nil => exact .inl rfl
  | cons m r ih =>
    unfold Ck.firstOf
    split
    · exact h m
    · exact ih _
theorem all_form (s : List UInt8) (h : (Rf.formed s).1 ≠ 0) : Ck.all s = Rf.formed s := by unfold Ck.all Ck.check; rw [if_pos h]
theorem all_late (s : List UInt8) (h : (Rf.formed s).1 = 0) : Ck.late (Ck.all s).1 := by
  unfold Ck.all Ck.check
  rw [if_neg (by simpa using h)]
  exact firstOf_late _ (fun m => mChecked_late _ _ m) _ _

set_option maxRecDepth 100000 in
set_option maxHeartbeats 4000000 in
theorem forms_all (s : ByteArray) (w : World) (hs : s.size ≤ maxLen) :
    Calls Tryz.prog 3 #[.string s] w fun e w' => e = .returned (.bool true) ∧ Below w.heap.size w w' := by
  have hP := fun w => Check_all s w hs
  have hR := fun w => rformed_any s w hs
  have h1 := all_form s.data.toList
  have h2 := all_late s.data.toList
  unfold RFmdPost at hR
  generalize Ck.all s.data.toList = D at *
  generalize Rf.formed s.data.toList = G at *
  obtain ⟨D1, D2, D3⟩ := D
  obtain ⟨G1, G2, G3⟩ := G
  simp only at hP hR h1 h2
  have HP := hide hP
  have HR := hide hR
  clear hP hR
  by_cases hg : G1 = 0
  · have hl := h2 hg
    subst hg
    clear h1 h2
    go_enter Tryz.func3, Tryz.ntmps3
    go_wp2_with fail
    refine (unhide HP _).mono ?_
    rintro e w1 ⟨rfl, hb1⟩
    go_wp2_with fail
    refine (unhide HR _).mono ?_
    rintro e w2 ⟨a1, n1, c1, a2, n2, c2, rfl, _, hb2⟩
    rcases hl with rfl | rfl | rfl | rfl | rfl
    all_goals
      go_wp2
      go_ret
      exact ⟨by simp, (hb1.trans (hb2.mono hb1.size)).alloc (hb1.trans (hb2.mono hb1.size)).size _⟩
  · have he := h1 hg
    simp only [Prod.mk.injEq] at he
    obtain ⟨rfl, rfl, rfl⟩ := he
    clear h1 h2
    have hg' : (D1 == 0) = false := by simpa using hg
    go_enter Tryz.func3, Tryz.ntmps3
    go_wp2_with fail
    refine (unhide HP _).mono ?_
    rintro e w1 ⟨rfl, hb1⟩
    go_wp2_with fail
    refine (unhide HR _).mono ?_
    rintro e w2 ⟨a1, n1, c1, a2, n2, c2, rfl, _, hb2⟩
    go_wp2
    go_ret
    exact ⟨by simp, (hb1.trans (hb2.mono hb1.size)).alloc (hb1.trans (hb2.mono hb1.size)).size _⟩
end Go.Proofs.YteffpdofcgbokaaGreat
