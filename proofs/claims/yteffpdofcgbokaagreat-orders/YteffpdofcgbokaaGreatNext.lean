/-
  The walks over the reader's smallest methods: next, expect, count, oneType.
-/
import Derived.Test.YteffpdofcgbokaaGreatBase
namespace Go.Proofs.YteffpdofcgbokaaGreat
open Go.RowKit

theorem wrap_byte (c : UInt8) : wrap64 (c.toNat : Int) = (c.toNat : Int) := by
  have := c.toNat_lt
  unfold wrap64
  omega
theorem nx_hit {s : ByteArray} {pos : Nat} (h : pos < s.size) : Rd.nx s.data.toList ⟨pos, false⟩ = ((s[pos].toNat : Int), ⟨pos + 1, false⟩) := by
  have h' : pos < s.data.toList.length := by simpa using h
  have e : s.data.toList[pos]?.getD 0 = s[pos] := by rw [List.getElem?_eq_getElem h']; rfl
  unfold Rd.nx
  rw [if_neg (by simp), if_neg (by simp only; omega)]
  simp only [e]
theorem nx_out {s : ByteArray} {pos : Nat} (h : ¬ pos < s.size) : Rd.nx s.data.toList ⟨pos, false⟩ = (0, ⟨pos, true⟩) := by
  have h' : s.data.toList.length = s.size := by simp
  unfold Rd.nx
  rw [if_neg (by simp), if_pos (by simp only; omega)]
theorem nx_bad {s : ByteArray} {pos : Nat} : Rd.nx s.data.toList ⟨pos, true⟩ = (0, ⟨pos, true⟩) := by simp [Rd.nx]

set_option maxRecDepth 100000 in
set_option maxHeartbeats 400000 in
theorem next_any (s : ByteArray) (B : Nat) (t : Rd.St) (w : World) (hs : s.size ≤ maxLen) (hR : RdAt w B s t) :
    Calls Tryz.prog 149 #[.pointer (some ⟨B, 0, none⟩)] w fun e w' => e = .returned (.int .i64 (Rd.nx s.data.toList t).1) ∧ RdAt w' B s (Rd.nx s.data.toList t).2 ∧ Gr B w w' := by
  unfold maxLen at hs
  obtain ⟨c0, c1, c2, f0, f1, f2⟩ := hR.cells
  obtain ⟨pos, bad⟩ := t
  simp only at c1 c2
  cases bad
  · by_cases hlt : pos < s.size
    · rw [nx_hit hlt]
      have g1 : decide ((pos : Int) < 0) = false := by simp
      go_enter Tryz.func149, Tryz.ntmps149
      go_wp2
      go_quiet (fail)
      go_wp2
      go_quiet (fail)
      go_wp2
      go_ret
      exact ⟨ret_int (wrap_byte _), (hR.drewN _).pos _ _ (by omega), ((Gr.refl _ _).drewN _).set (.inr rfl) _⟩
    · rw [nx_out hlt]
      have g1 : decide ((pos : Int) < 0) = false := by simp
      have g2 : decide (s.size ≤ pos) = true := by simp; omega
      go_enter Tryz.func149, Tryz.ntmps149
      go_wp2
      go_quiet (fail)
      go_wp2
      go_ret
      exact ⟨rfl, (hR.drewN _).bad _, ((Gr.refl _ _).drewN _).set (.inr rfl) _⟩
  · rw [nx_bad]
    go_enter Tryz.func149, Tryz.ntmps149
    go_wp2
    go_quiet (fail)
    go_wp2
    go_ret
    exact ⟨rfl, (hR.drewN _).bad _, ((Gr.refl _ _).drewN _).set (.inr rfl) _⟩
end Go.Proofs.YteffpdofcgbokaaGreat
