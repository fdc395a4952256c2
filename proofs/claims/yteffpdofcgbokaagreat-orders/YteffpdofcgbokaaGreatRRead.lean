/-
  The walks over the document's reader: given and Read.
-/
import Derived.Test.YteffpdofcgbokaaGreatRMth
namespace Go.Proofs.YteffpdofcgbokaaGreat
open Go.RowKit

theorem Tryz.infoRClass : (Tryz.prog.info? 106).map (fun i => (i.zero, i.size, i.bytes)) = some (some (.agg #[.int .i64 0, .slice none 0 0]), 2, 32) := by kernel_rfl
theorem Tryz.infoRMethod : (Tryz.prog.info? 52).map (fun i => (i.zero, i.size, i.bytes)) = some (some (.agg #[.int .i64 0, .int .i64 0, .slice none 0 0, .int .i64 0, .int .i64 0, .int .i64 0, .int .i64 0, .string ⟨#[]⟩, .slice none 0 0, .slice none 0 0, .int .i64 0, .int .i64 0]), 12, 152) := by kernel_rfl

/-- the given classes -/
def Rf.given : List Rd.Cls := [⟨-1, []⟩, ⟨0, []⟩, ⟨1, []⟩, ⟨1, []⟩, ⟨1, []⟩, ⟨1, []⟩, ⟨1, []⟩]
def givenV : List (Rd.Cls × Value) := Rf.given.map fun c => (c, .slice none 0 0)

set_option maxRecDepth 100000 in
set_option maxHeartbeats 2000000 in
theorem given_any (w : World) :
    Calls Tryz.prog 44 #[] w fun e w' => ∃ a c, e = .returned (.slice a 7 c) ∧ RClssIn w' w.heap.size (.slice a 7 c) givenV ∧ Below w.heap.size w w' := by
  obtain ⟨i0, hi, hz0, hz1, hz2⟩ := info_parts Tryz.infoRClass
  go_enter Tryz.func44, Tryz.ntmps44
  go_wp2
  go_loopw [1] (fun v wr => ∃ k : Nat, 2 ≤ k ∧ k ≤ 7 ∧ wr.ownsRow w.heap.size 106 2 v k (ccells (givenV.take k)) ∧ lenOf v = k ∧ Below w.heap.size w wr)
    (fun v _ => 7 - lenOf v)
  case atStart =>
    refine ⟨2, by omega, by omega, ?_, rfl, (Below.refl _ _).alloc (Nat.le_refl _) _⟩
    exact ⟨rfl, .inr ⟨w.heap.size, 2, #[.int .i64 (-1), .slice none 0 0, .int .i64 0, .slice none 0 0], rfl, Nat.le_refl _, alloc_blk w _, by omega, by unfold maxLen; omega, rfl, rfl⟩⟩
  case round =>
    obtain ⟨k, hk0, hk1, hown, hlen, hbl⟩ := hrel
    obtain ⟨va, vc, rfl⟩ := own_shape hown
    clear hlen
    have hsz := hbl.size
    by_cases hkn : k < 7
    · generalize hxs : ccells (givenV.take k) = xs at hown
      have HE : Hid (ccells (givenV.take (k + 1)) = xs ++ [.int .i64 1, .slice none 0 0]) := by
        unfold Hid
        rw [← hxs]
        match k, hk0, hkn with
        | 2, _, _ => rfl
        | 3, _, _ => rfl
        | 4, _, _ => rfl
        | 5, _, _ => rfl
        | 6, _, _ => rfl
      clear hxs
      go_wp2_with (at_builtin; refine wpList_append_own _ rfl _ _ 25 rfl w.heap.size 106 i0 _ 2 32 Tryz.underlying25 hi hz0 hz1 hz2 rfl (by decide) _ _ _ rfl (hown.alloc _) ⟨wr.heap.size, 0, none⟩ 1 1 [.int .i64 1, .slice none 0 0] rfl rfl ?c1 ?c2 ?c3 ?c4 ?c5 ?_)
      case c1 => exact cells_new _ _ _ _ rfl
      case c2 => intro u hu; simp at hu; rcases hu with rfl | rfl <;> rfl
      case c3 => unfold maxLen; omega
      case c4 => omega
      case c5 => simp; omega
      intro v' w2 hown2 hgrow _
      obtain ⟨va', vc', rfl⟩ := own_shape hown2
      have hown3 : w2.ownsRow w.heap.size 106 2 (.slice va' (k + 1) vc') (k + 1) (ccells (givenV.take (k + 1))) := by rw [unhide HE]; exact hown2
      have hbl2 := (hbl.alloc hsz (.cells #[.int .i64 1, .slice none 0 0] 106)).grown hgrow (by simp; omega) (fun j hj => (hown.lt j hj).1)
      clear hgrow hown hown2 hbl
      go_wp2
      go_roundw
      case rel => exact ⟨k + 1, by omega, by omega, hown3, rfl, hbl2⟩
      case measure => simp [lenOf]; omega
    · obtain rfl : k = 7 := by omega
      go_wp2
      go_ret
      refine ⟨_, _, rfl, ⟨hown, ?_⟩, hbl⟩
      intro p hp
      have : p.2 = .slice none 0 0 ∧ p.1.fields = [] := by
        simp [givenV, Rf.given] at hp
        rcases hp with rfl | rfl | rfl <;> exact ⟨rfl, rfl⟩
      rw [this.1, this.2]
      exact World.ownsRow_nil _ _ _ _
end Go.Proofs.YteffpdofcgbokaaGreat
