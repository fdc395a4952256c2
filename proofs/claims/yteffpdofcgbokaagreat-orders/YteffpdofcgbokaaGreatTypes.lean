/-
  The walk over the reader's method types: a list of types, each of two bytes.
-/
import Derived.Test.YteffpdofcgbokaaGreatSmall
namespace Go.Proofs.YteffpdofcgbokaaGreat
open Go.RowKit

theorem Tryz.infoType : (Tryz.prog.info? 48).map (fun i => (i.zero, i.size, i.bytes)) = some (some (.agg #[.int .i64 0, .int .i64 0]), 2, 16) := by kernel_rfl

/-- the cells of a list of types -/
def tcells (l : List (Int × Int)) : List Value := l.flatMap fun x => [.int .i64 x.1, .int .i64 x.2]
theorem tcells_snoc (l : List (Int × Int)) (x : Int × Int) : tcells (l ++ [x]) = tcells l ++ [.int .i64 x.1, .int .i64 x.2] := by simp [tcells]

set_option maxRecDepth 100000 in
set_option maxHeartbeats 1000000 in
theorem types_any (s : ByteArray) (B : Nat) (n : Int) (t : Rd.St) (w : World) (hs : s.size ≤ maxLen) (hn0 : 0 ≤ n) (hn1 : n ≤ 255) (hR : RdAt w B s t) :
    Calls Tryz.prog 150 #[.pointer (some ⟨B, 0, none⟩), .int .i64 n] w fun e w' =>
      ∃ v, e = .returned v ∧ w'.ownsRow w.heap.size 48 2 v n.toNat (tcells (Rd.tys s.data.toList n.toNat t).1) ∧ RdAt w' B s (Rd.tys s.data.toList n.toNat t).2 ∧ Gr B w w' := by
  have hlt := hR.lt
  obtain ⟨i0, hi, hz0, hz1, hz2⟩ := info_parts Tryz.infoType
  unfold Rd.tys
  go_enter Tryz.func150, Tryz.ntmps150
  go_wp2
  go_loopw [5, 6] (fun v i wr => ∃ k : Nat, (k : Int) ≤ n ∧ i = .int .i64 k ∧ wr.ownsRow w.heap.size 48 2 v k (tcells (Rd.rep (Rd.ty s.data.toList) k t).1) ∧ RdAt wr B s (Rd.rep (Rd.ty s.data.toList) k t).2 ∧ Gr B w wr)
    (fun _ i _ => n.toNat - (intOf i).toNat)
  case atStart => exact ⟨0, by omega, rfl, World.ownsRow_nil _ _ _ _, hR, Gr.refl _ _⟩
  case round =>
    obtain ⟨k, hk, rfl, hown, hRr, hgr⟩ := hrel
    have hsz := hgr.size
    by_cases hkn : (k : Int) < n
    · generalize hp : Rd.rep (Rd.ty s.data.toList) k t = p at *
      generalize hq : Rd.ty s.data.toList p.2 = q at *
      have HP := hide hp
      have HQ := hide hq
      clear hp hq
      go_wp2_with fail
      refine (oneType_any s B p.2 _ hs hRr).mono ?_
      rw [unhide HQ]
      rintro e w1 ⟨rfl, hR1, hg1⟩
      have hsz1 := hg1.size
      have hown1 := own_gr hown hg1 hlt
      go_wp2_with (at_builtin; refine wpList_append_own _ rfl _ _ 46 rfl w.heap.size 48 i0 _ 2 16 Tryz.underlying46 hi hz0 hz1 hz2 rfl (by decide) _ _ _ rfl ((hown1.alloc _).alloc _) ⟨w1.heap.size + 1, 0, none⟩ 1 1 [.int .i64 q.1.1, .int .i64 q.1.2] rfl rfl ?c1 ?c2 ?c3 ?c4 ?c5 ?_)
      case c1 => exact cells_new _ _ _ _ (by simp)
      case c2 => intro u hu; simp at hu; rcases hu with rfl | rfl <;> rfl
      case c3 => unfold maxLen; omega
      case c4 => omega
      case c5 => simp; omega
      intro v' w2 hown2 hgrow _
      have hR2 := ((hR1.alloc _).alloc _).grown hgrow (own_ne hown1 hlt)
      have hg2 := (((hgr.trans hg1).alloc _).alloc _).grown hgrow (own_ge hown1)
      have e1 : (Rd.rep (Rd.ty s.data.toList) (k + 1) t) = (p.1 ++ [q.1], q.2) := by simp only [Rd.rep, unhide HP, unhide HQ]
      rw [← tcells_snoc] at hown2
      have HE := hide e1
      clear e1 hgrow hown hown1 hRr hR1 hg1 hgr
      go_wp2
      go_roundw
      case rel => exact ⟨k + 1, by omega, by go_num, by rw [unhide HE]; exact hown2, by rw [unhide HE]; exact hR2, hg2⟩
      case measure => simp [intOf]; omega
    · have e : k = n.toNat := by omega
      subst e
      go_wp2
      go_ret
      exact ⟨_, rfl, hown, hRr, hgr⟩
end Go.Proofs.YteffpdofcgbokaaGreat
