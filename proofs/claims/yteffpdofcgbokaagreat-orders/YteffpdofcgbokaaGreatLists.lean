/-
  The walks over the reader's methods code and handlers.
-/
import Derived.Test.YteffpdofcgbokaaGreatClass
namespace Go.Proofs.YteffpdofcgbokaaGreat
open Go.RowKit

theorem Tryz.infoInt : (Tryz.prog.info? 3).map (fun i => (i.zero, i.size, i.bytes)) = some (some (.int .i64 0), 1, 8) := by kernel_rfl
theorem Tryz.infoHandler : (Tryz.prog.info? 256).map (fun i => (i.zero, i.size, i.bytes)) = some (some (.agg #[.int .i64 0, .int .i64 0, .int .i64 0, .int .i64 0]), 4, 32) := by kernel_rfl

set_option maxRecDepth 100000 in
set_option maxHeartbeats 1000000 in
theorem code_any (s : ByteArray) (B : Nat) (t : Rd.St) (w : World) (hs : s.size ≤ maxLen) (hR : RdAt w B s t) :
    Calls Tryz.prog 152 #[.pointer (some ⟨B, 0, none⟩)] w fun e w' =>
      ∃ v, e = .returned v ∧ IntsAt w' w.heap.size v (Rd.codes s.data.toList t).1 ∧ RdAt w' B s (Rd.codes s.data.toList t).2 ∧ Gr B w w' := by
  have hlt := hR.lt
  obtain ⟨i0, hi, hz0, hz1, hz2⟩ := info_parts Tryz.infoInt
  unfold Rd.codes IntsAt
  dsimp only
  rw [Rd.rep_len]
  generalize hr : Rd.cn s.data.toList 1 120 t = r
  have hbd := Rd.cn_bd s.data.toList 1 120 t (by omega)
  rw [hr] at hbd
  obtain ⟨hbd0, hbd1⟩ := hbd
  have H := hide hr
  clear hr
  go_enter Tryz.func152, Tryz.ntmps152
  go_wp2_with fail
  refine (count_any s B 1 120 t _ hs hR).mono ?_
  rw [unhide H]
  rintro e w0 ⟨rfl, hR0, hg0⟩
  have hsz0 := hg0.size
  go_wp2
  go_loopw [3, 5] (fun v i wr => ∃ k : Nat, (k : Int) ≤ r.1 ∧ i = .int .i64 k ∧ wr.ownsRow w.heap.size 3 1 v k ((Rd.rep (Rd.nx s.data.toList) k r.2).1.map (Value.int .i64)) ∧ RdAt wr B s (Rd.rep (Rd.nx s.data.toList) k r.2).2 ∧ Gr B w wr)
    (fun _ i _ => r.1.toNat - (intOf i).toNat)
  case atStart => exact ⟨0, by omega, rfl, World.ownsRow_nil _ _ _ _, hR0, hg0⟩
  case round =>
    obtain ⟨k, hk, rfl, hown, hRr, hgr⟩ := hrel
    have hsz := hgr.size
    by_cases hkn : (k : Int) < r.1
    · generalize hp : Rd.rep (Rd.nx s.data.toList) k r.2 = p at *
      generalize hq : Rd.nx s.data.toList p.2 = q at *
      have HP := hide hp
      have HQ := hide hq
      clear hp hq
      go_wp2_with fail
      refine (next_any s B p.2 _ hs hRr).mono ?_
      rw [unhide HQ]
      rintro e w1 ⟨rfl, hR1, hg1⟩
      have hsz1 := hg1.size
      have hown1 := own_gr hown hg1 hlt
      go_wp2_with (at_builtin; refine wpList_append_own _ rfl _ _ 58 rfl w.heap.size 3 i0 _ 1 8 Tryz.underlying58 hi hz0 hz1 hz2 rfl (by decide) _ _ _ rfl (hown1.alloc _) ⟨w1.heap.size, 0, none⟩ 1 1 [.int .i64 q.1] rfl rfl ?c1 ?c2 ?c3 ?c4 ?c5 ?_)
      case c1 => exact cells_new _ _ _ _ rfl
      case c2 => intro u hu; simp at hu; subst hu; rfl
      case c3 => unfold maxLen; omega
      case c4 => omega
      case c5 => simp; omega
      intro v' w2 hown2 hgrow _
      have hR2 := (hR1.alloc _).grown hgrow (own_ne hown1 hlt)
      have hg2 := ((hgr.trans hg1).alloc _).grown hgrow (own_ge hown1)
      have e1 : (Rd.rep (Rd.nx s.data.toList) (k + 1) r.2) = (p.1 ++ [q.1], q.2) := by simp only [Rd.rep, unhide HP, unhide HQ]
      have hown3 : w2.ownsRow w.heap.size 3 1 v' (k + 1) ((p.1 ++ [q.1]).map (Value.int .i64)) := by simpa using hown2
      have HE := hide e1
      clear e1 hgrow hown hown1 hown2 hRr hR1 hg1 hgr
      go_wp2
      go_roundw
      case rel => exact ⟨k + 1, by omega, by go_num, by rw [unhide HE]; exact hown3, by rw [unhide HE]; exact hR2, hg2⟩
      case measure => simp [intOf]; omega
    · have e : k = r.1.toNat := by omega
      subst e
      go_wp2
      go_ret
      exact ⟨_, rfl, hown, hRr, hgr⟩

set_option maxRecDepth 100000 in
set_option maxHeartbeats 2000000 in
theorem handlers_any (s : ByteArray) (B : Nat) (t : Rd.St) (w : World) (hs : s.size ≤ maxLen) (hR : RdAt w B s t) :
    Calls Tryz.prog 153 #[.pointer (some ⟨B, 0, none⟩)] w fun e w' =>
      ∃ v, e = .returned v ∧ HndsAt w' w.heap.size v (Rd.hnds s.data.toList t).1 ∧ RdAt w' B s (Rd.hnds s.data.toList t).2 ∧ Gr B w w' := by
  have hlt := hR.lt
  obtain ⟨i0, hi, hz0, hz1, hz2⟩ := info_parts Tryz.infoHandler
  unfold Rd.hnds HndsAt
  dsimp only
  rw [Rd.rep_len]
  generalize hr : Rd.cn s.data.toList 0 4 t = r
  have hbd := Rd.cn_bd s.data.toList 0 4 t (by omega)
  rw [hr] at hbd
  obtain ⟨hbd0, hbd1⟩ := hbd
  have H := hide hr
  clear hr
  go_enter Tryz.func153, Tryz.ntmps153
  go_wp2_with fail
  refine (count_any s B 0 4 t _ hs hR).mono ?_
  rw [unhide H]
  rintro e w0 ⟨rfl, hR0, hg0⟩
  have hsz0 := hg0.size
  go_wp2
  go_loopw [3, 5] (fun v i wr => ∃ k : Nat, (k : Int) ≤ r.1 ∧ i = .int .i64 k ∧ wr.ownsRow w.heap.size 256 4 v k (hcells (Rd.rep (Rd.hnd s.data.toList) k r.2).1) ∧ RdAt wr B s (Rd.rep (Rd.hnd s.data.toList) k r.2).2 ∧ Gr B w wr)
    (fun _ i _ => r.1.toNat - (intOf i).toNat)
  case atStart => exact ⟨0, by omega, rfl, World.ownsRow_nil _ _ _ _, hR0, hg0⟩
  case round =>
    obtain ⟨k, hk, rfl, hown, hRr, hgr⟩ := hrel
    have hsz := hgr.size
    by_cases hkn : (k : Int) < r.1
    · generalize hp : Rd.rep (Rd.hnd s.data.toList) k r.2 = p at *
      generalize hq1 : Rd.nx s.data.toList p.2 = q1
      generalize hq2 : Rd.nx s.data.toList q1.2 = q2
      generalize hq3 : Rd.nx s.data.toList q2.2 = q3
      generalize hq4 : Rd.nx s.data.toList q3.2 = q4
      have HQ : Hid (Rd.hnd s.data.toList p.2 = (⟨q1.1, q2.1, q3.1, q4.1⟩, q4.2)) := by
        unfold Hid Rd.hnd
        simp only [hq1, hq2, hq3, hq4]
      have HP := hide hp
      have HQ1 := hide hq1
      have HQ2 := hide hq2
      have HQ3 := hide hq3
      have HQ4 := hide hq4
      clear hp hq1 hq2 hq3 hq4
      have hne : wr.heap.size ≠ B := by omega
      go_wp2_with fail
      refine (next_any s B p.2 _ hs (hRr.alloc _)).mono ?_
      rw [unhide HQ1]
      rintro e w1 ⟨rfl, hR1, hg1⟩
      have hG1 := ((Gr.refl B wr).alloc _).trans hg1
      have hb1 := hg1.own (alloc_blk wr _) hne
      have c0 := blk_cell hb1 0
      have f0 := blk_free hb1 0
      simp at c0
      go_wp2_with fail
      clear c0 f0
      refine (next_any s B q1.2 _ hs (hR1.set (by simp; omega) _)).mono ?_
      rw [unhide HQ2]
      rintro e w2 ⟨rfl, hR2, hg2⟩
      have hG2 := (hG1.set (.inl (by simp)) _).trans hg2
      have hb2 := hg2.own (set_blk hb1 _) hne
      simp at hb2
      have c1 := blk_cell hb2 1
      have f1 := blk_free hb2 1
      simp at c1
      go_wp2_with fail
      clear c1 f1
      refine (next_any s B q2.2 _ hs (hR2.set (by simp; omega) _)).mono ?_
      rw [unhide HQ3]
      rintro e w3 ⟨rfl, hR3, hg3⟩
      have hG3 := (hG2.set (.inl (by simp)) _).trans hg3
      have hb3 := hg3.own (set_blk hb2 _) hne
      simp at hb3
      have c2 := blk_cell hb3 2
      have f2 := blk_free hb3 2
      simp at c2
      go_wp2_with fail
      clear c2 f2
      refine (next_any s B q3.2 _ hs (hR3.set (by simp; omega) _)).mono ?_
      rw [unhide HQ4]
      rintro e w4 ⟨rfl, hR4, hg4⟩
      have hG4 := (hG3.set (.inl (by simp)) _).trans hg4
      have hb4 := hg4.own (set_blk hb3 _) hne
      simp at hb4
      have c0 := blk_cell hb4 0
      have c1 := blk_cell hb4 1
      have c2 := blk_cell hb4 2
      have c3 := blk_cell hb4 3
      have f3 := blk_free hb4 3
      simp at c0 c1 c2 c3
      have hG5 := hG4.set (p := ⟨wr.heap.size, 3, none⟩) (.inl (by simp)) (.int .i64 q4.1)
      have hown1 := own_gr hown hG5 hlt
      have hR5 := hR4.set (p := ⟨wr.heap.size, 3, none⟩) (by simp; omega) (.int .i64 q4.1)
      have hsz5 := hG5.size
      clear hb1 hb2 hb3 hb4 hg1 hg2 hg3 hg4 hG1 hG2 hG3 hG4 hR1 hR2 hR3 hR4
      go_wp2_with (at_builtin; refine wpList_append_own _ rfl _ _ 89 rfl w.heap.size 256 i0 _ 4 32 Tryz.underlying89 hi hz0 hz1 hz2 rfl (by decide) _ _ _ rfl (hown1.alloc _) ⟨w4.heap.size, 0, none⟩ 1 1 [.int .i64 q1.1, .int .i64 q2.1, .int .i64 q3.1, .int .i64 q4.1] rfl rfl ?c1 ?c2 ?c3 ?c4 ?c5 ?_)
      case c1 => exact cells_new _ _ _ _ (by simp)
      case c2 => intro u hu; simp at hu; rcases hu with rfl | rfl | rfl | rfl <;> rfl
      case c3 => unfold maxLen; omega
      case c4 => omega
      case c5 => simp at hsz5 ⊢; omega
      intro v' w5 hown2 hgrow _
      have hR6 := (hR5.alloc _).grown hgrow (own_ne hown1 hlt)
      have hg6 := ((hgr.trans hG5).alloc _).grown hgrow (own_ge hown1)
      have e1 : (Rd.rep (Rd.hnd s.data.toList) (k + 1) r.2) = (p.1 ++ [⟨q1.1, q2.1, q3.1, q4.1⟩], q4.2) := by simp only [Rd.rep, unhide HP, unhide HQ]
      have hown3 : w5.ownsRow w.heap.size 256 4 v' (k + 1) (hcells (p.1 ++ [⟨q1.1, q2.1, q3.1, q4.1⟩])) := by rw [hcells_snoc]; exact hown2
      have HE := hide e1
      clear e1 hgrow hown hown1 hown2 hRr hR5 hG5 hgr c0 c1 c2 c3 f3
      go_wp2
      go_roundw
      case rel => exact ⟨k + 1, by omega, by go_num, by rw [unhide HE]; exact hown3, by rw [unhide HE]; exact hR6, hg6⟩
      case measure => simp [intOf]; omega
    · have e : k = r.1.toNat := by omega
      subst e
      go_wp2
      go_ret
      exact ⟨_, rfl, hown, hRr, hgr⟩
end Go.Proofs.YteffpdofcgbokaaGreat
