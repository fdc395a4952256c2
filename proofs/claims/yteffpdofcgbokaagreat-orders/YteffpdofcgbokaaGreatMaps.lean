/-
  The walk over the reader's method maps.
-/
import Derived.Test.YteffpdofcgbokaaGreatLists
namespace Go.Proofs.YteffpdofcgbokaaGreat
open Go.RowKit

theorem Tryz.infoMap : (Tryz.prog.info? 210).map (fun i => (i.zero, i.size, i.bytes)) = some (some (.agg #[.int .i64 0, .slice none 0 0, .slice none 0 0]), 3, 56) := by kernel_rfl

theorem own_one {b size n : Nat} {e : TypeId} {a : Option Addr} {m c : Nat} {xs : List Value} {w : World} (_h : w.ownsRow b e size (.slice a m c) n xs) : (Value.slice a m c).oneCell' = true := rfl

set_option maxRecDepth 100000 in
set_option maxHeartbeats 2000000 in
theorem maps_any (s : ByteArray) (B : Nat) (L H : Int) (t : Rd.St) (w : World) (hs : s.size ≤ maxLen) (hL0 : 0 ≤ L) (hL1 : L ≤ 8) (hH0 : 0 ≤ H) (hH1 : H ≤ 8) (hR : RdAt w B s t) :
    Calls Tryz.prog 154 #[.pointer (some ⟨B, 0, none⟩), .int .i64 L, .int .i64 H] w fun e w' =>
      ∃ v l, e = .returned v ∧ l.map Prod.fst = (Rd.mps s.data.toList L H t).1 ∧ MpsIn w' w.heap.size v l ∧ RdAt w' B s (Rd.mps s.data.toList L H t).2 ∧ Gr B w w' := by
  have hlt := hR.lt
  obtain ⟨i0, hi, hz0, hz1, hz2⟩ := info_parts Tryz.infoMap
  unfold Rd.mps
  dsimp only
  generalize hr : Rd.cn s.data.toList 0 64 t = r
  have hbd := Rd.cn_bd s.data.toList 0 64 t (by omega)
  rw [hr] at hbd
  obtain ⟨hbd0, hbd1⟩ := hbd
  have HR := hide hr
  clear hr
  go_enter Tryz.func154, Tryz.ntmps154
  go_wp2_with fail
  refine (count_any s B 0 64 t _ hs hR).mono ?_
  rw [unhide HR]
  rintro e w0 ⟨rfl, hR0, hg0⟩
  have hsz0 := hg0.size
  go_wp2
  go_loopw [7, 9] (fun v i wr => ∃ (k : Nat) (l : List (Rd.Mp × Value × Value)), (k : Int) ≤ r.1 ∧ i = .int .i64 k ∧ l.length = k ∧ l.map Prod.fst = (Rd.rep (Rd.mp s.data.toList L H) k r.2).1 ∧ MpsIn wr w.heap.size v l ∧ RdAt wr B s (Rd.rep (Rd.mp s.data.toList L H) k r.2).2 ∧ Gr B w wr)
    (fun _ i _ => r.1.toNat - (intOf i).toNat)
  case atStart => exact ⟨0, [], by omega, rfl, rfl, rfl, ⟨World.ownsRow_nil _ _ _ _, by simp⟩, hR0, hg0⟩
  case round =>
    obtain ⟨k, l, hk, rfl, hlen, hmap, hms, hRr, hgr⟩ := hrel
    have hsz := hgr.size
    by_cases hkn : (k : Int) < r.1
    · generalize hp : Rd.rep (Rd.mp s.data.toList L H) k r.2 = p at *
      generalize hq1 : Rd.nx s.data.toList p.2 = q1
      generalize hq2 : Rd.tys s.data.toList L.toNat q1.2 = q2
      generalize hq3 : Rd.cn s.data.toList 0 H q2.2 = q3
      generalize hq4 : Rd.tys s.data.toList q3.1.toNat q3.2 = q4
      have l2 : q2.1.length = L.toNat := by rw [← hq2]; exact tys_len _ _ _
      have l4 : q4.1.length = q3.1.toNat := by rw [← hq4]; exact tys_len _ _ _
      have hb3 := Rd.cn_bd s.data.toList 0 H q2.2 hH0
      rw [hq3] at hb3
      obtain ⟨hb30, hb31⟩ := hb3
      have HQ : Hid (Rd.mp s.data.toList L H p.2 = (⟨q1.1, q2.1, q4.1⟩, q4.2)) := by
        unfold Hid Rd.mp
        simp only [hq1, hq2, hq3, hq4]
      have HP := hide hp
      have HQ1 := hide hq1
      have HQ2 := hide hq2
      have HQ3 := hide hq3
      have HQ4 := hide hq4
      have HL2 := hide l2
      have HL4 := hide l4
      have HLen := hide hlen
      have HMap := hide hmap
      clear hp hq1 hq2 hq3 hq4 l2 l4 hlen hmap
      have hne : wr.heap.size ≠ B := by omega
      go_wp2_with fail
      refine (next_any s B p.2 _ hs (hRr.alloc _)).mono ?_
      rw [unhide HQ1]
      rintro e w1 ⟨rfl, hR1, hg1⟩
      have hG1 := ((Gr.refl B wr).alloc _).trans hg1
      have hb1 := hg1.own (alloc_blk wr _) hne
      have s1 := hg1.size
      simp at s1
      have c0 := blk_cell hb1 0
      have f0 := blk_free hb1 0
      simp at c0
      go_wp2_with fail
      clear c0 f0
      refine (types_any s B L q1.2 _ hs hL0 (by omega) (hR1.set (by simp; omega) _)).mono ?_
      rw [unhide HQ2]
      rintro e w2 ⟨v1, rfl, ho1, hR2, hg2⟩
      obtain ⟨va, vc, rfl⟩ := own_shape ho1
      have hG2 := (hG1.set (.inl (by simp)) _).trans hg2
      have hb2 := hg2.own (set_blk hb1 _) hne
      simp at hb2
      have c1 := blk_cell hb2 1
      have f1 := blk_free hb2 1
      simp at c1
      have ht1 : TysAt w2 w.heap.size (.slice va L.toNat vc) q2.1 := by
        unfold TysAt
        rw [unhide HL2]
        exact own_mono ho1 (by simp; omega)
      clear ho1
      go_wp2_with fail
      clear c1 f1
      refine (count_any s B 0 H q2.2 _ hs (hR2.set (by simp; omega) _)).mono ?_
      rw [unhide HQ3]
      rintro e w3 ⟨rfl, hR3, hg3⟩
      have hG3 := (hG2.set (.inl (by simp)) _).trans hg3
      have hb3' := hg3.own (set_blk hb2 _) hne
      simp at hb3'
      have ht2 := (ht1.kp (Kp.set (i := 1) hb2 (.slice va L.toNat vc)) (by decide)).kp (Kp.of_gr (e := none) hg3 hlt) (by decide)
      clear ht1
      go_wp2_with fail
      refine (types_any s B q3.1 q3.2 _ hs hb30 (by omega) hR3).mono ?_
      rw [unhide HQ4]
      rintro e w4 ⟨v2, rfl, ho2, hR4, hg4⟩
      obtain ⟨vb, vd, rfl⟩ := own_shape ho2
      have hG4 := hG3.trans hg4
      have hb4 := hg4.own hb3' hne
      have ht3 := ht2.kp (Kp.of_gr (e := none) hg4 hlt) (by decide)
      have s3 := hG3.size
      have ht4 : TysAt w4 w.heap.size (.slice vb q3.1.toNat vd) q4.1 := by
        unfold TysAt
        rw [unhide HL4]
        exact own_mono ho2 (by omega)
      clear ho2 ht2
      have c0 := blk_cell hb4 0
      have c1 := blk_cell hb4 1
      have c2 := blk_cell hb4 2
      have f2 := blk_free hb4 2
      simp at c0 c1 c2
      have hK := Kp.set (b := w.heap.size) (i := 2) hb4 (.slice vb q3.1.toNat vd)
      have hG5 := hG4.set (p := ⟨wr.heap.size, 2, none⟩) (.inl (by simp)) (.slice vb q3.1.toNat vd)
      have hown1 := own_gr hms.1 hG5 hlt
      have hms1 := fun p hp => And.intro ((hms.2 p hp).1.kp (Kp.of_gr (e := none) hG5 hlt) (by decide)) ((hms.2 p hp).2.kp (Kp.of_gr (e := none) hG5 hlt) (by decide))
      have ht5 := ht3.kp hK (by decide)
      have ht6 := ht4.kp hK (by decide)
      have hR5 := hR4.set (p := ⟨wr.heap.size, 2, none⟩) (by simp; omega) (.slice vb q3.1.toNat vd)
      have hsz5 := hG5.size
      have HMs1 := hide hms1
      clear hms1 hb1 hb2 hb3' hb4 hg1 hg2 hg3 hg4 hG1 hG2 hG3 hG4 hR1 hR2 hR3 hR4 ht3 ht4 hK
      go_wp2_with (at_builtin; refine wpList_append_own _ rfl _ _ 90 rfl w.heap.size 210 i0 _ 3 56 Tryz.underlying90 hi hz0 hz1 hz2 rfl (by decide) _ _ _ rfl (hown1.alloc _) ⟨w4.heap.size, 0, none⟩ 1 1 [.int .i64 q1.1, .slice va L.toNat vc, .slice vb q3.1.toNat vd] rfl rfl ?c1 ?c2 ?c3 ?c4 ?c5 ?_)
      case c1 => exact cells_new _ _ _ _ (by simp)
      case c2 => intro u hu; simp at hu; rcases hu with rfl | rfl | rfl <;> rfl
      case c3 => have := unhide HLen; unfold maxLen; omega
      case c4 => have := unhide HLen; omega
      case c5 => simp at hsz5 ⊢; omega
      intro v' w5 hown2 hgrow _
      have hR6 := (hR5.alloc _).grown hgrow (own_ne hown1 hlt)
      have hg6 := ((hgr.trans hG5).alloc _).grown hgrow (own_ge hown1)
      have hK := (Kp.alloc (e := some 210) (b := w.heap.size) _ _).trans (Kp.of_grown hgrow (hown1.alloc _))
      have hms5 : MpsIn w5 w.heap.size v' (l ++ [(⟨q1.1, q2.1, q4.1⟩, .slice va L.toNat vc, .slice vb q3.1.toNat vd)]) := by
        refine ⟨?_, ?_⟩
        · rw [mcells_snoc, List.length_append]; exact hown2
        · intro p hp
          rw [List.mem_append] at hp
          rcases hp with hp | hp
          · exact ⟨(unhide HMs1 p hp).1.kp hK (by decide), (unhide HMs1 p hp).2.kp hK (by decide)⟩
          · simp only [List.mem_singleton] at hp
            subst hp
            exact ⟨ht5.kp hK (by decide), ht6.kp hK (by decide)⟩
      have e1 : (Rd.rep (Rd.mp s.data.toList L H) (k + 1) r.2) = (p.1 ++ [⟨q1.1, q2.1, q4.1⟩], q4.2) := by simp only [Rd.rep, unhide HP, unhide HQ]
      have HE := hide e1
      have HK := hide hK
      clear e1 hgrow hown1 hown2 hRr hR5 hG5 hgr c0 c1 c2 f2 hK ht5 ht6 hms
      go_wp2
      go_roundw
      case rel => exact ⟨k + 1, _, by omega, by go_num, by rw [List.length_append, unhide HLen]; rfl, by rw [unhide HE, List.map_append, unhide HMap]; rfl, hms5, by rw [unhide HE]; exact hR6, hg6⟩
      case measure => simp [intOf]; omega
    · have e : k = r.1.toNat := by omega
      subst e
      go_wp2
      go_ret
      exact ⟨_, rfl, l, hmap, hms, hRr, hgr⟩
end Go.Proofs.YteffpdofcgbokaaGreat
