/-
  The walks over the reader's method file and over layout.Read.
-/
import Derived.Test.YteffpdofcgbokaaGreatMethod
namespace Go.Proofs.YteffpdofcgbokaaGreat
open Go.RowKit

theorem Tryz.infoClass : (Tryz.prog.info? 143).map (fun i => (i.zero, i.size, i.bytes)) = some (some (.agg #[.int .i64 0, .slice none 0 0]), 2, 32) := by kernel_rfl
theorem Tryz.infoMethod : (Tryz.prog.info? 92).map (fun i => (i.zero, i.size, i.bytes)) = some (some (.agg #[.int .i64 0, .int .i64 0, .slice none 0 0, .int .i64 0, .int .i64 0, .int .i64 0, .int .i64 0, .slice none 0 0, .slice none 0 0, .slice none 0 0]), 10, 144) := by kernel_rfl

set_option maxRecDepth 100000 in
set_option maxHeartbeats 4000000 in
theorem file_any (s : ByteArray) (B : Nat) (t : Rd.St) (w : World) (hs : s.size ≤ maxLen) (hR : RdAt w B s t) :
    Calls Tryz.prog 68 #[.pointer (some ⟨B, 0, none⟩)] w fun e w' =>
      ∃ a1 n1 c1 a2 n2 c2 l1 l2, e = .returned (.agg #[.slice a1 n1 c1, .slice a2 n2 c2]) ∧ l1.map Prod.fst = (Rd.fil s.data.toList t).1.classes ∧ ClssIn w' w.heap.size (.slice a1 n1 c1) l1 ∧
        l2.map Prod.fst = (Rd.fil s.data.toList t).1.methods ∧ MthsIn w' w.heap.size (.slice a2 n2 c2) l2 ∧ RdAt w' B s (Rd.fil s.data.toList t).2 ∧ Gr B w w' := by
  have hlt := hR.lt
  obtain ⟨i0, hi, hz0, hz1, hz2⟩ := info_parts Tryz.infoClass
  obtain ⟨j0, hj, hy0, hy1, hy2⟩ := info_parts Tryz.infoMethod
  unfold Rd.fil
  dsimp only
  generalize hq1 : Rd.ex s.data.toList 83 t = q1
  generalize hq2 : Rd.ex s.data.toList 77 q1 = q2
  generalize hq3 : Rd.cn s.data.toList 0 6 q2 = q3
  generalize hq4 : Rd.rep (Rd.cls s.data.toList) q3.1.toNat q3.2 = q4
  generalize hq5 : Rd.cn s.data.toList 1 6 q4.2 = q5
  have b3 := Rd.cn_bd s.data.toList 0 6 q2 (by omega)
  rw [hq3] at b3
  obtain ⟨b30, b31⟩ := b3
  have b5 := Rd.cn_bd s.data.toList 1 6 q4.2 (by omega)
  rw [hq5] at b5
  obtain ⟨b50, b51⟩ := b5
  have Q4 := hide hq4
  have Q5 := hide hq5
  have Q1 := hide hq1
  have Q2 := hide hq2
  have Q3 := hide hq3
  clear hq1 hq2 hq3 hq4 hq5
  have n1 : w.heap.size + 1 ≠ B := by omega
  have n0 : w.heap.size ≠ B := by omega
  go_enter Tryz.func68, Tryz.ntmps68
  go_wp2_with fail
  refine (expect_any s B 83 t _ hs ((hR.alloc _).alloc _)).mono ?_
  rw [unhide Q1]
  rintro e w1 ⟨rfl, hR1, hg1⟩
  have G1 := (((Gr.refl B w).alloc _).alloc _).trans hg1
  have B1 := hg1.own (alloc2_blk w _ _) n1
  have C1 := hg1.own (alloc1_blk w _ _) n0
  go_wp2_with fail
  refine (expect_any s B 77 q1 _ hs hR1).mono ?_
  rw [unhide Q2]
  rintro e w2 ⟨rfl, hR2, hg2⟩
  have G2 := G1.trans hg2
  have B2 := hg2.own B1 n1
  have C2 := hg2.own C1 n0
  go_wp2_with fail
  refine (count_any s B 0 6 q2 _ hs hR2).mono ?_
  rw [unhide Q3]
  rintro e w3 ⟨rfl, hR3, hg3⟩
  have G3 := G2.trans hg3
  have B3 := hg3.own B2 n1
  have C3 := hg3.own C2 n0
  clear G1 G2 B1 B2 C1 C2 hg1 hg2 hg3 hR1 hR2
  go_wp2
  go_loopw [5] (fun i wr => ∃ (k : Nat) (l : List (Rd.Cls × Value)) (v : Value), (k : Int) ≤ q3.1 ∧ i = .int .i64 k ∧ l.length = k ∧ l.map Prod.fst = (Rd.rep (Rd.cls s.data.toList) k q3.2).1 ∧ ClssIn wr w.heap.size v l ∧
      wr.heap[w.heap.size + 1]? = some (.cells #[v, .slice none 0 0] 38 (0, 0)) ∧ wr.heap[w.heap.size]? = some (.cells #[.slice none 0 0, .slice none 0 0] 38 (0, 0)) ∧
      RdAt wr B s (Rd.rep (Rd.cls s.data.toList) k q3.2).2 ∧ Gr B w wr)
    (fun i _ => q3.1.toNat - (intOf i).toNat)
  case atStart => exact ⟨0, [], _, by omega, rfl, rfl, rfl, ⟨World.ownsRow_nil _ _ _ _, by simp⟩, B3, C3, hR3, G3⟩
  case round =>
    obtain ⟨k, l, v, hk, rfl, hlen, hmap, hcs, hB, hC, hRr, hgr⟩ := hrel
    have hsz := hgr.size
    by_cases hkn : (k : Int) < q3.1
    · generalize hp : Rd.rep (Rd.cls s.data.toList) k q3.2 = p at *
      generalize hq : Rd.cls s.data.toList p.2 = q
      have HP := hide hp
      have HQ := hide hq
      have HLen := hide hlen
      have HMap := hide hmap
      clear hp hq hlen hmap
      go_wp2_with fail
      refine (class_any s B p.2 _ hs hRr).mono ?_
      rw [unhide HQ]
      rintro e w4 ⟨u, rfl, ht, hR4, hg4⟩
      obtain ⟨ua, uc, rfl⟩ := own_shape ht
      have hB4 := hg4.own hB n1
      have hC4 := hg4.own hC n0
      have G4 := hgr.trans hg4
      have hsz4 := G4.size
      obtain ⟨va, vc, rfl⟩ := own_shape hcs.1
      have hcs4 := hcs.kp (Kp.of_gr (e := none) hg4 hlt) (by decide) (by decide)
      have ht4 := ht.mono hsz
      have x0 := blk_cell hB4 0
      have f0 := blk_free hB4 0
      have hlt1 := lt_of_block hB4
      have HCs := hide hcs4.2
      have hown := hcs4.1
      simp at x0
      clear ht hcs hcs4
      go_wp2_with (at_builtin; refine wpList_append_own _ rfl _ _ 35 rfl w.heap.size 143 i0 _ 2 32 Tryz.underlying35 hi hz0 hz1 hz2 rfl (by decide) _ _ _ rfl ((hown.alloc _).alloc _) ⟨w4.heap.size + 1, 0, none⟩ 1 1 [.int .i64 q.1.above, .slice ua q.1.fields.length uc] rfl rfl ?c1 ?c2 ?c3 ?c4 ?c5 ?_)
      case c1 => exact cells_new _ _ _ _ (by simp)
      case c2 => intro u hu; simp at hu; rcases hu with rfl | rfl <;> rfl
      case c3 => have := unhide HLen; unfold maxLen; omega
      case c4 => have := unhide HLen; omega
      case c5 => simp; omega
      intro v' w5 hown2 hgrow _
      obtain ⟨va', vc', rfl⟩ := own_shape hown2
      have hR5 := ((hR4.alloc _).alloc _).grown hgrow (own_ne hown hlt)
      have hG5 := ((G4.alloc _).alloc _).grown hgrow (own_ge hown)
      have hK := ((Kp.alloc (e := some 143) (b := 0) _ _).trans (Kp.alloc _ _)).trans (Kp.of_grown hgrow ((hown.alloc _).alloc _))
      have hB5 := hK _ _ _ (Nat.zero_le _) hB4 (by decide)
      have hC5 := hK _ _ _ (Nat.zero_le _) hC4 (by decide)
      have x1 := blk_cell hB5 0
      have f1 := blk_free hB5 0
      simp at x1
      have hK' : Kp (some 143) w.heap.size w4 w5 := fun k cs t _ hc ht => hK k cs t (Nat.zero_le _) hc ht
      have hcs5 : ClssIn (w5.setCell ⟨w.heap.size + 1, 0, none⟩ (.slice va' (l.length + 1) vc')) w.heap.size (.slice va' (l.length + 1) vc') (l ++ [(q.1, .slice ua q.1.fields.length uc)]) := by
        have hset := Kp.set (b := w.heap.size) (i := 0) hB5 (.slice va' (l.length + 1) vc')
        refine ⟨?_, ?_⟩
        · rw [ccells_snoc, List.length_append]; exact own_kp hown2 hset (by decide)
        · intro p hp
          rw [List.mem_append] at hp
          rcases hp with hp | hp
          · exact ((unhide HCs p hp).kp hK' (by decide)).kp hset (by decide)
          · simp only [List.mem_singleton] at hp
            subst hp
            exact (ht4.kp hK' (by decide)).kp hset (by decide)
      have e1 : (Rd.rep (Rd.cls s.data.toList) (k + 1) q3.2) = (p.1 ++ [q.1], q.2) := by simp only [Rd.rep, unhide HP, unhide HQ]
      have HE := hide e1
      have HB := set_blk (i := 0) hB5 (.slice va' (l.length + 1) vc')
      have HC := set_other hC5 (p := ⟨w.heap.size + 1, 0, none⟩) (by simp) (.slice va' (l.length + 1) vc')
      have HK := hide hK
      have HK' := hide hK'
      clear e1 hgrow hown hown2 hRr hR4 hg4 G4 hgr x0 f0 hK hK' ht4 hB hC hB4 hC4
      go_wp2
      go_roundw
      case rel => exact ⟨k + 1, _, _, by omega, by go_num, by rw [List.length_append, unhide HLen]; rfl, by rw [unhide HE, List.map_append, unhide HMap]; rfl, hcs5, HB, HC, by rw [unhide HE]; exact hR5.set (by simp; omega) _, hG5.set (.inl (by simp)) _⟩
      case measure => simp [intOf]; omega
    · have e : k = q3.1.toNat := by omega
      subst e
      clear hR3 G3 B3 C3
      rw [unhide Q4] at hmap hRr
      have HMap := hide hmap
      clear hmap hlen
      obtain ⟨va, vc, rfl⟩ := own_shape hcs.1
      go_wp2_with fail
      refine (count_any s B 1 6 q4.2 _ hs hRr).mono ?_
      rw [unhide Q5]
      rintro e w4 ⟨rfl, hR4, hg4⟩
      have G4 := hgr.trans hg4
      have B4 := hg4.own hB n1
      have C4 := hg4.own hC n0
      have hcs4 := hcs.kp (Kp.of_gr (e := none) hg4 hlt) (by decide) (by decide)
      clear hB hC hcs hgr hg4 hRr hk hsz
      go_wp2
      go_loopw [8] (fun i wr => ∃ (k : Nat) (m : List (Rd.Mth × MthV)) (v : Value), (k : Int) ≤ q5.1 ∧ i = .int .i64 k ∧ m.length = k ∧ m.map Prod.fst = (Rd.rep (Rd.mth s.data.toList) k q5.2).1 ∧ MthsIn wr w.heap.size v m ∧
          ClssIn wr w.heap.size (.slice va l.length vc) l ∧
          wr.heap[w.heap.size + 1]? = some (.cells #[.slice va l.length vc, v] 38 (0, 0)) ∧ wr.heap[w.heap.size]? = some (.cells #[.slice none 0 0, .slice none 0 0] 38 (0, 0)) ∧
          RdAt wr B s (Rd.rep (Rd.mth s.data.toList) k q5.2).2 ∧ Gr B w wr)
        (fun i _ => q5.1.toNat - (intOf i).toNat)
      case atStart => exact ⟨0, [], _, by omega, rfl, rfl, rfl, ⟨World.ownsRow_nil _ _ _ _, by simp⟩, hcs4, B4, C4, hR4, G4⟩
      case round =>
        clear hcs4 B4 C4 hR4 G4
        obtain ⟨k, m, v, hk, rfl, hlen, hmap, hms, hcs, hB, hC, hRr, hgr⟩ := hrel
        have hsz := hgr.size
        by_cases hkn : (k : Int) < q5.1
        · generalize hp : Rd.rep (Rd.mth s.data.toList) k q5.2 = p at *
          generalize hq : Rd.mth s.data.toList p.2 = q
          have HP := hide hp
          have HQ := hide hq
          have HLen := hide hlen
          have HMap2 := hide hmap
          clear hp hq hlen hmap
          obtain ⟨vb, vd, rfl⟩ := own_shape hms.1
          go_wp2_with fail
          refine (method_any s B p.2 _ hs hRr).mono ?_
          rw [unhide HQ]
          rintro e w4 ⟨a1, m1, d1, a2, m2, d2, a3, m3, d3, a4, m4, d4, rfl, ht, hR4, hg4⟩
          have hB4 := hg4.own hB n1
          have hC4 := hg4.own hC n0
          have G4 := hgr.trans hg4
          have hsz4 := G4.size
          have hms4 := hms.kp (Kp.of_gr (e := none) hg4 hlt) (by decide) (by decide) (by decide) (by decide) (by decide)
          have hcs4 := hcs.kp (Kp.of_gr (e := none) hg4 hlt) (by decide) (by decide)
          have ht4 := ht.mono hsz
          have x0 := blk_cell hB4 1
          have f0 := blk_free hB4 1
          have hlt1 := lt_of_block hB4
          have HMs := hide hms4.2
          have hown := hms4.1
          simp at x0
          clear ht hms hms4 hcs
          go_wp2_with (at_builtin; refine wpList_append_own _ rfl _ _ 36 rfl w.heap.size 92 j0 _ 10 144 Tryz.underlying36 hj hy0 hy1 hy2 rfl (by decide) _ _ _ rfl ((hown.alloc _).alloc _) ⟨w4.heap.size + 1, 0, none⟩ 1 1 (mthCells q.1 ⟨.slice a1 m1 d1, .slice a2 m2 d2, .slice a3 m3 d3, .slice a4 m4 d4⟩) rfl rfl ?d1 ?d2 ?d3 ?d4 ?d5 ?_)
          case d1 => exact cells_new _ _ _ _ (by simp)
          case d2 => intro u hu; simp [mthCells] at hu; rcases hu with rfl | rfl | rfl | rfl | rfl | rfl | rfl | rfl | rfl | rfl <;> rfl
          case d3 => have := unhide HLen; unfold maxLen; omega
          case d4 => have := unhide HLen; omega
          case d5 => simp; omega
          intro v' w5 hown2 hgrow _
          obtain ⟨va', vc', rfl⟩ := own_shape hown2
          have hR5 := ((hR4.alloc _).alloc _).grown hgrow (own_ne hown hlt)
          have hG5 := ((G4.alloc _).alloc _).grown hgrow (own_ge hown)
          have hK := ((Kp.alloc (e := some 92) (b := 0) _ _).trans (Kp.alloc _ _)).trans (Kp.of_grown hgrow ((hown.alloc _).alloc _))
          have hB5 := hK _ _ _ (Nat.zero_le _) hB4 (by decide)
          have hC5 := hK _ _ _ (Nat.zero_le _) hC4 (by decide)
          have x1 := blk_cell hB5 1
          have f1 := blk_free hB5 1
          simp at x1
          have hK' : Kp (some 92) w.heap.size w4 w5 := fun k cs t _ hc ht => hK k cs t (Nat.zero_le _) hc ht
          have hset := Kp.set (b := w.heap.size) (i := 1) hB5 (.slice va' (m.length + 1) vc')
          have hms5 : MthsIn (w5.setCell ⟨w.heap.size + 1, 1, none⟩ (.slice va' (m.length + 1) vc')) w.heap.size (.slice va' (m.length + 1) vc') (m ++ [(q.1, ⟨.slice a1 m1 d1, .slice a2 m2 d2, .slice a3 m3 d3, .slice a4 m4 d4⟩)]) := by
            refine ⟨?_, ?_⟩
            · rw [mscells_snoc, List.length_append]; exact own_kp hown2 hset (by decide)
            · intro p hp
              rw [List.mem_append] at hp
              rcases hp with hp | hp
              · exact ((unhide HMs p hp).kp hK' (by decide) (by decide) (by decide) (by decide)).kp hset (by decide) (by decide) (by decide) (by decide)
              · simp only [List.mem_singleton] at hp
                subst hp
                exact (ht4.kp hK' (by decide) (by decide) (by decide) (by decide)).kp hset (by decide) (by decide) (by decide) (by decide)
          have hcs5 := (hcs4.kp hK' (by decide) (by decide)).kp hset (by decide) (by decide)
          have e1 : (Rd.rep (Rd.mth s.data.toList) (k + 1) q5.2) = (p.1 ++ [q.1], q.2) := by simp only [Rd.rep, unhide HP, unhide HQ]
          have HE := hide e1
          have HB := set_blk (i := 1) hB5 (.slice va' (m.length + 1) vc')
          have HC := set_other hC5 (p := ⟨w.heap.size + 1, 1, none⟩) (by simp) (.slice va' (m.length + 1) vc')
          clear e1 hgrow hown hown2 hRr hR4 hg4 G4 hgr x0 f0 hK hK' ht4 hB hC hB4 hC4 hset hcs4
          go_wp2
          go_roundw
          case rel => exact ⟨k + 1, _, _, by omega, by go_num, by rw [List.length_append, unhide HLen]; rfl, by rw [unhide HE, List.map_append, unhide HMap2]; rfl, hms5, hcs5, HB, HC, by rw [unhide HE]; exact hR5.set (by simp; omega) _, hG5.set (.inl (by simp)) _⟩
          case measure => simp [intOf]; omega
        · have e : k = q5.1.toNat := by omega
          subst e
          obtain ⟨vb, vd, rfl⟩ := own_shape hms.1
          clear hlen
          have x0 := blk_cell hB 0
          have x1 := blk_cell hB 1
          have y0 := blk_cell hC 0
          have y1 := blk_cell hC 1
          have g0 := blk_free hC 0
          have g1 := blk_free hC 1
          simp at x0 x1 y0 y1
          go_wp2_with fail
          refine bodyPost_ret (v := .agg #[.slice va l.length vc, .slice vb m.length vd]) (by simp [results, Tryz.results68, go_sem, y0, y1]) rfl ?_
          have k1 := (Kp.set (b := w.heap.size) (i := 0) hC (.slice va l.length vc)).trans (Kp.set (i := 1) (set_blk (i := 0) hC (.slice va l.length vc)) (.slice vb m.length vd))
          refine ⟨_, _, _, _, _, _, rfl, l, unhide HMap, hcs.kp k1 (by decide) (by decide), m, hmap, hms.kp k1 (by decide) (by decide) (by decide) (by decide) (by decide), ?_, ?_⟩
          · exact (hRr.set (by simp; omega) _).set (by simp; omega) _
          · exact (hgr.set (.inl (by simp)) _).set (.inl (by simp)) _

/-- what Read gives of a string: the file, or an error -/
def Rd.read (s : List UInt8) : Rd.Fil × Int :=
  if 15000 < s.length then (⟨[], []⟩, 1)
  else if (Rd.fil s ⟨0, false⟩).2.bad = true ∨ (Rd.fil s ⟨0, false⟩).2.pos ≠ s.length then (⟨[], []⟩, 2)
  else ((Rd.fil s ⟨0, false⟩).1, 0)

set_option maxRecDepth 100000 in
set_option maxHeartbeats 4000000 in
theorem read_any (s : ByteArray) (w : World) (hs : s.size ≤ maxLen) :
    Calls Tryz.prog 38 #[.string s] w fun e w' =>
      ∃ a1 n1 c1 a2 n2 c2, e = .returned (.tuple #[.agg #[.slice a1 n1 c1, .slice a2 n2 c2], .int .i64 (Rd.read s.data.toList).2]) ∧
        ClssAt w' w.heap.size (.slice a1 n1 c1) (Rd.read s.data.toList).1.classes ∧ MthsAt w' w.heap.size (.slice a2 n2 c2) (Rd.read s.data.toList).1.methods ∧ Below w.heap.size w w' := by
  have hlen : s.data.toList.length = s.size := by simp
  unfold Rd.read
  rw [hlen]
  have hnil1 : ∀ w' : World, ClssAt w' w.heap.size (.slice none 0 0) [] := fun w' => ⟨[], rfl, World.ownsRow_nil _ _ _ _, by simp⟩
  have hnil2 : ∀ w' : World, MthsAt w' w.heap.size (.slice none 0 0) [] := fun w' => ⟨[], rfl, World.ownsRow_nil _ _ _ _, by simp⟩
  have HN1 := hide hnil1
  have HN2 := hide hnil2
  clear hnil1 hnil2
  by_cases h1 : 15000 < s.size
  · rw [if_pos h1]
    have h1' : (15000 : Int) < (s.size : Int) := by omega
    go_enter Tryz.func38, Tryz.ntmps38
    go_wp2
    refine bodyPost_ret (v := .tuple #[.agg #[.slice none 0 0, .slice none 0 0], .int .i64 1]) (by simp [results, Tryz.results38, go_sem]) rfl ?_
    exact ⟨none, 0, 0, none, 0, 0, rfl, unhide HN1 _, unhide HN2 _, (Below.refl _ _).alloc (Nat.le_refl _) _⟩
  · rw [if_neg h1]
    generalize hq : Rd.fil s.data.toList ⟨0, false⟩ = q
    have HQ := hide hq
    clear hq
    have h1' : ¬ (15000 : Int) < (s.size : Int) := by omega
    have hR : RdAt ((w.alloc (.cells #[.slice none 0 0, .slice none 0 0] 38)).alloc (.cells #[.string s, .int .i64 0, .bool false] 140)) (w.heap.size + 1) s ⟨0, false⟩ := alloc2_blk w _ _
    cases hbad : q.2.bad with
    | true =>
      rw [if_pos (.inl rfl)]
      have Hb := hide hbad
      clear hbad
      go_enter Tryz.func38, Tryz.ntmps38
      go_wp2_with fail
      refine (file_any s (w.heap.size + 1) ⟨0, false⟩ _ hs hR).mono ?_
      rw [unhide HQ]
      rintro e w1 ⟨a1, n1, c1, a2, n2, c2, l1, l2, rfl, hm1, hc1, hm2, hc2, hR1, hg1⟩
      have hC1 := hg1.own (alloc1_blk w _ _) (by omega)
      obtain ⟨x0, x1, x2, f0, f1, f2⟩ := hR1.cells
      rw [unhide Hb] at x2
      have y0 := blk_cell hC1 0
      have y1 := blk_cell hC1 1
      have g0 := blk_free hC1 0
      have g1 := blk_free hC1 1
      simp at y0 y1
      have hs1 := hg1.size
      simp at hs1
      have lt0 := lt_of_block hC1
      have lt1 := hR1.lt
      have hbl : Below w.heap.size w w1 := ((((Gr.refl (w.heap.size + 1) w).alloc _).alloc _).trans hg1).below (by omega)
      have HM1 := hide hm1
      have HM2 := hide hm2
      clear hm1 hm2
      go_wp2_with fail
      refine bodyPost_ret (v := .tuple #[.agg #[.slice none 0 0, .slice none 0 0], .int .i64 2]) (by simp [results, Tryz.results38, go_sem, y0, y1, lt0]) rfl ?_
      exact ⟨none, 0, 0, none, 0, 0, rfl, unhide HN1 _, unhide HN2 _, ((hbl.setCell (by simp) _).setCell (by simp) _).alloc (by simp; omega) _⟩
    | false =>
      have Hb := hide hbad
      clear hbad
      by_cases hpos : q.2.pos = s.size
      · rw [if_neg (by simp [hpos])]
        have hp1 : ((q.2.pos : Int) != (s.size : Int)) = false := by simp [hpos]
        clear hpos
        go_enter Tryz.func38, Tryz.ntmps38
        go_wp2_with fail
        refine (file_any s (w.heap.size + 1) ⟨0, false⟩ _ hs hR).mono ?_
        rw [unhide HQ]
        rintro e w1 ⟨a1, n1, c1, a2, n2, c2, l1, l2, rfl, hm1, hc1, hm2, hc2, hR1, hg1⟩
        have hC1 := hg1.own (alloc1_blk w _ _) (by omega)
        obtain ⟨x0, x1, x2, f0, f1, f2⟩ := hR1.cells
        rw [unhide Hb] at x2
        have y0 := blk_cell hC1 0
        have y1 := blk_cell hC1 1
        have g0 := blk_free hC1 0
        have g1 := blk_free hC1 1
        simp at y0 y1
        have hs1 := hg1.size
        simp at hs1
        have lt0 := lt_of_block hC1
        have lt1 := hR1.lt
        have hbl : Below w.heap.size w w1 := ((((Gr.refl (w.heap.size + 1) w).alloc _).alloc _).trans hg1).below (by omega)
        have HM1 := hide hm1
        have HM2 := hide hm2
        clear hm1 hm2
        go_wp2_with fail
        refine bodyPost_ret (v := .tuple #[.agg #[.slice a1 n1 c1, .slice a2 n2 c2], .int .i64 0]) (by simp [results, Tryz.results38, go_sem, y0, y1, lt0]) rfl ?_
        have k1 := ((Kp.set (b := w.heap.size) (i := 0) hC1 (.slice a1 n1 c1)).trans (Kp.set (i := 1) (set_blk (i := 0) hC1 (.slice a1 n1 c1)) (.slice a2 n2 c2))).trans (Kp.alloc _ (.cells #[.slice a1 n1 c1, .slice a2 n2 c2] 38))
        refine ⟨_, _, _, _, _, _, rfl, ⟨l1, unhide HM1, ?_⟩, ⟨l2, unhide HM2, ?_⟩, ((hbl.setCell (by simp) _).setCell (by simp) _).alloc (by simp; omega) _⟩
        · exact (hc1.mono (by simp; omega)).kp k1 (by decide) (by decide)
        · exact (hc2.mono (by simp; omega)).kp k1 (by decide) (by decide) (by decide) (by decide) (by decide)
      · rw [if_pos (.inr hpos)]
        have hp1 : ((q.2.pos : Int) != (s.size : Int)) = true := by simp; omega
        clear hpos
        go_enter Tryz.func38, Tryz.ntmps38
        go_wp2_with fail
        refine (file_any s (w.heap.size + 1) ⟨0, false⟩ _ hs hR).mono ?_
        rw [unhide HQ]
        rintro e w1 ⟨a1, n1, c1, a2, n2, c2, l1, l2, rfl, hm1, hc1, hm2, hc2, hR1, hg1⟩
        have hC1 := hg1.own (alloc1_blk w _ _) (by omega)
        obtain ⟨x0, x1, x2, f0, f1, f2⟩ := hR1.cells
        rw [unhide Hb] at x2
        have y0 := blk_cell hC1 0
        have y1 := blk_cell hC1 1
        have g0 := blk_free hC1 0
        have g1 := blk_free hC1 1
        simp at y0 y1
        have hs1 := hg1.size
        simp at hs1
        have lt0 := lt_of_block hC1
        have lt1 := hR1.lt
        have hbl : Below w.heap.size w w1 := ((((Gr.refl (w.heap.size + 1) w).alloc _).alloc _).trans hg1).below (by omega)
        have HM1 := hide hm1
        have HM2 := hide hm2
        clear hm1 hm2
        go_wp2_with fail
        refine bodyPost_ret (v := .tuple #[.agg #[.slice none 0 0, .slice none 0 0], .int .i64 2]) (by simp [results, Tryz.results38, go_sem, y0, y1, lt0]) rfl ?_
        exact ⟨none, 0, 0, none, 0, 0, rfl, unhide HN1 _, unhide HN2 _, ((hbl.setCell (by simp) _).setCell (by simp) _).alloc (by simp; omega) _⟩
end Go.Proofs.YteffpdofcgbokaaGreat
