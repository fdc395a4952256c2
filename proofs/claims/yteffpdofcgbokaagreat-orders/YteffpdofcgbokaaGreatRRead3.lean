/-
  The walk over the document's reader: Read, where its head is right.
-/
import Derived.Test.YteffpdofcgbokaaGreatRRead2
import Derived.Test.YteffpdofcgbokaaGreatRTree
namespace Go.Proofs.YteffpdofcgbokaaGreat
open Go.RowKit

set_option maxRecDepth 100000 in
set_option maxHeartbeats 8000000 in
theorem rread_yes (s : ByteArray) (w : World) (n : Int) (hsz : s.size ≤ 15000) (HX : Hid (Rf.at' s.data.toList 0 = 83)) (HY : Hid (Rf.at' s.data.toList 1 = 77)) (HN : Hid (Rf.cnt s.data.toList 2 0 6 = n)) (hn0 : 0 ≤ n) (hn1 : n ≤ 6) :
    Calls Tryz.prog 20 #[.string s] w fun e w' => RReadPost s.data.toList w e w' := by
  have hs : s.size ≤ maxLen := by unfold maxLen; omega
  have hlen : s.data.toList.length = s.size := by simp
  obtain ⟨i0, hi, hz0, hz1, hz2⟩ := info_parts Tryz.infoRClass
  obtain ⟨j0, hj, hy0, hy1, hy2⟩ := info_parts Tryz.infoRMethod
  -- the document's answer, by its stages
  have hfil : Rf.fil s.data.toList = (if (Rf.rep (Rf.cls s.data.toList) n.toNat 3).2 < 0 then ([], [], -1)
      else if Rf.cnt s.data.toList (Rf.rep (Rf.cls s.data.toList) n.toNat 3).2 1 6 < 0 then ([], [], -1)
      else if (Rf.rep (Rf.mth s.data.toList) (Rf.cnt s.data.toList (Rf.rep (Rf.cls s.data.toList) n.toNat 3).2 1 6).toNat ((Rf.rep (Rf.cls s.data.toList) n.toNat 3).2 + 1)).2 < 0 then ([], [], -1)
      else ((Rf.rep (Rf.cls s.data.toList) n.toNat 3).1, (Rf.rep (Rf.mth s.data.toList) (Rf.cnt s.data.toList (Rf.rep (Rf.cls s.data.toList) n.toNat 3).2 1 6).toNat ((Rf.rep (Rf.cls s.data.toList) n.toNat 3).2 + 1)).1, (Rf.rep (Rf.mth s.data.toList) (Rf.cnt s.data.toList (Rf.rep (Rf.cls s.data.toList) n.toNat 3).2 1 6).toNat ((Rf.rep (Rf.cls s.data.toList) n.toNat 3).2 + 1)).2)) := by
    unfold Rf.fil
    simp only
    rw [if_neg (by rw [unhide HX]; decide), if_neg (by rw [unhide HY]; decide), unhide HN, if_neg (by omega)]
  unfold RReadPost
  rw [hlen]
  generalize hF : Rf.fil s.data.toList = F at *
  have HF := hide hfil
  clear hfil hF
  go_enter Tryz.func20, Tryz.ntmps20
  go_wp2_with fail
  refine (given_any _).mono ?_
  rintro e w1 ⟨ga, gc, rfl, hg, hb1⟩
  have C1 := stay hb1 (alloc_blk w _)
  have hB1 := ((Below.refl w.heap.size w).alloc (Nat.le_refl _) _).trans (hb1.mono (by simp))
  have lt1 := lt_of_block C1
  have s1 := hB1.size
  have hg1 := hg.mono (b' := w.heap.size) (by simp)
  go_wp2_with fail
  refine (rat_any s 0 _ hs).mono ?_
  rw [unhide HX]
  rintro e w0 ⟨rfl, rfl⟩
  go_wp2_with fail
  refine (rat_any s 1 _ hs).mono ?_
  rw [unhide HY]
  rintro e w0 ⟨rfl, rfl⟩
  go_wp2_with fail
  refine (rcount_any s 2 0 6 _ hs).mono ?_
  rw [unhide HN]
  rintro e w0 ⟨rfl, rfl⟩
  have D0 := alloc_blk w1 (.cells #[.slice ga 7 gc, .slice none 0 0] 28)
  have hB2 := hB1.alloc s1 (.cells #[.slice ga 7 gc, .slice none 0 0] 28)
  have C2 := stay1 C1 (.cells #[.slice ga 7 gc, .slice none 0 0] 28)
  have hg2 := hg1.kp (Kp.alloc (e := none) w1 (.cells #[.slice ga 7 gc, .slice none 0 0] 28)) (by decide) (by decide)
  clear hg hg1 hb1 hB1 C1
  go_wp2
  go_loopw [8, 9] (fun p j wr => ∃ (k : Nat) (q : Int) (v : Value) (l : List (Rd.Cls × Value)), (k : Int) ≤ n ∧ j = .int .i64 k ∧ p = .int .i64 q ∧ 0 ≤ q ∧ q ≤ 3 + 10 * (k : Int) ∧ l.length = 7 + k ∧ Hid (Rf.rep (Rf.cls s.data.toList) k 3 = ((l.map Prod.fst).drop 7, q) ∧ (l.map Prod.fst).take 7 = Rf.given) ∧ RClssIn wr w.heap.size v l ∧
      wr.heap[w1.heap.size]? = some (.cells #[v, .slice none 0 0] 28 (0, 0)) ∧ wr.heap[w.heap.size]? = some (.cells #[.slice none 0 0, .slice none 0 0] 28 (0, 0)) ∧ Below w.heap.size w wr)
    (fun _ j _ => n.toNat - (intOf j).toNat)
  case atStart => exact ⟨0, 3, _, givenV, by omega, rfl, rfl, by omega, by omega, rfl, ⟨rfl, rfl⟩, hg2, D0, C2, hB2⟩
  case round =>
    clear hg2 D0 C2 hB2
    obtain ⟨k, q, v, l, hk, rfl, rfl, hq0, hq1, hll, HQ, hcs, hD, hC, hbl⟩ := hrel
    obtain ⟨va, vc, rfl⟩ := own_shape hcs.1
    have hsw := hbl.size
    have ltD := lt_of_block hD
    have ltC := lt_of_block hC
    have HLL := hide hll
    have hl13 : l.length ≤ 13 := by omega
    clear hll
    by_cases hkn : (k : Int) < n
    · generalize hc : Rf.cls s.data.toList q = c at *
      have hcl := cls_le s.data.toList q
      rw [hc] at hcl
      by_cases hneg : c.2 < 0
      · have hFF : F = ([], [], -1) := by
          rw [unhide HF, rep_fail (k := k) (by rw [(unhide HQ).1]; exact hq0) (by rw [(unhide HQ).1]; rw [hc]; exact hneg) _ (by omega), if_pos (by decide)]
        have HFF := hide hFF
        have Hc := hide hc
        clear hFF hc
        go_wp2_with fail
        refine (rclass_any s q _ hs hq0 (by omega)).mono ?_
        rw [unhide Hc]
        rintro e w3 ⟨x, ua, un, uc, rfl, _, hb3⟩
        have hB3 := hbl.trans (hb3.mono hsw)
        have s3 := hB3.size
        have D3 := stay hb3 hD
        have C3 := stay hb3 hC
        have l3 := lt_of_block D3
        have l4 := lt_of_block C3
        have d0 := blk_cell D3 0
        have d1 := blk_cell D3 1
        have z0 := blk_cell C3 0
        have z1 := blk_cell C3 1
        have g0 := blk_free C3 0
        have g1 := blk_free C3 1
        simp at d0 d1 z0 z1
        go_wp2_with fail
        refine bodyPost_ret (v := .tuple #[.agg #[.slice va l.length vc, .slice none 0 0], .bool false]) (by simp [results, Tryz.results20, go_sem, z0, z1, l4]) rfl ?_
        rw [unhide HFF]
        refine ⟨va, l.length, vc, none, 0, 0, ?_, fun h => ?_, by repeat (first | refine Below.alloc ?_ (by simp; omega) _ | refine Below.setCell ?_ (by simp) _ | exact hB3)⟩
        · rw [show ((-1 : Int) == (s.size : Int)) = false by first | (simp; done) | (simp; omega)]
        · exfalso; simp only at h; omega
      · have HE : Hid (Rf.rep (Rf.cls s.data.toList) (k + 1) 3 = ((l.map Prod.fst).drop 7 ++ [c.1], c.2)) := Rf.rep_step (unhide HQ).1 hq0 hc (by omega)
        have Hc := hide hc
        clear hc
        go_wp2_with fail
        refine (rclass_any s q _ hs hq0 (by omega)).mono ?_
        rw [unhide Hc]
        rintro e w3 ⟨x, ua, un, uc, rfl, hx, hb3⟩
        obtain ⟨rfl, ht3⟩ := hx (by omega)
        have hB3 := hbl.trans (hb3.mono hsw)
        have s3 := hB3.size
        have D3 := stay hb3 hD
        have C3 := stay hb3 hC
        have l3 := lt_of_block D3
        have hcs3 := hcs.kp (Kp.of_below (e := none) hb3) (by decide) (by decide)
        have T3 := ht3.mono hsw
        have d0 := blk_cell D3 0
        have f0 := blk_free D3 0
        simp at d0
        have HCs := hide hcs3.2
        have hown := hcs3.1
        clear hcs hcs3 ht3 hb3 hD hC hbl hx
        go_wp2_with (at_builtin; refine wpList_append_own _ rfl _ _ 25 rfl w.heap.size 106 i0 _ 2 32 Tryz.underlying25 hi hz0 hz1 hz2 rfl (by decide) _ _ _ rfl ((hown.alloc _).alloc _) ⟨w3.heap.size + 1, 0, none⟩ 1 1 [.int .i64 c.1.above, .slice ua un uc] rfl rfl ?c1 ?c2 ?c3 ?c4 ?c5 ?_)
        case c1 => exact cells_new _ _ _ _ (by simp)
        case c2 => intro u hu; simp at hu; rcases hu with rfl | rfl <;> rfl
        case c3 => unfold maxLen; omega
        case c4 => omega
        case c5 => simp; omega
        intro v' w5 hown2 hgrow _
        obtain ⟨va', vc', rfl⟩ := own_shape hown2
        have hbl5 := ((hB3.alloc s3 _).alloc (by simp; omega) _).grown hgrow (by simp; omega) (fun j hj => (hown.lt j hj).1)
        have hK := ((Kp.alloc (e := some 106) (b := 0) _ _).trans (Kp.alloc _ _)).trans (Kp.of_grown hgrow ((hown.alloc _).alloc _))
        have hD5 := hK _ _ _ (Nat.zero_le _) D3 (by decide)
        have hC5 := hK _ _ _ (Nat.zero_le _) C3 (by decide)
        have x1 := blk_cell hD5 0
        have f1 := blk_free hD5 0
        simp at x1
        have hK' : Kp (some 106) w.heap.size w3 w5 := fun k cs t _ hc ht => hK k cs t (Nat.zero_le _) hc ht
        have hset := Kp.set (b := w.heap.size) (i := 0) hD5 (.slice va' (l.length + 1) vc')
        have hcs5 : RClssIn (w5.setCell ⟨w1.heap.size, 0, none⟩ (.slice va' (l.length + 1) vc')) w.heap.size (.slice va' (l.length + 1) vc') (l ++ [(c.1, .slice ua un uc)]) := by
          refine ⟨?_, ?_⟩
          · rw [ccells_snoc, List.length_append]; exact own_kp hown2 hset (by decide)
          · intro p hp
            rw [List.mem_append] at hp
            rcases hp with hp | hp
            · exact ((unhide HCs p hp).kp hK' (by decide)).kp hset (by decide)
            · simp only [List.mem_singleton] at hp
              subst hp
              exact (T3.kp hK' (by decide)).kp hset (by decide)
        have HD := set_blk (i := 0) hD5 (.slice va' (l.length + 1) vc')
        have HC := set_other hC5 (p := ⟨w1.heap.size, 0, none⟩) (by simp; omega) (.slice va' (l.length + 1) vc')
        have HL7 : Hid (7 ≤ (l.map Prod.fst).length) := by unfold Hid; rw [List.length_map, unhide HLL]; omega
        clear hgrow hown hown2 hK hK' D3 C3 hB3 hset T3
        go_wp2
        go_roundw
        case rel =>
          refine ⟨k + 1, _, _, _, by omega, by go_num, rfl, by omega, by omega, by rw [List.length_append, unhide HLL]; simp; omega, ⟨?_, ?_⟩, hcs5, HD, HC, hbl5.setCell (by simp; omega) _⟩
          · rw [unhide HE, List.map_append, List.drop_append_of_le_length (unhide HL7)]; rfl
          · rw [List.map_append, List.take_append_of_le_length (unhide HL7)]; exact (unhide HQ).2
        case measure => simp [intOf]; omega
    · obtain rfl : k = n.toNat := by omega
      have hrep : Rf.rep (Rf.cls s.data.toList) n.toNat 3 = ((l.map Prod.fst).drop 7, q) := (unhide HQ).1
      generalize hm : Rf.cnt s.data.toList q 1 6 = m at *
      have hmb := Rf.cnt_bd s.data.toList q 1 6 (by omega)
      rw [hm] at hmb
      obtain ⟨hm0, hm1⟩ := hmb
      have hF1 := unhide HF
      rw [hrep, if_neg (by simp only; omega)] at hF1
      simp only at hF1
      rw [hm] at hF1
      have HM := hide hm
      have HLG := hide (unhide HQ).2
      clear hm hrep HQ HF HLL
      by_cases hneg : m < 0
      · rw [if_pos hneg] at hF1
        have HFF := hide hF1
        clear hF1
        have d0 := blk_cell hD 0
        have d1 := blk_cell hD 1
        have z0 := blk_cell hC 0
        have z1 := blk_cell hC 1
        have g0 := blk_free hC 0
        have g1 := blk_free hC 1
        simp at d0 d1 z0 z1
        go_wp2_with fail
        refine (rcount_any s q 1 6 _ hs).mono ?_
        rw [unhide HM]
        rintro e w0 ⟨rfl, rfl⟩
        go_wp2_with fail
        refine bodyPost_ret (v := .tuple #[.agg #[.slice va l.length vc, .slice none 0 0], .bool false]) (by simp [results, Tryz.results20, go_sem, z0, z1]) rfl ?_
        rw [unhide HFF]
        refine ⟨va, l.length, vc, none, 0, 0, ?_, fun h => ?_, by repeat (first | refine Below.setCell ?_ (by simp) _ | exact hbl)⟩
        · rw [show ((-1 : Int) == (s.size : Int)) = false by first | (simp; done) | (simp; omega)]
        · exfalso; simp only at h; omega
      · rw [if_neg hneg] at hF1
        have HFF := hide hF1
        clear hF1
        go_wp2_with fail
        refine (rcount_any s q 1 6 _ hs).mono ?_
        rw [unhide HM]
        rintro e w0 ⟨rfl, rfl⟩
        go_wp2
        go_loopw [8, 12] (fun p j w3 => ∃ (k : Nat) (t : Int) (v : Value) (ml : List (Rf.Mth × RMthV)), (k : Int) ≤ m ∧ j = .int .i64 k ∧ p = .int .i64 t ∧ 0 ≤ t ∧ t ≤ 20000 ∧ ml.length = k ∧ Hid (Rf.rep (Rf.mth s.data.toList) k (q + 1) = (ml.map Prod.fst, t)) ∧ RMthsIn w3 w.heap.size v ml ∧ RClssIn w3 w.heap.size (.slice va l.length vc) l ∧
            w3.heap[w1.heap.size]? = some (.cells #[.slice va l.length vc, v] 28 (0, 0)) ∧ w3.heap[w.heap.size]? = some (.cells #[.slice none 0 0, .slice none 0 0] 28 (0, 0)) ∧ Below w.heap.size w w3)
          (fun _ j _ => m.toNat - (intOf j).toNat)
        case atStart => exact ⟨0, _, _, [], by omega, rfl, rfl, by omega, by omega, rfl, rfl, ⟨World.ownsRow_nil _ _ _ _, by simp⟩, hcs, hD, hC, hbl⟩
        case round =>
          clear hcs hD hC hbl ltD ltC hsw
          obtain ⟨k, t, v, ml, hk, rfl, rfl, ht0, ht1, hll, HT, hms, hcs, hD, hC, hbl⟩ := hrel
          obtain ⟨vb, vd, rfl⟩ := own_shape hms.1
          have hsw := hbl.size
          have ltD := lt_of_block hD
          have ltC := lt_of_block hC
          have HLL := hide hll
          have hml6 : ml.length ≤ 6 := by omega
          clear hll
          by_cases hkn : (k : Int) < m
          · generalize hc : Rf.mth s.data.toList t = c at *
            have hcl := mth_le s.data.toList t
            rw [hc, hlen] at hcl
            by_cases hneg2 : c.2 < 0
            · have hFF : F = ([], [], -1) := by
                rw [unhide HFF, rep_fail (k := k) (by rw [unhide HT]; exact ht0) (by rw [unhide HT]; rw [hc]; exact hneg2) _ (by omega), if_pos (by decide)]
              have HF2 := hide hFF
              have Hc := hide hc
              clear hFF hc HFF
              go_wp2_with fail
              refine (rmth_any s t _ hsz ht0 (by omega)).mono ?_
              unfold RMthPost
              rw [unhide Hc]
              rintro e w3 ⟨x0, x1, a2, n2, c2, x3, x4, x5, x6, sb, a8, n8, c8, a9, n9, c9, x10, x11, rfl, _, hb3⟩
              have hB3 := hbl.trans (hb3.mono hsw)
              have s3 := hB3.size
              have D3 := stay hb3 hD
              have C3 := stay hb3 hC
              have l3 := lt_of_block D3
              have l4 := lt_of_block C3
              have d0 := blk_cell D3 0
              have d1 := blk_cell D3 1
              have z0 := blk_cell C3 0
              have z1 := blk_cell C3 1
              have g0 := blk_free C3 0
              have g1 := blk_free C3 1
              simp at d0 d1 z0 z1
              go_wp2_with fail
              refine bodyPost_ret (v := .tuple #[.agg #[.slice va l.length vc, .slice vb ml.length vd], .bool false]) (by simp [results, Tryz.results20, go_sem, z0, z1, l4]) rfl ?_
              rw [unhide HF2]
              refine ⟨va, l.length, vc, vb, ml.length, vd, ?_, fun h => ?_, by repeat (first | refine Below.alloc ?_ (by simp; omega) _ | refine Below.setCell ?_ (by simp) _ | exact hB3)⟩
              · rw [show ((-1 : Int) == (s.size : Int)) = false by first | (simp; done) | (simp; omega)]
              · exfalso; simp only at h; omega
            · have HE : Hid (Rf.rep (Rf.mth s.data.toList) (k + 1) (q + 1) = (ml.map Prod.fst ++ [c.1], c.2)) := Rf.rep_step (unhide HT) ht0 hc (by omega)
              have Hc := hide hc
              clear hc
              go_wp2_with fail
              refine (rmth_any s t _ hsz ht0 (by omega)).mono ?_
              unfold RMthPost
              rw [unhide Hc]
              rintro e w3 ⟨x0, x1, a2, n2, c2, x3, x4, x5, x6, sb, a8, n8, c8, a9, n9, c9, x10, x11, rfl, hx, hb3⟩
              obtain ⟨hcells, hin⟩ := hx (by omega)
              have HCells := hide hcells
              have hB3 := hbl.trans (hb3.mono hsw)
              have s3 := hB3.size
              have D3 := stay hb3 hD
              have C3 := stay hb3 hC
              have l3 := lt_of_block D3
              have hms3 := hms.kp (Kp.of_below (e := none) hb3) (by decide) (by decide) (by decide) (by decide)
              have hcs3 := hcs.kp (Kp.of_below (e := none) hb3) (by decide) (by decide)
              have T3 := hin.mono hsw
              have d0 := blk_cell D3 1
              have f0 := blk_free D3 1
              simp at d0
              have HMs := hide hms3.2
              have hown := hms3.1
              clear hms hms3 hin hb3 hD hC hbl hx hcells hcs
              go_wp2_with (at_builtin; refine wpList_append_own _ rfl _ _ 26 rfl w.heap.size 52 j0 _ 12 152 Tryz.underlying26 hj hy0 hy1 hy2 rfl (by decide) _ _ _ rfl ((hown.alloc _).alloc _) ⟨w3.heap.size + 1, 0, none⟩ 1 1 [.int .i64 x0, .int .i64 x1, .slice a2 n2 c2, .int .i64 x3, .int .i64 x4, .int .i64 x5, .int .i64 x6, .string sb, .slice a8 n8 c8, .slice a9 n9 c9, .int .i64 x10, .int .i64 x11] rfl rfl ?d1 ?d2 ?d3 ?d4 ?d5 ?_)
              case d1 => exact cells_new _ _ _ _ (by simp)
              case d2 => intro u hu; simp at hu; rcases hu with rfl | rfl | rfl | rfl | rfl | rfl | rfl | rfl | rfl | rfl | rfl | rfl <;> rfl
              case d3 => unfold maxLen; omega
              case d4 => omega
              case d5 => simp; omega
              intro v' w5 hown2 hgrow _
              obtain ⟨va', vc', rfl⟩ := own_shape hown2
              have hbl5 := ((hB3.alloc s3 _).alloc (by simp; omega) _).grown hgrow (by simp; omega) (fun j hj => (hown.lt j hj).1)
              have hK := ((Kp.alloc (e := some 52) (b := 0) _ _).trans (Kp.alloc _ _)).trans (Kp.of_grown hgrow ((hown.alloc _).alloc _))
              have hD5 := hK _ _ _ (Nat.zero_le _) D3 (by decide)
              have hC5 := hK _ _ _ (Nat.zero_le _) C3 (by decide)
              have x1' := blk_cell hD5 1
              have f1 := blk_free hD5 1
              simp at x1'
              have hK' : Kp (some 52) w.heap.size w3 w5 := fun k cs t _ hc ht => hK k cs t (Nat.zero_le _) hc ht
              have hset := Kp.set (b := w.heap.size) (i := 1) hD5 (.slice va' (ml.length + 1) vc')
              have hms5 : RMthsIn (w5.setCell ⟨w1.heap.size, 1, none⟩ (.slice va' (ml.length + 1) vc')) w.heap.size (.slice va' (ml.length + 1) vc') (ml ++ [(c.1, ⟨.slice a2 n2 c2, sb, .slice a8 n8 c8, .slice a9 n9 c9⟩)]) := by
                refine ⟨?_, ?_⟩
                · rw [rmscells_snoc, List.length_append, ← unhide HCells]; exact own_kp hown2 hset (by decide)
                · intro p hp
                  rw [List.mem_append] at hp
                  rcases hp with hp | hp
                  · exact ((unhide HMs p hp).kp hK' (by decide) (by decide) (by decide)).kp hset (by decide) (by decide) (by decide)
                  · simp only [List.mem_singleton] at hp
                    subst hp
                    exact (T3.kp hK' (by decide) (by decide) (by decide)).kp hset (by decide) (by decide) (by decide)
              have hcs5 := (hcs3.kp hK' (by decide) (by decide)).kp hset (by decide) (by decide)
              have HD := set_blk (i := 1) hD5 (.slice va' (ml.length + 1) vc')
              have HC := set_other hC5 (p := ⟨w1.heap.size, 1, none⟩) (by simp; omega) (.slice va' (ml.length + 1) vc')
              clear hgrow hown hown2 hK hK' D3 C3 hB3 hset T3 hcs3
              go_wp2
              go_roundw
              case rel =>
                refine ⟨k + 1, _, _, _, by omega, by go_num, rfl, by omega, by omega, by rw [List.length_append, unhide HLL]; rfl, ?_, hms5, hcs5, HD, HC, hbl5.setCell (by simp; omega) _⟩
                unfold Hid
                rw [unhide HE, List.map_append]; rfl
              case measure => simp [intOf]; omega
          · obtain rfl : k = m.toNat := by omega
            have hrep2 : Rf.rep (Rf.mth s.data.toList) m.toNat (q + 1) = (ml.map Prod.fst, t) := unhide HT
            have hF2 := unhide HFF
            rw [hrep2, if_neg (by simp only; omega)] at hF2
            simp only at hF2
            have HF2 := hide hF2
            clear hF2 hrep2 HFF HLL
            have d0 := blk_cell hD 0
            have d1 := blk_cell hD 1
            have z0 := blk_cell hC 0
            have z1 := blk_cell hC 1
            have g0 := blk_free hC 0
            have g1 := blk_free hC 1
            simp at d0 d1 z0 z1
            go_wp2_with fail
            refine bodyPost_ret (v := .tuple #[.agg #[.slice va l.length vc, .slice vb ml.length vd], .bool (t == (s.size : Int))]) (by simp [results, Tryz.results20, go_sem, z0, z1]) rfl ?_
            rw [unhide HF2]
            have k1 := (Kp.set (b := w.heap.size) (i := 0) hC (.slice va l.length vc)).trans (Kp.set (i := 1) (set_blk (i := 0) hC (.slice va l.length vc)) (.slice vb ml.length vd))
            refine ⟨va, l.length, vc, vb, ml.length, vd, rfl, fun _ => ⟨l, ?_, hcs.kp k1 (by decide) (by decide), ml, rfl, hms.kp k1 (by decide) (by decide) (by decide) (by decide)⟩, by repeat (first | refine Below.setCell ?_ (by simp) _ | exact hbl)⟩
            rw [← unhide HLG, List.take_append_drop]

theorem rread_any (s : ByteArray) (w : World) (hsz : s.size ≤ 15000) :
    Calls Tryz.prog 20 #[.string s] w fun e w' => RReadPost s.data.toList w e w' := by
  have hs : s.size ≤ maxLen := by unfold maxLen; omega
  have no : Rf.fil s.data.toList = ([], [], -1) → (Calls Tryz.prog 20 #[.string s] w fun e w' => ∃ a1 n1 c1 a2 n2 c2, e = .returned (.tuple #[.agg #[.slice a1 n1 c1, .slice a2 n2 c2], .bool false]) ∧ Below w.heap.size w w') →
      Calls Tryz.prog 20 #[.string s] w fun e w' => RReadPost s.data.toList w e w' := by
    intro hf hc
    refine hc.mono ?_
    rintro e w' ⟨a1, n1, c1, a2, n2, c2, rfl, hb⟩
    unfold RReadPost
    rw [hf]
    refine ⟨a1, n1, c1, a2, n2, c2, ?_, fun h => ?_, hb⟩
    · rw [show ((-1 : Int) == (s.data.toList.length : Int)) = false by rw [beq_eq_false_iff_ne]; omega]
    · exfalso; simp only at h; omega
  have hnb := Rf.cnt_bd s.data.toList 2 0 6 (by omega)
  by_cases hx : Rf.at' s.data.toList 0 = 83
  · by_cases hy : Rf.at' s.data.toList 1 = 77
    · by_cases hn : Rf.cnt s.data.toList 2 0 6 < 0
      · refine no ?_ (rread_no s w 83 77 _ hs (hide hx) (hide hy) (hide rfl) (.inr (.inr ⟨by decide, by decide, hn⟩)))
        unfold Rf.fil
        rw [if_neg (fun h => h hx), if_neg (fun h => h hy), if_pos hn]
      · exact rread_yes s w _ hsz (hide hx) (hide hy) (hide rfl) (by omega) hnb.2
    · refine no ?_ (rread_no s w 83 _ _ hs (hide hx) (hide rfl) (hide rfl) (.inr (.inl ⟨by decide, by simpa using hy⟩)))
      unfold Rf.fil
      rw [if_neg (fun h => h hx), if_pos hy]
  · refine no ?_ (rread_no s w _ _ _ hs (hide rfl) (hide rfl) (hide rfl) (.inl (by simpa using hx)))
    unfold Rf.fil
    rw [if_pos hx]
end Go.Proofs.YteffpdofcgbokaaGreat
