/-
  The walk over the document's reader: readMethod.
-/
import Derived.Test.YteffpdofcgbokaaGreatRMaps
import Derived.Test.YteffpdofcgbokaaGreatTreeOf
import Derived.Test.YteffpdofcgbokaaGreatInCl
namespace Go.Proofs.YteffpdofcgbokaaGreat
open Go.RowKit

/-- what comes back of readMethod: a method's cells, whatever they are, and the place -/
def RMthE (e : Ending) (q : Int) (x : Rf.Mth) (u : RMthV) : Prop := e = .returned (.tuple #[.agg (rmthCells x u).toArray, .int .i64 q])

set_option maxRecDepth 100000 in
set_option maxHeartbeats 4000000 in
theorem rmth_no1 (s : ByteArray) (i p : Int) (w : World) (hs : s.size ≤ maxLen) (hi0 : 0 ≤ i) (hi1 : i ≤ 50000) (HP : Hid (Rf.cnt s.data.toList (i + 2) 0 4 = p)) (h : p < 0) :
    Calls Tryz.prog 48 #[.string s, .int .i64 i] w fun e w' =>
      ∃ x0 x1 a2 n2 c2 x3 x4 x5 x6 sb a8 n8 c8 a9 n9 c9 x10 x11, e = .returned (.tuple #[.agg #[.int .i64 x0, .int .i64 x1, .slice a2 n2 c2, .int .i64 x3, .int .i64 x4, .int .i64 x5, .int .i64 x6, .string sb, .slice a8 n8 c8, .slice a9 n9 c9, .int .i64 x10, .int .i64 x11], .int .i64 (-1)]) ∧ Below w.heap.size w w' := by
  have G1 : ∃ x0 x1, Rf.at' s.data.toList i = x0 ∧ Rf.at' s.data.toList (i + 1) = x1 := ⟨_, _, rfl, rfl⟩
  obtain ⟨x0, x1, hx0, hx1⟩ := G1
  have HX0 := hide hx0
  have HX1 := hide hx1
  clear hx0 hx1
  go_enter Tryz.func48, Tryz.ntmps48
  go_wp2_with fail
  refine (rat_any s i _ hs).mono ?_
  rw [unhide HX0]
  rintro e w0 ⟨rfl, rfl⟩
  go_wp2_with fail
  refine (rat_any s (i + 1) _ hs).mono ?_
  rw [unhide HX1]
  rintro e w0 ⟨rfl, rfl⟩
  go_wp2_with fail
  refine (rcount_any s (i + 2) 0 4 _ hs).mono ?_
  rw [unhide HP]
  rintro e w0 ⟨rfl, rfl⟩
  go_wp2_with fail
  refine bodyPost_ret (v := .tuple #[.agg #[.int .i64 x0, .int .i64 x1, .slice none 0 0, .int .i64 0, .int .i64 0, .int .i64 0, .int .i64 0, .string ⟨#[]⟩, .slice none 0 0, .slice none 0 0, .int .i64 0, .int .i64 0], .int .i64 (-1)]) (by simp [results, Tryz.results48, go_sem]) rfl ?_
  exact ⟨x0, x1, _, _, _, _, _, _, _, _, _, _, _, _, _, _, _, _, rfl, ((Below.refl _ _).alloc (Nat.le_refl _) _).alloc (by simp) _⟩

set_option maxRecDepth 100000 in
set_option maxHeartbeats 4000000 in
theorem rmth_no2 (s : ByteArray) (i p l h n : Int) (w : World) (hs : s.size ≤ maxLen) (hi0 : 0 ≤ i) (hi1 : i ≤ 50000) (HP : Hid (Rf.cnt s.data.toList (i + 2) 0 4 = p)) (HL : Hid (Rf.cnt s.data.toList (i + 3 + 2 * p + 2) 0 8 = l)) (HH : Hid (Rf.cnt s.data.toList (i + 3 + 2 * p + 3) 0 8 = h)) (HN : Hid (Rf.cnt s.data.toList (i + 3 + 2 * p + 4) 1 120 = n)) (hp0 : 0 ≤ p) (hp1 : p ≤ 4) (hneg : l < 0) :
    Calls Tryz.prog 48 #[.string s, .int .i64 i] w fun e w' =>
      ∃ x0 x1 a2 n2 c2 x3 x4 x5 x6 sb a8 n8 c8 a9 n9 c9 x10 x11, e = .returned (.tuple #[.agg #[.int .i64 x0, .int .i64 x1, .slice a2 n2 c2, .int .i64 x3, .int .i64 x4, .int .i64 x5, .int .i64 x6, .string sb, .slice a8 n8 c8, .slice a9 n9 c9, .int .i64 x10, .int .i64 x11], .int .i64 (-1)]) ∧ Below w.heap.size w w' := by
  have G1 : ∃ x0 x1 ps y1 y2, Rf.at' s.data.toList i = x0 ∧ Rf.at' s.data.toList (i + 1) = x1 ∧ Rf.tys s.data.toList (i + 3) p.toNat = ps ∧ Rf.at' s.data.toList (i + 3 + 2 * p) = y1 ∧ Rf.at' s.data.toList (i + 3 + 2 * p + 1) = y2 := ⟨_, _, _, _, _, rfl, rfl, rfl, rfl, rfl⟩
  obtain ⟨x0, x1, ps, y1, y2, hx0, hx1, hps, hr1, hr2⟩ := G1
  have HX0 := hide hx0
  have HX1 := hide hx1
  have HPS := hide hps
  have HR1 := hide hr1
  have HR2 := hide hr2
  clear hx0 hx1 hps hr1 hr2
  go_enter Tryz.func48, Tryz.ntmps48
  go_wp2_with fail
  refine (rat_any s i _ hs).mono ?_
  rw [unhide HX0]
  rintro e w0 ⟨rfl, rfl⟩
  go_wp2_with fail
  refine (rat_any s (i + 1) _ hs).mono ?_
  rw [unhide HX1]
  rintro e w0 ⟨rfl, rfl⟩
  go_wp2_with fail
  refine (rcount_any s (i + 2) 0 4 _ hs).mono ?_
  rw [unhide HP]
  rintro e w0 ⟨rfl, rfl⟩
  go_wp2_with fail
  refine (rtypes_any s (i + 3) p _ hs (by omega) (by omega) (by omega) (by omega)).mono ?_
  rw [unhide HPS]
  rintro e w1 ⟨a2, c2, rfl, T1, b1⟩
  have B1 := stay b1 (alloc2_blk w _ _)
  have C1 := stay b1 (alloc1_blk w _ _)
  have hB1 := (below2 w _ _).trans (b1.mono (by simp; omega))
  have s1 := hB1.size
  have k2 := blk_cell B1 2
  have f2 := blk_free B1 2
  simp at k2
  go_wp2_with fail
  clear k2 f2
  refine (rtypes_any s (i + 3 + 2 * p) 1 _ hs (by omega) (by omega) (by omega) (by omega)).mono ?_
  rintro e w2 ⟨ar, cr, rfl, TR, b2⟩
  have B2 := stay b2 (set_blk (i := 2) B1 (.slice a2 p.toNat c2))
  have C2 := stay b2 (set_other C1 (p := ⟨w.heap.size + 1, 2, none⟩) (by simp) (.slice a2 p.toNat c2))
  simp at B2
  have hB2 := (hB1.setCell (p := ⟨w.heap.size + 1, 2, none⟩) (by simp) (.slice a2 p.toNat c2)).trans (b2.mono (by simp; omega))
  have T2 := ((T1.mono (b' := w.heap.size) (by simp; omega)).kp (Kp.set (i := 2) B1 (.slice a2 p.toNat c2)) (by decide)).kp (Kp.of_below (e := none) b2) (by decide)
  have s2 := hB2.size
  obtain ⟨gr, har, hgr, hgr2, hcr⟩ := own_some TR (by rw [rtys_len]; decide)
  have r0 := hcr 0 (by simp [tcells, Rf.tys])
  have r1 := hcr 1 (by simp [tcells, Rf.tys])
  simp [tcells, Rf.tys] at r0 r1
  rw [unhide HR1] at r0
  rw [unhide HR2] at r1
  have hgne : gr ≠ w.heap.size + 1 := by
    have hh := lt_of_block B1
    simp at hgr2
    omega
  clear hcr T1 b1 b2 B1 C1 hB1 TR hgr2
  subst har
  have k0 := blk_cell B2 0
  have k1 := blk_cell B2 1
  have k2 := blk_cell B2 2
  have k3 := blk_cell B2 3
  have k4 := blk_cell B2 4
  have k5 := blk_cell B2 5
  have k6 := blk_cell B2 6
  have k7 := blk_cell B2 7
  have k8 := blk_cell B2 8
  have k9 := blk_cell B2 9
  have k10 := blk_cell B2 10
  have k11 := blk_cell B2 11
  have f0 := blk_free B2 0
  have f1 := blk_free B2 1
  have f2 := blk_free B2 2
  have f3 := blk_free B2 3
  have f4 := blk_free B2 4
  have f5 := blk_free B2 5
  have f6 := blk_free B2 6
  have f7 := blk_free B2 7
  have f8 := blk_free B2 8
  have f9 := blk_free B2 9
  have f10 := blk_free B2 10
  have f11 := blk_free B2 11
  have z0 := blk_cell C2 0
  have z1 := blk_cell C2 1
  have z2 := blk_cell C2 2
  have z3 := blk_cell C2 3
  have z4 := blk_cell C2 4
  have z5 := blk_cell C2 5
  have z6 := blk_cell C2 6
  have z7 := blk_cell C2 7
  have z8 := blk_cell C2 8
  have z9 := blk_cell C2 9
  have z10 := blk_cell C2 10
  have z11 := blk_cell C2 11
  have g0 := blk_free C2 0
  have g1 := blk_free C2 1
  have g2 := blk_free C2 2
  have g3 := blk_free C2 3
  have g4 := blk_free C2 4
  have g5 := blk_free C2 5
  have g6 := blk_free C2 6
  have g7 := blk_free C2 7
  have g8 := blk_free C2 8
  have g9 := blk_free C2 9
  have g10 := blk_free C2 10
  have g11 := blk_free C2 11
  simp at k0 k1 k2 k3 k4 k5 k6 k7 k8 k9 k10 k11 z0 z1 z2 z3 z4 z5 z6 z7 z8 z9 z10 z11
  go_wp2_with fail
  refine (rcount_any s (i + 3 + 2 * p + 2) 0 8 _ hs).mono ?_
  rw [unhide HL]
  rintro e w0 ⟨rfl, rfl⟩
  go_wp2_with fail
  refine (rcount_any s (i + 3 + 2 * p + 3) 0 8 _ hs).mono ?_
  rw [unhide HH]
  rintro e w0 ⟨rfl, rfl⟩
  go_wp2_with fail
  refine (rcount_any s (i + 3 + 2 * p + 4) 1 120 _ hs).mono ?_
  rw [unhide HN]
  rintro e w0 ⟨rfl, rfl⟩
  go_wp2_with fail
  refine bodyPost_ret (v := .tuple #[.agg #[.int .i64 x0, .int .i64 x1, .slice a2 p.toNat c2, .int .i64 y1, .int .i64 y2, .int .i64 l, .int .i64 h, .string ⟨#[]⟩, .slice none 0 0, .slice none 0 0, .int .i64 0, .int .i64 0], .int .i64 (-1)]) (by simp [results, Tryz.results48, go_sem, z0, z1, z2, z3, z4, z5, z6, z7, z8, z9, z10, z11]) rfl ?_
  exact ⟨_, _, _, _, _, _, _, _, _, _, _, _, _, _, _, _, _, _, rfl, by repeat (first | refine Below.setCell ?_ (by simp) _ | exact hB2)⟩

set_option maxRecDepth 100000 in
set_option maxHeartbeats 4000000 in
theorem rmth_no3 (s : ByteArray) (i p l h n : Int) (w : World) (hs : s.size ≤ maxLen) (hi0 : 0 ≤ i) (hi1 : i ≤ 50000) (HP : Hid (Rf.cnt s.data.toList (i + 2) 0 4 = p)) (HL : Hid (Rf.cnt s.data.toList (i + 3 + 2 * p + 2) 0 8 = l)) (HH : Hid (Rf.cnt s.data.toList (i + 3 + 2 * p + 3) 0 8 = h)) (HN : Hid (Rf.cnt s.data.toList (i + 3 + 2 * p + 4) 1 120 = n)) (hp0 : 0 ≤ p) (hp1 : p ≤ 4) (hl0 : 0 ≤ l) (hneg : h < 0) :
    Calls Tryz.prog 48 #[.string s, .int .i64 i] w fun e w' =>
      ∃ x0 x1 a2 n2 c2 x3 x4 x5 x6 sb a8 n8 c8 a9 n9 c9 x10 x11, e = .returned (.tuple #[.agg #[.int .i64 x0, .int .i64 x1, .slice a2 n2 c2, .int .i64 x3, .int .i64 x4, .int .i64 x5, .int .i64 x6, .string sb, .slice a8 n8 c8, .slice a9 n9 c9, .int .i64 x10, .int .i64 x11], .int .i64 (-1)]) ∧ Below w.heap.size w w' := by
  have G1 : ∃ x0 x1 ps y1 y2, Rf.at' s.data.toList i = x0 ∧ Rf.at' s.data.toList (i + 1) = x1 ∧ Rf.tys s.data.toList (i + 3) p.toNat = ps ∧ Rf.at' s.data.toList (i + 3 + 2 * p) = y1 ∧ Rf.at' s.data.toList (i + 3 + 2 * p + 1) = y2 := ⟨_, _, _, _, _, rfl, rfl, rfl, rfl, rfl⟩
  obtain ⟨x0, x1, ps, y1, y2, hx0, hx1, hps, hr1, hr2⟩ := G1
  have HX0 := hide hx0
  have HX1 := hide hx1
  have HPS := hide hps
  have HR1 := hide hr1
  have HR2 := hide hr2
  clear hx0 hx1 hps hr1 hr2
  go_enter Tryz.func48, Tryz.ntmps48
  go_wp2_with fail
  refine (rat_any s i _ hs).mono ?_
  rw [unhide HX0]
  rintro e w0 ⟨rfl, rfl⟩
  go_wp2_with fail
  refine (rat_any s (i + 1) _ hs).mono ?_
  rw [unhide HX1]
  rintro e w0 ⟨rfl, rfl⟩
  go_wp2_with fail
  refine (rcount_any s (i + 2) 0 4 _ hs).mono ?_
  rw [unhide HP]
  rintro e w0 ⟨rfl, rfl⟩
  go_wp2_with fail
  refine (rtypes_any s (i + 3) p _ hs (by omega) (by omega) (by omega) (by omega)).mono ?_
  rw [unhide HPS]
  rintro e w1 ⟨a2, c2, rfl, T1, b1⟩
  have B1 := stay b1 (alloc2_blk w _ _)
  have C1 := stay b1 (alloc1_blk w _ _)
  have hB1 := (below2 w _ _).trans (b1.mono (by simp; omega))
  have s1 := hB1.size
  have k2 := blk_cell B1 2
  have f2 := blk_free B1 2
  simp at k2
  go_wp2_with fail
  clear k2 f2
  refine (rtypes_any s (i + 3 + 2 * p) 1 _ hs (by omega) (by omega) (by omega) (by omega)).mono ?_
  rintro e w2 ⟨ar, cr, rfl, TR, b2⟩
  have B2 := stay b2 (set_blk (i := 2) B1 (.slice a2 p.toNat c2))
  have C2 := stay b2 (set_other C1 (p := ⟨w.heap.size + 1, 2, none⟩) (by simp) (.slice a2 p.toNat c2))
  simp at B2
  have hB2 := (hB1.setCell (p := ⟨w.heap.size + 1, 2, none⟩) (by simp) (.slice a2 p.toNat c2)).trans (b2.mono (by simp; omega))
  have T2 := ((T1.mono (b' := w.heap.size) (by simp; omega)).kp (Kp.set (i := 2) B1 (.slice a2 p.toNat c2)) (by decide)).kp (Kp.of_below (e := none) b2) (by decide)
  have s2 := hB2.size
  obtain ⟨gr, har, hgr, hgr2, hcr⟩ := own_some TR (by rw [rtys_len]; decide)
  have r0 := hcr 0 (by simp [tcells, Rf.tys])
  have r1 := hcr 1 (by simp [tcells, Rf.tys])
  simp [tcells, Rf.tys] at r0 r1
  rw [unhide HR1] at r0
  rw [unhide HR2] at r1
  have hgne : gr ≠ w.heap.size + 1 := by
    have hh := lt_of_block B1
    simp at hgr2
    omega
  clear hcr T1 b1 b2 B1 C1 hB1 TR hgr2
  subst har
  have k0 := blk_cell B2 0
  have k1 := blk_cell B2 1
  have k2 := blk_cell B2 2
  have k3 := blk_cell B2 3
  have k4 := blk_cell B2 4
  have k5 := blk_cell B2 5
  have k6 := blk_cell B2 6
  have k7 := blk_cell B2 7
  have k8 := blk_cell B2 8
  have k9 := blk_cell B2 9
  have k10 := blk_cell B2 10
  have k11 := blk_cell B2 11
  have f0 := blk_free B2 0
  have f1 := blk_free B2 1
  have f2 := blk_free B2 2
  have f3 := blk_free B2 3
  have f4 := blk_free B2 4
  have f5 := blk_free B2 5
  have f6 := blk_free B2 6
  have f7 := blk_free B2 7
  have f8 := blk_free B2 8
  have f9 := blk_free B2 9
  have f10 := blk_free B2 10
  have f11 := blk_free B2 11
  have z0 := blk_cell C2 0
  have z1 := blk_cell C2 1
  have z2 := blk_cell C2 2
  have z3 := blk_cell C2 3
  have z4 := blk_cell C2 4
  have z5 := blk_cell C2 5
  have z6 := blk_cell C2 6
  have z7 := blk_cell C2 7
  have z8 := blk_cell C2 8
  have z9 := blk_cell C2 9
  have z10 := blk_cell C2 10
  have z11 := blk_cell C2 11
  have g0 := blk_free C2 0
  have g1 := blk_free C2 1
  have g2 := blk_free C2 2
  have g3 := blk_free C2 3
  have g4 := blk_free C2 4
  have g5 := blk_free C2 5
  have g6 := blk_free C2 6
  have g7 := blk_free C2 7
  have g8 := blk_free C2 8
  have g9 := blk_free C2 9
  have g10 := blk_free C2 10
  have g11 := blk_free C2 11
  simp at k0 k1 k2 k3 k4 k5 k6 k7 k8 k9 k10 k11 z0 z1 z2 z3 z4 z5 z6 z7 z8 z9 z10 z11
  go_wp2_with fail
  refine (rcount_any s (i + 3 + 2 * p + 2) 0 8 _ hs).mono ?_
  rw [unhide HL]
  rintro e w0 ⟨rfl, rfl⟩
  go_wp2_with fail
  refine (rcount_any s (i + 3 + 2 * p + 3) 0 8 _ hs).mono ?_
  rw [unhide HH]
  rintro e w0 ⟨rfl, rfl⟩
  go_wp2_with fail
  refine (rcount_any s (i + 3 + 2 * p + 4) 1 120 _ hs).mono ?_
  rw [unhide HN]
  rintro e w0 ⟨rfl, rfl⟩
  go_wp2_with fail
  refine bodyPost_ret (v := .tuple #[.agg #[.int .i64 x0, .int .i64 x1, .slice a2 p.toNat c2, .int .i64 y1, .int .i64 y2, .int .i64 l, .int .i64 h, .string ⟨#[]⟩, .slice none 0 0, .slice none 0 0, .int .i64 0, .int .i64 0], .int .i64 (-1)]) (by simp [results, Tryz.results48, go_sem, z0, z1, z2, z3, z4, z5, z6, z7, z8, z9, z10, z11]) rfl ?_
  exact ⟨_, _, _, _, _, _, _, _, _, _, _, _, _, _, _, _, _, _, rfl, by repeat (first | refine Below.setCell ?_ (by simp) _ | exact hB2)⟩

set_option maxRecDepth 100000 in
set_option maxHeartbeats 4000000 in
theorem rmth_no4 (s : ByteArray) (i p l h n : Int) (w : World) (hs : s.size ≤ maxLen) (hi0 : 0 ≤ i) (hi1 : i ≤ 50000) (HP : Hid (Rf.cnt s.data.toList (i + 2) 0 4 = p)) (HL : Hid (Rf.cnt s.data.toList (i + 3 + 2 * p + 2) 0 8 = l)) (HH : Hid (Rf.cnt s.data.toList (i + 3 + 2 * p + 3) 0 8 = h)) (HN : Hid (Rf.cnt s.data.toList (i + 3 + 2 * p + 4) 1 120 = n)) (hp0 : 0 ≤ p) (hp1 : p ≤ 4) (hl0 : 0 ≤ l) (hh0 : 0 ≤ h) (hneg : n < 0) :
    Calls Tryz.prog 48 #[.string s, .int .i64 i] w fun e w' =>
      ∃ x0 x1 a2 n2 c2 x3 x4 x5 x6 sb a8 n8 c8 a9 n9 c9 x10 x11, e = .returned (.tuple #[.agg #[.int .i64 x0, .int .i64 x1, .slice a2 n2 c2, .int .i64 x3, .int .i64 x4, .int .i64 x5, .int .i64 x6, .string sb, .slice a8 n8 c8, .slice a9 n9 c9, .int .i64 x10, .int .i64 x11], .int .i64 (-1)]) ∧ Below w.heap.size w w' := by
  have G1 : ∃ x0 x1 ps y1 y2, Rf.at' s.data.toList i = x0 ∧ Rf.at' s.data.toList (i + 1) = x1 ∧ Rf.tys s.data.toList (i + 3) p.toNat = ps ∧ Rf.at' s.data.toList (i + 3 + 2 * p) = y1 ∧ Rf.at' s.data.toList (i + 3 + 2 * p + 1) = y2 := ⟨_, _, _, _, _, rfl, rfl, rfl, rfl, rfl⟩
  obtain ⟨x0, x1, ps, y1, y2, hx0, hx1, hps, hr1, hr2⟩ := G1
  have HX0 := hide hx0
  have HX1 := hide hx1
  have HPS := hide hps
  have HR1 := hide hr1
  have HR2 := hide hr2
  clear hx0 hx1 hps hr1 hr2
  go_enter Tryz.func48, Tryz.ntmps48
  go_wp2_with fail
  refine (rat_any s i _ hs).mono ?_
  rw [unhide HX0]
  rintro e w0 ⟨rfl, rfl⟩
  go_wp2_with fail
  refine (rat_any s (i + 1) _ hs).mono ?_
  rw [unhide HX1]
  rintro e w0 ⟨rfl, rfl⟩
  go_wp2_with fail
  refine (rcount_any s (i + 2) 0 4 _ hs).mono ?_
  rw [unhide HP]
  rintro e w0 ⟨rfl, rfl⟩
  go_wp2_with fail
  refine (rtypes_any s (i + 3) p _ hs (by omega) (by omega) (by omega) (by omega)).mono ?_
  rw [unhide HPS]
  rintro e w1 ⟨a2, c2, rfl, T1, b1⟩
  have B1 := stay b1 (alloc2_blk w _ _)
  have C1 := stay b1 (alloc1_blk w _ _)
  have hB1 := (below2 w _ _).trans (b1.mono (by simp; omega))
  have s1 := hB1.size
  have k2 := blk_cell B1 2
  have f2 := blk_free B1 2
  simp at k2
  go_wp2_with fail
  clear k2 f2
  refine (rtypes_any s (i + 3 + 2 * p) 1 _ hs (by omega) (by omega) (by omega) (by omega)).mono ?_
  rintro e w2 ⟨ar, cr, rfl, TR, b2⟩
  have B2 := stay b2 (set_blk (i := 2) B1 (.slice a2 p.toNat c2))
  have C2 := stay b2 (set_other C1 (p := ⟨w.heap.size + 1, 2, none⟩) (by simp) (.slice a2 p.toNat c2))
  simp at B2
  have hB2 := (hB1.setCell (p := ⟨w.heap.size + 1, 2, none⟩) (by simp) (.slice a2 p.toNat c2)).trans (b2.mono (by simp; omega))
  have T2 := ((T1.mono (b' := w.heap.size) (by simp; omega)).kp (Kp.set (i := 2) B1 (.slice a2 p.toNat c2)) (by decide)).kp (Kp.of_below (e := none) b2) (by decide)
  have s2 := hB2.size
  obtain ⟨gr, har, hgr, hgr2, hcr⟩ := own_some TR (by rw [rtys_len]; decide)
  have r0 := hcr 0 (by simp [tcells, Rf.tys])
  have r1 := hcr 1 (by simp [tcells, Rf.tys])
  simp [tcells, Rf.tys] at r0 r1
  rw [unhide HR1] at r0
  rw [unhide HR2] at r1
  have hgne : gr ≠ w.heap.size + 1 := by
    have hh := lt_of_block B1
    simp at hgr2
    omega
  clear hcr T1 b1 b2 B1 C1 hB1 TR hgr2
  subst har
  have k0 := blk_cell B2 0
  have k1 := blk_cell B2 1
  have k2 := blk_cell B2 2
  have k3 := blk_cell B2 3
  have k4 := blk_cell B2 4
  have k5 := blk_cell B2 5
  have k6 := blk_cell B2 6
  have k7 := blk_cell B2 7
  have k8 := blk_cell B2 8
  have k9 := blk_cell B2 9
  have k10 := blk_cell B2 10
  have k11 := blk_cell B2 11
  have f0 := blk_free B2 0
  have f1 := blk_free B2 1
  have f2 := blk_free B2 2
  have f3 := blk_free B2 3
  have f4 := blk_free B2 4
  have f5 := blk_free B2 5
  have f6 := blk_free B2 6
  have f7 := blk_free B2 7
  have f8 := blk_free B2 8
  have f9 := blk_free B2 9
  have f10 := blk_free B2 10
  have f11 := blk_free B2 11
  have z0 := blk_cell C2 0
  have z1 := blk_cell C2 1
  have z2 := blk_cell C2 2
  have z3 := blk_cell C2 3
  have z4 := blk_cell C2 4
  have z5 := blk_cell C2 5
  have z6 := blk_cell C2 6
  have z7 := blk_cell C2 7
  have z8 := blk_cell C2 8
  have z9 := blk_cell C2 9
  have z10 := blk_cell C2 10
  have z11 := blk_cell C2 11
  have g0 := blk_free C2 0
  have g1 := blk_free C2 1
  have g2 := blk_free C2 2
  have g3 := blk_free C2 3
  have g4 := blk_free C2 4
  have g5 := blk_free C2 5
  have g6 := blk_free C2 6
  have g7 := blk_free C2 7
  have g8 := blk_free C2 8
  have g9 := blk_free C2 9
  have g10 := blk_free C2 10
  have g11 := blk_free C2 11
  simp at k0 k1 k2 k3 k4 k5 k6 k7 k8 k9 k10 k11 z0 z1 z2 z3 z4 z5 z6 z7 z8 z9 z10 z11
  go_wp2_with fail
  refine (rcount_any s (i + 3 + 2 * p + 2) 0 8 _ hs).mono ?_
  rw [unhide HL]
  rintro e w0 ⟨rfl, rfl⟩
  go_wp2_with fail
  refine (rcount_any s (i + 3 + 2 * p + 3) 0 8 _ hs).mono ?_
  rw [unhide HH]
  rintro e w0 ⟨rfl, rfl⟩
  go_wp2_with fail
  refine (rcount_any s (i + 3 + 2 * p + 4) 1 120 _ hs).mono ?_
  rw [unhide HN]
  rintro e w0 ⟨rfl, rfl⟩
  go_wp2_with fail
  refine bodyPost_ret (v := .tuple #[.agg #[.int .i64 x0, .int .i64 x1, .slice a2 p.toNat c2, .int .i64 y1, .int .i64 y2, .int .i64 l, .int .i64 h, .string ⟨#[]⟩, .slice none 0 0, .slice none 0 0, .int .i64 0, .int .i64 0], .int .i64 (-1)]) (by simp [results, Tryz.results48, go_sem, z0, z1, z2, z3, z4, z5, z6, z7, z8, z9, z10, z11]) rfl ?_
  exact ⟨_, _, _, _, _, _, _, _, _, _, _, _, _, _, _, _, _, _, rfl, by repeat (first | refine Below.setCell ?_ (by simp) _ | exact hB2)⟩

set_option maxRecDepth 100000 in
set_option maxHeartbeats 4000000 in
theorem rmth_no5 (s : ByteArray) (i p l h n : Int) (w : World) (hs : s.size ≤ maxLen) (hi0 : 0 ≤ i) (hi1 : i ≤ 50000) (HP : Hid (Rf.cnt s.data.toList (i + 2) 0 4 = p)) (HL : Hid (Rf.cnt s.data.toList (i + 3 + 2 * p + 2) 0 8 = l)) (HH : Hid (Rf.cnt s.data.toList (i + 3 + 2 * p + 3) 0 8 = h)) (HN : Hid (Rf.cnt s.data.toList (i + 3 + 2 * p + 4) 1 120 = n)) (hp0 : 0 ≤ p) (hp1 : p ≤ 4) (hl0 : 0 ≤ l) (hh0 : 0 ≤ h) (hn0 : 0 ≤ n) (hn1 : n ≤ 120) (hneg : (s.size : Int) < i + 3 + 2 * p + 5 + n) :
    Calls Tryz.prog 48 #[.string s, .int .i64 i] w fun e w' =>
      ∃ x0 x1 a2 n2 c2 x3 x4 x5 x6 sb a8 n8 c8 a9 n9 c9 x10 x11, e = .returned (.tuple #[.agg #[.int .i64 x0, .int .i64 x1, .slice a2 n2 c2, .int .i64 x3, .int .i64 x4, .int .i64 x5, .int .i64 x6, .string sb, .slice a8 n8 c8, .slice a9 n9 c9, .int .i64 x10, .int .i64 x11], .int .i64 (-1)]) ∧ Below w.heap.size w w' := by
  have G1 : ∃ x0 x1 ps y1 y2, Rf.at' s.data.toList i = x0 ∧ Rf.at' s.data.toList (i + 1) = x1 ∧ Rf.tys s.data.toList (i + 3) p.toNat = ps ∧ Rf.at' s.data.toList (i + 3 + 2 * p) = y1 ∧ Rf.at' s.data.toList (i + 3 + 2 * p + 1) = y2 := ⟨_, _, _, _, _, rfl, rfl, rfl, rfl, rfl⟩
  obtain ⟨x0, x1, ps, y1, y2, hx0, hx1, hps, hr1, hr2⟩ := G1
  have HX0 := hide hx0
  have HX1 := hide hx1
  have HPS := hide hps
  have HR1 := hide hr1
  have HR2 := hide hr2
  clear hx0 hx1 hps hr1 hr2
  go_enter Tryz.func48, Tryz.ntmps48
  go_wp2_with fail
  refine (rat_any s i _ hs).mono ?_
  rw [unhide HX0]
  rintro e w0 ⟨rfl, rfl⟩
  go_wp2_with fail
  refine (rat_any s (i + 1) _ hs).mono ?_
  rw [unhide HX1]
  rintro e w0 ⟨rfl, rfl⟩
  go_wp2_with fail
  refine (rcount_any s (i + 2) 0 4 _ hs).mono ?_
  rw [unhide HP]
  rintro e w0 ⟨rfl, rfl⟩
  go_wp2_with fail
  refine (rtypes_any s (i + 3) p _ hs (by omega) (by omega) (by omega) (by omega)).mono ?_
  rw [unhide HPS]
  rintro e w1 ⟨a2, c2, rfl, T1, b1⟩
  have B1 := stay b1 (alloc2_blk w _ _)
  have C1 := stay b1 (alloc1_blk w _ _)
  have hB1 := (below2 w _ _).trans (b1.mono (by simp; omega))
  have s1 := hB1.size
  have k2 := blk_cell B1 2
  have f2 := blk_free B1 2
  simp at k2
  go_wp2_with fail
  clear k2 f2
  refine (rtypes_any s (i + 3 + 2 * p) 1 _ hs (by omega) (by omega) (by omega) (by omega)).mono ?_
  rintro e w2 ⟨ar, cr, rfl, TR, b2⟩
  have B2 := stay b2 (set_blk (i := 2) B1 (.slice a2 p.toNat c2))
  have C2 := stay b2 (set_other C1 (p := ⟨w.heap.size + 1, 2, none⟩) (by simp) (.slice a2 p.toNat c2))
  simp at B2
  have hB2 := (hB1.setCell (p := ⟨w.heap.size + 1, 2, none⟩) (by simp) (.slice a2 p.toNat c2)).trans (b2.mono (by simp; omega))
  have T2 := ((T1.mono (b' := w.heap.size) (by simp; omega)).kp (Kp.set (i := 2) B1 (.slice a2 p.toNat c2)) (by decide)).kp (Kp.of_below (e := none) b2) (by decide)
  have s2 := hB2.size
  obtain ⟨gr, har, hgr, hgr2, hcr⟩ := own_some TR (by rw [rtys_len]; decide)
  have r0 := hcr 0 (by simp [tcells, Rf.tys])
  have r1 := hcr 1 (by simp [tcells, Rf.tys])
  simp [tcells, Rf.tys] at r0 r1
  rw [unhide HR1] at r0
  rw [unhide HR2] at r1
  have hgne : gr ≠ w.heap.size + 1 := by
    have hh := lt_of_block B1
    simp at hgr2
    omega
  clear hcr T1 b1 b2 B1 C1 hB1 TR hgr2
  subst har
  have k0 := blk_cell B2 0
  have k1 := blk_cell B2 1
  have k2 := blk_cell B2 2
  have k3 := blk_cell B2 3
  have k4 := blk_cell B2 4
  have k5 := blk_cell B2 5
  have k6 := blk_cell B2 6
  have k7 := blk_cell B2 7
  have k8 := blk_cell B2 8
  have k9 := blk_cell B2 9
  have k10 := blk_cell B2 10
  have k11 := blk_cell B2 11
  have f0 := blk_free B2 0
  have f1 := blk_free B2 1
  have f2 := blk_free B2 2
  have f3 := blk_free B2 3
  have f4 := blk_free B2 4
  have f5 := blk_free B2 5
  have f6 := blk_free B2 6
  have f7 := blk_free B2 7
  have f8 := blk_free B2 8
  have f9 := blk_free B2 9
  have f10 := blk_free B2 10
  have f11 := blk_free B2 11
  have z0 := blk_cell C2 0
  have z1 := blk_cell C2 1
  have z2 := blk_cell C2 2
  have z3 := blk_cell C2 3
  have z4 := blk_cell C2 4
  have z5 := blk_cell C2 5
  have z6 := blk_cell C2 6
  have z7 := blk_cell C2 7
  have z8 := blk_cell C2 8
  have z9 := blk_cell C2 9
  have z10 := blk_cell C2 10
  have z11 := blk_cell C2 11
  have g0 := blk_free C2 0
  have g1 := blk_free C2 1
  have g2 := blk_free C2 2
  have g3 := blk_free C2 3
  have g4 := blk_free C2 4
  have g5 := blk_free C2 5
  have g6 := blk_free C2 6
  have g7 := blk_free C2 7
  have g8 := blk_free C2 8
  have g9 := blk_free C2 9
  have g10 := blk_free C2 10
  have g11 := blk_free C2 11
  simp at k0 k1 k2 k3 k4 k5 k6 k7 k8 k9 k10 k11 z0 z1 z2 z3 z4 z5 z6 z7 z8 z9 z10 z11
  go_wp2_with fail
  refine (rcount_any s (i + 3 + 2 * p + 2) 0 8 _ hs).mono ?_
  rw [unhide HL]
  rintro e w0 ⟨rfl, rfl⟩
  go_wp2_with fail
  refine (rcount_any s (i + 3 + 2 * p + 3) 0 8 _ hs).mono ?_
  rw [unhide HH]
  rintro e w0 ⟨rfl, rfl⟩
  go_wp2_with fail
  refine (rcount_any s (i + 3 + 2 * p + 4) 1 120 _ hs).mono ?_
  rw [unhide HN]
  rintro e w0 ⟨rfl, rfl⟩
  go_wp2_with fail
  refine bodyPost_ret (v := .tuple #[.agg #[.int .i64 x0, .int .i64 x1, .slice a2 p.toNat c2, .int .i64 y1, .int .i64 y2, .int .i64 l, .int .i64 h, .string ⟨#[]⟩, .slice none 0 0, .slice none 0 0, .int .i64 0, .int .i64 0], .int .i64 (-1)]) (by simp [results, Tryz.results48, go_sem, z0, z1, z2, z3, z4, z5, z6, z7, z8, z9, z10, z11]) rfl ?_
  exact ⟨_, _, _, _, _, _, _, _, _, _, _, _, _, _, _, _, _, _, rfl, by repeat (first | refine Below.setCell ?_ (by simp) _ | exact hB2)⟩

end Go.Proofs.YteffpdofcgbokaaGreat
