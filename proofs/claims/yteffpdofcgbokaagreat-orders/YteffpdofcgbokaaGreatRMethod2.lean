/-
  The walk over the document's reader: readMethod, where its code fits.
-/
import Derived.Test.YteffpdofcgbokaaGreatRMethod
import Derived.Test.YteffpdofcgbokaaGreatRHnd
import Derived.Test.YteffpdofcgbokaaGreatTreeOf
import Derived.Test.YteffpdofcgbokaaGreatInCl
namespace Go.Proofs.YteffpdofcgbokaaGreat
open Go.RowKit

set_option maxRecDepth 100000 in
set_option maxHeartbeats 4000000 in
theorem rmth_no6 (s : ByteArray) (i p l h : Int) (j n : Nat) (hq : List Rd.Hnd × Int) (w : World) (hs : s.size ≤ maxLen) (hi0 : 0 ≤ i) (hi1 : i ≤ 50000) (HP : Hid (Rf.cnt s.data.toList (i + 2) 0 4 = p)) (hj : i + 3 + 2 * p = (j : Int)) (HL : Hid (Rf.cnt s.data.toList ((j : Int) + 2) 0 8 = l)) (HH : Hid (Rf.cnt s.data.toList ((j : Int) + 3) 0 8 = h)) (HN : Hid (Rf.cnt s.data.toList ((j : Int) + 4) 1 120 = (n : Int))) (hp0 : 0 ≤ p) (hp1 : p ≤ 4) (hl0 : 0 ≤ l) (hl1 : l ≤ 8) (hh0 : 0 ≤ h) (hh1 : h ≤ 8) (hn1 : n ≤ 120) (hfit : j + 5 + n ≤ s.size) (HQ : Hid (Rf.hnds s.data.toList ((j : Int) + 5 + (n : Int)) = hq)) (hneg : hq.2 < 0) :
    Calls Tryz.prog 48 #[.string s, .int .i64 i] w fun e w' =>
      ∃ x0 x1 a2 n2 c2 x3 x4 x5 x6 sb a8 n8 c8 a9 n9 c9 x10 x11, e = .returned (.tuple #[.agg #[.int .i64 x0, .int .i64 x1, .slice a2 n2 c2, .int .i64 x3, .int .i64 x4, .int .i64 x5, .int .i64 x6, .string sb, .slice a8 n8 c8, .slice a9 n9 c9, .int .i64 x10, .int .i64 x11], .int .i64 (-1)]) ∧ Below w.heap.size w w' := by
  have G1 : ∃ x0 x1 ps y1 y2, Rf.at' s.data.toList i = x0 ∧ Rf.at' s.data.toList (i + 1) = x1 ∧ Rf.tys s.data.toList (i + 3) p.toNat = ps ∧ Rf.at' s.data.toList (j : Int) = y1 ∧ Rf.at' s.data.toList ((j : Int) + 1) = y2 := ⟨_, _, _, _, _, rfl, rfl, rfl, rfl, rfl⟩
  obtain ⟨x0, x1, ps, y1, y2, hx0, hx1, hps, hr1, hr2⟩ := G1
  have HX0 := hide hx0
  have HX1 := hide hx1
  have HPS := hide hps
  have HR1 := hide hr1
  have HR2 := hide hr2
  clear hx0 hx1 hps hr1 hr2
  go_enter Tryz.func48, Tryz.ntmps48
  go_wp2_with fail
  refine (rat_any s i _ hs).mono ?_
  rw [unhide HX0]
  rintro e w0 ⟨rfl, rfl⟩
  go_wp2_with fail
  refine (rat_any s (i + 1) _ hs).mono ?_
  rw [unhide HX1]
  rintro e w0 ⟨rfl, rfl⟩
  go_wp2_with fail
  refine (rcount_any s (i + 2) 0 4 _ hs).mono ?_
  rw [unhide HP]
  rintro e w0 ⟨rfl, rfl⟩
  go_wp2_with fail
  refine (rtypes_any s (i + 3) p _ hs (by omega) (by omega) (by omega) (by omega)).mono ?_
  rw [unhide HPS]
  rintro e w1 ⟨a2, c2, rfl, T1, b1⟩
  have B1 := stay b1 (alloc2_blk w _ _)
  have C1 := stay b1 (alloc1_blk w _ _)
  have hB1 := (below2 w _ _).trans (b1.mono (by simp; omega))
  have s1 := hB1.size
  have k2 := blk_cell B1 2
  have f2 := blk_free B1 2
  simp at k2
  go_wp2_with fail
  clear k2 f2
  refine (rtypes_any s (j : Int) 1 _ hs (by omega) (by omega) (by omega) (by omega)).mono ?_
  rintro e w2 ⟨ar, cr, rfl, TR, b2⟩
  have B2 := stay b2 (set_blk (i := 2) B1 (.slice a2 p.toNat c2))
  have C2 := stay b2 (set_other C1 (p := ⟨w.heap.size + 1, 2, none⟩) (by simp) (.slice a2 p.toNat c2))
  simp at B2
  have hB2 := (hB1.setCell (p := ⟨w.heap.size + 1, 2, none⟩) (by simp) (.slice a2 p.toNat c2)).trans (b2.mono (by simp; omega))
  have T2 := ((T1.mono (b' := w.heap.size) (by simp; omega)).kp (Kp.set (i := 2) B1 (.slice a2 p.toNat c2)) (by decide)).kp (Kp.of_below (e := none) b2) (by decide)
  have s2 := hB2.size
  obtain ⟨gr, har, hgr, hgr2, hcr⟩ := own_some TR (by rw [rtys_len]; decide)
  have r0 := hcr 0 (by simp [tcells, Rf.tys])
  have r1 := hcr 1 (by simp [tcells, Rf.tys])
  simp [tcells, Rf.tys] at r0 r1
  rw [unhide HR1] at r0
  rw [unhide HR2] at r1
  have hgne : gr ≠ w.heap.size + 1 := by
    have hh := lt_of_block B1
    simp at hgr2
    omega
  clear hcr T1 b1 b2 B1 C1 hB1 TR hgr2
  subst har
  have k0 := blk_cell B2 0
  have k1 := blk_cell B2 1
  have k2 := blk_cell B2 2
  have k3 := blk_cell B2 3
  have k4 := blk_cell B2 4
  have k5 := blk_cell B2 5
  have k6 := blk_cell B2 6
  have k7 := blk_cell B2 7
  have k8 := blk_cell B2 8
  have k9 := blk_cell B2 9
  have k10 := blk_cell B2 10
  have k11 := blk_cell B2 11
  have f0 := blk_free B2 0
  have f1 := blk_free B2 1
  have f2 := blk_free B2 2
  have f3 := blk_free B2 3
  have f4 := blk_free B2 4
  have f5 := blk_free B2 5
  have f6 := blk_free B2 6
  have f7 := blk_free B2 7
  have f8 := blk_free B2 8
  have f9 := blk_free B2 9
  have f10 := blk_free B2 10
  have f11 := blk_free B2 11
  have z0 := blk_cell C2 0
  have z1 := blk_cell C2 1
  have z2 := blk_cell C2 2
  have z3 := blk_cell C2 3
  have z4 := blk_cell C2 4
  have z5 := blk_cell C2 5
  have z6 := blk_cell C2 6
  have z7 := blk_cell C2 7
  have z8 := blk_cell C2 8
  have z9 := blk_cell C2 9
  have z10 := blk_cell C2 10
  have z11 := blk_cell C2 11
  have g0 := blk_free C2 0
  have g1 := blk_free C2 1
  have g2 := blk_free C2 2
  have g3 := blk_free C2 3
  have g4 := blk_free C2 4
  have g5 := blk_free C2 5
  have g6 := blk_free C2 6
  have g7 := blk_free C2 7
  have g8 := blk_free C2 8
  have g9 := blk_free C2 9
  have g10 := blk_free C2 10
  have g11 := blk_free C2 11
  simp at k0 k1 k2 k3 k4 k5 k6 k7 k8 k9 k10 k11 z0 z1 z2 z3 z4 z5 z6 z7 z8 z9 z10 z11
  go_wp2_with fail
  refine (rcount_any s ((j : Int) + 2) 0 8 _ hs).mono ?_
  rw [unhide HL]
  rintro e w0 ⟨rfl, rfl⟩
  go_wp2_with fail
  refine (rcount_any s ((j : Int) + 3) 0 8 _ hs).mono ?_
  rw [unhide HH]
  rintro e w0 ⟨rfl, rfl⟩
  go_wp2_with fail
  refine (rcount_any s ((j : Int) + 4) 1 120 _ hs).mono ?_
  rw [unhide HN]
  rintro e w0 ⟨rfl, rfl⟩
  have fit1 : j + 5 ≤ s.size := by omega
  have fit2 : (j : Int) + 5 + (n : Int) ≤ (s.size : Int) := by omega
  go_wp2_with fail
  refine (rhnds_any s ((j : Int) + 5 + (n : Int)) _ hs (by omega) (by omega)).mono ?_
  rw [unhide HQ]
  rintro e w3 ⟨a8, n8, c8, rfl, T8, b3⟩
  have B3 := stay b3 (set_blk (i := 7) (set_blk (i := 6) (set_blk (i := 5) (set_blk (i := 4) (set_blk (i := 3) B2 _) _) _) _) _)
  have C3 := stay b3 (set_other (set_other (set_other (set_other (set_other C2 (p := ⟨w.heap.size + 1, 3, none⟩) (by simp) _) (p := ⟨w.heap.size + 1, 4, none⟩) (by simp) _) (p := ⟨w.heap.size + 1, 5, none⟩) (by simp) _) (p := ⟨w.heap.size + 1, 6, none⟩) (by simp) _) (p := ⟨w.heap.size + 1, 7, none⟩) (by simp) _)
  simp at B3
  have hB3 := (((((hB2.setCell (p := ⟨w.heap.size + 1, 3, none⟩) (by simp) _).setCell (p := ⟨w.heap.size + 1, 4, none⟩) (by simp) _).setCell (p := ⟨w.heap.size + 1, 5, none⟩) (by simp) _).setCell (p := ⟨w.heap.size + 1, 6, none⟩) (by simp) _).setCell (p := ⟨w.heap.size + 1, 7, none⟩) (by simp) _).trans (b3.mono (by simp; omega))
  have T3 := (T2.kp (((((Kp.set (i := 3) B2 _).trans (Kp.set (i := 4) (set_blk (i := 3) B2 _) _)).trans (Kp.set (i := 5) (set_blk (i := 4) (set_blk (i := 3) B2 _) _) _)).trans (Kp.set (i := 6) (set_blk (i := 5) (set_blk (i := 4) (set_blk (i := 3) B2 _) _) _) _)).trans (Kp.set (i := 7) (set_blk (i := 6) (set_blk (i := 5) (set_blk (i := 4) (set_blk (i := 3) B2 _) _) _) _) _)) (by decide)).kp (Kp.of_below (e := none) b3) (by decide)
  have s3 := hB3.size
  have T8' := T8.mono (b' := w.heap.size) (by simp; omega)
  clear k0 f0 z0 g0 k1 f1 z1 g1 k2 f2 z2 g2 k3 f3 z3 g3 k4 f4 z4 g4 k5 f5 z5 g5 k6 f6 z6 g6 k7 f7 z7 g7 k8 f8 z8 g8 k9 f9 z9 g9 k10 f10 z10 g10 k11 f11 z11 g11 B2 C2 hB2 T2 b3 T8 r0 r1
  have k0 := blk_cell B3 0
  have k1 := blk_cell B3 1
  have k2 := blk_cell B3 2
  have k3 := blk_cell B3 3
  have k4 := blk_cell B3 4
  have k5 := blk_cell B3 5
  have k6 := blk_cell B3 6
  have k7 := blk_cell B3 7
  have k8 := blk_cell B3 8
  have k9 := blk_cell B3 9
  have k10 := blk_cell B3 10
  have k11 := blk_cell B3 11
  have f0 := blk_free B3 0
  have f1 := blk_free B3 1
  have f2 := blk_free B3 2
  have f3 := blk_free B3 3
  have f4 := blk_free B3 4
  have f5 := blk_free B3 5
  have f6 := blk_free B3 6
  have f7 := blk_free B3 7
  have f8 := blk_free B3 8
  have f9 := blk_free B3 9
  have f10 := blk_free B3 10
  have f11 := blk_free B3 11
  have z0 := blk_cell C3 0
  have z1 := blk_cell C3 1
  have z2 := blk_cell C3 2
  have z3 := blk_cell C3 3
  have z4 := blk_cell C3 4
  have z5 := blk_cell C3 5
  have z6 := blk_cell C3 6
  have z7 := blk_cell C3 7
  have z8 := blk_cell C3 8
  have z9 := blk_cell C3 9
  have z10 := blk_cell C3 10
  have z11 := blk_cell C3 11
  have g0 := blk_free C3 0
  have g1 := blk_free C3 1
  have g2 := blk_free C3 2
  have g3 := blk_free C3 3
  have g4 := blk_free C3 4
  have g5 := blk_free C3 5
  have g6 := blk_free C3 6
  have g7 := blk_free C3 7
  have g8 := blk_free C3 8
  have g9 := blk_free C3 9
  have g10 := blk_free C3 10
  have g11 := blk_free C3 11
  simp at k0 k1 k2 k3 k4 k5 k6 k7 k8 k9 k10 k11 z0 z1 z2 z3 z4 z5 z6 z7 z8 z9 z10 z11
  go_wp2_with fail
  refine bodyPost_ret (v := .tuple #[.agg #[.int .i64 x0, .int .i64 x1, .slice a2 p.toNat c2, .int .i64 y1, .int .i64 y2, .int .i64 l, .int .i64 h, .string (s.extract (j + 5) (j + 5 + n)), .slice none 0 0, .slice none 0 0, .int .i64 0, .int .i64 0], .int .i64 (-1)]) (by simp [results, Tryz.results48, go_sem, z0, z1, z2, z3, z4, z5, z6, z7, z8, z9, z10, z11]) rfl ?_
  exact ⟨_, _, _, _, _, _, _, _, _, _, _, _, _, _, _, _, _, _, rfl, by repeat (first | refine Below.setCell ?_ (by simp) _ | exact hB3)⟩

theorem ext_succ (s : ByteArray) (a b : Nat) (hab : a ≤ b) (hb : b < s.size) : (s.extract a (b + 1)).data.toList = (s.extract a b).data.toList ++ [s[b]] := by
  rw [ByteArray.data_extract, ByteArray.data_extract, Array.toList_extract, Array.toList_extract, List.extract_eq_take_drop, List.extract_eq_take_drop]
  rw [show b + 1 - a = (b - a) + 1 by omega, List.take_succ_eq_append_getElem (by simp; have : s.data.size = s.size := rfl; omega)]
  congr 1
  simp
  rw [show (s[b] : UInt8) = s.data[b]'hb from rfl]
  congr 1
  omega
theorem code_extract (s : ByteArray) (j n : Nat) (h : j + 5 + n ≤ s.size) : (s.extract (j + 5) (j + 5 + n)).data.toList.map (fun c => (c.toNat : Int)) = Rf.codeTo s.data.toList ((j : Int) + 5) n := by
  induction n with
  | zero => simp [Rf.codeTo]
  | succ k ih =>
    have e : (s.extract (j + 5) (j + 5 + (k + 1))).data.toList = (s.extract (j + 5) (j + 5 + k)).data.toList ++ [s[j + 5 + k]'(by omega)] := by
      exact ext_succ s (j + 5) (j + 5 + k) (by omega) (by omega)
    rw [e, List.map_append, ih (by omega), Rf.codeTo]
    have a : Rf.at' s.data.toList ((j : Int) + 5 + (k : Int)) = _ := at_hit (i := j + 5 + k) (by omega)
    rw [a]
    rfl

set_option maxRecDepth 100000 in
set_option maxHeartbeats 8000000 in
theorem rmth_yes (s : ByteArray) (i p l h x0 x1 y1 y2 : Int) (ps : List (Int × Int)) (j n : Nat) (hq : List Rd.Hnd × Int) (mq : List Rd.Mp × Int) (w : World) (hs : s.size ≤ maxLen) (hi0 : 0 ≤ i) (hi1 : i ≤ 50000) (HP : Hid (Rf.cnt s.data.toList (i + 2) 0 4 = p)) (hj : i + 3 + 2 * p = (j : Int)) (HL : Hid (Rf.cnt s.data.toList ((j : Int) + 2) 0 8 = l)) (HH : Hid (Rf.cnt s.data.toList ((j : Int) + 3) 0 8 = h)) (HN : Hid (Rf.cnt s.data.toList ((j : Int) + 4) 1 120 = (n : Int))) (hp0 : 0 ≤ p) (hp1 : p ≤ 4) (hl0 : 0 ≤ l) (hl1 : l ≤ 8) (hh0 : 0 ≤ h) (hh1 : h ≤ 8) (hn1 : n ≤ 120) (hfit : j + 5 + n ≤ s.size) (HQ : Hid (Rf.hnds s.data.toList ((j : Int) + 5 + (n : Int)) = hq)) (hq0 : 0 ≤ hq.2) (hq1 : hq.2 ≤ 100000) (HM : Hid (Rf.mps s.data.toList hq.2 l h = mq))
    (HX0 : Hid (Rf.at' s.data.toList i = x0)) (HX1 : Hid (Rf.at' s.data.toList (i + 1) = x1)) (HPS : Hid (Rf.tys s.data.toList (i + 3) p.toNat = ps)) (HR1 : Hid (Rf.at' s.data.toList (j : Int) = y1)) (HR2 : Hid (Rf.at' s.data.toList ((j : Int) + 1) = y2)) :
    Calls Tryz.prog 48 #[.string s, .int .i64 i] w fun e w' =>
      ∃ a2 n2 c2 sb a8 n8 c8 a9 n9 c9, e = .returned (.tuple #[.agg #[.int .i64 x0, .int .i64 x1, .slice a2 n2 c2, .int .i64 y1, .int .i64 y2, .int .i64 l, .int .i64 h, .string sb, .slice a8 n8 c8, .slice a9 n9 c9, .int .i64 hq.2, .int .i64 mq.2], .int .i64 mq.2]) ∧ RMthIn w' w.heap.size ⟨⟨x0, x1, ps, (y1, y2), l, h, Rf.codeTo s.data.toList ((j : Int) + 5) n, hq.1, mq.1⟩, hq.2, mq.2⟩ ⟨.slice a2 n2 c2, sb, .slice a8 n8 c8, .slice a9 n9 c9⟩ ∧ Below w.heap.size w w' := by
  go_enter Tryz.func48, Tryz.ntmps48
  go_wp2_with fail
  refine (rat_any s i _ hs).mono ?_
  rw [unhide HX0]
  rintro e w0 ⟨rfl, rfl⟩
  go_wp2_with fail
  refine (rat_any s (i + 1) _ hs).mono ?_
  rw [unhide HX1]
  rintro e w0 ⟨rfl, rfl⟩
  go_wp2_with fail
  refine (rcount_any s (i + 2) 0 4 _ hs).mono ?_
  rw [unhide HP]
  rintro e w0 ⟨rfl, rfl⟩
  go_wp2_with fail
  refine (rtypes_any s (i + 3) p _ hs (by omega) (by omega) (by omega) (by omega)).mono ?_
  rw [unhide HPS]
  rintro e w1 ⟨a2, c2, rfl, T1, b1⟩
  have B1 := stay b1 (alloc2_blk w _ _)
  have C1 := stay b1 (alloc1_blk w _ _)
  have hB1 := (below2 w _ _).trans (b1.mono (by simp; omega))
  have s1 := hB1.size
  have k2 := blk_cell B1 2
  have f2 := blk_free B1 2
  simp at k2
  go_wp2_with fail
  clear k2 f2
  refine (rtypes_any s (j : Int) 1 _ hs (by omega) (by omega) (by omega) (by omega)).mono ?_
  rintro e w2 ⟨ar, cr, rfl, TR, b2⟩
  have B2 := stay b2 (set_blk (i := 2) B1 (.slice a2 p.toNat c2))
  have C2 := stay b2 (set_other C1 (p := ⟨w.heap.size + 1, 2, none⟩) (by simp) (.slice a2 p.toNat c2))
  simp at B2
  have hB2 := (hB1.setCell (p := ⟨w.heap.size + 1, 2, none⟩) (by simp) (.slice a2 p.toNat c2)).trans (b2.mono (by simp; omega))
  have T2 := ((T1.mono (b' := w.heap.size) (by simp; omega)).kp (Kp.set (i := 2) B1 (.slice a2 p.toNat c2)) (by decide)).kp (Kp.of_below (e := none) b2) (by decide)
  have s2 := hB2.size
  obtain ⟨gr, har, hgr, hgr2, hcr⟩ := own_some TR (by rw [rtys_len]; decide)
  have r0 := hcr 0 (by simp [tcells, Rf.tys])
  have r1 := hcr 1 (by simp [tcells, Rf.tys])
  simp [tcells, Rf.tys] at r0 r1
  rw [unhide HR1] at r0
  rw [unhide HR2] at r1
  have hgne : gr ≠ w.heap.size + 1 := by
    have hh := lt_of_block B1
    simp at hgr2
    omega
  clear hcr T1 b1 b2 B1 C1 hB1 TR hgr2
  subst har
  have k0 := blk_cell B2 0
  have k1 := blk_cell B2 1
  have k2 := blk_cell B2 2
  have k3 := blk_cell B2 3
  have k4 := blk_cell B2 4
  have k5 := blk_cell B2 5
  have k6 := blk_cell B2 6
  have k7 := blk_cell B2 7
  have k8 := blk_cell B2 8
  have k9 := blk_cell B2 9
  have k10 := blk_cell B2 10
  have k11 := blk_cell B2 11
  have f0 := blk_free B2 0
  have f1 := blk_free B2 1
  have f2 := blk_free B2 2
  have f3 := blk_free B2 3
  have f4 := blk_free B2 4
  have f5 := blk_free B2 5
  have f6 := blk_free B2 6
  have f7 := blk_free B2 7
  have f8 := blk_free B2 8
  have f9 := blk_free B2 9
  have f10 := blk_free B2 10
  have f11 := blk_free B2 11
  have z0 := blk_cell C2 0
  have z1 := blk_cell C2 1
  have z2 := blk_cell C2 2
  have z3 := blk_cell C2 3
  have z4 := blk_cell C2 4
  have z5 := blk_cell C2 5
  have z6 := blk_cell C2 6
  have z7 := blk_cell C2 7
  have z8 := blk_cell C2 8
  have z9 := blk_cell C2 9
  have z10 := blk_cell C2 10
  have z11 := blk_cell C2 11
  have g0 := blk_free C2 0
  have g1 := blk_free C2 1
  have g2 := blk_free C2 2
  have g3 := blk_free C2 3
  have g4 := blk_free C2 4
  have g5 := blk_free C2 5
  have g6 := blk_free C2 6
  have g7 := blk_free C2 7
  have g8 := blk_free C2 8
  have g9 := blk_free C2 9
  have g10 := blk_free C2 10
  have g11 := blk_free C2 11
  simp at k0 k1 k2 k3 k4 k5 k6 k7 k8 k9 k10 k11 z0 z1 z2 z3 z4 z5 z6 z7 z8 z9 z10 z11
  go_wp2_with fail
  refine (rcount_any s ((j : Int) + 2) 0 8 _ hs).mono ?_
  rw [unhide HL]
  rintro e w0 ⟨rfl, rfl⟩
  go_wp2_with fail
  refine (rcount_any s ((j : Int) + 3) 0 8 _ hs).mono ?_
  rw [unhide HH]
  rintro e w0 ⟨rfl, rfl⟩
  go_wp2_with fail
  refine (rcount_any s ((j : Int) + 4) 1 120 _ hs).mono ?_
  rw [unhide HN]
  rintro e w0 ⟨rfl, rfl⟩
  have fit1 : j + 5 ≤ s.size := by omega
  have fit2 : (j : Int) + 5 + (n : Int) ≤ (s.size : Int) := by omega
  go_wp2_with fail
  refine (rhnds_any s ((j : Int) + 5 + (n : Int)) _ hs (by omega) (by omega)).mono ?_
  rw [unhide HQ]
  rintro e w3 ⟨a8, n8, c8, rfl, T8, b3⟩
  have B3 := stay b3 (set_blk (i := 7) (set_blk (i := 6) (set_blk (i := 5) (set_blk (i := 4) (set_blk (i := 3) B2 _) _) _) _) _)
  have C3 := stay b3 (set_other (set_other (set_other (set_other (set_other C2 (p := ⟨w.heap.size + 1, 3, none⟩) (by simp) _) (p := ⟨w.heap.size + 1, 4, none⟩) (by simp) _) (p := ⟨w.heap.size + 1, 5, none⟩) (by simp) _) (p := ⟨w.heap.size + 1, 6, none⟩) (by simp) _) (p := ⟨w.heap.size + 1, 7, none⟩) (by simp) _)
  simp at B3
  have hB3 := (((((hB2.setCell (p := ⟨w.heap.size + 1, 3, none⟩) (by simp) _).setCell (p := ⟨w.heap.size + 1, 4, none⟩) (by simp) _).setCell (p := ⟨w.heap.size + 1, 5, none⟩) (by simp) _).setCell (p := ⟨w.heap.size + 1, 6, none⟩) (by simp) _).setCell (p := ⟨w.heap.size + 1, 7, none⟩) (by simp) _).trans (b3.mono (by simp; omega))
  have T3 := (T2.kp (((((Kp.set (i := 3) B2 _).trans (Kp.set (i := 4) (set_blk (i := 3) B2 _) _)).trans (Kp.set (i := 5) (set_blk (i := 4) (set_blk (i := 3) B2 _) _) _)).trans (Kp.set (i := 6) (set_blk (i := 5) (set_blk (i := 4) (set_blk (i := 3) B2 _) _) _) _)).trans (Kp.set (i := 7) (set_blk (i := 6) (set_blk (i := 5) (set_blk (i := 4) (set_blk (i := 3) B2 _) _) _) _) _)) (by decide)).kp (Kp.of_below (e := none) b3) (by decide)
  have s3 := hB3.size
  have T8' := T8.mono (b' := w.heap.size) (by simp; omega)
  clear k0 f0 z0 g0 k1 f1 z1 g1 k2 f2 z2 g2 k3 f3 z3 g3 k4 f4 z4 g4 k5 f5 z5 g5 k6 f6 z6 g6 k7 f7 z7 g7 k8 f8 z8 g8 k9 f9 z9 g9 k10 f10 z10 g10 k11 f11 z11 g11 B2 C2 hB2 T2 b3 T8 r0 r1
  have k0 := blk_cell B3 0
  have k1 := blk_cell B3 1
  have k2 := blk_cell B3 2
  have k3 := blk_cell B3 3
  have k4 := blk_cell B3 4
  have k5 := blk_cell B3 5
  have k6 := blk_cell B3 6
  have k7 := blk_cell B3 7
  have k8 := blk_cell B3 8
  have k9 := blk_cell B3 9
  have k10 := blk_cell B3 10
  have k11 := blk_cell B3 11
  have f0 := blk_free B3 0
  have f1 := blk_free B3 1
  have f2 := blk_free B3 2
  have f3 := blk_free B3 3
  have f4 := blk_free B3 4
  have f5 := blk_free B3 5
  have f6 := blk_free B3 6
  have f7 := blk_free B3 7
  have f8 := blk_free B3 8
  have f9 := blk_free B3 9
  have f10 := blk_free B3 10
  have f11 := blk_free B3 11
  have z0 := blk_cell C3 0
  have z1 := blk_cell C3 1
  have z2 := blk_cell C3 2
  have z3 := blk_cell C3 3
  have z4 := blk_cell C3 4
  have z5 := blk_cell C3 5
  have z6 := blk_cell C3 6
  have z7 := blk_cell C3 7
  have z8 := blk_cell C3 8
  have z9 := blk_cell C3 9
  have z10 := blk_cell C3 10
  have z11 := blk_cell C3 11
  have g0 := blk_free C3 0
  have g1 := blk_free C3 1
  have g2 := blk_free C3 2
  have g3 := blk_free C3 3
  have g4 := blk_free C3 4
  have g5 := blk_free C3 5
  have g6 := blk_free C3 6
  have g7 := blk_free C3 7
  have g8 := blk_free C3 8
  have g9 := blk_free C3 9
  have g10 := blk_free C3 10
  have g11 := blk_free C3 11
  simp at k0 k1 k2 k3 k4 k5 k6 k7 k8 k9 k10 k11 z0 z1 z2 z3 z4 z5 z6 z7 z8 z9 z10 z11
  go_wp2_with fail
  clear k0 f0 z0 g0 k1 f1 z1 g1 k2 f2 z2 g2 k3 f3 z3 g3 k4 f4 z4 g4 k5 f5 z5 g5 k6 f6 z6 g6 k7 f7 z7 g7 k8 f8 z8 g8 k9 f9 z9 g9 k10 f10 z10 g10 k11 f11 z11 g11
  refine (rmaps_any s hq.2 l h _ hs hq0 (by omega) hl0 hl1 hh0 hh1).mono ?_
  rw [unhide HM]
  rintro e w4 ⟨a9, n9, c9, ml, rfl, hml, T9, b4⟩
  have B4 := stay b4 B3
  have C4 := stay b4 C3
  have hB4 := hB3.trans (b4.mono s3)
  have T4 := T3.kp (Kp.of_below (e := none) b4) (by decide)
  have T84 := T8'.kp (Kp.of_below (e := none) b4) (by decide)
  have T94 := T9.mono (b' := w.heap.size) s3
  have HML := hide hml
  clear hml B3 C3 hB3 T3 T8' T9 b4
  have k0 := blk_cell B4 0
  have k1 := blk_cell B4 1
  have k2 := blk_cell B4 2
  have k3 := blk_cell B4 3
  have k4 := blk_cell B4 4
  have k5 := blk_cell B4 5
  have k6 := blk_cell B4 6
  have k7 := blk_cell B4 7
  have k8 := blk_cell B4 8
  have k9 := blk_cell B4 9
  have k10 := blk_cell B4 10
  have k11 := blk_cell B4 11
  have f0 := blk_free B4 0
  have f1 := blk_free B4 1
  have f2 := blk_free B4 2
  have f3 := blk_free B4 3
  have f4 := blk_free B4 4
  have f5 := blk_free B4 5
  have f6 := blk_free B4 6
  have f7 := blk_free B4 7
  have f8 := blk_free B4 8
  have f9 := blk_free B4 9
  have f10 := blk_free B4 10
  have f11 := blk_free B4 11
  have z0 := blk_cell C4 0
  have z1 := blk_cell C4 1
  have z2 := blk_cell C4 2
  have z3 := blk_cell C4 3
  have z4 := blk_cell C4 4
  have z5 := blk_cell C4 5
  have z6 := blk_cell C4 6
  have z7 := blk_cell C4 7
  have z8 := blk_cell C4 8
  have z9 := blk_cell C4 9
  have z10 := blk_cell C4 10
  have z11 := blk_cell C4 11
  have g0 := blk_free C4 0
  have g1 := blk_free C4 1
  have g2 := blk_free C4 2
  have g3 := blk_free C4 3
  have g4 := blk_free C4 4
  have g5 := blk_free C4 5
  have g6 := blk_free C4 6
  have g7 := blk_free C4 7
  have g8 := blk_free C4 8
  have g9 := blk_free C4 9
  have g10 := blk_free C4 10
  have g11 := blk_free C4 11
  simp at k0 k1 k2 k3 k4 k5 k6 k7 k8 k9 k10 k11 z0 z1 z2 z3 z4 z5 z6 z7 z8 z9 z10 z11
  go_wp2_with fail
  refine bodyPost_ret (v := .tuple #[.agg #[.int .i64 x0, .int .i64 x1, .slice a2 p.toNat c2, .int .i64 y1, .int .i64 y2, .int .i64 l, .int .i64 h, .string (s.extract (j + 5) (j + 5 + n)), .slice a8 n8 c8, .slice a9 n9 c9, .int .i64 hq.2, .int .i64 mq.2], .int .i64 mq.2]) (by simp [results, Tryz.results48, go_sem, z0, z1, z2, z3, z4, z5, z6, z7, z8, z9, z10, z11]) rfl ?_
  have F0 := Kp.set (b := w.heap.size) (i := 8) B4 (.slice a8 n8 c8)
  have P0 := set_blk (i := 8) B4 (.slice a8 n8 c8)
  have R0 := set_other C4 (p := ⟨w.heap.size + 1, 8, none⟩) (by simp) (.slice a8 n8 c8)
  have F1 := F0.trans (Kp.set (i := 9) P0 (.slice a9 n9 c9))
  have P1 := set_blk (i := 9) P0 (.slice a9 n9 c9)
  have R1 := set_other R0 (p := ⟨w.heap.size + 1, 9, none⟩) (by simp) (.slice a9 n9 c9)
  have F2 := F1.trans (Kp.set (i := 10) P1 (.int .i64 hq.2))
  have P2 := set_blk (i := 10) P1 (.int .i64 hq.2)
  have R2 := set_other R1 (p := ⟨w.heap.size + 1, 10, none⟩) (by simp) (.int .i64 hq.2)
  have F3 := F2.trans (Kp.set (i := 11) P2 (.int .i64 mq.2))
  have P3 := set_blk (i := 11) P2 (.int .i64 mq.2)
  have R3 := set_other R2 (p := ⟨w.heap.size + 1, 11, none⟩) (by simp) (.int .i64 mq.2)
  have F4 := F3.trans (Kp.set (i := 0) R3 (.int .i64 x0))
  have R4 := set_blk (i := 0) R3 (.int .i64 x0)
  have F5 := F4.trans (Kp.set (i := 1) R4 (.int .i64 x1))
  have R5 := set_blk (i := 1) R4 (.int .i64 x1)
  have F6 := F5.trans (Kp.set (i := 2) R5 (.slice a2 p.toNat c2))
  have R6 := set_blk (i := 2) R5 (.slice a2 p.toNat c2)
  have F7 := F6.trans (Kp.set (i := 3) R6 (.int .i64 y1))
  have R7 := set_blk (i := 3) R6 (.int .i64 y1)
  have F8 := F7.trans (Kp.set (i := 4) R7 (.int .i64 y2))
  have R8 := set_blk (i := 4) R7 (.int .i64 y2)
  have F9 := F8.trans (Kp.set (i := 5) R8 (.int .i64 l))
  have R9 := set_blk (i := 5) R8 (.int .i64 l)
  have F10 := F9.trans (Kp.set (i := 6) R9 (.int .i64 h))
  have R10 := set_blk (i := 6) R9 (.int .i64 h)
  have F11 := F10.trans (Kp.set (i := 7) R10 (.string (s.extract (j + 5) (j + 5 + n))))
  have R11 := set_blk (i := 7) R10 (.string (s.extract (j + 5) (j + 5 + n)))
  have F12 := F11.trans (Kp.set (i := 8) R11 (.slice a8 n8 c8))
  have R12 := set_blk (i := 8) R11 (.slice a8 n8 c8)
  have F13 := F12.trans (Kp.set (i := 9) R12 (.slice a9 n9 c9))
  have R13 := set_blk (i := 9) R12 (.slice a9 n9 c9)
  have F14 := F13.trans (Kp.set (i := 10) R13 (.int .i64 hq.2))
  have R14 := set_blk (i := 10) R13 (.int .i64 hq.2)
  have F15 := F14.trans (Kp.set (i := 11) R14 (.int .i64 mq.2))
  have R15 := set_blk (i := 11) R14 (.int .i64 mq.2)
  refine ⟨_, _, _, _, _, _, _, _, _, _, rfl, ⟨T4.kp F15 (by decide), code_extract s j n hfit, T84.kp F15 (by decide), ml, unhide HML, T94.kp F15 (by decide) (by decide)⟩, ?_⟩
  repeat (first | refine Below.setCell ?_ (by simp) _ | exact hB4)
end Go.Proofs.YteffpdofcgbokaaGreat
