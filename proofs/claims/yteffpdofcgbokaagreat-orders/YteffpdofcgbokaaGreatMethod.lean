/-
  The walk over the reader's method method: a method's head, code, handlers and maps.
-/
import Derived.Test.YteffpdofcgbokaaGreatMaps
namespace Go.Proofs.YteffpdofcgbokaaGreat
open Go.RowKit

theorem set_other {w : World} {k : Nat} {o : Obj} (h : w.heap[k]? = some o) {p : Addr} (hp : k ≠ p.block) (u : Value) : (w.setCell p u).heap[k]? = some o := by
  rw [Below.heap_setCell _ _ _ _ hp]; exact h

set_option maxRecDepth 100000 in
set_option maxHeartbeats 4000000 in
theorem method_any (s : ByteArray) (B : Nat) (t : Rd.St) (w : World) (hs : s.size ≤ maxLen) (hR : RdAt w B s t) :
    Calls Tryz.prog 109 #[.pointer (some ⟨B, 0, none⟩)] w fun e w' =>
      ∃ a1 m1 d1 a2 m2 d2 a3 m3 d3 a4 m4 d4, e = .returned (.agg #[.int .i64 (Rd.mth s.data.toList t).1.cl, .int .i64 (Rd.mth s.data.toList t).1.name, .slice a1 m1 d1, .int .i64 (Rd.mth s.data.toList t).1.result.1, .int .i64 (Rd.mth s.data.toList t).1.result.2, .int .i64 (Rd.mth s.data.toList t).1.locals, .int .i64 (Rd.mth s.data.toList t).1.stack, .slice a2 m2 d2, .slice a3 m3 d3, .slice a4 m4 d4]) ∧
        MthIn w' w.heap.size (Rd.mth s.data.toList t).1 ⟨.slice a1 m1 d1, .slice a2 m2 d2, .slice a3 m3 d3, .slice a4 m4 d4⟩ ∧ RdAt w' B s (Rd.mth s.data.toList t).2 ∧ Gr B w w' := by
  have hlt := hR.lt
  unfold Rd.mth
  dsimp only
  generalize hq1 : Rd.nx s.data.toList t = q1
  generalize hq2 : Rd.nx s.data.toList q1.2 = q2
  generalize hq3 : Rd.cn s.data.toList 0 4 q2.2 = q3
  generalize hq4 : Rd.tys s.data.toList q3.1.toNat q3.2 = q4
  generalize hq5 : Rd.ty s.data.toList q4.2 = q5
  generalize hq6 : Rd.cn s.data.toList 0 8 q5.2 = q6
  generalize hq7 : Rd.cn s.data.toList 0 8 q6.2 = q7
  generalize hq8 : Rd.codes s.data.toList q7.2 = q8
  generalize hq9 : Rd.hnds s.data.toList q8.2 = q9
  generalize hq10 : Rd.mps s.data.toList q6.1 q7.1 q9.2 = q10
  have l4 : q4.1.length = q3.1.toNat := by rw [← hq4]; exact tys_len _ _ _
  have b3 := Rd.cn_bd s.data.toList 0 4 q2.2 (by omega)
  have b6 := Rd.cn_bd s.data.toList 0 8 q5.2 (by omega)
  have b7 := Rd.cn_bd s.data.toList 0 8 q6.2 (by omega)
  rw [hq3] at b3
  rw [hq6] at b6
  rw [hq7] at b7
  obtain ⟨b30, b31⟩ := b3
  obtain ⟨b60, b61⟩ := b6
  obtain ⟨b70, b71⟩ := b7
  have HL4 := hide l4
  have Q1 := hide hq1
  have Q2 := hide hq2
  have Q3 := hide hq3
  have Q4 := hide hq4
  have Q5 := hide hq5
  have Q6 := hide hq6
  have Q7 := hide hq7
  have Q8 := hide hq8
  have Q9 := hide hq9
  have Q10 := hide hq10
  clear hq1 hq2 hq3 hq4 hq5 hq6 hq7 hq8 hq9 hq10 l4
  have n1 : w.heap.size + 1 ≠ B := by omega
  have n0 : w.heap.size ≠ B := by omega
  go_enter Tryz.func109, Tryz.ntmps109
  go_wp2_with fail
  refine (next_any s B t _ hs ((hR.alloc _).alloc _)).mono ?_
  rw [unhide Q1]
  rintro e w1 ⟨rfl, hR1, hg1⟩
  have G1 := (((Gr.refl B w).alloc _).alloc _).trans hg1
  have B1 := hg1.own (alloc2_blk w _ _) n1
  have C1 := hg1.own (alloc1_blk w _ _) n0
  have S1 := hg1.size
  simp at S1
  have c0 := blk_cell B1 0
  have f0 := blk_free B1 0
  simp at c0
  go_wp2_with fail
  clear c0 f0
  refine (next_any s B q1.2 _ hs (hR1.set (by simp; omega) _)).mono ?_
  rw [unhide Q2]
  rintro e w2 ⟨rfl, hR2, hg2⟩
  have G2 := (G1.set (.inl (by simp)) _).trans hg2
  have B2 := hg2.own (set_blk (i := 0) B1 (.int .i64 q1.1)) n1
  have C2 := hg2.own (set_other C1 (p := ⟨w.heap.size + 1, 0, none⟩) (by simp) (.int .i64 q1.1)) n0
  simp at B2
  have S2 := G2.size
  have c1 := blk_cell B2 1
  have f1 := blk_free B2 1
  simp at c1
  go_wp2_with fail
  clear c1 f1
  refine (count_any s B 0 4 q2.2 _ hs (hR2.set (by simp; omega) _)).mono ?_
  rw [unhide Q3]
  rintro e w3 ⟨rfl, hR3, hg3⟩
  have G3 := (G2.set (.inl (by simp)) _).trans hg3
  have B3 := hg3.own (set_blk (i := 1) B2 (.int .i64 q2.1)) n1
  have C3 := hg3.own (set_other C2 (p := ⟨w.heap.size + 1, 1, none⟩) (by simp) (.int .i64 q2.1)) n0
  simp at B3
  have S3 := G3.size
  go_wp2_with fail
  refine (types_any s B q3.1 q3.2 _ hs b30 (by omega) hR3).mono ?_
  rw [unhide Q4]
  rintro e w4 ⟨v4, rfl, ho4, hR4, hg4⟩
  have G4 := G3.trans hg4
  have B4 := hg4.own B3 n1
  have C4 := hg4.own C3 n0
  have S4 := G4.size
  obtain ⟨a4, d4, rfl⟩ := own_shape ho4
  have T4 : TysAt w4 w.heap.size (.slice a4 q3.1.toNat d4) q4.1 := by
    unfold TysAt
    rw [unhide HL4]
    exact own_mono ho4 (by omega)
  clear ho4
  have c2 := blk_cell B4 2
  have f2 := blk_free B4 2
  simp at c2
  have T4 := T4.kp (Kp.set (i := 2) B4 (.slice a4 q3.1.toNat d4)) (by decide)
  go_wp2_with fail
  clear c2 f2
  refine (oneType_any s B q4.2 _ hs (hR4.set (by simp; omega) _)).mono ?_
  rw [unhide Q5]
  rintro e w5 ⟨rfl, hR5, hg5⟩
  have G5 := (G4.set (.inl (by simp)) _).trans hg5
  have B5 := hg5.own (set_blk (i := 2) B4 (.slice a4 q3.1.toNat d4)) n1
  have C5 := hg5.own (set_other C4 (p := ⟨w.heap.size + 1, 2, none⟩) (by simp) (.slice a4 q3.1.toNat d4)) n0
  simp at B5
  have S5 := G5.size
  have T4 := (T4).kp (Kp.of_gr (e := none) hg5 hlt) (by decide)
  have c3 := blk_cell B5 3
  have f3 := blk_free B5 3
  simp at c3
  have c4 := blk_cell B5 4
  have f4 := blk_free B5 4
  simp at c4
  have T4 := T4.kp (Kp.set (i := 3) B5 (.int .i64 q5.1.1)) (by decide)
  have T4 := T4.kp (Kp.set (i := 4) (set_blk (i := 3) B5 (.int .i64 q5.1.1)) (.int .i64 q5.1.2)) (by decide)
  go_wp2_with fail
  clear c3 f3 c4 f4
  refine (count_any s B 0 8 q5.2 _ hs ((hR5.set (by simp; omega) _).set (by simp; omega) _)).mono ?_
  rw [unhide Q6]
  rintro e w6 ⟨rfl, hR6, hg6⟩
  have G6 := ((G5.set (.inl (by simp)) _).set (.inl (by simp)) _).trans hg6
  have B6 := hg6.own (set_blk (i := 4) (set_blk (i := 3) B5 (.int .i64 q5.1.1)) (.int .i64 q5.1.2)) n1
  have C6 := hg6.own (set_other (set_other C5 (p := ⟨w.heap.size + 1, 3, none⟩) (by simp) (.int .i64 q5.1.1)) (p := ⟨w.heap.size + 1, 4, none⟩) (by simp) (.int .i64 q5.1.2)) n0
  simp at B6
  have S6 := G6.size
  have T4 := (T4).kp (Kp.of_gr (e := none) hg6 hlt) (by decide)
  have c5 := blk_cell B6 5
  have f5 := blk_free B6 5
  simp at c5
  have T4 := T4.kp (Kp.set (i := 5) B6 (.int .i64 q6.1)) (by decide)
  go_wp2_with fail
  clear c5 f5
  refine (count_any s B 0 8 q6.2 _ hs (hR6.set (by simp; omega) _)).mono ?_
  rw [unhide Q7]
  rintro e w7 ⟨rfl, hR7, hg7⟩
  have G7 := (G6.set (.inl (by simp)) _).trans hg7
  have B7 := hg7.own (set_blk (i := 5) B6 (.int .i64 q6.1)) n1
  have C7 := hg7.own (set_other C6 (p := ⟨w.heap.size + 1, 5, none⟩) (by simp) (.int .i64 q6.1)) n0
  simp at B7
  have S7 := G7.size
  have T4 := (T4).kp (Kp.of_gr (e := none) hg7 hlt) (by decide)
  have c6 := blk_cell B7 6
  have f6 := blk_free B7 6
  simp at c6
  have T4 := T4.kp (Kp.set (i := 6) B7 (.int .i64 q7.1)) (by decide)
  go_wp2_with fail
  clear c6 f6
  refine (code_any s B q7.2 _ hs (hR7.set (by simp; omega) _)).mono ?_
  rw [unhide Q8]
  rintro e w8 ⟨v8, rfl, ho8, hR8, hg8⟩
  have G8 := (G7.set (.inl (by simp)) _).trans hg8
  have B8 := hg8.own (set_blk (i := 6) B7 (.int .i64 q7.1)) n1
  have C8 := hg8.own (set_other C7 (p := ⟨w.heap.size + 1, 6, none⟩) (by simp) (.int .i64 q7.1)) n0
  simp at B8
  have S8 := G8.size
  obtain ⟨a8, d8, rfl⟩ := own_shape ho8
  have T8 := ho8.mono (b' := w.heap.size) (by simp; omega)
  clear ho8
  have T4 := (T4).kp (Kp.of_gr (e := none) hg8 hlt) (by decide)
  have c7 := blk_cell B8 7
  have f7 := blk_free B8 7
  simp at c7
  have T4 := T4.kp (Kp.set (i := 7) B8 (.slice a8 q8.1.length d8)) (by decide)
  have T8 := T8.kp (Kp.set (i := 7) B8 (.slice a8 q8.1.length d8)) (by decide)
  go_wp2_with fail
  clear c7 f7
  refine (handlers_any s B q8.2 _ hs (hR8.set (by simp; omega) _)).mono ?_
  rw [unhide Q9]
  rintro e w9 ⟨v9, rfl, ho9, hR9, hg9⟩
  have G9 := (G8.set (.inl (by simp)) _).trans hg9
  have B9 := hg9.own (set_blk (i := 7) B8 (.slice a8 q8.1.length d8)) n1
  have C9 := hg9.own (set_other C8 (p := ⟨w.heap.size + 1, 7, none⟩) (by simp) (.slice a8 q8.1.length d8)) n0
  simp at B9
  have S9 := G9.size
  obtain ⟨a9, d9, rfl⟩ := own_shape ho9
  have T9 := ho9.mono (b' := w.heap.size) (by simp; omega)
  clear ho9
  have T4 := (T4).kp (Kp.of_gr (e := none) hg9 hlt) (by decide)
  have T8 := (T8).kp (Kp.of_gr (e := none) hg9 hlt) (by decide)
  have c8 := blk_cell B9 8
  have f8 := blk_free B9 8
  simp at c8
  have T4 := T4.kp (Kp.set (i := 8) B9 (.slice a9 q9.1.length d9)) (by decide)
  have T8 := T8.kp (Kp.set (i := 8) B9 (.slice a9 q9.1.length d9)) (by decide)
  have T9 := T9.kp (Kp.set (i := 8) B9 (.slice a9 q9.1.length d9)) (by decide)
  have c5 := blk_cell B9 5
  have c6 := blk_cell B9 6
  simp at c5 c6
  go_wp2_with fail
  clear c8 f8 c5 c6
  refine (maps_any s B q6.1 q7.1 q9.2 _ hs b60 b61 b70 b71 (hR9.set (by simp; omega) _)).mono ?_
  rw [unhide Q10]
  rintro e w10 ⟨v10, l10, rfl, hl10, ho10, hR10, hg10⟩
  have G10 := (G9.set (.inl (by simp)) _).trans hg10
  have B10 := hg10.own (set_blk (i := 8) B9 (.slice a9 q9.1.length d9)) n1
  have C10 := hg10.own (set_other C9 (p := ⟨w.heap.size + 1, 8, none⟩) (by simp) (.slice a9 q9.1.length d9)) n0
  simp at B10
  have S10 := G10.size
  obtain ⟨a10, d10, rfl⟩ := own_shape ho10.1
  have T10 := ho10.mono (b' := w.heap.size) (by simp; omega)
  clear ho10
  have T4 := (T4).kp (Kp.of_gr (e := none) hg10 hlt) (by decide)
  have T8 := (T8).kp (Kp.of_gr (e := none) hg10 hlt) (by decide)
  have T9 := (T9).kp (Kp.of_gr (e := none) hg10 hlt) (by decide)
  have c9 := blk_cell B10 9
  have f9 := blk_free B10 9
  simp at c9
  have c0 := blk_cell B10 0
  have c1 := blk_cell B10 1
  have c2 := blk_cell B10 2
  have c3 := blk_cell B10 3
  have c4 := blk_cell B10 4
  have c5 := blk_cell B10 5
  have c6 := blk_cell B10 6
  have c7 := blk_cell B10 7
  have c8 := blk_cell B10 8
  simp at c0 c1 c2 c3 c4 c5 c6 c7 c8
  have z0 := blk_cell C10 0
  have g0 := blk_free C10 0
  have z1 := blk_cell C10 1
  have g1 := blk_free C10 1
  have z2 := blk_cell C10 2
  have g2 := blk_free C10 2
  have z3 := blk_cell C10 3
  have g3 := blk_free C10 3
  have z4 := blk_cell C10 4
  have g4 := blk_free C10 4
  have z5 := blk_cell C10 5
  have g5 := blk_free C10 5
  have z6 := blk_cell C10 6
  have g6 := blk_free C10 6
  have z7 := blk_cell C10 7
  have g7 := blk_free C10 7
  have z8 := blk_cell C10 8
  have g8 := blk_free C10 8
  have z9 := blk_cell C10 9
  have g9 := blk_free C10 9
  simp at z0 z1 z2 z3 z4 z5 z6 z7 z8 z9
  have K10 := Kp.set (b := w.heap.size) (i := 9) B10 (.slice a10 l10.length d10)
  have T4 := T4.kp K10 (by decide)
  have T8 := T8.kp K10 (by decide)
  have T9 := T9.kp K10 (by decide)
  have T10 := T10.kp K10 (by decide) (by decide)
  go_wp2_with fail
  refine bodyPost_ret (v := .agg #[.int .i64 q1.1, .int .i64 q2.1, .slice a4 q3.1.toNat d4, .int .i64 q5.1.1, .int .i64 q5.1.2, .int .i64 q6.1, .int .i64 q7.1, .slice a8 q8.1.length d8, .slice a9 q9.1.length d9, .slice a10 l10.length d10]) (by simp [results, Tryz.results109, go_sem, z0, z1, z2, z3, z4, z5, z6, z7, z8, z9]) rfl ?_
  refine ⟨_, _, _, _, _, _, _, _, _, _, _, _, rfl, ?_, ?_, ?_⟩
  have E0 := (set_other C10 (p := ⟨w.heap.size + 1, 9, none⟩) (by simp) (.slice a10 l10.length d10))
  have F0 := Kp.set (b := w.heap.size) (i := 0) E0 (.int .i64 q1.1)
  have E1 := set_blk (i := 0) E0 (.int .i64 q1.1)
  have F1 := F0.trans (Kp.set (b := w.heap.size) (i := 1) E1 (.int .i64 q2.1))
  have E2 := set_blk (i := 1) E1 (.int .i64 q2.1)
  have F2 := F1.trans (Kp.set (b := w.heap.size) (i := 2) E2 (.slice a4 q3.1.toNat d4))
  have E3 := set_blk (i := 2) E2 (.slice a4 q3.1.toNat d4)
  have F3 := F2.trans (Kp.set (b := w.heap.size) (i := 3) E3 (.int .i64 q5.1.1))
  have E4 := set_blk (i := 3) E3 (.int .i64 q5.1.1)
  have F4 := F3.trans (Kp.set (b := w.heap.size) (i := 4) E4 (.int .i64 q5.1.2))
  have E5 := set_blk (i := 4) E4 (.int .i64 q5.1.2)
  have F5 := F4.trans (Kp.set (b := w.heap.size) (i := 5) E5 (.int .i64 q6.1))
  have E6 := set_blk (i := 5) E5 (.int .i64 q6.1)
  have F6 := F5.trans (Kp.set (b := w.heap.size) (i := 6) E6 (.int .i64 q7.1))
  have E7 := set_blk (i := 6) E6 (.int .i64 q7.1)
  have F7 := F6.trans (Kp.set (b := w.heap.size) (i := 7) E7 (.slice a8 q8.1.length d8))
  have E8 := set_blk (i := 7) E7 (.slice a8 q8.1.length d8)
  have F8 := F7.trans (Kp.set (b := w.heap.size) (i := 8) E8 (.slice a9 q9.1.length d9))
  have E9 := set_blk (i := 8) E8 (.slice a9 q9.1.length d9)
  have F9 := F8.trans (Kp.set (b := w.heap.size) (i := 9) E9 (.slice a10 l10.length d10))
  · exact ⟨T4.kp F9 (by decide), T8.kp F9 (by decide), T9.kp F9 (by decide), l10, hl10, T10.kp F9 (by decide) (by decide)⟩
  · exact (((((((((((hR10.set (by simp; omega) _).set (by simp; omega) _).set (by simp; omega) _).set (by simp; omega) _).set (by simp; omega) _).set (by simp; omega) _).set (by simp; omega) _).set (by simp; omega) _).set (by simp; omega) _).set (by simp; omega) _).set (by simp; omega) _)
  · exact (((((((((((G10.set (.inl (by simp)) _).set (.inl (by simp)) _).set (.inl (by simp)) _).set (.inl (by simp)) _).set (.inl (by simp)) _).set (.inl (by simp)) _).set (.inl (by simp)) _).set (.inl (by simp)) _).set (.inl (by simp)) _).set (.inl (by simp)) _).set (.inl (by simp)) _)
end Go.Proofs.YteffpdofcgbokaaGreat
