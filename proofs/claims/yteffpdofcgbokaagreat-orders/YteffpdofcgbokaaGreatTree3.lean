/-
  The walks over package types: meet and Join.
-/
import Derived.Test.YteffpdofcgbokaaGreatTree2
namespace Go.Proofs.YteffpdofcgbokaaGreat
open Go.RowKit
variable {ya : Option Addr} {yn yc : Nat}

def Tr.within (l : List Int) (a b : Int) : Bool := (a == b) || Tr.below l a b
theorem meetTo_low {l : List Int} {a b : Int} {n : Nat} (h : Tr.within l b a = true) : Tr.meetTo l b (n + 1) a = a := by
  unfold Tr.within at h
  by_cases h1 : a = b
  · simp [Tr.meetTo, h1]
  · have h2 : Tr.below l b a = true := by
      have h3 : (b == a) = false := by simp; omega
      rw [h3] at h; simpa using h
    simp [Tr.meetTo, h2]
theorem meetTo_up {l : List Int} {a b : Int} {n : Nat} (h : Tr.within l b a = false) : Tr.meetTo l b (n + 1) a = Tr.meetTo l b n (Tr.ov l a) := by
  unfold Tr.within at h
  simp only [Bool.or_eq_false_iff, beq_eq_false_iff_ne, ne_eq] at h
  have h1 : ¬ a = b := fun e => h.1 e.symm
  simp [Tr.meetTo, h1, h.2]

set_option maxRecDepth 100000 in
set_option maxHeartbeats 2000000 in
theorem within_any (l : List Int) (g cap : Nat) (a b : Int) (w : World) (hl : l.length ≤ 1000) (hT : TreeIn w g l) :
    Calls Tryz.prog 181 #[.agg #[.slice (some ⟨g, 0, none⟩) l.length cap, .slice ya yn yc], .int .i64 a, .int .i64 b] w fun e w' => e = .returned (.bool (Tr.within l a b)) ∧ Below w.heap.size w w' := by
  have hB1 : Below w.heap.size w (w.alloc (.cells #[.slice (some ⟨g, 0, none⟩) l.length cap, .slice ya yn yc] 87)) := (Below.refl _ _).alloc (Nat.le_refl _) _
  unfold Tr.within
  by_cases h : a = b
  · subst h
    rw [beq_self_eq_true, Bool.true_or]
    have h' : (a == a) = true := by simp
    go_enter Tryz.func181, Tryz.ntmps181
    go_wp2
    go_ret
    exact ⟨rfl, hB1⟩
  · have h' : (a == b) = false := by simp [h]
    rw [h', Bool.false_or]
    generalize hlow : Tr.below l a b = r
    have HL := hide hlow
    clear h hlow
    go_enter Tryz.func181, Tryz.ntmps181
    go_wp2_with fail
    refine (below_any l g cap a b _ hl (hT.below hB1)).mono ?_
    rw [unhide HL]
    rintro e w2 ⟨rfl, hb2⟩
    go_wp2
    go_ret
    exact ⟨rfl, hB1.trans (hb2.mono (by simp))⟩

set_option maxRecDepth 100000 in
set_option maxHeartbeats 2000000 in
theorem meet_any (l : List Int) (g cap : Nat) (a b : Int) (w : World) (hl : l.length ≤ 1000) (hT : TreeIn w g l) :
    Calls Tryz.prog 136 #[.agg #[.slice (some ⟨g, 0, none⟩) l.length cap, .slice ya yn yc], .int .i64 a, .int .i64 b] w fun e w' => e = .returned (.int .i64 (Tr.meet l a b)) ∧ Below w.heap.size w w' := by
  unfold Tr.meet
  generalize hr : Tr.meetTo l b l.length a = r
  have HR := hide hr
  clear hr
  have hg := hT.1
  have hB1 : Below w.heap.size w (w.alloc (.cells #[.slice (some ⟨g, 0, none⟩) l.length cap, .slice ya yn yc] 87)) := (Below.refl _ _).alloc (Nat.le_refl _) _
  have hx1 := alloc_blk w (.cells #[.slice (some ⟨g, 0, none⟩) l.length cap, .slice ya yn yc] 87)
  go_enter Tryz.func136, Tryz.ntmps136
  go_wp2
  go_loopw [1, 7] (fun p i wr => ∃ (k : Nat) (q : Int), k ≤ l.length ∧ i = .int .i64 k ∧ p = .int .i64 q ∧ Hid (Tr.meetTo l b (l.length - k) q = r) ∧ Below w.heap.size w wr ∧
      wr.heap[w.heap.size]? = some (.cells #[.slice (some ⟨g, 0, none⟩) l.length cap, .slice ya yn yc] 87 (0, 0)))
    (fun _ i _ => l.length - (intOf i).toNat)
  case atStart => exact ⟨0, _, by omega, rfl, rfl, HR, hB1, hx1⟩
  case round =>
    clear hB1 hx1 HR
    obtain ⟨k, q, hk, rfl, rfl, HR, hB, hx⟩ := hrel
    have c0 := blk_cell hx 0
    have c1 := blk_cell hx 1
    simp at c0 c1
    have hTr := hT.below hB
    have hBs := hB.size
    by_cases hkn : k < l.length
    · cases hlow : Tr.within l b q with
      | true =>
        have hf : r = q := by rw [← unhide HR, show l.length - k = (l.length - k - 1) + 1 by omega]; exact meetTo_low hlow
        have HF := hide hf
        have HL := hide hlow
        clear hf hlow
        go_wp2_with fail
        refine (within_any l g cap b q _ hl hTr).mono ?_
        rw [unhide HL]
        rintro e w2 ⟨rfl, hb2⟩
        go_wp2
        go_ret
        exact ⟨by rw [unhide HF]; rfl, hB.trans (hb2.mono hBs)⟩
      | false =>
        have HF : Hid (Tr.meetTo l b (l.length - (k + 1)) (Tr.ov l q) = r) := by
          unfold Hid
          rw [← unhide HR, show l.length - k = (l.length - (k + 1)) + 1 by omega, meetTo_up hlow]
        have HL := hide hlow
        clear hlow
        go_wp2_with fail
        refine (within_any l g cap b q _ hl hTr).mono ?_
        rw [unhide HL]
        rintro e w2 ⟨rfl, hb2⟩
        have hB2 := hB.trans (hb2.mono hBs)
        have hx2 := (hb2.block _ (lt_of_block hx)).trans hx
        have hT2 := hT.below hB2
        have c2 := blk_cell hx2 0
        have c3 := blk_cell hx2 1
        simp at c2 c3
        clear hb2 hB hx hTr c0 c1
        go_wp2_with fail
        refine (over_any l g cap q _ hT2).mono ?_
        rintro e w3 ⟨rfl, hb3⟩
        have hB3 := hB2.trans (hb3.mono hB2.size)
        have hx3 := (hb3.block _ (lt_of_block hx2)).trans hx2
        clear hb3 hB2 hx2 hT2 c2 c3
        go_wp2
        go_roundw
        case rel => exact ⟨k + 1, _, by omega, by go_num, rfl, HF, hB3, hx3⟩
        case measure => simp [intOf]; omega
    · have hf : r = 0 := by rw [← unhide HR, show l.length - k = 0 by omega]; rfl
      have HF := hide hf
      clear hf
      go_wp2
      go_ret
      exact ⟨by rw [unhide HF]; rfl, hB⟩

theorem below4 (w : World) (o o' o'' o3 : Obj) : Below w.heap.size w ((((w.alloc o).alloc o').alloc o'').alloc o3) := (below3 w o o' o'').alloc (by simp; omega) _

theorem blks4 (w : World) (o0 o1 o2 o3 : Obj) : ((((w.alloc o0).alloc o1).alloc o2).alloc o3).heap[w.heap.size]? = some o0 ∧ ((((w.alloc o0).alloc o1).alloc o2).alloc o3).heap[w.heap.size + 1]? = some o1 ∧
    ((((w.alloc o0).alloc o1).alloc o2).alloc o3).heap[w.heap.size + 1 + 1]? = some o2 ∧ ((((w.alloc o0).alloc o1).alloc o2).alloc o3).heap[w.heap.size + 1 + 1 + 1]? = some o3 := by
  refine ⟨?_, ?_, ?_, ?_⟩
  · rw [Below.heap_alloc _ _ _ (by first | (simp; done) | (simp; omega)), Below.heap_alloc _ _ _ (by first | (simp; done) | (simp; omega)), Below.heap_alloc _ _ _ (by first | (simp; done) | (simp; omega))]; exact alloc_blk w o0
  · rw [Below.heap_alloc _ _ _ (by first | (simp; done) | (simp; omega)), Below.heap_alloc _ _ _ (by first | (simp; done) | (simp; omega))]; simpa using alloc_blk (w.alloc o0) o1
  · rw [Below.heap_alloc _ _ _ (by first | (simp; done) | (simp; omega))]; simpa using alloc_blk ((w.alloc o0).alloc o1) o2
  · simpa using alloc_blk (((w.alloc o0).alloc o1).alloc o2) o3
/-- a block stays behind a call that writes no old block -/
theorem stay {w w' : World} {k : Nat} {o : Obj} (hb : Below w.heap.size w w') (h : w.heap[k]? = some o) : w'.heap[k]? = some o := (hb.block k (lt_of_block h)).trans h

set_option maxRecDepth 100000 in
set_option maxHeartbeats 2000000 in
theorem tjoin_any (l : List Int) (g cap : Nat) (k n k' n' : Int) (w : World) (hl : l.length ≤ 1000) (hT : TreeIn w g l) :
    Calls Tryz.prog 95 #[.agg #[.slice (some ⟨g, 0, none⟩) l.length cap, .slice ya yn yc], .agg #[.int .i64 k, .int .i64 n], .agg #[.int .i64 k', .int .i64 n']] w fun e w' =>
      e = .returned (.agg #[.int .i64 (Tr.joinT l (k, n) (k', n')).1, .int .i64 (Tr.joinT l (k, n) (k', n')).2]) ∧ Below w.heap.size w w' := by
  unfold Tr.joinT
  dsimp only
  cases h1 : Tr.fitsB l k n k' n' with
  | true =>
    rw [if_pos rfl]
    have H1 := hide h1
    clear h1
    go_enter Tryz.func95, Tryz.ntmps95
    go_wp2_with fail
    refine (tfits_any l g cap _ _ _ _ _ hl (hT.below (below4 _ _ _ _ _))).mono ?_
    rw [unhide H1]
    rintro e w1 ⟨rfl, hb1⟩
    have C1 := stay hb1 (blks4 w _ _ _ _).2.1
    have C2 := stay hb1 (blks4 w _ _ _ _).2.2.1
    have C3 := stay hb1 (blks4 w _ _ _ _).2.2.2
    have hB1 := (below4 w _ _ _ _).trans (hb1.mono (by simp; omega))
    have a0 := blk_cell C1 0
    have a1 := blk_cell C1 1
    have b0 := blk_cell C2 0
    have b1 := blk_cell C2 1
    have r0 := blk_cell C3 0
    have r1 := blk_cell C3 1
    have q0 := blk_free C3 0
    have q1 := blk_free C3 1
    simp at a0 a1 b0 b1 r0 r1
    go_wp2_with fail
    refine bodyPost_ret (v := .agg #[.int .i64 k', .int .i64 n']) (by simp [results, Tryz.results95, go_sem, r0, r1]) rfl ?_
    exact ⟨rfl, (hB1.setCell (by simp; omega) _).setCell (by simp; omega) _⟩
  | false =>
    rw [if_neg (by simp)]
    have H1 := hide h1
    clear h1
    cases h2 : Tr.fitsB l k' n' k n with
    | true =>
      rw [if_pos rfl]
      have H2 := hide h2
      clear h2
      go_enter Tryz.func95, Tryz.ntmps95
      go_wp2_with fail
      refine (tfits_any l g cap _ _ _ _ _ hl (hT.below (below4 _ _ _ _ _))).mono ?_
      rw [unhide H1]
      rintro e w1 ⟨rfl, hb1⟩
      have C1 := stay hb1 (blks4 w _ _ _ _).2.1
      have C2 := stay hb1 (blks4 w _ _ _ _).2.2.1
      have C3 := stay hb1 (blks4 w _ _ _ _).2.2.2
      have hB1 := (below4 w _ _ _ _).trans (hb1.mono (by simp; omega))
      have a0 := blk_cell C1 0
      have a1 := blk_cell C1 1
      have b0 := blk_cell C2 0
      have b1 := blk_cell C2 1
      have r0 := blk_cell C3 0
      have r1 := blk_cell C3 1
      have q0 := blk_free C3 0
      have q1 := blk_free C3 1
      simp at a0 a1 b0 b1 r0 r1
      have C0 := stay hb1 (blks4 w _ _ _ _).1
      have t0 := blk_cell C0 0
      have t9 := blk_cell C0 1
      simp at t0 t9
      go_wp2_with fail
      clear a0 a1 b0 b1 r0 r1 q0 q1 t0 t9
      refine (tfits_any l g cap _ _ _ _ _ hl (hT.below hB1)).mono ?_
      rw [unhide H2]
      rintro e w2 ⟨rfl, hb2⟩
      have hB2 := hB1.trans (hb2.mono hB1.size)
      have D0 := stay hb2 C0
      have D1 := stay hb2 C1
      have D2 := stay hb2 C2
      have D3 := stay hb2 C3
      have a0 := blk_cell D1 0
      have a1 := blk_cell D1 1
      have b0 := blk_cell D2 0
      have b1 := blk_cell D2 1
      have r0 := blk_cell D3 0
      have r1 := blk_cell D3 1
      have q0 := blk_free D3 0
      have q1 := blk_free D3 1
      have t0 := blk_cell D0 0
      have t9 := blk_cell D0 1
      simp at a0 a1 b0 b1 r0 r1 t0 t9
      clear C0 C1 C2 C3
      go_wp2_with fail
      refine bodyPost_ret (v := .agg #[.int .i64 k, .int .i64 n]) (by simp [results, Tryz.results95, go_sem, r0, r1]) rfl ?_
      exact ⟨rfl, (hB2.setCell (by simp; omega) _).setCell (by simp; omega) _⟩
    | false =>
      rw [if_neg (by simp)]
      have H2 := hide h2
      clear h2
      by_cases h3 : k = 3
      · rw [if_neg (by omega)]
        subst h3
        by_cases h4 : k' = 3
        · rw [if_neg (by omega)]
          subst h4
          go_enter Tryz.func95, Tryz.ntmps95
          go_wp2_with fail
          refine (tfits_any l g cap _ _ _ _ _ hl (hT.below (below4 _ _ _ _ _))).mono ?_
          rw [unhide H1]
          rintro e w1 ⟨rfl, hb1⟩
          have C1 := stay hb1 (blks4 w _ _ _ _).2.1
          have C2 := stay hb1 (blks4 w _ _ _ _).2.2.1
          have C3 := stay hb1 (blks4 w _ _ _ _).2.2.2
          have hB1 := (below4 w _ _ _ _).trans (hb1.mono (by simp; omega))
          have a0 := blk_cell C1 0
          have a1 := blk_cell C1 1
          have b0 := blk_cell C2 0
          have b1 := blk_cell C2 1
          have r0 := blk_cell C3 0
          have r1 := blk_cell C3 1
          have q0 := blk_free C3 0
          have q1 := blk_free C3 1
          simp at a0 a1 b0 b1 r0 r1
          have C0 := stay hb1 (blks4 w _ _ _ _).1
          have t0 := blk_cell C0 0
          have t9 := blk_cell C0 1
          simp at t0 t9
          go_wp2_with fail
          clear a0 a1 b0 b1 r0 r1 q0 q1 t0 t9
          refine (tfits_any l g cap _ _ _ _ _ hl (hT.below hB1)).mono ?_
          rw [unhide H2]
          rintro e w2 ⟨rfl, hb2⟩
          have hB2 := hB1.trans (hb2.mono hB1.size)
          have D0 := stay hb2 C0
          have D1 := stay hb2 C1
          have D2 := stay hb2 C2
          have D3 := stay hb2 C3
          have a0 := blk_cell D1 0
          have a1 := blk_cell D1 1
          have b0 := blk_cell D2 0
          have b1 := blk_cell D2 1
          have r0 := blk_cell D3 0
          have r1 := blk_cell D3 1
          have q0 := blk_free D3 0
          have q1 := blk_free D3 1
          have t0 := blk_cell D0 0
          have t9 := blk_cell D0 1
          simp at a0 a1 b0 b1 r0 r1 t0 t9
          clear C0 C1 C2 C3
          go_wp2_with fail
          clear a0 a1 b0 b1 r0 r1 q0 q1 t0 t9
          refine (meet_any l g cap n n' _ hl (hT.below hB2)).mono ?_
          rintro e w3 ⟨rfl, hb3⟩
          have hB3 := hB2.trans (hb3.mono hB2.size)
          have E3 := stay hb3 D3
          have r0 := blk_cell E3 0
          have r1 := blk_cell E3 1
          have q0 := blk_free E3 0
          have q1 := blk_free E3 1
          simp at r0 r1
          go_wp2_with fail
          refine bodyPost_ret (v := .agg #[.int .i64 3, .int .i64 (Tr.meet l n n')]) (by simp [results, Tryz.results95, go_sem, r0, r1]) rfl ?_
          exact ⟨rfl, (hB3.setCell (by simp; omega) _).setCell (by simp; omega) _⟩
        · rw [if_pos h4]
          have h4' : (k' != 3) = true := by simp [h4]
          clear h4
          go_enter Tryz.func95, Tryz.ntmps95
          go_wp2_with fail
          refine (tfits_any l g cap _ _ _ _ _ hl (hT.below (below4 _ _ _ _ _))).mono ?_
          rw [unhide H1]
          rintro e w1 ⟨rfl, hb1⟩
          have C1 := stay hb1 (blks4 w _ _ _ _).2.1
          have C2 := stay hb1 (blks4 w _ _ _ _).2.2.1
          have C3 := stay hb1 (blks4 w _ _ _ _).2.2.2
          have hB1 := (below4 w _ _ _ _).trans (hb1.mono (by simp; omega))
          have a0 := blk_cell C1 0
          have a1 := blk_cell C1 1
          have b0 := blk_cell C2 0
          have b1 := blk_cell C2 1
          have r0 := blk_cell C3 0
          have r1 := blk_cell C3 1
          have q0 := blk_free C3 0
          have q1 := blk_free C3 1
          simp at a0 a1 b0 b1 r0 r1
          have C0 := stay hb1 (blks4 w _ _ _ _).1
          have t0 := blk_cell C0 0
          have t9 := blk_cell C0 1
          simp at t0 t9
          go_wp2_with fail
          clear a0 a1 b0 b1 r0 r1 q0 q1 t0 t9
          refine (tfits_any l g cap _ _ _ _ _ hl (hT.below hB1)).mono ?_
          rw [unhide H2]
          rintro e w2 ⟨rfl, hb2⟩
          have hB2 := hB1.trans (hb2.mono hB1.size)
          have D0 := stay hb2 C0
          have D1 := stay hb2 C1
          have D2 := stay hb2 C2
          have D3 := stay hb2 C3
          have a0 := blk_cell D1 0
          have a1 := blk_cell D1 1
          have b0 := blk_cell D2 0
          have b1 := blk_cell D2 1
          have r0 := blk_cell D3 0
          have r1 := blk_cell D3 1
          have q0 := blk_free D3 0
          have q1 := blk_free D3 1
          have t0 := blk_cell D0 0
          have t9 := blk_cell D0 1
          simp at a0 a1 b0 b1 r0 r1 t0 t9
          clear C0 C1 C2 C3
          go_wp2_with fail
          refine bodyPost_ret (v := .agg #[.int .i64 0, .int .i64 0]) (by simp [results, Tryz.results95, go_sem, r0, r1]) rfl ?_
          exact ⟨rfl, (hB2.setCell (by simp; omega) _).setCell (by simp; omega) _⟩
      · rw [if_pos h3]
        have h3' : (k != 3) = true := by simp [h3]
        clear h3
        go_enter Tryz.func95, Tryz.ntmps95
        go_wp2_with fail
        refine (tfits_any l g cap _ _ _ _ _ hl (hT.below (below4 _ _ _ _ _))).mono ?_
        rw [unhide H1]
        rintro e w1 ⟨rfl, hb1⟩
        have C1 := stay hb1 (blks4 w _ _ _ _).2.1
        have C2 := stay hb1 (blks4 w _ _ _ _).2.2.1
        have C3 := stay hb1 (blks4 w _ _ _ _).2.2.2
        have hB1 := (below4 w _ _ _ _).trans (hb1.mono (by simp; omega))
        have a0 := blk_cell C1 0
        have a1 := blk_cell C1 1
        have b0 := blk_cell C2 0
        have b1 := blk_cell C2 1
        have r0 := blk_cell C3 0
        have r1 := blk_cell C3 1
        have q0 := blk_free C3 0
        have q1 := blk_free C3 1
        simp at a0 a1 b0 b1 r0 r1
        have C0 := stay hb1 (blks4 w _ _ _ _).1
        have t0 := blk_cell C0 0
        have t9 := blk_cell C0 1
        simp at t0 t9
        go_wp2_with fail
        clear a0 a1 b0 b1 r0 r1 q0 q1 t0 t9
        refine (tfits_any l g cap _ _ _ _ _ hl (hT.below hB1)).mono ?_
        rw [unhide H2]
        rintro e w2 ⟨rfl, hb2⟩
        have hB2 := hB1.trans (hb2.mono hB1.size)
        have D0 := stay hb2 C0
        have D1 := stay hb2 C1
        have D2 := stay hb2 C2
        have D3 := stay hb2 C3
        have a0 := blk_cell D1 0
        have a1 := blk_cell D1 1
        have b0 := blk_cell D2 0
        have b1 := blk_cell D2 1
        have r0 := blk_cell D3 0
        have r1 := blk_cell D3 1
        have q0 := blk_free D3 0
        have q1 := blk_free D3 1
        have t0 := blk_cell D0 0
        have t9 := blk_cell D0 1
        simp at a0 a1 b0 b1 r0 r1 t0 t9
        clear C0 C1 C2 C3
        go_wp2_with fail
        refine bodyPost_ret (v := .agg #[.int .i64 0, .int .i64 0]) (by simp [results, Tryz.results95, go_sem, r0, r1]) rfl ?_
        exact ⟨rfl, (hB2.setCell (by simp; omega) _).setCell (by simp; omega) _⟩
end Go.Proofs.YteffpdofcgbokaaGreat
