/-
  The walks over the reader's methods expect, count and oneType.
-/
import Derived.Test.YteffpdofcgbokaaGreatNext
namespace Go.Proofs.YteffpdofcgbokaaGreat
open Go.RowKit

set_option maxRecDepth 100000 in
set_option maxHeartbeats 400000 in
theorem expect_any (s : ByteArray) (B : Nat) (b : Int) (t : Rd.St) (w : World) (hs : s.size ≤ maxLen) (hR : RdAt w B s t) :
    Calls Tryz.prog 106 #[.pointer (some ⟨B, 0, none⟩), .int .i64 b] w fun e w' => e = .returned (.tuple #[]) ∧ RdAt w' B s (Rd.ex s.data.toList b t) ∧ Gr B w w' := by
  unfold Rd.ex
  generalize hr : Rd.nx s.data.toList t = r
  have Hr := hide hr
  clear hr
  by_cases hb : r.1 = b
  · rw [if_pos hb]
    have hb1 : (r.1 != b) = false := by simp [hb]
    have Hb := hide hb
    clear hb
    go_enter Tryz.func106, Tryz.ntmps106
    go_wp2_with (go_at_call 149; refine (next_any s B t _ hs hR).mono ?_; rw [unhide Hr]; rintro e w1 ⟨rfl, hR1, hg1⟩)
    go_end0
    exact ⟨rfl, hR1, hg1⟩
  · rw [if_neg hb]
    have hb1 : (r.1 != b) = true := by simp [hb]
    have Hb := hide hb
    clear hb
    go_enter Tryz.func106, Tryz.ntmps106
    go_wp2_with (go_at_call 149; refine (next_any s B t _ hs hR).mono ?_; rw [unhide Hr]; rintro e w1 ⟨rfl, hR1, hg1⟩; obtain ⟨c0, c1, c2, f0, f1, f2⟩ := hR1.cells)
    go_end0
    exact ⟨rfl, hR1.bad _, hg1.set (.inr rfl) _⟩

set_option maxRecDepth 100000 in
set_option maxHeartbeats 400000 in
theorem count_any (s : ByteArray) (B : Nat) (least most : Int) (t : Rd.St) (w : World) (hs : s.size ≤ maxLen) (hR : RdAt w B s t) :
    Calls Tryz.prog 107 #[.pointer (some ⟨B, 0, none⟩), .int .i64 least, .int .i64 most] w fun e w' => e = .returned (.int .i64 (Rd.cn s.data.toList least most t).1) ∧ RdAt w' B s (Rd.cn s.data.toList least most t).2 ∧ Gr B w w' := by
  unfold Rd.cn
  generalize hr : Rd.nx s.data.toList t = r
  have Hr := hide hr
  clear hr
  by_cases h1 : r.1 < least
  · rw [if_pos h1]
    go_enter Tryz.func107, Tryz.ntmps107
    go_wp2_with (go_at_call 149; refine (next_any s B t _ hs hR).mono ?_; rw [unhide Hr]; rintro e w1 ⟨rfl, hR1, hg1⟩; obtain ⟨c0, c1, c2, f0, f1, f2⟩ := hR1.cells)
    go_ret
    exact ⟨rfl, hR1.bad _, hg1.set (.inr rfl) _⟩
  · rw [if_neg h1]
    by_cases h2 : most < r.1
    · rw [if_pos h2]
      go_enter Tryz.func107, Tryz.ntmps107
      go_wp2_with (go_at_call 149; refine (next_any s B t _ hs hR).mono ?_; rw [unhide Hr]; rintro e w1 ⟨rfl, hR1, hg1⟩; obtain ⟨c0, c1, c2, f0, f1, f2⟩ := hR1.cells)
      go_ret
      exact ⟨rfl, hR1.bad _, hg1.set (.inr rfl) _⟩
    · rw [if_neg h2]
      go_enter Tryz.func107, Tryz.ntmps107
      go_wp2_with (go_at_call 149; refine (next_any s B t _ hs hR).mono ?_; rw [unhide Hr]; rintro e w1 ⟨rfl, hR1, hg1⟩)
      go_ret
      exact ⟨rfl, hR1, hg1⟩

set_option maxRecDepth 100000 in
set_option maxHeartbeats 400000 in
theorem oneType_any (s : ByteArray) (B : Nat) (t : Rd.St) (w : World) (hs : s.size ≤ maxLen) (hR : RdAt w B s t) :
    Calls Tryz.prog 151 #[.pointer (some ⟨B, 0, none⟩)] w fun e w' => e = .returned (.agg #[.int .i64 (Rd.ty s.data.toList t).1.1, .int .i64 (Rd.ty s.data.toList t).1.2]) ∧ RdAt w' B s (Rd.ty s.data.toList t).2 ∧ Gr B w w' := by
  unfold Rd.ty
  have hlt := hR.lt
  generalize hr1 : Rd.nx s.data.toList t = r1
  generalize hr2 : Rd.nx s.data.toList r1.2 = r2
  have H1 := hide hr1
  have H2 := hide hr2
  clear hr1 hr2
  go_enter Tryz.func151, Tryz.ntmps151
  go_wp2_with fail
  refine (next_any s B t _ hs (hR.alloc _)).mono ?_
  rw [unhide H1]
  rintro e w1 ⟨rfl, hR1, hg1⟩
  go_wp2_with fail
  refine (next_any s B r1.2 _ hs hR1).mono ?_
  rw [unhide H2]
  rintro e w2 ⟨rfl, hR2, hg2⟩
  have hb := hg2.own (hg1.own (alloc_blk w _) (by omega)) (by omega)
  have c0 := blk_cell hb 0
  have c1 := blk_cell hb 1
  have f0 := blk_free hb 0
  have f1 := blk_free hb 1
  simp only [List.getElem?_toArray, List.getElem?_cons_zero, List.getElem?_cons_succ] at c0 c1
  go_wp2_with fail
  refine bodyPost_ret (v := .agg #[.int .i64 r1.1, .int .i64 r2.1]) (by simp [results, Tryz.results151, go_sem, c0, c1]) rfl ⟨rfl, (hR2.set (by simp; omega) _).set (by simp; omega) _, ?_⟩
  exact ((((Gr.refl _ _).alloc _).trans (hg1.trans hg2)).set (.inl (by simp)) _).set (.inl (by simp)) _
end Go.Proofs.YteffpdofcgbokaaGreat
