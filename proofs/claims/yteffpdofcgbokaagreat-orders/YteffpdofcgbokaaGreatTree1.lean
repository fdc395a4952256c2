/-
  The walks over package types: over, Below, Has, IsPlain, IsSettled, IsArgument, Fits, meet, Join.
-/
import Derived.Test.YteffpdofcgbokaaGreatBase
import Derived.Test.YteffpdofcgbokaaGreatTPlain
namespace Go.Proofs.YteffpdofcgbokaaGreat
open Go.RowKit
variable {ya : Option Addr} {yn yc : Nat}

/-- the cells of a tree's list -/
def TreeIn (w : World) (g : Nat) (l : List Int) : Prop := g < w.heap.size ∧ ∀ i, i < l.length → w.cell? ⟨g, i, none⟩ = some (.int .i64 (l.getD i 0))
theorem TreeIn.below {w w' : World} {g : Nat} {l : List Int} (h : TreeIn w g l) (hb : Below w.heap.size w w') : TreeIn w' g l :=
  ⟨Nat.lt_of_lt_of_le h.1 hb.size, fun i hi => by rw [hb.cell (p := ⟨g, i, none⟩) h.1]; exact h.2 i hi⟩
theorem TreeIn.alloc {w : World} {g : Nat} {l : List Int} (h : TreeIn w g l) (o : Obj) : TreeIn (w.alloc o) g l := h.below ((Below.refl _ _).alloc (Nat.le_refl _) _)

set_option maxRecDepth 100000 in
set_option maxHeartbeats 1000000 in
theorem over_any (l : List Int) (g cap : Nat) (c : Int) (w : World) (hT : TreeIn w g l) :
    Calls Tryz.prog 180 #[.agg #[.slice (some ⟨g, 0, none⟩) l.length cap, .slice ya yn yc], .int .i64 c] w fun e w' => e = .returned (.int .i64 (Tr.ov l c)) ∧ Below w.heap.size w w' := by
  unfold Tr.ov
  by_cases h1 : c < 0
  · rw [if_pos h1]
    go_enter Tryz.func180, Tryz.ntmps180
    go_wp2
    go_ret
    exact ⟨rfl, (Below.refl _ _).alloc (Nat.le_refl _) _⟩
  · rw [if_neg h1]
    by_cases h2 : (l.length : Int) ≤ c
    · rw [if_pos h2]
      go_enter Tryz.func180, Tryz.ntmps180
      go_wp2
      go_ret
      exact ⟨rfl, (Below.refl _ _).alloc (Nat.le_refl _) _⟩
    · rw [if_neg h2]
      obtain ⟨i, rfl⟩ := Int.eq_ofNat_of_zero_le (show 0 ≤ c by omega)
      have hi : i < l.length := by omega
      have hc := (hT.alloc (.cells #[.slice (some ⟨g, 0, none⟩) l.length cap, .slice ya yn yc] 87)).2 i hi
      have hg := hT.1
      go_enter Tryz.func180, Tryz.ntmps180
      go_wp2
      go_ret
      exact ⟨rfl, (Below.refl _ _).alloc (Nat.le_refl _) _⟩

set_option maxRecDepth 100000 in
set_option maxHeartbeats 1000000 in
theorem has_any (l : List Int) (a : Option Addr) (cap : Nat) (c : Int) (w : World) :
    Calls Tryz.prog 157 #[.agg #[.slice a l.length cap, .slice ya yn yc], .int .i64 c] w fun e w' => e = .returned (.bool (Tr.hasB l c)) ∧ Below w.heap.size w w' := by
  unfold Tr.hasB
  by_cases h1 : 0 ≤ c
  · go_enter Tryz.func157, Tryz.ntmps157
    go_wp2
    go_ret
    exact ⟨by simp [h1], (Below.refl _ _).alloc (Nat.le_refl _) _⟩
  · go_enter Tryz.func157, Tryz.ntmps157
    go_wp2
    go_ret
    exact ⟨by simp; omega, (Below.refl _ _).alloc (Nat.le_refl _) _⟩

theorem upTo_step {l : List Int} {high pos : Int} {n : Nat} (h1 : pos ≠ -1) (h2 : pos ≠ high) : Tr.upTo l high (n + 1) pos = Tr.upTo l high n (Tr.ov l pos) := by
  simp [Tr.upTo, h1, h2]
theorem upTo_hit {l : List Int} {high pos : Int} {n : Nat} (h1 : pos ≠ -1) (h2 : pos = high) : Tr.upTo l high (n + 1) pos = true := by
  subst h2
  simp [Tr.upTo, h1]
theorem upTo_top {l : List Int} {high pos : Int} {n : Nat} (h1 : pos = -1) : Tr.upTo l high n pos = false := by
  cases n <;> simp [Tr.upTo, h1]

set_option maxRecDepth 100000 in
set_option maxHeartbeats 2000000 in
theorem below_any (l : List Int) (g cap : Nat) (low high : Int) (w : World) (hl : l.length ≤ 1000) (hT : TreeIn w g l) :
    Calls Tryz.prog 135 #[.agg #[.slice (some ⟨g, 0, none⟩) l.length cap, .slice ya yn yc], .int .i64 low, .int .i64 high] w fun e w' => e = .returned (.bool (Tr.below l low high)) ∧ Below w.heap.size w w' := by
  unfold Tr.below
  generalize hr : Tr.upTo l high l.length (Tr.ov l low) = r
  have HR := hide hr
  clear hr
  have hg := hT.1
  have hT0 := hT.alloc (.cells #[.slice (some ⟨g, 0, none⟩) l.length cap, .slice ya yn yc] 87)
  have hb0 : Below w.heap.size w (w.alloc (.cells #[.slice (some ⟨g, 0, none⟩) l.length cap, .slice ya yn yc] 87)) := (Below.refl _ _).alloc (Nat.le_refl _) _
  have hx0 := alloc_blk w (.cells #[.slice (some ⟨g, 0, none⟩) l.length cap, .slice ya yn yc] 87)
  go_enter Tryz.func135, Tryz.ntmps135
  go_wp2_with fail
  refine (over_any l g cap low _ hT0).mono ?_
  rintro e w1 ⟨rfl, hb1⟩
  have hB1 : Below w.heap.size w w1 := hb0.trans (hb1.mono (by simp))
  have hx1 : w1.heap[w.heap.size]? = some (.cells #[.slice (some ⟨g, 0, none⟩) l.length cap, .slice ya yn yc] 87 (0, 0)) := (hb1.block _ (by simp)).trans hx0
  clear hb0 hb1 hx0 hT0
  go_wp2
  go_loopw [7, 8] (fun p i wr => ∃ (k : Nat) (q : Int), k ≤ l.length ∧ i = .int .i64 k ∧ p = .int .i64 q ∧ Hid (Tr.upTo l high (l.length - k) q = r) ∧ Below w.heap.size w wr ∧
      wr.heap[w.heap.size]? = some (.cells #[.slice (some ⟨g, 0, none⟩) l.length cap, .slice ya yn yc] 87 (0, 0)))
    (fun _ i _ => l.length - (intOf i).toNat)
  case atStart => exact ⟨0, _, by omega, rfl, rfl, HR, hB1, hx1⟩
  case round =>
    clear hB1 hx1 HR
    obtain ⟨k, q, hk, rfl, rfl, HR, hB, hx⟩ := hrel
    have c0 := blk_cell hx 0
    have c1 := blk_cell hx 1
    simp at c0 c1
    by_cases hkn : k < l.length
    · by_cases h1 : q = -1
      · have h1' : (q != -1) = false := by simp [h1]
        have hf : r = false := by rw [← unhide HR]; exact upTo_top h1
        have HF := hide hf
        have H1 := hide h1
        clear hf h1
        go_wp2
        go_ret
        exact ⟨by rw [unhide HF]; rfl, hB⟩
      · have h1' : (q != -1) = true := by simp [h1]
        by_cases h2 : q = high
        · have h2' : (q == high) = true := by simp [h2]
          have hf : r = true := by rw [← unhide HR, show l.length - k = (l.length - k - 1) + 1 by omega]; exact upTo_hit h1 h2
          have HF := hide hf
          have H1 := hide h1
          have H2 := hide h2
          clear hf h1 h2
          go_wp2
          go_ret
          exact ⟨by rw [unhide HF]; rfl, hB⟩
        · have h2' : (q == high) = false := by simp [h2]
          have HF : Hid (Tr.upTo l high (l.length - (k + 1)) (Tr.ov l q) = r) := by
            unfold Hid
            rw [← unhide HR, show l.length - k = (l.length - (k + 1)) + 1 by omega, upTo_step h1 h2]
          have H1 := hide h1
          have H2 := hide h2
          clear h1 h2
          have hTr := hT.below hB
          go_wp2_with fail
          refine (over_any l g cap q _ hTr).mono ?_
          rintro e w2 ⟨rfl, hb2⟩
          have hB2 : Below w.heap.size w w2 := hB.trans (hb2.mono hB.size)
          have hx2 := (hb2.block _ (lt_of_block hx)).trans hx
          clear hb2 hB hx hTr
          go_wp2
          go_roundw
          case rel => exact ⟨k + 1, _, by omega, by go_num, rfl, HF, hB2, hx2⟩
          case measure => simp [intOf]; omega
    · have hf : r = false := by rw [← unhide HR, show l.length - k = 0 by omega]; rfl
      have HF := hide hf
      clear hf
      go_wp2
      go_ret
      exact ⟨by rw [unhide HF]; rfl, hB⟩
end Go.Proofs.YteffpdofcgbokaaGreat
