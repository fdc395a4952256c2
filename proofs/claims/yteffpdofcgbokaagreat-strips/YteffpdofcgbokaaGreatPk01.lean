/-
  The walks over package types: over, Below, Has, IsPlain, IsSettled, IsArgument, Fits, meet, Join.
-/
import Derived.Test.YteffpdofcgbokaaGreatPk00

namespace Go.Proofs.YteffpdofcgbokaaGreat
open Go.RowKit
variable {ya : Option Addr} {yn yc : Nat}

/-- the cells of a tree's list -/
def TreeIn (w : World) (g : Nat) (l : List Int) : Prop := g < w.heap.size ∧ ∀ i, i < l.length → w.cell? ⟨g, i, none⟩ = some (.int .i64 (l.getD i 0))
theorem TreeIn.below {w w' : World} {g : Nat} {l : List Int} (h : TreeIn w g l) (hb : Below w.heap.size w w') : TreeIn w' g l :=
  ⟨Nat.lt_of_lt_of_le h.1 hb.size, fun i hi => by rw [hb.cell (p := ⟨g, i, none⟩) h.1]; exact h.2 i hi⟩
theorem TreeIn.alloc {w : World} {g : Nat} {l : List Int} (h : TreeIn w g l) (o : Obj) : TreeIn (w.alloc o) g l := h.below ((Below.refl _ _).alloc (Nat.le_refl _) _)

set_option maxRecDepth 100000 in
set_option maxHeartbeats 1000000 in
theorem over_any (l : List Int) (g cap : Nat) (c : Int) (w : World) (hT : TreeIn w g l) :
    Calls Tryz.prog 180 #[.agg #[.slice (some ⟨g, 0, none⟩) l.length cap, .slice ya yn yc], .int .i64 c] w fun e w' => e = .returned (.int .i64 (Tr.ov l c)) ∧ Below w.heap.size w w' := by
  unfold Tr.ov
  by_cases h1 : c < 0
  · rw [if_pos h1]
    go_enter Tryz.func180, Tryz.ntmps180
    go_wp2
    go_ret
    exact ⟨rfl, (Below.refl _ _).alloc (Nat.le_refl _) _⟩
  · rw [if_neg h1]
    by_cases h2 : (l.length : Int) ≤ c
    · rw [if_pos h2]
      go_enter Tryz.func180, Tryz.ntmps180
      go_wp2
      go_ret
      exact ⟨rfl, (Below.refl _ _).alloc (Nat.le_refl _) _⟩
    · rw [if_neg h2]
      obtain ⟨i, rfl⟩ := Int.eq_ofNat_of_zero_le (show 0 ≤ c by omega)
      have hi : i < l.length := by omega
      have hc := (hT.alloc (.cells #[.slice (some ⟨g, 0, none⟩) l.length cap, .slice ya yn yc] 87)).2 i hi
      have hg := hT.1
      go_enter Tryz.func180, Tryz.ntmps180
      go_wp2
      go_ret
      exact ⟨rfl, (Below.refl _ _).alloc (Nat.le_refl _) _⟩

set_option maxRecDepth 100000 in
set_option maxHeartbeats 1000000 in
theorem has_any (l : List Int) (a : Option Addr) (cap : Nat) (c : Int) (w : World) :
    Calls Tryz.prog 157 #[.agg #[.slice a l.length cap, .slice ya yn yc], .int .i64 c] w fun e w' => e = .returned (.bool (Tr.hasB l c)) ∧ Below w.heap.size w w' := by
  unfold Tr.hasB
  by_cases h1 : 0 ≤ c
  · go_enter Tryz.func157, Tryz.ntmps157
    go_wp2
    go_ret
    exact ⟨by simp [h1], (Below.refl _ _).alloc (Nat.le_refl _) _⟩
  · go_enter Tryz.func157, Tryz.ntmps157
    go_wp2
    go_ret
    exact ⟨by simp; omega, (Below.refl _ _).alloc (Nat.le_refl _) _⟩

theorem upTo_step {l : List Int} {high pos : Int} {n : Nat} (h1 : pos ≠ -1) (h2 : pos ≠ high) : Tr.upTo l high (n + 1) pos = Tr.upTo l high n (Tr.ov l pos) := by
  simp [Tr.upTo, h1, h2]
theorem upTo_hit {l : List Int} {high pos : Int} {n : Nat} (h1 : pos ≠ -1) (h2 : pos = high) : Tr.upTo l high (n + 1) pos = true := by
  subst h2
  simp [Tr.upTo, h1]
theorem upTo_top {l : List Int} {high pos : Int} {n : Nat} (h1 : pos = -1) : Tr.upTo l high n pos = false := by
  cases n <;> simp [Tr.upTo, h1]

set_option maxRecDepth 100000 in
set_option maxHeartbeats 2000000 in
theorem below_any (l : List Int) (g cap : Nat) (low high : Int) (w : World) (hl : l.length ≤ 1000) (hT : TreeIn w g l) :
    Calls Tryz.prog 135 #[.agg #[.slice (some ⟨g, 0, none⟩) l.length cap, .slice ya yn yc], .int .i64 low, .int .i64 high] w fun e w' => e = .returned (.bool (Tr.below l low high)) ∧ Below w.heap.size w w' := by
  unfold Tr.below
  generalize hr : Tr.upTo l high l.length (Tr.ov l low) = r
  have HR := hide hr
  clear hr
  have hg := hT.1
  have hT0 := hT.alloc (.cells #[.slice (some ⟨g, 0, none⟩) l.length cap, .slice ya yn yc] 87)
  have hb0 : Below w.heap.size w (w.alloc (.cells #[.slice (some ⟨g, 0, none⟩) l.length cap, .slice ya yn yc] 87)) := (Below.refl _ _).alloc (Nat.le_refl _) _
  have hx0 := alloc_blk w (.cells #[.slice (some ⟨g, 0, none⟩) l.length cap, .slice ya yn yc] 87)
  go_enter Tryz.func135, Tryz.ntmps135
  go_wp2_with fail
  refine (over_any l g cap low _ hT0).mono ?_
  rintro e w1 ⟨rfl, hb1⟩
  have hB1 : Below w.heap.size w w1 := hb0.trans (hb1.mono (by simp))
  have hx1 : w1.heap[w.heap.size]? = some (.cells #[.slice (some ⟨g, 0, none⟩) l.length cap, .slice ya yn yc] 87 (0, 0)) := (hb1.block _ (by simp)).trans hx0
  clear hb0 hb1 hx0 hT0
  go_wp2
  go_loopw [7, 8] (fun p i wr => ∃ (k : Nat) (q : Int), k ≤ l.length ∧ i = .int .i64 k ∧ p = .int .i64 q ∧ Hid (Tr.upTo l high (l.length - k) q = r) ∧ Below w.heap.size w wr ∧
      wr.heap[w.heap.size]? = some (.cells #[.slice (some ⟨g, 0, none⟩) l.length cap, .slice ya yn yc] 87 (0, 0)))
    (fun _ i _ => l.length - (intOf i).toNat)
  case atStart => exact ⟨0, _, by omega, rfl, rfl, HR, hB1, hx1⟩
  case round =>
    clear hB1 hx1 HR
    obtain ⟨k, q, hk, rfl, rfl, HR, hB, hx⟩ := hrel
    have c0 := blk_cell hx 0
    have c1 := blk_cell hx 1
    simp at c0 c1
    by_cases hkn : k < l.length
    · by_cases h1 : q = -1
      · have h1' : (q != -1) = false := by simp [h1]
        have hf : r = false := by rw [← unhide HR]; exact upTo_top h1
        have HF := hide hf
        have H1 := hide h1
        clear hf h1
        go_wp2
        go_ret
        exact ⟨by rw [unhide HF]; rfl, hB⟩
      · have h1' : (q != -1) = true := by simp [h1]
        by_cases h2 : q = high
        · have h2' : (q == high) = true := by simp [h2]
          have hf : r = true := by rw [← unhide HR, show l.length - k = (l.length - k - 1) + 1 by omega]; exact upTo_hit h1 h2
          have HF := hide hf
          have H1 := hide h1
          have H2 := hide h2
          clear hf h1 h2
          go_wp2
          go_ret
          exact ⟨by rw [unhide HF]; rfl, hB⟩
        · have h2' : (q == high) = false := by simp [h2]
          have HF : Hid (Tr.upTo l high (l.length - (k + 1)) (Tr.ov l q) = r) := by
            unfold Hid
            rw [← unhide HR, show l.length - k = (l.length - (k + 1)) + 1 by omega, upTo_step h1 h2]
          have H1 := hide h1
          have H2 := hide h2
          clear h1 h2
          have hTr := hT.below hB
          go_wp2_with fail
          refine (over_any l g cap q _ hTr).mono ?_
          rintro e w2 ⟨rfl, hb2⟩
          have hB2 : Below w.heap.size w w2 := hB.trans (hb2.mono hB.size)
          have hx2 := (hb2.block _ (lt_of_block hx)).trans hx
          clear hb2 hB hx hTr
          go_wp2
          go_roundw
          case rel => exact ⟨k + 1, _, by omega, by go_num, rfl, HF, hB2, hx2⟩
          case measure => simp [intOf]; omega
    · have hf : r = false := by rw [← unhide HR, show l.length - k = 0 by omega]; rfl
      have HF := hide hf
      clear hf
      go_wp2
      go_ret
      exact ⟨by rw [unhide HF]; rfl, hB⟩
end Go.Proofs.YteffpdofcgbokaaGreat

/-
  The walks over package types: IsPlain, IsSettled, IsArgument, Fits, meet, Join.
-/
namespace Go.Proofs.YteffpdofcgbokaaGreat
open Go.RowKit
variable {ya : Option Addr} {yn yc : Nat}

theorem below2 (w : World) (o o' : Obj) : Below w.heap.size w ((w.alloc o).alloc o') := ((Below.refl _ _).alloc (Nat.le_refl _) _).alloc (by simp) _
theorem below3 (w : World) (o o' o'' : Obj) : Below w.heap.size w (((w.alloc o).alloc o').alloc o'') := (((Below.refl _ _).alloc (Nat.le_refl _) _).alloc (by simp) _).alloc (by simp; omega) _

set_option maxRecDepth 100000 in
set_option maxHeartbeats 1000000 in
theorem isPlain_any (l : List Int) (a : Option Addr) (cap : Nat) (k n : Int) (w : World) :
    Calls Tryz.prog 155 #[.agg #[.slice a l.length cap, .slice ya yn yc], .agg #[.int .i64 k, .int .i64 n]] w fun e w' => e = .returned (.bool (Tr.plainB l k n)) ∧ Below w.heap.size w w' := by
  unfold Tr.plainB
  by_cases h1 : k = 1
  · rw [if_pos h1]
    have h1' : (k == 1) = true := by simp [h1]
    clear h1
    go_enter Tryz.func155, Tryz.ntmps155
    go_wp2
    go_ret
    exact ⟨rfl, below2 _ _ _⟩
  · rw [if_neg h1]
    have h1' : (k == 1) = false := by simp [h1]
    clear h1
    by_cases h3 : k = 3
    · rw [if_pos h3]
      have h3' : (k == 3) = true := by simp [h3]
      clear h3
      go_enter Tryz.func155, Tryz.ntmps155
      go_wp2_with fail
      refine (has_any l a cap n _).mono ?_
      rintro e w1 ⟨rfl, hb⟩
      go_wp2
      go_ret
      exact ⟨rfl, (below2 _ _ _).trans (hb.mono (by simp; omega))⟩
    · rw [if_neg h3]
      have h3' : (k == 3) = false := by simp [h3]
      clear h3
      go_enter Tryz.func155, Tryz.ntmps155
      go_wp2
      go_ret
      exact ⟨rfl, below2 _ _ _⟩

set_option maxRecDepth 100000 in
set_option maxHeartbeats 1000000 in
theorem isSettled_any (l : List Int) (a : Option Addr) (cap : Nat) (k n : Int) (w : World) :
    Calls Tryz.prog 179 #[.agg #[.slice a l.length cap, .slice ya yn yc], .agg #[.int .i64 k, .int .i64 n]] w fun e w' => e = .returned (.bool (Tr.settledB l k n)) ∧ Below w.heap.size w w' := by
  unfold Tr.settledB
  by_cases h1 : k = 0
  · rw [if_pos (.inl h1)]
    have h1' : (k == 0) = true := by simp [h1]
    clear h1
    go_enter Tryz.func179, Tryz.ntmps179
    go_wp2
    go_ret
    exact ⟨rfl, below2 _ _ _⟩
  · by_cases h2 : k = 2
    · rw [if_pos (.inr h2)]
      have h1' : (k == 0) = false := by simp [h1]
      have h2' : (k == 2) = true := by simp [h2]
      clear h1 h2
      go_enter Tryz.func179, Tryz.ntmps179
      go_wp2
      go_ret
      exact ⟨rfl, below2 _ _ _⟩
    · rw [if_neg (by omega)]
      have h1' : (k == 0) = false := by simp [h1]
      have h2' : (k == 2) = false := by simp [h2]
      clear h1 h2
      go_enter Tryz.func179, Tryz.ntmps179
      go_wp2_with fail
      refine (isPlain_any l a cap k n _).mono ?_
      rintro e w1 ⟨rfl, hb⟩
      go_wp2
      go_ret
      exact ⟨rfl, (below2 _ _ _).trans (hb.mono (by simp; omega))⟩

set_option maxRecDepth 100000 in
set_option maxHeartbeats 1000000 in
theorem isArgument_any (l : List Int) (a : Option Addr) (cap : Nat) (k n : Int) (w : World) :
    Calls Tryz.prog 134 #[.agg #[.slice a l.length cap, .slice ya yn yc], .agg #[.int .i64 k, .int .i64 n]] w fun e w' => e = .returned (.bool (Tr.argB l k n)) ∧ Below w.heap.size w w' := by
  unfold Tr.argB
  by_cases h1 : k = 4
  · rw [if_pos h1]
    have h1' : (k == 4) = true := by simp [h1]
    clear h1
    by_cases h2 : 0 ≤ n
    · go_enter Tryz.func134, Tryz.ntmps134
      go_wp2
      go_ret
      exact ⟨by simp [h2], below2 _ _ _⟩
    · go_enter Tryz.func134, Tryz.ntmps134
      go_wp2
      go_ret
      exact ⟨by simp; omega, below2 _ _ _⟩
  · rw [if_neg h1]
    have h1' : (k == 4) = false := by simp [h1]
    clear h1
    go_enter Tryz.func134, Tryz.ntmps134
    go_wp2_with fail
    refine (isSettled_any l a cap k n _).mono ?_
    rintro e w1 ⟨rfl, hb⟩
    go_wp2
    go_ret
    exact ⟨rfl, (below2 _ _ _).trans (hb.mono (by simp; omega))⟩

set_option maxRecDepth 100000 in
set_option maxHeartbeats 1000000 in
theorem tfits_any (l : List Int) (g cap : Nat) (k n k' n' : Int) (w : World) (hl : l.length ≤ 1000) (hT : TreeIn w g l) :
    Calls Tryz.prog 92 #[.agg #[.slice (some ⟨g, 0, none⟩) l.length cap, .slice ya yn yc], .agg #[.int .i64 k, .int .i64 n], .agg #[.int .i64 k', .int .i64 n']] w fun e w' => e = .returned (.bool (Tr.fitsB l k n k' n')) ∧ Below w.heap.size w w' := by
  unfold Tr.fitsB
  by_cases h1 : k = k' ∧ n = n'
  · rw [if_pos h1]
    obtain ⟨rfl, rfl⟩ := h1
    go_enter Tryz.func92, Tryz.ntmps92
    go_wp2
    go_ret
    exact ⟨rfl, below3 _ _ _ _⟩
  · rw [if_neg h1]
    by_cases h2 : k' = 0
    · rw [if_pos h2]
      subst h2
      by_cases h0 : k = 0
      · subst h0
        have hn : ¬ n = n' := fun hn => h1 ⟨rfl, hn⟩
        clear h1
        go_enter Tryz.func92, Tryz.ntmps92
        go_wp2
        go_ret
        exact ⟨rfl, below3 _ _ _ _⟩
      · clear h1
        go_enter Tryz.func92, Tryz.ntmps92
        go_wp2
        go_ret
        exact ⟨rfl, below3 _ _ _ _⟩
    · rw [if_neg h2]
      by_cases h3 : k' = 3
      · rw [if_neg (by omega)]
        subst h3
        by_cases h4 : k = 2
        · rw [if_pos h4]
          subst h4
          clear h1 h2
          go_enter Tryz.func92, Tryz.ntmps92
          go_wp2
          go_ret
          exact ⟨rfl, below3 _ _ _ _⟩
        · rw [if_neg h4]
          by_cases h5 : k = 3
          · rw [if_pos h5]
            subst h5
            have hn : ¬ n = n' := fun hn => h1 ⟨rfl, hn⟩
            clear h1 h2 h4
            go_enter Tryz.func92, Tryz.ntmps92
            go_wp2_with fail
            refine (below_any l g cap n n' _ hl (hT.below (below3 _ _ _ _))).mono ?_
            rintro e w1 ⟨rfl, hb⟩
            go_wp2
            go_ret
            exact ⟨rfl, (below3 _ _ _ _).trans (hb.mono (by simp; omega))⟩
          · rw [if_neg h5]
            have h4' : (k == 2) = false := by simp [h4]
            have h5' : (k == 3) = false := by simp [h5]
            clear h1 h2 h4
            go_enter Tryz.func92, Tryz.ntmps92
            go_wp2
            go_ret
            exact ⟨rfl, below3 _ _ _ _⟩
      · rw [if_pos h3]
        have h2' : (k' == 0) = false := by simp [h2]
        have h3' : (k' != 3) = true := by simp [h3]
        by_cases h0 : k = k'
        · subst h0
          have hn : ¬ n = n' := fun hn => h1 ⟨rfl, hn⟩
          clear h1 h2 h3
          go_enter Tryz.func92, Tryz.ntmps92
          go_wp2
          go_ret
          exact ⟨rfl, below3 _ _ _ _⟩
        · clear h1 h2 h3
          go_enter Tryz.func92, Tryz.ntmps92
          go_wp2
          go_ret
          exact ⟨rfl, below3 _ _ _ _⟩
end Go.Proofs.YteffpdofcgbokaaGreat

/-
  The walks over package types: meet and Join.
-/
namespace Go.Proofs.YteffpdofcgbokaaGreat
open Go.RowKit
variable {ya : Option Addr} {yn yc : Nat}

def Tr.within (l : List Int) (a b : Int) : Bool := (a == b) || Tr.below l a b
theorem meetTo_low {l : List Int} {a b : Int} {n : Nat} (h : Tr.within l b a = true) : Tr.meetTo l b (n + 1) a = a := by
  unfold Tr.within at h
  by_cases h1 : a = b
  · simp [Tr.meetTo, h1]
  · have h2 : Tr.below l b a = true := by
      have h3 : (b == a) = false := by simp; omega
      rw [h3] at h; simpa using h
    simp [Tr.meetTo, h2]
theorem meetTo_up {l : List Int} {a b : Int} {n : Nat} (h : Tr.within l b a = false) : Tr.meetTo l b (n + 1) a = Tr.meetTo l b n (Tr.ov l a) := by
  unfold Tr.within at h
  simp only [Bool.or_eq_false_iff, beq_eq_false_iff_ne, ne_eq] at h
  have h1 : ¬ a = b := fun e => h.1 e.symm
  simp [Tr.meetTo, h1, h.2]

set_option maxRecDepth 100000 in
set_option maxHeartbeats 2000000 in
theorem within_any (l : List Int) (g cap : Nat) (a b : Int) (w : World) (hl : l.length ≤ 1000) (hT : TreeIn w g l) :
    Calls Tryz.prog 181 #[.agg #[.slice (some ⟨g, 0, none⟩) l.length cap, .slice ya yn yc], .int .i64 a, .int .i64 b] w fun e w' => e = .returned (.bool (Tr.within l a b)) ∧ Below w.heap.size w w' := by
  have hB1 : Below w.heap.size w (w.alloc (.cells #[.slice (some ⟨g, 0, none⟩) l.length cap, .slice ya yn yc] 87)) := (Below.refl _ _).alloc (Nat.le_refl _) _
  unfold Tr.within
  by_cases h : a = b
  · subst h
    rw [beq_self_eq_true, Bool.true_or]
    have h' : (a == a) = true := by simp
    go_enter Tryz.func181, Tryz.ntmps181
    go_wp2
    go_ret
    exact ⟨rfl, hB1⟩
  · have h' : (a == b) = false := by simp [h]
    rw [h', Bool.false_or]
    generalize hlow : Tr.below l a b = r
    have HL := hide hlow
    clear h hlow
    go_enter Tryz.func181, Tryz.ntmps181
    go_wp2_with fail
    refine (below_any l g cap a b _ hl (hT.below hB1)).mono ?_
    rw [unhide HL]
    rintro e w2 ⟨rfl, hb2⟩
    go_wp2
    go_ret
    exact ⟨rfl, hB1.trans (hb2.mono (by simp))⟩

set_option maxRecDepth 100000 in
set_option maxHeartbeats 2000000 in
theorem meet_any (l : List Int) (g cap : Nat) (a b : Int) (w : World) (hl : l.length ≤ 1000) (hT : TreeIn w g l) :
    Calls Tryz.prog 136 #[.agg #[.slice (some ⟨g, 0, none⟩) l.length cap, .slice ya yn yc], .int .i64 a, .int .i64 b] w fun e w' => e = .returned (.int .i64 (Tr.meet l a b)) ∧ Below w.heap.size w w' := by
  unfold Tr.meet
  generalize hr : Tr.meetTo l b l.length a = r
  have HR := hide hr
  clear hr
  have hg := hT.1
  have hB1 : Below w.heap.size w (w.alloc (.cells #[.slice (some ⟨g, 0, none⟩) l.length cap, .slice ya yn yc] 87)) := (Below.refl _ _).alloc (Nat.le_refl _) _
  have hx1 := alloc_blk w (.cells #[.slice (some ⟨g, 0, none⟩) l.length cap, .slice ya yn yc] 87)
  go_enter Tryz.func136, Tryz.ntmps136
  go_wp2
  go_loopw [1, 7] (fun p i wr => ∃ (k : Nat) (q : Int), k ≤ l.length ∧ i = .int .i64 k ∧ p = .int .i64 q ∧ Hid (Tr.meetTo l b (l.length - k) q = r) ∧ Below w.heap.size w wr ∧
      wr.heap[w.heap.size]? = some (.cells #[.slice (some ⟨g, 0, none⟩) l.length cap, .slice ya yn yc] 87 (0, 0)))
    (fun _ i _ => l.length - (intOf i).toNat)
  case atStart => exact ⟨0, _, by omega, rfl, rfl, HR, hB1, hx1⟩
  case round =>
    clear hB1 hx1 HR
    obtain ⟨k, q, hk, rfl, rfl, HR, hB, hx⟩ := hrel
    have c0 := blk_cell hx 0
    have c1 := blk_cell hx 1
    simp at c0 c1
    have hTr := hT.below hB
    have hBs := hB.size
    by_cases hkn : k < l.length
    · cases hlow : Tr.within l b q with
      | true =>
        have hf : r = q := by rw [← unhide HR, show l.length - k = (l.length - k - 1) + 1 by omega]; exact meetTo_low hlow
        have HF := hide hf
        have HL := hide hlow
        clear hf hlow
        go_wp2_with fail
        refine (within_any l g cap b q _ hl hTr).mono ?_
        rw [unhide HL]
        rintro e w2 ⟨rfl, hb2⟩
        go_wp2
        go_ret
        exact ⟨by rw [unhide HF]; rfl, hB.trans (hb2.mono hBs)⟩
      | false =>
        have HF : Hid (Tr.meetTo l b (l.length - (k + 1)) (Tr.ov l q) = r) := by
          unfold Hid
          rw [← unhide HR, show l.length - k = (l.length - (k + 1)) + 1 by omega, meetTo_up hlow]
        have HL := hide hlow
        clear hlow
        go_wp2_with fail
        refine (within_any l g cap b q _ hl hTr).mono ?_
        rw [unhide HL]
        rintro e w2 ⟨rfl, hb2⟩
        have hB2 := hB.trans (hb2.mono hBs)
        have hx2 := (hb2.block _ (lt_of_block hx)).trans hx
        have hT2 := hT.below hB2
        have c2 := blk_cell hx2 0
        have c3 := blk_cell hx2 1
        simp at c2 c3
        clear hb2 hB hx hTr c0 c1
        go_wp2_with fail
        refine (over_any l g cap q _ hT2).mono ?_
        rintro e w3 ⟨rfl, hb3⟩
        have hB3 := hB2.trans (hb3.mono hB2.size)
        have hx3 := (hb3.block _ (lt_of_block hx2)).trans hx2
        clear hb3 hB2 hx2 hT2 c2 c3
        go_wp2
        go_roundw
        case rel => exact ⟨k + 1, _, by omega, by go_num, rfl, HF, hB3, hx3⟩
        case measure => simp [intOf]; omega
    · have hf : r = 0 := by rw [← unhide HR, show l.length - k = 0 by omega]; rfl
      have HF := hide hf
      clear hf
      go_wp2
      go_ret
      exact ⟨by rw [unhide HF]; rfl, hB⟩

theorem below4 (w : World) (o o' o'' o3 : Obj) : Below w.heap.size w ((((w.alloc o).alloc o').alloc o'').alloc o3) := (below3 w o o' o'').alloc (by simp; omega) _

theorem blks4 (w : World) (o0 o1 o2 o3 : Obj) : ((((w.alloc o0).alloc o1).alloc o2).alloc o3).heap[w.heap.size]? = some o0 ∧ ((((w.alloc o0).alloc o1).alloc o2).alloc o3).heap[w.heap.size + 1]? = some o1 ∧
    ((((w.alloc o0).alloc o1).alloc o2).alloc o3).heap[w.heap.size + 1 + 1]? = some o2 ∧ ((((w.alloc o0).alloc o1).alloc o2).alloc o3).heap[w.heap.size + 1 + 1 + 1]? = some o3 := by
  refine ⟨?_, ?_, ?_, ?_⟩
  · rw [Below.heap_alloc _ _ _ (by first | (simp; done) | (simp; omega)), Below.heap_alloc _ _ _ (by first | (simp; done) | (simp; omega)), Below.heap_alloc _ _ _ (by first | (simp; done) | (simp; omega))]; exact alloc_blk w o0
  · rw [Below.heap_alloc _ _ _ (by first | (simp; done) | (simp; omega)), Below.heap_alloc _ _ _ (by first | (simp; done) | (simp; omega))]; simpa using alloc_blk (w.alloc o0) o1
  · rw [Below.heap_alloc _ _ _ (by first | (simp; done) | (simp; omega))]; simpa using alloc_blk ((w.alloc o0).alloc o1) o2
  · simpa using alloc_blk (((w.alloc o0).alloc o1).alloc o2) o3
/-- a block stays behind a call that writes no old block -/
theorem stay {w w' : World} {k : Nat} {o : Obj} (hb : Below w.heap.size w w') (h : w.heap[k]? = some o) : w'.heap[k]? = some o := (hb.block k (lt_of_block h)).trans h

set_option maxRecDepth 100000 in
set_option maxHeartbeats 2000000 in
theorem tjoin_any (l : List Int) (g cap : Nat) (k n k' n' : Int) (w : World) (hl : l.length ≤ 1000) (hT : TreeIn w g l) :
    Calls Tryz.prog 95 #[.agg #[.slice (some ⟨g, 0, none⟩) l.length cap, .slice ya yn yc], .agg #[.int .i64 k, .int .i64 n], .agg #[.int .i64 k', .int .i64 n']] w fun e w' =>
      e = .returned (.agg #[.int .i64 (Tr.joinT l (k, n) (k', n')).1, .int .i64 (Tr.joinT l (k, n) (k', n')).2]) ∧ Below w.heap.size w w' := by
  unfold Tr.joinT
  dsimp only
  cases h1 : Tr.fitsB l k n k' n' with
  | true =>
    rw [if_pos rfl]
    have H1 := hide h1
    clear h1
    go_enter Tryz.func95, Tryz.ntmps95
    go_wp2_with fail
    refine (tfits_any l g cap _ _ _ _ _ hl (hT.below (below4 _ _ _ _ _))).mono ?_
    rw [unhide H1]
    rintro e w1 ⟨rfl, hb1⟩
    have C1 := stay hb1 (blks4 w _ _ _ _).2.1
    have C2 := stay hb1 (blks4 w _ _ _ _).2.2.1
    have C3 := stay hb1 (blks4 w _ _ _ _).2.2.2
    have hB1 := (below4 w _ _ _ _).trans (hb1.mono (by simp; omega))
    have a0 := blk_cell C1 0
    have a1 := blk_cell C1 1
    have b0 := blk_cell C2 0
    have b1 := blk_cell C2 1
    have r0 := blk_cell C3 0
    have r1 := blk_cell C3 1
    have q0 := blk_free C3 0
    have q1 := blk_free C3 1
    simp at a0 a1 b0 b1 r0 r1
    go_wp2_with fail
    refine bodyPost_ret (v := .agg #[.int .i64 k', .int .i64 n']) (by simp [results, Tryz.results95, go_sem, r0, r1]) rfl ?_
    exact ⟨rfl, (hB1.setCell (by simp; omega) _).setCell (by simp; omega) _⟩
  | false =>
    rw [if_neg (by simp)]
    have H1 := hide h1
    clear h1
    cases h2 : Tr.fitsB l k' n' k n with
    | true =>
      rw [if_pos rfl]
      have H2 := hide h2
      clear h2
      go_enter Tryz.func95, Tryz.ntmps95
      go_wp2_with fail
      refine (tfits_any l g cap _ _ _ _ _ hl (hT.below (below4 _ _ _ _ _))).mono ?_
      rw [unhide H1]
      rintro e w1 ⟨rfl, hb1⟩
      have C1 := stay hb1 (blks4 w _ _ _ _).2.1
      have C2 := stay hb1 (blks4 w _ _ _ _).2.2.1
      have C3 := stay hb1 (blks4 w _ _ _ _).2.2.2
      have hB1 := (below4 w _ _ _ _).trans (hb1.mono (by simp; omega))
      have a0 := blk_cell C1 0
      have a1 := blk_cell C1 1
      have b0 := blk_cell C2 0
      have b1 := blk_cell C2 1
      have r0 := blk_cell C3 0
      have r1 := blk_cell C3 1
      have q0 := blk_free C3 0
      have q1 := blk_free C3 1
      simp at a0 a1 b0 b1 r0 r1
      have C0 := stay hb1 (blks4 w _ _ _ _).1
      have t0 := blk_cell C0 0
      have t9 := blk_cell C0 1
      simp at t0 t9
      go_wp2_with fail
      clear a0 a1 b0 b1 r0 r1 q0 q1 t0 t9
      refine (tfits_any l g cap _ _ _ _ _ hl (hT.below hB1)).mono ?_
      rw [unhide H2]
      rintro e w2 ⟨rfl, hb2⟩
      have hB2 := hB1.trans (hb2.mono hB1.size)
      have D0 := stay hb2 C0
      have D1 := stay hb2 C1
      have D2 := stay hb2 C2
      have D3 := stay hb2 C3
      have a0 := blk_cell D1 0
      have a1 := blk_cell D1 1
      have b0 := blk_cell D2 0
      have b1 := blk_cell D2 1
      have r0 := blk_cell D3 0
      have r1 := blk_cell D3 1
      have q0 := blk_free D3 0
      have q1 := blk_free D3 1
      have t0 := blk_cell D0 0
      have t9 := blk_cell D0 1
      simp at a0 a1 b0 b1 r0 r1 t0 t9
      clear C0 C1 C2 C3
      go_wp2_with fail
      refine bodyPost_ret (v := .agg #[.int .i64 k, .int .i64 n]) (by simp [results, Tryz.results95, go_sem, r0, r1]) rfl ?_
      exact ⟨rfl, (hB2.setCell (by simp; omega) _).setCell (by simp; omega) _⟩
    | false =>
      rw [if_neg (by simp)]
      have H2 := hide h2
      clear h2
      by_cases h3 : k = 3
      · rw [if_neg (by omega)]
        subst h3
        by_cases h4 : k' = 3
        · rw [if_neg (by omega)]
          subst h4
          go_enter Tryz.func95, Tryz.ntmps95
          go_wp2_with fail
          refine (tfits_any l g cap _ _ _ _ _ hl (hT.below (below4 _ _ _ _ _))).mono ?_
          rw [unhide H1]
          rintro e w1 ⟨rfl, hb1⟩
          have C1 := stay hb1 (blks4 w _ _ _ _).2.1
          have C2 := stay hb1 (blks4 w _ _ _ _).2.2.1
          have C3 := stay hb1 (blks4 w _ _ _ _).2.2.2
          have hB1 := (below4 w _ _ _ _).trans (hb1.mono (by simp; omega))
          have a0 := blk_cell C1 0
          have a1 := blk_cell C1 1
          have b0 := blk_cell C2 0
          have b1 := blk_cell C2 1
          have r0 := blk_cell C3 0
          have r1 := blk_cell C3 1
          have q0 := blk_free C3 0
          have q1 := blk_free C3 1
          simp at a0 a1 b0 b1 r0 r1
          have C0 := stay hb1 (blks4 w _ _ _ _).1
          have t0 := blk_cell C0 0
          have t9 := blk_cell C0 1
          simp at t0 t9
          go_wp2_with fail
          clear a0 a1 b0 b1 r0 r1 q0 q1 t0 t9
          refine (tfits_any l g cap _ _ _ _ _ hl (hT.below hB1)).mono ?_
          rw [unhide H2]
          rintro e w2 ⟨rfl, hb2⟩
          have hB2 := hB1.trans (hb2.mono hB1.size)
          have D0 := stay hb2 C0
          have D1 := stay hb2 C1
          have D2 := stay hb2 C2
          have D3 := stay hb2 C3
          have a0 := blk_cell D1 0
          have a1 := blk_cell D1 1
          have b0 := blk_cell D2 0
          have b1 := blk_cell D2 1
          have r0 := blk_cell D3 0
          have r1 := blk_cell D3 1
          have q0 := blk_free D3 0
          have q1 := blk_free D3 1
          have t0 := blk_cell D0 0
          have t9 := blk_cell D0 1
          simp at a0 a1 b0 b1 r0 r1 t0 t9
          clear C0 C1 C2 C3
          go_wp2_with fail
          clear a0 a1 b0 b1 r0 r1 q0 q1 t0 t9
          refine (meet_any l g cap n n' _ hl (hT.below hB2)).mono ?_
          rintro e w3 ⟨rfl, hb3⟩
          have hB3 := hB2.trans (hb3.mono hB2.size)
          have E3 := stay hb3 D3
          have r0 := blk_cell E3 0
          have r1 := blk_cell E3 1
          have q0 := blk_free E3 0
          have q1 := blk_free E3 1
          simp at r0 r1
          go_wp2_with fail
          refine bodyPost_ret (v := .agg #[.int .i64 3, .int .i64 (Tr.meet l n n')]) (by simp [results, Tryz.results95, go_sem, r0, r1]) rfl ?_
          exact ⟨rfl, (hB3.setCell (by simp; omega) _).setCell (by simp; omega) _⟩
        · rw [if_pos h4]
          have h4' : (k' != 3) = true := by simp [h4]
          clear h4
          go_enter Tryz.func95, Tryz.ntmps95
          go_wp2_with fail
          refine (tfits_any l g cap _ _ _ _ _ hl (hT.below (below4 _ _ _ _ _))).mono ?_
          rw [unhide H1]
          rintro e w1 ⟨rfl, hb1⟩
          have C1 := stay hb1 (blks4 w _ _ _ _).2.1
          have C2 := stay hb1 (blks4 w _ _ _ _).2.2.1
          have C3 := stay hb1 (blks4 w _ _ _ _).2.2.2
          have hB1 := (below4 w _ _ _ _).trans (hb1.mono (by simp; omega))
          have a0 := blk_cell C1 0
          have a1 := blk_cell C1 1
          have b0 := blk_cell C2 0
          have b1 := blk_cell C2 1
          have r0 := blk_cell C3 0
          have r1 := blk_cell C3 1
          have q0 := blk_free C3 0
          have q1 := blk_free C3 1
          simp at a0 a1 b0 b1 r0 r1
          have C0 := stay hb1 (blks4 w _ _ _ _).1
          have t0 := blk_cell C0 0
          have t9 := blk_cell C0 1
          simp at t0 t9
          go_wp2_with fail
          clear a0 a1 b0 b1 r0 r1 q0 q1 t0 t9
          refine (tfits_any l g cap _ _ _ _ _ hl (hT.below hB1)).mono ?_
          rw [unhide H2]
          rintro e w2 ⟨rfl, hb2⟩
          have hB2 := hB1.trans (hb2.mono hB1.size)
          have D0 := stay hb2 C0
          have D1 := stay hb2 C1
          have D2 := stay hb2 C2
          have D3 := stay hb2 C3
          have a0 := blk_cell D1 0
          have a1 := blk_cell D1 1
          have b0 := blk_cell D2 0
          have b1 := blk_cell D2 1
          have r0 := blk_cell D3 0
          have r1 := blk_cell D3 1
          have q0 := blk_free D3 0
          have q1 := blk_free D3 1
          have t0 := blk_cell D0 0
          have t9 := blk_cell D0 1
          simp at a0 a1 b0 b1 r0 r1 t0 t9
          clear C0 C1 C2 C3
          go_wp2_with fail
          refine bodyPost_ret (v := .agg #[.int .i64 0, .int .i64 0]) (by simp [results, Tryz.results95, go_sem, r0, r1]) rfl ?_
          exact ⟨rfl, (hB2.setCell (by simp; omega) _).setCell (by simp; omega) _⟩
      · rw [if_pos h3]
        have h3' : (k != 3) = true := by simp [h3]
        clear h3
        go_enter Tryz.func95, Tryz.ntmps95
        go_wp2_with fail
        refine (tfits_any l g cap _ _ _ _ _ hl (hT.below (below4 _ _ _ _ _))).mono ?_
        rw [unhide H1]
        rintro e w1 ⟨rfl, hb1⟩
        have C1 := stay hb1 (blks4 w _ _ _ _).2.1
        have C2 := stay hb1 (blks4 w _ _ _ _).2.2.1
        have C3 := stay hb1 (blks4 w _ _ _ _).2.2.2
        have hB1 := (below4 w _ _ _ _).trans (hb1.mono (by simp; omega))
        have a0 := blk_cell C1 0
        have a1 := blk_cell C1 1
        have b0 := blk_cell C2 0
        have b1 := blk_cell C2 1
        have r0 := blk_cell C3 0
        have r1 := blk_cell C3 1
        have q0 := blk_free C3 0
        have q1 := blk_free C3 1
        simp at a0 a1 b0 b1 r0 r1
        have C0 := stay hb1 (blks4 w _ _ _ _).1
        have t0 := blk_cell C0 0
        have t9 := blk_cell C0 1
        simp at t0 t9
        go_wp2_with fail
        clear a0 a1 b0 b1 r0 r1 q0 q1 t0 t9
        refine (tfits_any l g cap _ _ _ _ _ hl (hT.below hB1)).mono ?_
        rw [unhide H2]
        rintro e w2 ⟨rfl, hb2⟩
        have hB2 := hB1.trans (hb2.mono hB1.size)
        have D0 := stay hb2 C0
        have D1 := stay hb2 C1
        have D2 := stay hb2 C2
        have D3 := stay hb2 C3
        have a0 := blk_cell D1 0
        have a1 := blk_cell D1 1
        have b0 := blk_cell D2 0
        have b1 := blk_cell D2 1
        have r0 := blk_cell D3 0
        have r1 := blk_cell D3 1
        have q0 := blk_free D3 0
        have q1 := blk_free D3 1
        have t0 := blk_cell D0 0
        have t9 := blk_cell D0 1
        simp at a0 a1 b0 b1 r0 r1 t0 t9
        clear C0 C1 C2 C3
        go_wp2_with fail
        refine bodyPost_ret (v := .agg #[.int .i64 0, .int .i64 0]) (by simp [results, Tryz.results95, go_sem, r0, r1]) rfl ?_
        exact ⟨rfl, (hB2.setCell (by simp; omega) _).setCell (by simp; omega) _⟩
end Go.Proofs.YteffpdofcgbokaaGreat

/-
  The walk over types.TreeOf.
-/
namespace Go.Proofs.YteffpdofcgbokaaGreat
open Go.RowKit

/-- the list of a file's tree -/
def Tr.given : List Int := [-1, 0, 1, 1, 1, 1, 1]
def Tr.tree (cs : List Rd.Cls) : List Int := Tr.given ++ cs.map Rd.Cls.above
theorem tree_len (cs : List Rd.Cls) : (Tr.tree cs).length = 7 + cs.length := by simp [Tr.tree, Tr.given]; omega

/-- the list of the fields of a file's tree: of the given classes none -/
def Tr.fvals (l : List (Rd.Cls × Value)) : List Value := List.replicate 7 (.slice none 0 0) ++ l.map Prod.snd
theorem Tryz.infoTys : (Tryz.prog.info? 46).map (fun i => (i.zero, i.size, i.bytes)) = some (some (.slice none 0 0), 1, 24) := by kernel_rfl
theorem seven_own (w : World) (b g : Nat) (t : TypeId) (hg : w.heap.size = g) (hb : b ≤ g) (u : Value) : (w.alloc (.cells #[u, u, u, u, u, u, u] t)).ownsRow b t 1 (.slice (some ⟨g, 0, none⟩) 7 7) 7 (List.replicate 7 u) :=
  ⟨rfl, .inr ⟨g, 7, #[u, u, u, u, u, u, u], rfl, hb, by rw [← hg]; exact alloc_blk w _, by omega, by unfold maxLen; omega, rfl, rfl⟩⟩

theorem Kp.set2 {e : TypeId} {b i j : Nat} {w : World} {g : Nat} {cs : Array Value} (h : w.heap[g]? = some (.cells cs e (0, 0))) (u u' : Value) : Kp (some e) b w ((w.setCell ⟨g, i, none⟩ u).setCell ⟨g, j, none⟩ u') := by
  intro k cs' t hk hc ht
  have h1 := Kp.set (b := b) (i := i) h u k cs' t hk hc ht
  rw [Below.heap_setCell _ _ _ _ ?_]; exact h1
  intro hk
  simp only at hk
  subst hk
  rw [hc] at h
  simp at h
  exact ht (by rw [h.2])

def lenOf : Value → Nat | .slice _ n _ => n | _ => 0

theorem two_own (w : World) (b g : Nat) (u v : Value) (t : TypeId) (hg : w.heap.size = g) (hb : b ≤ g) : (w.alloc (.cells #[u, v] t)).ownsRow b t 1 (.slice (some ⟨g, 0, none⟩) 2 2) 2 [u, v] :=
  ⟨rfl, .inr ⟨g, 2, #[u, v], rfl, hb, by rw [← hg]; exact alloc_blk w _, by omega, by unfold maxLen; omega, rfl, rfl⟩⟩

theorem own_some {b size n : Nat} {e : TypeId} {a : Option Addr} {m c : Nat} {xs : List Value} {w : World} (h : w.ownsRow b e size (.slice a m c) n xs) (hn : 0 < n) :
    ∃ g, a = some ⟨g, 0, none⟩ ∧ g < w.heap.size ∧ b ≤ g ∧ ∀ j, j < xs.length → w.cell? ⟨g, j, none⟩ = xs[j]? := by
  obtain ⟨h1, ⟨_, h2⟩ | ⟨g, cap, cur, h3, h4, h5, h6, h7, h8, h9⟩⟩ := h
  · omega
  · simp only [Value.slice.injEq] at h3
    refine ⟨g, h3.1, lt_of_block h5, h4, fun j hj => ?_⟩
    rw [blk_cell h5, ← h9, List.getElem?_take, if_pos (by omega)]
    simp
theorem ccells_at (l : List (Rd.Cls × Value)) (k : Nat) (h : k < l.length) : (ccells l)[k * 2]? = some (.int .i64 l[k].1.above) ∧ (ccells l)[k * 2 + 1]? = some l[k].2 ∧ k * 2 + 1 < (ccells l).length := by
  induction l generalizing k with
  | nil => simp at h
  | cons x r ih =>
    cases k with
    | zero => simp [ccells]
    | succ j =>
      have hj : j < r.length := by simpa using h
      obtain ⟨p, q, z⟩ := ih j hj
      have e : ccells (x :: r) = .int .i64 x.1.above :: x.2 :: ccells r := by simp [ccells]
      rw [e, show (j + 1) * 2 = j * 2 + 1 + 1 by omega]
      refine ⟨by simpa using p, by simpa using q, by simp; omega⟩

set_option maxRecDepth 100000 in
set_option maxHeartbeats 4000000 in
theorem treeOf_any (a1 a2 : Option Addr) (n1 c1 n2 c2 b : Nat) (l : List (Rd.Cls × Value)) (w : World) (hl : l.length ≤ 6) (hc : ClssIn w b (.slice a1 n1 c1) l) :
    Calls Tryz.prog 40 #[.agg #[.slice a1 n1 c1, .slice a2 n2 c2]] w fun e w' =>
      ∃ g cap ya yn yc, e = .returned (.agg #[.slice (some ⟨g, 0, none⟩) (Tr.tree (l.map Prod.fst)).length cap, .slice ya yn yc]) ∧ TreeIn w' g (Tr.tree (l.map Prod.fst)) ∧ w'.ownsRow w.heap.size 46 1 (.slice ya yn yc) (7 + l.length) (Tr.fvals l) ∧ w.heap.size ≤ g ∧ Below w.heap.size w w' := by
  obtain ⟨xa, xc, hsh⟩ := own_shape hc.1
  simp only [Value.slice.injEq] at hsh
  obtain ⟨rfl, hn1, rfl⟩ := hsh
  subst hn1
  obtain ⟨i0, hi, hz0, hz1, hz2⟩ := info_parts Tryz.infoInt
  obtain ⟨j0, hj, hy0, hy1, hy2⟩ := info_parts Tryz.infoTys
  have hmk : ∀ w : World, (Instr.makeSlice 85 (.int .i64 7) (.int .i64 7)).run Tryz.prog w = .ok (.slice (some ⟨w.heap.size, 0, none⟩) 7 7) (w.alloc (.cells #[.slice none 0 0, .slice none 0 0, .slice none 0 0, .slice none 0 0, .slice none 0 0, .slice none 0 0, .slice none 0 0] 46)) := fun _ => by kernel_rfl
  go_enter Tryz.func40, Tryz.ntmps40
  go_wp2
  go_loopw [3] (fun v wr => ∃ k : Nat, 2 ≤ k ∧ k ≤ 7 ∧ wr.ownsRow (w.heap.size + 1 + 1) 3 1 v k ((Tr.given.take k).map (Value.int .i64)) ∧ lenOf v = k ∧ Below (w.heap.size + 1 + 1) ((w.alloc (.cells #[.slice a1 l.length c1, .slice a2 n2 c2] 38)).alloc (.cells #[.slice none 0 0, .slice none 0 0] 87)) wr)
    (fun v _ => 7 - lenOf v)
  case atStart =>
    refine ⟨2, by omega, by omega, ?_, rfl, (Below.refl _ _).alloc (by simp) _⟩
    exact two_own ((w.alloc (.cells #[.slice a1 l.length c1, .slice a2 n2 c2] 38)).alloc (.cells #[.slice none 0 0, .slice none 0 0] 87)) (w.heap.size + 1 + 1) (w.heap.size + 1 + 1) (.int .i64 (-1)) (.int .i64 0) 3 (by simp) (Nat.le_refl _)
  case round =>
    obtain ⟨k, hk0, hk1, hown, hlen, hbl⟩ := hrel
    obtain ⟨va, vc, rfl⟩ := own_shape hown
    clear hlen
    have hsz := hbl.size
    simp at hsz
    by_cases hkn : k < 7
    · go_wp2_with (at_builtin; refine wpList_append_own _ rfl _ _ 58 rfl (w.heap.size + 1 + 1) 3 i0 _ 1 8 Tryz.underlying58 hi hz0 hz1 hz2 rfl (by decide) _ _ _ rfl (hown.alloc _) ⟨wr.heap.size, 0, none⟩ 1 1 [.int .i64 1] rfl rfl ?c1 ?c2 ?c3 ?c4 ?c5 ?_)
      case c1 => exact cells_new _ _ _ _ rfl
      case c2 => intro u hu; simp at hu; subst hu; rfl
      case c3 => unfold maxLen; omega
      case c4 => omega
      case c5 => simp; omega
      intro v' w2 hown2 hgrow _
      obtain ⟨va', vc', rfl⟩ := own_shape hown2
      have hown3 : w2.ownsRow (w.heap.size + 1 + 1) 3 1 (.slice va' (k + 1) vc') (k + 1) ((Tr.given.take (k + 1)).map (Value.int .i64)) := by
        have e : (Tr.given.take (k + 1)) = Tr.given.take k ++ [1] := by
          match k, hk0, hkn with
          | 2, _, _ => rfl
          | 3, _, _ => rfl
          | 4, _, _ => rfl
          | 5, _, _ => rfl
          | 6, _, _ => rfl
        rw [e, List.map_append]
        simpa using hown2
      have hbl2 := (hbl.alloc (by omega) (.cells #[.int .i64 1] 3)).grown hgrow (by simp; omega) (fun j hj => (hown.lt j hj).1)
      clear hgrow hown hown2 hbl
      go_wp2
      go_roundw
      case rel => exact ⟨k + 1, by omega, by omega, hown3, rfl, hbl2⟩
      case measure => simp [lenOf]; omega
    · obtain rfl : k = 7 := by omega
      have hB : Below w.heap.size w wr := (below2 w _ _).trans (hbl.mono (by omega))
      have hf0 := (hbl.block w.heap.size (by omega)).trans (alloc1_blk w _ _)
      have hf0' := (Below.heap_alloc wr (.cells #[.slice none 0 0, .slice none 0 0, .slice none 0 0, .slice none 0 0, .slice none 0 0, .slice none 0 0, .slice none 0 0] 46) _ (lt_of_block hf0)).trans hf0
      have x0 := blk_cell hf0' 0
      simp at x0
      have hbl1 := hbl.alloc (by omega) (.cells #[.slice none 0 0, .slice none 0 0, .slice none 0 0, .slice none 0 0, .slice none 0 0, .slice none 0 0, .slice none 0 0] 46)
      have hfs : (wr.alloc (.cells #[.slice none 0 0, .slice none 0 0, .slice none 0 0, .slice none 0 0, .slice none 0 0, .slice none 0 0, .slice none 0 0] 46)).ownsRow (w.heap.size + 1 + 1) 46 1 (.slice (some ⟨wr.heap.size, 0, none⟩) 7 7) 7 (List.replicate 7 (.slice none 0 0)) := seven_own wr _ _ _ rfl (by omega) _
      have hown1 := hown.alloc (.cells #[.slice none 0 0, .slice none 0 0, .slice none 0 0, .slice none 0 0, .slice none 0 0, .slice none 0 0, .slice none 0 0] 46)
      clear hown hbl
      go_wp2
      go_loopw [3, 4, 18] (fun v u i w3 => ∃ k : Nat, k ≤ l.length ∧ i = .int .i64 k ∧ w3.ownsRow (w.heap.size + 1 + 1) 3 1 v (7 + k) ((Tr.given ++ ((l.map Prod.fst).take k).map Rd.Cls.above).map (Value.int .i64)) ∧
          w3.ownsRow (w.heap.size + 1 + 1) 46 1 u (7 + k) (List.replicate 7 (.slice none 0 0) ++ (l.map Prod.snd).take k) ∧
          Below (w.heap.size + 1 + 1) ((w.alloc (.cells #[.slice a1 l.length c1, .slice a2 n2 c2] 38)).alloc (.cells #[.slice none 0 0, .slice none 0 0] 87)) w3)
        (fun _ _ i _ => l.length - (intOf i).toNat)
      case atStart => exact ⟨0, by omega, rfl, by simpa [Tr.given] using hown1, by simpa using hfs, hbl1⟩
      case round =>
        clear hown1 hbl1 hB hf0 hf0' x0 hsz hfs
        obtain ⟨k, hk, rfl, hown, hfs, hbl⟩ := hrel
        obtain ⟨va, vc, rfl⟩ := own_shape hown
        obtain ⟨za, zc, rfl⟩ := own_shape hfs
        have hsz := hbl.size
        simp at hsz
        have hB : Below w.heap.size w wr := (below2 w _ _).trans (hbl.mono (by omega))
        by_cases hkn : k < l.length
        · obtain ⟨g, hg, hglt, _, hcell⟩ := own_some (own_kp hc.1 (Kp.of_below (e := none) hB) (by decide)) (by omega)
          obtain ⟨e1, e2, e3⟩ := ccells_at l k hkn
          have x0 := hcell (k * 2) (by omega)
          have x1 := hcell (k * 2 + 1) (by omega)
          rw [e1] at x0
          rw [e2] at x1
          obtain ⟨ua, uc, hu⟩ := own_shape (hc.2 _ (List.getElem_mem hkn))
          rw [hu] at x1
          generalize hab : l[k].1.above = ab at *
          have HAb : Hid (List.map Rd.Cls.above [l[k].1] = [ab]) := by unfold Hid; simp [hab]
          have HA : Hid ((l.map Prod.fst).take (k + 1) = (l.map Prod.fst).take k ++ [l[k].1]) := by
            unfold Hid
            rw [List.take_succ_eq_append_getElem (by simpa using hkn)]
            simp
          have HB : Hid ((l.map Prod.snd).take (k + 1) = (l.map Prod.snd).take k ++ [.slice ua l[k].1.fields.length uc]) := by
            unfold Hid
            rw [List.take_succ_eq_append_getElem (by simpa using hkn), ← hu]
            simp
          generalize l[k].1.fields.length = fl at *
          clear hcell e1 e2 e3 hab hu
          subst hg
          generalize hxs : ((Tr.given ++ ((l.map Prod.fst).take k).map Rd.Cls.above).map (Value.int .i64)) = xs at hown
          have HXS := hide hxs
          clear hxs
          generalize hys : (List.replicate 7 (Value.slice none 0 0) ++ (l.map Prod.snd).take k) = ys at hfs
          have HYS := hide hys
          clear hys
          go_wp2_with (at_builtin; refine wpList_append_own _ rfl _ _ 58 rfl (w.heap.size + 1 + 1) 3 i0 _ 1 8 Tryz.underlying58 hi hz0 hz1 hz2 rfl (by decide) _ _ _ rfl ((hown.alloc _).alloc _) ⟨wr.heap.size + 1, 0, none⟩ 1 1 [.int .i64 ab] rfl rfl ?d1 ?d2 ?d3 ?d4 ?d5 ?_)
          case d1 => exact cells_new _ _ _ _ (by simp)
          case d2 => intro u hu; simp at hu; subst hu; rfl
          case d3 => unfold maxLen; omega
          case d4 => omega
          case d5 => simp; omega
          intro v' w2 hown2 hgrow _
          have hown3 : w2.ownsRow (w.heap.size + 1 + 1) 3 1 v' (7 + (k + 1)) ((Tr.given ++ ((l.map Prod.fst).take (k + 1)).map Rd.Cls.above).map (Value.int .i64)) := by
            have e : ((Tr.given ++ ((l.map Prod.fst).take (k + 1)).map Rd.Cls.above).map (Value.int .i64)) = ((Tr.given ++ ((l.map Prod.fst).take k).map Rd.Cls.above).map (Value.int .i64)) ++ [.int .i64 ab] := by
              rw [unhide HA, List.map_append (f := Rd.Cls.above), unhide HAb]
              simp only [List.map_append, List.append_assoc]
              rfl
            rw [e, unhide HXS]
            exact hown2
          have hbl2 := ((hbl.alloc (by omega) _).alloc (by simp; omega) _).grown hgrow (by simp; omega) (fun j hj => (hown.lt j hj).1)
          have hfs2 := own_kp ((hfs.alloc (.cells #[.int .i64 ab, .slice ua fl uc] 143)).alloc (.cells #[.int .i64 ab] 3)) (Kp.of_grown (b := w.heap.size + 1 + 1) hgrow ((hown.alloc _).alloc _)) (by decide)
          have hcl : w2.heap[wr.heap.size]? = some (.cells #[.int .i64 ab, .slice ua fl uc] 143 (0, 0)) := Kp.of_grown (b := 0) hgrow ((hown.alloc _).alloc _) _ _ _ (Nat.zero_le _) ((Below.heap_alloc _ _ _ (by simp)).trans (alloc_blk wr _)) (by decide)
          have y1 := blk_cell hcl 1
          have ly := lt_of_block hcl
          simp at y1
          clear hgrow hown hown2 hbl hfs
          have hs2 := hbl2.size
          simp at hs2
          go_wp2_with (at_builtin; refine wpList_append_own _ rfl _ _ 85 rfl (w.heap.size + 1 + 1) 46 j0 _ 1 24 Tryz.underlying85 hj hy0 hy1 hy2 rfl (by decide) _ _ _ rfl (hfs2.alloc _) ⟨w2.heap.size, 0, none⟩ 1 1 [.slice ua fl uc] rfl rfl ?d1 ?d2 ?d3 ?d4 ?d5 ?_)
          case d1 => exact cells_new _ _ _ _ (by simp)
          case d2 => intro u hu; simp at hu; subst hu; rfl
          case d3 => unfold maxLen; omega
          case d4 => omega
          case d5 => simp; omega
          intro v'' w3 hfs3 hgrow3 _
          have hown4 := own_kp (hown3.alloc (.cells #[.slice ua fl uc] 46)) (Kp.of_grown (b := w.heap.size + 1 + 1) hgrow3 (hfs2.alloc _)) (by decide)
          have hfs4 : w3.ownsRow (w.heap.size + 1 + 1) 46 1 v'' (7 + (k + 1)) (List.replicate 7 (.slice none 0 0) ++ (l.map Prod.snd).take (k + 1)) := by
            rw [unhide HB, ← List.append_assoc, unhide HYS]
            exact hfs3
          have hbl3 := (hbl2.alloc (by omega) _).grown hgrow3 (by simp; omega) (fun j hj => (hfs2.lt j hj).1)
          clear hgrow3 hown3 hfs2 hfs3 hbl2
          go_wp2
          go_roundw
          case rel => exact ⟨k + 1, by omega, by go_num, hown4, hfs4, hbl3⟩
          case measure => simp [intOf]; omega
        · obtain rfl : k = l.length := by omega
          have hr0 := (hbl.block (w.heap.size + 1) (by omega)).trans (alloc2_blk w _ _)
          have x0 := blk_cell hr0 0
          have x1 := blk_cell hr0 1
          have f0 := blk_free hr0 0
          have f1 := blk_free hr0 1
          simp at x0 x1
          have ht : ((l.map Prod.fst).take l.length) = l.map Prod.fst := List.take_of_length_le (by simp)
          rw [ht] at hown
          have ht2 : ((l.map Prod.snd).take l.length) = l.map Prod.snd := List.take_of_length_le (by simp)
          rw [ht2] at hfs
          obtain ⟨g, hva, hglt, hgb, hcell⟩ := own_some hown (by omega)
          subst hva
          have HC := hide hcell
          clear hcell
          go_wp2_with fail
          refine bodyPost_ret (v := .agg #[.slice (some ⟨g, 0, none⟩) (7 + l.length) vc, .slice za (7 + l.length) zc]) (by simp [results, Tryz.results40, go_sem, x0, x1]) rfl ?_
          refine ⟨g, vc, za, 7 + l.length, zc, by rw [tree_len, List.length_map], ⟨by simpa using hglt, fun i hi => ?_⟩, ?_, by omega, (hB.setCell (by simp) _).setCell (by simp) _⟩
          · rw [World.cell?_of_block (w := wr) ((Below.heap_setCell _ _ _ g (by simp; omega)).trans (Below.heap_setCell wr _ _ g (by simp; omega)))]
            have hi' : i < ((Tr.tree (l.map Prod.fst)).map (Value.int .i64)).length := by simpa using hi
            have h2 := unhide HC i hi'
            have h3 : ((Tr.tree (l.map Prod.fst)).map (Value.int .i64))[i]? = some (.int .i64 ((Tr.tree (l.map Prod.fst)).getD i 0)) := by
              rw [List.getElem?_map, List.getD_eq_getElem?_getD, List.getElem?_eq_getElem hi]
              rfl
            rw [h2]
            exact h3
          · exact own_kp (own_mono hfs (by omega)) (Kp.set2 hr0 _ _) (by decide)
end Go.Proofs.YteffpdofcgbokaaGreat

/-
  The walks over faults.allPlain and faults.InClasses.
-/
namespace Go.Proofs.YteffpdofcgbokaaGreat
open Go.RowKit
variable {ya : Option Addr} {yn yc : Nat}

theorem tcells_at (l : List (Int × Int)) (k : Nat) (h : k < l.length) : (tcells l)[k * 2]? = some (.int .i64 l[k].1) ∧ (tcells l)[k * 2 + 1]? = some (.int .i64 l[k].2) ∧ k * 2 + 1 < (tcells l).length := by
  induction l generalizing k with
  | nil => simp at h
  | cons x r ih =>
    cases k with
    | zero => simp [tcells]
    | succ j =>
      have hj : j < r.length := by simpa using h
      obtain ⟨p, q, z⟩ := ih j hj
      have e : tcells (x :: r) = .int .i64 x.1 :: .int .i64 x.2 :: tcells r := by simp [tcells]
      rw [e, show (j + 1) * 2 = j * 2 + 1 + 1 by omega]
      refine ⟨by simpa using p, by simpa using q, by simp; omega⟩

theorem allPlain_cons {l : List Int} {x : Int × Int} {r : List (Int × Int)} : Tr.allPlainB l (x :: r) = (Tr.plainB l x.1 x.2 && Tr.allPlainB l r) := by simp [Tr.allPlainB]

set_option maxRecDepth 100000 in
set_option maxHeartbeats 2000000 in
theorem allPlain_any (l : List Int) (a : Option Addr) (cap : Nat) (fa : Option Addr) (fn fc b : Nat) (fs : List (Int × Int)) (w : World) (hfl : fs.length ≤ 1000) (hT : TysAt w b (.slice fa fn fc) fs) :
    Calls Tryz.prog 110 #[.agg #[.slice a l.length cap, .slice ya yn yc], .slice fa fn fc] w fun e w' => e = .returned (.bool (Tr.allPlainB l fs)) ∧ Below w.heap.size w w' := by
  obtain ⟨xa, xc, hsh⟩ := own_shape hT
  simp only [Value.slice.injEq] at hsh
  obtain ⟨rfl, hn1, rfl⟩ := hsh
  subst hn1
  generalize hr : Tr.allPlainB l fs = r
  have HR : Hid (Tr.allPlainB l (fs.drop 0) = r) := by unfold Hid; simpa using hr
  clear hr
  have hB1 : Below w.heap.size w (w.alloc (.cells #[.slice a l.length cap, .slice ya yn yc] 87)) := (Below.refl _ _).alloc (Nat.le_refl _) _
  have hx1 := alloc_blk w (.cells #[.slice a l.length cap, .slice ya yn yc] 87)
  go_enter Tryz.func110, Tryz.ntmps110
  go_wp2
  go_loopw [9] (fun i wr => ∃ k : Nat, k ≤ fs.length ∧ i = .int .i64 k ∧ Hid (Tr.allPlainB l (fs.drop k) = r) ∧ Below w.heap.size w wr ∧
      wr.heap[w.heap.size]? = some (.cells #[.slice a l.length cap, .slice ya yn yc] 87 (0, 0)))
    (fun i _ => fs.length - (intOf i).toNat)
  case atStart => exact ⟨0, by omega, rfl, HR, hB1, hx1⟩
  case round =>
    clear hB1 hx1 HR
    obtain ⟨k, hk, rfl, HR, hB, hx⟩ := hrel
    have hBs := hB.size
    by_cases hkn : k < fs.length
    · obtain ⟨g, hg, hglt, hbg, hcell⟩ := own_some (own_kp hT (Kp.of_below (e := none) hB) (by decide)) (by omega)
      obtain ⟨e1, e2, e3⟩ := tcells_at fs k hkn
      have x0 := hcell (k * 2) (by omega)
      have x1 := hcell (k * 2 + 1) (by omega)
      rw [e1] at x0
      rw [e2] at x1
      have hd : fs.drop k = fs[k] :: fs.drop (k + 1) := List.drop_eq_getElem_cons hkn
      have hr := unhide HR
      rw [hd, allPlain_cons] at hr
      generalize hf1 : fs[k].1 = f1 at *
      generalize hf2 : fs[k].2 = f2 at *
      have c0 := blk_cell hx 0
      have c1 := blk_cell hx 1
      have lx := lt_of_block hx
      simp at c0 c1
      clear hcell e1 e2 e3 hf1 hf2 hd hbg
      subst hg
      cases hp : Tr.plainB l f1 f2 with
      | true =>
        have HF : Hid (Tr.allPlainB l (fs.drop (k + 1)) = r) := by unfold Hid; rw [← hr, hp]; simp
        have HP := hide hp
        clear hp hr
        go_wp2_with fail
        refine (isPlain_any l a cap f1 f2 _).mono ?_
        rw [unhide HP]
        rintro e w2 ⟨rfl, hb2⟩
        have hB2 : Below w.heap.size w w2 := (hB.alloc hBs _).trans (hb2.mono (by simp; omega))
        have hx2 := stay hb2 ((Below.heap_alloc wr (.cells #[.int .i64 f1, .int .i64 f2] 48) _ lx).trans hx)
        clear hb2 hB hx c0 c1 x0 x1 lx
        go_wp2
        go_roundw
        case rel => exact ⟨k + 1, by omega, by go_num, HF, hB2, hx2⟩
        case measure => simp [intOf]; omega
      | false =>
        have hf : r = false := by rw [← hr, hp]; simp
        have HF := hide hf
        have HP := hide hp
        clear hp hr hf
        go_wp2_with fail
        refine (isPlain_any l a cap f1 f2 _).mono ?_
        rw [unhide HP]
        rintro e w2 ⟨rfl, hb2⟩
        have hB2 : Below w.heap.size w w2 := (hB.alloc hBs _).trans (hb2.mono (by simp; omega))
        go_wp2
        go_ret
        exact ⟨by rw [unhide HF]; rfl, hB2⟩
    · have hf : r = true := by rw [← unhide HR, List.drop_eq_nil_of_le (by omega)]; rfl
      have HF := hide hf
      clear hf
      go_wp2
      go_ret
      exact ⟨by rw [unhide HF]; rfl, hB⟩

/-- the first own class that may not be: (3, its number), or (0, 0) -/
def Tr.inCl (l : List Int) : Nat → List Rd.Cls → Int × Int
  | _, [] => (0, 0)
  | k, c :: r => if 7 + (k : Int) ≤ c.above then (3, 7 + (k : Int)) else if Tr.allPlainB l c.fields = false then (3, 7 + (k : Int)) else Tr.inCl l (k + 1) r

set_option maxRecDepth 100000 in
set_option maxHeartbeats 4000000 in
theorem inClasses_any (a1 a2 : Option Addr) (n1 c1 n2 c2 b : Nat) (l : List (Rd.Cls × Value)) (w : World) (hl : l.length ≤ 6) (hfl : ∀ p ∈ l, p.1.fields.length ≤ 1000) (hc : ClssIn w b (.slice a1 n1 c1) l) :
    Calls Tryz.prog 69 #[.agg #[.slice a1 n1 c1, .slice a2 n2 c2]] w fun e w' =>
      e = .returned (.agg #[.int .i64 (Tr.inCl (Tr.tree (l.map Prod.fst)) 0 (l.map Prod.fst)).1, .int .i64 (Tr.inCl (Tr.tree (l.map Prod.fst)) 0 (l.map Prod.fst)).2, .int .i64 0]) ∧ Below w.heap.size w w' := by
  obtain ⟨xa, xc, hsh⟩ := own_shape hc.1
  simp only [Value.slice.injEq] at hsh
  obtain ⟨rfl, hn1, rfl⟩ := hsh
  subst hn1
  generalize ht : Tr.tree (l.map Prod.fst) = T
  generalize hr : Tr.inCl T 0 (l.map Prod.fst) = r
  have HT := hide ht
  have HR : Hid (Tr.inCl T 0 ((l.map Prod.fst).drop 0) = r) := by unfold Hid; simpa using hr
  clear hr ht
  have hB0 := below2 w (.cells #[.slice a1 l.length c1, .slice a2 n2 c2] 38) (.cells #[.int .i64 0, .int .i64 0, .int .i64 0] 40)
  go_enter Tryz.func69, Tryz.ntmps69
  go_wp2_with fail
  refine (treeOf_any a1 a2 l.length c1 n2 c2 b l _ hl (hc.kp (Kp.of_below (e := none) hB0) (by decide) (by decide))).mono ?_
  rw [unhide HT]
  rintro e w1 ⟨g, cap, ya, yn, yc, rfl, hTr, hFs, hg, hb1⟩
  clear hFs
  have hB1 := hB0.trans (hb1.mono (by simp; omega))
  have hf := stay hb1 (alloc1_blk w _ _)
  have hres := stay hb1 (alloc2_blk w _ _)
  have lt1 := lt_of_block hres
  have x0 := blk_cell hf 0
  simp at x0
  have lt0 := lt_of_block hf
  have ht1 := alloc_blk w1 (.cells #[.slice (some ⟨g, 0, none⟩) T.length cap, .slice ya yn yc] 87)
  have hb0 : Below w.heap.size w (w1.alloc (.cells #[.slice (some ⟨g, 0, none⟩) T.length cap, .slice ya yn yc] 87)) := hB1.alloc hB1.size _
  have hres1 := (Below.heap_alloc w1 (.cells #[.slice (some ⟨g, 0, none⟩) T.length cap, .slice ya yn yc] 87) _ lt1).trans hres
  clear hf hres hB1 hb1
  go_wp2
  go_loopw [12] (fun i wr => ∃ k : Nat, k ≤ l.length ∧ i = .int .i64 k ∧ Hid (Tr.inCl T k ((l.map Prod.fst).drop k) = r) ∧ Below w.heap.size w wr ∧
      wr.heap[w1.heap.size]? = some (.cells #[.slice (some ⟨g, 0, none⟩) T.length cap, .slice ya yn yc] 87 (0, 0)) ∧ wr.heap[w.heap.size + 1]? = some (.cells #[.int .i64 0, .int .i64 0, .int .i64 0] 40 (0, 0)))
    (fun i _ => l.length - (intOf i).toNat)
  case atStart => exact ⟨0, by omega, rfl, HR, hb0, ht1, hres1⟩
  case round =>
    clear hb0 ht1 hres1 HR x0
    obtain ⟨k, hk, rfl, HR, hB, htr, hres⟩ := hrel
    have hBs := hB.size
    have lt2 := lt_of_block htr
    have lt3 := lt_of_block hres
    by_cases hkn : k < l.length
    · have hcr := hc.kp (Kp.of_below (e := none) hB) (by decide) (by decide)
      obtain ⟨g', hg', hglt, hbg, hcell⟩ := own_some hcr.1 (by omega)
      obtain ⟨e1, e2, e3⟩ := ccells_at l k hkn
      have x0 := hcell (k * 2) (by omega)
      have x1 := hcell (k * 2 + 1) (by omega)
      rw [e1] at x0
      rw [e2] at x1
      have hfk := hfl _ (List.getElem_mem hkn)
      have htk := hcr.2 _ (List.getElem_mem hkn)
      obtain ⟨ua, uc, hu⟩ := own_shape htk
      rw [hu] at x1 htk
      have hd : (l.map Prod.fst).drop k = l[k].1 :: (l.map Prod.fst).drop (k + 1) := by
        rw [List.drop_eq_getElem_cons (by simpa using hkn)]
        simp
      have hr := unhide HR
      rw [hd, Tr.inCl] at hr
      generalize hcl : l[k].1 = cl at *
      have c0 := blk_cell htr 0
      have c1 := blk_cell htr 1
      simp at c0 c1
      clear hcell e1 e2 e3 hcl hd hbg hu hcr
      subst hg'
      by_cases h1 : 7 + (k : Int) ≤ cl.above
      · rw [if_pos h1] at hr
        have HF := hide hr
        clear hr
        have y0 := blk_cell hres 0
        have y1 := blk_cell hres 1
        have y2 := blk_cell hres 2
        have f0 := blk_free hres 0
        have f1 := blk_free hres 1
        have f2 := blk_free hres 2
        simp at y0 y1 y2
        go_wp2
        refine bodyPost_ret (v := .agg #[.int .i64 3, .int .i64 (7 + (k : Int)), .int .i64 0]) (by simp [results, Tryz.results69, go_sem, y0, y1, y2, lt3]) rfl ?_
        exact ⟨by rw [← unhide HF], (((hB.setCell (by simp) _).setCell (by simp) _).setCell (by simp) _).alloc (by simp; omega) _⟩
      · rw [if_neg h1] at hr
        cases hp : Tr.allPlainB T cl.fields with
        | true =>
          rw [hp, if_neg (by simp)] at hr
          have HF := hide hr
          have HP := hide hp
          clear hr hp
          go_wp2_with fail
          refine (allPlain_any T (some ⟨g, 0, none⟩) cap ua cl.fields.length uc b cl.fields _ hfk (htk.kp (Kp.alloc (e := none) _ _) (by decide))).mono ?_
          rw [unhide HP]
          rintro e w2 ⟨rfl, hb2⟩
          have hB2 : Below w.heap.size w w2 := (hB.alloc hBs _).trans (hb2.mono (by simp; omega))
          have htr2 := stay hb2 ((Below.heap_alloc wr (.cells #[.int .i64 cl.above, .slice ua cl.fields.length uc] 143) _ lt2).trans htr)
          have hres2 := stay hb2 ((Below.heap_alloc wr (.cells #[.int .i64 cl.above, .slice ua cl.fields.length uc] 143) _ lt3).trans hres)
          clear hb2 hB htr hres x0 x1 c0 c1
          go_wp2
          go_roundw
          case rel => exact ⟨k + 1, by omega, by go_num, HF, hB2, htr2, hres2⟩
          case measure => simp [intOf]; omega
        | false =>
          rw [hp, if_pos rfl] at hr
          have HF := hide hr
          have HP := hide hp
          clear hr hp
          go_wp2_with fail
          refine (allPlain_any T (some ⟨g, 0, none⟩) cap ua cl.fields.length uc b cl.fields _ hfk (htk.kp (Kp.alloc (e := none) _ _) (by decide))).mono ?_
          rw [unhide HP]
          rintro e w2 ⟨rfl, hb2⟩
          have hB2 : Below w.heap.size w w2 := (hB.alloc hBs _).trans (hb2.mono (by simp; omega))
          have htr2 := stay hb2 ((Below.heap_alloc wr (.cells #[.int .i64 cl.above, .slice ua cl.fields.length uc] 143) _ lt2).trans htr)
          have hres2 := stay hb2 ((Below.heap_alloc wr (.cells #[.int .i64 cl.above, .slice ua cl.fields.length uc] 143) _ lt3).trans hres)
          have y0 := blk_cell hres2 0
          have y1 := blk_cell hres2 1
          have y2 := blk_cell hres2 2
          have f0 := blk_free hres2 0
          have f1 := blk_free hres2 1
          have f2 := blk_free hres2 2
          simp at y0 y1 y2
          go_wp2
          refine bodyPost_ret (v := .agg #[.int .i64 3, .int .i64 (7 + (k : Int)), .int .i64 0]) (by simp [results, Tryz.results69, go_sem, y0, y1, y2]) rfl ?_
          exact ⟨by rw [← unhide HF], ((hB2.setCell (by simp) _).setCell (by simp) _).setCell (by simp) _⟩
    · have hf : r = (0, 0) := by rw [← unhide HR, List.drop_eq_nil_of_le (by simp; omega)]; rfl
      have HF := hide hf.symm
      clear hf
      have y0 := blk_cell hres 0
      have y1 := blk_cell hres 1
      have y2 := blk_cell hres 2
      have f0 := blk_free hres 0
      have f1 := blk_free hres 1
      have f2 := blk_free hres 2
      simp at y0 y1 y2
      go_wp2
      refine bodyPost_ret (v := .agg #[.int .i64 0, .int .i64 0, .int .i64 0]) (by simp [results, Tryz.results69, go_sem, y0, y1, y2]) rfl ?_
      exact ⟨by rw [← unhide HF], ((hB.setCell (by simp) _).setCell (by simp) _).setCell (by simp) _⟩
end Go.Proofs.YteffpdofcgbokaaGreat

/-
  The walks over stackmap.readTree, stackmap.Fits and stackmap.Join.
-/
namespace Go.Proofs.YteffpdofcgbokaaGreat
open Go.RowKit

theorem rep_all {α : Type} (P : α → Prop) (f : Rd.St → α × Rd.St) (h : ∀ t, P (f t).1) (n : Nat) (t : Rd.St) : ∀ x ∈ (Rd.rep f n t).1, P x := by
  induction n with
  | zero => simp [Rd.rep]
  | succ k ih =>
    intro x hx
    simp only [Rd.rep, List.mem_append, List.mem_singleton] at hx
    rcases hx with hx | hx
    · exact ih x hx
    · rw [hx]; exact h _

theorem read_bd (s : List UInt8) : (Rd.read s).1.classes.length ≤ 6 ∧ ∀ c ∈ (Rd.read s).1.classes, c.fields.length ≤ 1000 := by
  unfold Rd.read
  split
  · simp
  · split
    · simp
    · simp only [Rd.fil]
      refine ⟨?_, ?_⟩
      · rw [Rd.rep_len]
        have := Rd.cn_bd s 0 6 (Rd.ex s 77 (Rd.ex s 83 ⟨0, false⟩)) (by omega)
        omega
      · refine rep_all _ _ (fun t => ?_) _ _
        simp only [Rd.cls]
        rw [tys_len]
        have := Rd.cn_bd s 0 4 (Rd.nx s t).2 (by omega)
        omega

theorem read_err (s : List UInt8) : (Rd.read s).2 = 0 ∨ (Rd.read s).2 = 1 ∨ (Rd.read s).2 = 2 := by
  unfold Rd.read
  split
  · simp
  · split <;> simp
theorem inCl_err (l : List Int) (k : Nat) (cs : List Rd.Cls) : (Tr.inCl l k cs).1 = 0 ∨ (Tr.inCl l k cs).1 = 3 := by
  induction cs generalizing k with
  | nil => simp [Tr.inCl]
  | cons c r ih =>
    unfold Tr.inCl
    split
    · simp
    · split
      · simp
      · exact ih _

/-- readTree's error -/
def Tr.rtErr (f : Rd.Fil × Int) (a b : Int × Int) : Int :=
  if f.2 ≠ 0 then f.2
  else if (Tr.inCl (Tr.tree f.1.classes) 0 f.1.classes).1 ≠ 0 then (Tr.inCl (Tr.tree f.1.classes) 0 f.1.classes).1
  else if Tr.argB (Tr.tree f.1.classes) a.1 a.2 = false then 13
  else if Tr.argB (Tr.tree f.1.classes) b.1 b.2 = false then 13
  else 0

theorem blks3 (w : World) (o0 o1 o2 : Obj) : (((w.alloc o0).alloc o1).alloc o2).heap[w.heap.size]? = some o0 ∧ (((w.alloc o0).alloc o1).alloc o2).heap[w.heap.size + 1]? = some o1 ∧
    (((w.alloc o0).alloc o1).alloc o2).heap[w.heap.size + 1 + 1]? = some o2 := by
  refine ⟨?_, ?_, ?_⟩
  · rw [Below.heap_alloc _ _ _ (by first | (simp; done) | (simp; omega)), Below.heap_alloc _ _ _ (by first | (simp; done) | (simp; omega))]; exact alloc_blk w o0
  · rw [Below.heap_alloc _ _ _ (by first | (simp; done) | (simp; omega))]; simpa using alloc_blk (w.alloc o0) o1
  · simpa using alloc_blk ((w.alloc o0).alloc o1) o2

theorem stay1 {w : World} {k : Nat} {o : Obj} (h : w.heap[k]? = some o) (o' : Obj) : (w.alloc o').heap[k]? = some o := (Below.heap_alloc w o' k (lt_of_block h)).trans h

set_option maxRecDepth 100000 in
set_option maxHeartbeats 4000000 in
theorem readTree_any (s : ByteArray) (k n k' n' : Int) (w : World) (hs : s.size ≤ maxLen) :
    Calls Tryz.prog 91 #[.string s, .agg #[.int .i64 k, .int .i64 n], .agg #[.int .i64 k', .int .i64 n']] w fun e w' =>
      ∃ a m c a' m' c', e = .returned (.tuple #[.agg #[.slice a m c, .slice a' m' c'], .int .i64 (Tr.rtErr (Rd.read s.data.toList) (k, n) (k', n'))]) ∧
        (Tr.rtErr (Rd.read s.data.toList) (k, n) (k', n') = 0 → ∃ g, a = some ⟨g, 0, none⟩ ∧ m = (Tr.tree (Rd.read s.data.toList).1.classes).length ∧ TreeIn w' g (Tr.tree (Rd.read s.data.toList).1.classes)) ∧ Below w.heap.size w w' := by
  have hbd := read_bd s.data.toList
  have her := read_err s.data.toList
  unfold Tr.rtErr
  dsimp only
  generalize hq : Rd.read s.data.toList = q at *
  have HQ := hide hq
  clear hq
  have hin := inCl_err (Tr.tree q.1.classes) 0 q.1.classes
  generalize hT : Tr.tree q.1.classes = T at *
  have HT := hide hT
  clear hT
  by_cases h1 : q.2 = 0
  · rw [if_neg (by omega)]
    generalize hiq : Tr.inCl T 0 q.1.classes = iq at *
    have HIQ := hide hiq
    clear hiq
    by_cases h2 : iq.1 = 0
    · rw [if_neg (by omega)]
      have h1' : (q.2 != 0) = false := by simp [h1]
      have h2' : (iq.1 != 0) = false := by simp [h2]
      have H2 := hide h2
      clear h2
      cases h3 : Tr.argB T k n with
      | false =>
        rw [if_pos rfl]
        have H3 := hide h3
        clear h3
        have H1 := hide h1
        have HER := hide her
        have HIN := hide hin
        clear h1 her hin
        go_enter Tryz.func91, Tryz.ntmps91
        go_wp2_with fail
        refine (read_any s _ hs).mono ?_
        rw [unhide HQ]
        rintro e w1 ⟨a1, n1, c1, a2, n2, c2, rfl, ⟨l, hl, hc⟩, hm, hb1⟩
        have hB1 := (below3 w _ _ _).trans (hb1.mono (by simp; omega))
        have C0 := stay hb1 (blks3 w _ _ _).1
        have C1 := stay hb1 (blks3 w _ _ _).2.1
        have C2 := stay hb1 (blks3 w _ _ _).2.2
        have hl1 : l.length ≤ 6 := by have := hbd.1; rw [← hl] at this; simpa using this
        have hl2 : ∀ p ∈ l, p.1.fields.length ≤ 1000 := fun p hp => hbd.2 _ (by rw [← hl]; exact List.mem_map_of_mem hp)
        have HL := hide hl
        have HBD := hide hbd
        have HL2 := hide hl2
        clear hl hbd hl2
        go_wp2_with fail
        refine (inClasses_any a1 a2 n1 c1 n2 c2 _ l _ hl1 (unhide HL2) (hc.kp (Kp.alloc (e := none) _ _) (by decide) (by decide))).mono ?_
        rw [unhide HL, unhide HT, unhide HIQ]
        rintro e w2 ⟨rfl, hb2⟩
        have hs1 := hB1.size
        have hB2 := (hB1.alloc hs1 (.cells #[.slice a1 n1 c1, .slice a2 n2 c2] 38)).trans (hb2.mono (by simp; omega))
        have C3 := stay hb2 (alloc_blk w1 _)
        have D0 := stay hb2 (stay1 C0 _)
        have D1 := stay hb2 (stay1 C1 _)
        have D2 := stay hb2 (stay1 C2 _)
        have hs2 := hB2.size
        have ls0 := lt_of_block D0
        have ls1 := lt_of_block D1
        have ls2 := lt_of_block D2
        have ls3 := lt_of_block C3
        have r0 := blk_cell D2 0
        have r9 := blk_cell D2 1
        have f9 := blk_free D2 1
        have f0 := blk_free D2 0
        have x0 := blk_cell C3 0
        have x1 := blk_cell C3 1
        simp at r0 r9 x0 x1
        go_wp2_with fail
        refine (treeOf_any a1 a2 n1 c1 n2 c2 _ l _ hl1 ((hc.kp ((Kp.alloc (e := none) _ _).trans (Kp.of_below hb2)) (by decide) (by decide)).kp (Kp.alloc (e := none) _ _) (by decide) (by decide))).mono ?_
        rw [unhide HL, unhide HT]
        rintro e w3 ⟨g, cap, ya, yn, yc, rfl, hTr, hFs, hg3, hb3⟩
        clear hFs
        have hB3 := (hB2.alloc hs2 _).trans (hb3.mono (by simp; omega))
        have E0 := stay hb3 (stay1 D0 _)
        have E1 := stay hb3 (stay1 D1 _)
        have E2 := stay hb3 (stay1 D2 _)
        have hs3 := hB3.size
        have lt0 := lt_of_block E0
        have lt1 := lt_of_block E1
        have lt2 := lt_of_block E2
        have t0 := blk_cell E0 0
        have t1 := blk_cell E0 1
        have u0 := blk_cell E1 0
        have u1 := blk_cell E1 1
        simp at t0 t1 u0 u1
        clear r0 r9 f9 f0 x0 x1 hb2 hb3 C3 D0 D1 D2 hB1 hB2 C0 C1 C2 hb1
        go_wp2_with fail
        refine (isArgument_any T (some ⟨g, 0, none⟩) cap k n _).mono ?_
        rw [unhide H3]
        rintro e w4 ⟨rfl, hb4⟩
        have hB4 := (hB3.alloc hs3 _).trans (hb4.mono (by simp; omega))
        have hs4 := hB4.size
        have F1 := stay hb4 (stay1 E1 _)
        have F2 := stay hb4 (stay1 E2 _)
        have F3 := stay hb4 (alloc_blk w3 _)
        have hT4 := (hTr.alloc _).below hb4
        have v0 := blk_cell F1 0
        have v1 := blk_cell F1 1
        have z0 := blk_cell F2 0
        have z9 := blk_cell F2 1
        have z8 := blk_free F2 1
        have z1 := blk_free F2 0
        have y0 := blk_cell F3 0
        have y9 := blk_cell F3 1
        have m1 := lt_of_block F1
        have m2 := lt_of_block F2
        have m3 := lt_of_block F3
        simp at v0 v1 z0 z9 y0 y9
        clear t0 t1 u0 u1 hb4 E0 E1 E2 F1
        go_wp2_with fail
        refine bodyPost_ret (v := .tuple #[.agg #[.slice none 0 0, .slice none 0 0], .int .i64 13]) (by simp [results, Tryz.results91, go_sem, z0, z9]) rfl ?_
        exact ⟨none, 0, 0, none, 0, 0, rfl, fun h => absurd h (by decide), (hB4.setCell (by simp; omega) _).setCell (by simp; omega) _⟩
      | true =>
        rw [if_neg (by simp)]
        have H3 := hide h3
        clear h3
        cases h4 : Tr.argB T k' n' with
        | false =>
          rw [if_pos rfl]
          have H4 := hide h4
          clear h4
          have H1 := hide h1
          have HER := hide her
          have HIN := hide hin
          clear h1 her hin
          go_enter Tryz.func91, Tryz.ntmps91
          go_wp2_with fail
          refine (read_any s _ hs).mono ?_
          rw [unhide HQ]
          rintro e w1 ⟨a1, n1, c1, a2, n2, c2, rfl, ⟨l, hl, hc⟩, hm, hb1⟩
          have hB1 := (below3 w _ _ _).trans (hb1.mono (by simp; omega))
          have C0 := stay hb1 (blks3 w _ _ _).1
          have C1 := stay hb1 (blks3 w _ _ _).2.1
          have C2 := stay hb1 (blks3 w _ _ _).2.2
          have hl1 : l.length ≤ 6 := by have := hbd.1; rw [← hl] at this; simpa using this
          have hl2 : ∀ p ∈ l, p.1.fields.length ≤ 1000 := fun p hp => hbd.2 _ (by rw [← hl]; exact List.mem_map_of_mem hp)
          have HL := hide hl
          have HBD := hide hbd
          have HL2 := hide hl2
          clear hl hbd hl2
          go_wp2_with fail
          refine (inClasses_any a1 a2 n1 c1 n2 c2 _ l _ hl1 (unhide HL2) (hc.kp (Kp.alloc (e := none) _ _) (by decide) (by decide))).mono ?_
          rw [unhide HL, unhide HT, unhide HIQ]
          rintro e w2 ⟨rfl, hb2⟩
          have hs1 := hB1.size
          have hB2 := (hB1.alloc hs1 (.cells #[.slice a1 n1 c1, .slice a2 n2 c2] 38)).trans (hb2.mono (by simp; omega))
          have C3 := stay hb2 (alloc_blk w1 _)
          have D0 := stay hb2 (stay1 C0 _)
          have D1 := stay hb2 (stay1 C1 _)
          have D2 := stay hb2 (stay1 C2 _)
          have hs2 := hB2.size
          have ls0 := lt_of_block D0
          have ls1 := lt_of_block D1
          have ls2 := lt_of_block D2
          have ls3 := lt_of_block C3
          have r0 := blk_cell D2 0
          have r9 := blk_cell D2 1
          have f9 := blk_free D2 1
          have f0 := blk_free D2 0
          have x0 := blk_cell C3 0
          have x1 := blk_cell C3 1
          simp at r0 r9 x0 x1
          go_wp2_with fail
          refine (treeOf_any a1 a2 n1 c1 n2 c2 _ l _ hl1 ((hc.kp ((Kp.alloc (e := none) _ _).trans (Kp.of_below hb2)) (by decide) (by decide)).kp (Kp.alloc (e := none) _ _) (by decide) (by decide))).mono ?_
          rw [unhide HL, unhide HT]
          rintro e w3 ⟨g, cap, ya, yn, yc, rfl, hTr, hFs, hg3, hb3⟩
          clear hFs
          have hB3 := (hB2.alloc hs2 _).trans (hb3.mono (by simp; omega))
          have E0 := stay hb3 (stay1 D0 _)
          have E1 := stay hb3 (stay1 D1 _)
          have E2 := stay hb3 (stay1 D2 _)
          have hs3 := hB3.size
          have lt0 := lt_of_block E0
          have lt1 := lt_of_block E1
          have lt2 := lt_of_block E2
          have t0 := blk_cell E0 0
          have t1 := blk_cell E0 1
          have u0 := blk_cell E1 0
          have u1 := blk_cell E1 1
          simp at t0 t1 u0 u1
          clear r0 r9 f9 f0 x0 x1 hb2 hb3 C3 D0 D1 D2 hB1 hB2 C0 C1 C2 hb1
          go_wp2_with fail
          refine (isArgument_any T (some ⟨g, 0, none⟩) cap k n _).mono ?_
          rw [unhide H3]
          rintro e w4 ⟨rfl, hb4⟩
          have hB4 := (hB3.alloc hs3 _).trans (hb4.mono (by simp; omega))
          have hs4 := hB4.size
          have F1 := stay hb4 (stay1 E1 _)
          have F2 := stay hb4 (stay1 E2 _)
          have F3 := stay hb4 (alloc_blk w3 _)
          have hT4 := (hTr.alloc _).below hb4
          have v0 := blk_cell F1 0
          have v1 := blk_cell F1 1
          have z0 := blk_cell F2 0
          have z9 := blk_cell F2 1
          have z8 := blk_free F2 1
          have z1 := blk_free F2 0
          have y0 := blk_cell F3 0
          have y9 := blk_cell F3 1
          have m1 := lt_of_block F1
          have m2 := lt_of_block F2
          have m3 := lt_of_block F3
          simp at v0 v1 z0 z9 y0 y9
          clear t0 t1 u0 u1 hb4 E0 E1 E2 F1
          go_wp2_with fail
          clear v0 v1 z0 z9 z8 z1 y0 y9 m1 m2 m3
          refine (isArgument_any T (some ⟨g, 0, none⟩) cap k' n' _).mono ?_
          rw [unhide H4]
          rintro e w5 ⟨rfl, hb5⟩
          have hB5 := hB4.trans (hb5.mono hs4)
          have hT5 := hT4.below hb5
          have G2 := stay hb5 F2
          have G3 := stay hb5 F3
          have z0 := blk_cell G2 0
          have z9 := blk_cell G2 1
          have z8 := blk_free G2 1
          have z1 := blk_free G2 0
          have y0 := blk_cell G3 0
          have y9 := blk_cell G3 1
          have m2 := lt_of_block G2
          have m3 := lt_of_block G3
          simp at z0 z9 y0 y9
          go_wp2_with fail
          refine bodyPost_ret (v := .tuple #[.agg #[.slice none 0 0, .slice none 0 0], .int .i64 13]) (by simp [results, Tryz.results91, go_sem, z0, z9]) rfl ?_
          exact ⟨none, 0, 0, none, 0, 0, rfl, fun h => absurd h (by decide), (hB5.setCell (by simp; omega) _).setCell (by simp; omega) _⟩
        | true =>
          rw [if_neg (by simp)]
          have H4 := hide h4
          clear h4
          have H1 := hide h1
          have HER := hide her
          have HIN := hide hin
          clear h1 her hin
          go_enter Tryz.func91, Tryz.ntmps91
          go_wp2_with fail
          refine (read_any s _ hs).mono ?_
          rw [unhide HQ]
          rintro e w1 ⟨a1, n1, c1, a2, n2, c2, rfl, ⟨l, hl, hc⟩, hm, hb1⟩
          have hB1 := (below3 w _ _ _).trans (hb1.mono (by simp; omega))
          have C0 := stay hb1 (blks3 w _ _ _).1
          have C1 := stay hb1 (blks3 w _ _ _).2.1
          have C2 := stay hb1 (blks3 w _ _ _).2.2
          have hl1 : l.length ≤ 6 := by have := hbd.1; rw [← hl] at this; simpa using this
          have hl2 : ∀ p ∈ l, p.1.fields.length ≤ 1000 := fun p hp => hbd.2 _ (by rw [← hl]; exact List.mem_map_of_mem hp)
          have HL := hide hl
          have HBD := hide hbd
          have HL2 := hide hl2
          clear hl hbd hl2
          go_wp2_with fail
          refine (inClasses_any a1 a2 n1 c1 n2 c2 _ l _ hl1 (unhide HL2) (hc.kp (Kp.alloc (e := none) _ _) (by decide) (by decide))).mono ?_
          rw [unhide HL, unhide HT, unhide HIQ]
          rintro e w2 ⟨rfl, hb2⟩
          have hs1 := hB1.size
          have hB2 := (hB1.alloc hs1 (.cells #[.slice a1 n1 c1, .slice a2 n2 c2] 38)).trans (hb2.mono (by simp; omega))
          have C3 := stay hb2 (alloc_blk w1 _)
          have D0 := stay hb2 (stay1 C0 _)
          have D1 := stay hb2 (stay1 C1 _)
          have D2 := stay hb2 (stay1 C2 _)
          have hs2 := hB2.size
          have ls0 := lt_of_block D0
          have ls1 := lt_of_block D1
          have ls2 := lt_of_block D2
          have ls3 := lt_of_block C3
          have r0 := blk_cell D2 0
          have r9 := blk_cell D2 1
          have f9 := blk_free D2 1
          have f0 := blk_free D2 0
          have x0 := blk_cell C3 0
          have x1 := blk_cell C3 1
          simp at r0 r9 x0 x1
          go_wp2_with fail
          refine (treeOf_any a1 a2 n1 c1 n2 c2 _ l _ hl1 ((hc.kp ((Kp.alloc (e := none) _ _).trans (Kp.of_below hb2)) (by decide) (by decide)).kp (Kp.alloc (e := none) _ _) (by decide) (by decide))).mono ?_
          rw [unhide HL, unhide HT]
          rintro e w3 ⟨g, cap, ya, yn, yc, rfl, hTr, hFs, hg3, hb3⟩
          clear hFs
          have hB3 := (hB2.alloc hs2 _).trans (hb3.mono (by simp; omega))
          have E0 := stay hb3 (stay1 D0 _)
          have E1 := stay hb3 (stay1 D1 _)
          have E2 := stay hb3 (stay1 D2 _)
          have hs3 := hB3.size
          have lt0 := lt_of_block E0
          have lt1 := lt_of_block E1
          have lt2 := lt_of_block E2
          have t0 := blk_cell E0 0
          have t1 := blk_cell E0 1
          have u0 := blk_cell E1 0
          have u1 := blk_cell E1 1
          simp at t0 t1 u0 u1
          clear r0 r9 f9 f0 x0 x1 hb2 hb3 C3 D0 D1 D2 hB1 hB2 C0 C1 C2 hb1
          go_wp2_with fail
          refine (isArgument_any T (some ⟨g, 0, none⟩) cap k n _).mono ?_
          rw [unhide H3]
          rintro e w4 ⟨rfl, hb4⟩
          have hB4 := (hB3.alloc hs3 _).trans (hb4.mono (by simp; omega))
          have hs4 := hB4.size
          have F1 := stay hb4 (stay1 E1 _)
          have F2 := stay hb4 (stay1 E2 _)
          have F3 := stay hb4 (alloc_blk w3 _)
          have hT4 := (hTr.alloc _).below hb4
          have v0 := blk_cell F1 0
          have v1 := blk_cell F1 1
          have z0 := blk_cell F2 0
          have z9 := blk_cell F2 1
          have z8 := blk_free F2 1
          have z1 := blk_free F2 0
          have y0 := blk_cell F3 0
          have y9 := blk_cell F3 1
          have m1 := lt_of_block F1
          have m2 := lt_of_block F2
          have m3 := lt_of_block F3
          simp at v0 v1 z0 z9 y0 y9
          clear t0 t1 u0 u1 hb4 E0 E1 E2 F1
          go_wp2_with fail
          clear v0 v1 z0 z9 z8 z1 y0 y9 m1 m2 m3
          refine (isArgument_any T (some ⟨g, 0, none⟩) cap k' n' _).mono ?_
          rw [unhide H4]
          rintro e w5 ⟨rfl, hb5⟩
          have hB5 := hB4.trans (hb5.mono hs4)
          have hT5 := hT4.below hb5
          have G2 := stay hb5 F2
          have G3 := stay hb5 F3
          have z0 := blk_cell G2 0
          have z9 := blk_cell G2 1
          have z8 := blk_free G2 1
          have z1 := blk_free G2 0
          have y0 := blk_cell G3 0
          have y9 := blk_cell G3 1
          have m2 := lt_of_block G2
          have m3 := lt_of_block G3
          simp at z0 z9 y0 y9
          go_wp2_with fail
          refine bodyPost_ret (v := .tuple #[.agg #[.slice (some ⟨g, 0, none⟩) T.length cap, .slice ya yn yc], .int .i64 0]) (by simp [results, Tryz.results91, go_sem, z0, z9]) rfl ?_
          refine ⟨_, _, _, _, _, _, rfl, fun _ => ⟨g, rfl, rfl, ?_⟩, (hB5.setCell (by simp; omega) _).setCell (by simp; omega) _⟩
          have hgb : g ≠ w.heap.size + 1 + 1 := by simp at hg3; omega
          refine ⟨by simpa using hT5.1, fun i hi => ?_⟩
          rw [World.cell?_of_block (w := w5) ((Below.heap_setCell _ _ _ g (by simpa using hgb)).trans (Below.heap_setCell w5 _ _ g (by simpa using hgb)))]
          exact hT5.2 i hi
    · rw [if_pos h2]
      have h2' : (iq.1 != 0) = true := by simp [h2]
      have h1' : (q.2 != 0) = false := by simp [h1]
      have H2 := hide h2
      clear h2
      have H1 := hide h1
      have HER := hide her
      have HIN := hide hin
      clear h1 her hin
      go_enter Tryz.func91, Tryz.ntmps91
      go_wp2_with fail
      refine (read_any s _ hs).mono ?_
      rw [unhide HQ]
      rintro e w1 ⟨a1, n1, c1, a2, n2, c2, rfl, ⟨l, hl, hc⟩, hm, hb1⟩
      have hB1 := (below3 w _ _ _).trans (hb1.mono (by simp; omega))
      have C0 := stay hb1 (blks3 w _ _ _).1
      have C1 := stay hb1 (blks3 w _ _ _).2.1
      have C2 := stay hb1 (blks3 w _ _ _).2.2
      have hl1 : l.length ≤ 6 := by have := hbd.1; rw [← hl] at this; simpa using this
      have hl2 : ∀ p ∈ l, p.1.fields.length ≤ 1000 := fun p hp => hbd.2 _ (by rw [← hl]; exact List.mem_map_of_mem hp)
      have HL := hide hl
      have HBD := hide hbd
      have HL2 := hide hl2
      clear hl hbd hl2
      go_wp2_with fail
      refine (inClasses_any a1 a2 n1 c1 n2 c2 _ l _ hl1 (unhide HL2) (hc.kp (Kp.alloc (e := none) _ _) (by decide) (by decide))).mono ?_
      rw [unhide HL, unhide HT, unhide HIQ]
      rintro e w2 ⟨rfl, hb2⟩
      have hs1 := hB1.size
      have hB2 := (hB1.alloc hs1 (.cells #[.slice a1 n1 c1, .slice a2 n2 c2] 38)).trans (hb2.mono (by simp; omega))
      have C3 := stay hb2 (alloc_blk w1 _)
      have D0 := stay hb2 (stay1 C0 _)
      have D1 := stay hb2 (stay1 C1 _)
      have D2 := stay hb2 (stay1 C2 _)
      have hs2 := hB2.size
      have ls0 := lt_of_block D0
      have ls1 := lt_of_block D1
      have ls2 := lt_of_block D2
      have ls3 := lt_of_block C3
      have r0 := blk_cell D2 0
      have r9 := blk_cell D2 1
      have f9 := blk_free D2 1
      have f0 := blk_free D2 0
      simp at r0 r9
      go_wp2_with fail
      go_region
      all_goals (try go_wp2)
      refine bodyPost_ret (v := .tuple #[.agg #[.slice none 0 0, .slice none 0 0], .int .i64 iq.1]) (by simp [results, Tryz.results91, go_sem, r0, r9, ls2]) rfl ?_
      exact ⟨none, 0, 0, none, 0, 0, rfl, fun h => absurd h (unhide H2), by repeat (first | exact hB2 | refine Below.drew ?_ | refine Below.alloc ?_ (by simp; omega) _ | refine Below.setCell ?_ (by simp; omega) _)⟩
  · rw [if_pos h1]
    have h1' : (q.2 != 0) = true := by simp [h1]
    have H1 := hide h1
    have HER := hide her
    have HIN := hide hin
    have HBD := hide hbd
    clear h1 her hin hbd
    go_enter Tryz.func91, Tryz.ntmps91
    go_wp2_with fail
    refine (read_any s _ hs).mono ?_
    rw [unhide HQ]
    rintro e w1 ⟨a1, n1, c1, a2, n2, c2, rfl, hc, hm, hb1⟩
    have hB1 := (below3 w _ _ _).trans (hb1.mono (by simp; omega))
    have C2 := stay hb1 (blks3 w _ _ _).2.2
    have r0 := blk_cell C2 0
    have r9 := blk_cell C2 1
    have f9 := blk_free C2 1
    have f0 := blk_free C2 0
    have lt2 := lt_of_block C2
    simp at r0 r9
    go_wp2_with fail
    refine bodyPost_ret (v := .tuple #[.agg #[.slice none 0 0, .slice none 0 0], .int .i64 q.2]) (by simp [results, Tryz.results91, go_sem, r0, r9, lt2]) rfl ?_
    exact ⟨none, 0, 0, none, 0, 0, rfl, fun h => absurd h (unhide H1), ((hB1.setCell (by simp; omega) _).setCell (by simp; omega) _).alloc (by simp; have := hB1.size; omega) _⟩
end Go.Proofs.YteffpdofcgbokaaGreat
