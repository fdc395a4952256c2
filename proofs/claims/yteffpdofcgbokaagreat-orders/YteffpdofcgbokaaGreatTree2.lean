/-
  The walks over package types: IsPlain, IsSettled, IsArgument, Fits, meet, Join.
-/
import Derived.Test.YteffpdofcgbokaaGreatTree1
namespace Go.Proofs.YteffpdofcgbokaaGreat
open Go.RowKit
variable {ya : Option Addr} {yn yc : Nat}

theorem below2 (w : World) (o o' : Obj) : Below w.heap.size w ((w.alloc o).alloc o') := ((Below.refl _ _).alloc (Nat.le_refl _) _).alloc (by simp) _
theorem below3 (w : World) (o o' o'' : Obj) : Below w.heap.size w (((w.alloc o).alloc o').alloc o'') := (((Below.refl _ _).alloc (Nat.le_refl _) _).alloc (by simp) _).alloc (by simp; omega) _

set_option maxRecDepth 100000 in
set_option maxHeartbeats 1000000 in
theorem isPlain_any (l : List Int) (a : Option Addr) (cap : Nat) (k n : Int) (w : World) :
    Calls Tryz.prog 155 #[.agg #[.slice a l.length cap, .slice ya yn yc], .agg #[.int .i64 k, .int .i64 n]] w fun e w' => e = .returned (.bool (Tr.plainB l k n)) ∧ Below w.heap.size w w' := by
  unfold Tr.plainB
  by_cases h1 : k = 1
  · rw [if_pos h1]
    have h1' : (k == 1) = true := by simp [h1]
    clear h1
    go_enter Tryz.func155, Tryz.ntmps155
    go_wp2
    go_ret
    exact ⟨rfl, below2 _ _ _⟩
  · rw [if_neg h1]
    have h1' : (k == 1) = false := by simp [h1]
    clear h1
    by_cases h3 : k = 3
    · rw [if_pos h3]
      have h3' : (k == 3) = true := by simp [h3]
      clear h3
      go_enter Tryz.func155, Tryz.ntmps155
      go_wp2_with fail
      refine (has_any l a cap n _).mono ?_
      rintro e w1 ⟨rfl, hb⟩
      go_wp2
      go_ret
      exact ⟨rfl, (below2 _ _ _).trans (hb.mono (by simp; omega))⟩
    · rw [if_neg h3]
      have h3' : (k == 3) = false := by simp [h3]
      clear h3
      go_enter Tryz.func155, Tryz.ntmps155
      go_wp2
      go_ret
      exact ⟨rfl, below2 _ _ _⟩

set_option maxRecDepth 100000 in
set_option maxHeartbeats 1000000 in
theorem isSettled_any (l : List Int) (a : Option Addr) (cap : Nat) (k n : Int) (w : World) :
    Calls Tryz.prog 179 #[.agg #[.slice a l.length cap, .slice ya yn yc], .agg #[.int .i64 k, .int .i64 n]] w fun e w' => e = .returned (.bool (Tr.settledB l k n)) ∧ Below w.heap.size w w' := by
  unfold Tr.settledB
  by_cases h1 : k = 0
  · rw [if_pos (.inl h1)]
    have h1' : (k == 0) = true := by simp [h1]
    clear h1
    go_enter Tryz.func179, Tryz.ntmps179
    go_wp2
    go_ret
    exact ⟨rfl, below2 _ _ _⟩
  · by_cases h2 : k = 2
    · rw [if_pos (.inr h2)]
      have h1' : (k == 0) = false := by simp [h1]
      have h2' : (k == 2) = true := by simp [h2]
      clear h1 h2
      go_enter Tryz.func179, Tryz.ntmps179
      go_wp2
      go_ret
      exact ⟨rfl, below2 _ _ _⟩
    · rw [if_neg (by omega)]
      have h1' : (k == 0) = false := by simp [h1]
      have h2' : (k == 2) = false := by simp [h2]
      clear h1 h2
      go_enter Tryz.func179, Tryz.ntmps179
      go_wp2_with fail
      refine (isPlain_any l a cap k n _).mono ?_
      rintro e w1 ⟨rfl, hb⟩
      go_wp2
      go_ret
      exact ⟨rfl, (below2 _ _ _).trans (hb.mono (by simp; omega))⟩

set_option maxRecDepth 100000 in
set_option maxHeartbeats 1000000 in
theorem isArgument_any (l : List Int) (a : Option Addr) (cap : Nat) (k n : Int) (w : World) :
    Calls Tryz.prog 134 #[.agg #[.slice a l.length cap, .slice ya yn yc], .agg #[.int .i64 k, .int .i64 n]] w fun e w' => e = .returned (.bool (Tr.argB l k n)) ∧ Below w.heap.size w w' := by
  unfold Tr.argB
  by_cases h1 : k = 4
  · rw [if_pos h1]
    have h1' : (k == 4) = true := by simp [h1]
    clear h1
    by_cases h2 : 0 ≤ n
    · go_enter Tryz.func134, Tryz.ntmps134
      go_wp2
      go_ret
      exact ⟨by simp [h2], below2 _ _ _⟩
    · go_enter Tryz.func134, Tryz.ntmps134
      go_wp2
      go_ret
      exact ⟨by simp; omega, below2 _ _ _⟩
  · rw [if_neg h1]
    have h1' : (k == 4) = false := by simp [h1]
    clear h1
    go_enter Tryz.func134, Tryz.ntmps134
    go_wp2_with fail
    refine (isSettled_any l a cap k n _).mono ?_
    rintro e w1 ⟨rfl, hb⟩
    go_wp2
    go_ret
    exact ⟨rfl, (below2 _ _ _).trans (hb.mono (by simp; omega))⟩

set_option maxRecDepth 100000 in
set_option maxHeartbeats 1000000 in
theorem tfits_any (l : List Int) (g cap : Nat) (k n k' n' : Int) (w : World) (hl : l.length ≤ 1000) (hT : TreeIn w g l) :
    Calls Tryz.prog 92 #[.agg #[.slice (some ⟨g, 0, none⟩) l.length cap, .slice ya yn yc], .agg #[.int .i64 k, .int .i64 n], .agg #[.int .i64 k', .int .i64 n']] w fun e w' => e = .returned (.bool (Tr.fitsB l k n k' n')) ∧ Below w.heap.size w w' := by
  unfold Tr.fitsB
  by_cases h1 : k = k' ∧ n = n'
  · rw [if_pos h1]
    obtain ⟨rfl, rfl⟩ := h1
    go_enter Tryz.func92, Tryz.ntmps92
    go_wp2
    go_ret
    exact ⟨rfl, below3 _ _ _ _⟩
  · rw [if_neg h1]
    by_cases h2 : k' = 0
    · rw [if_pos h2]
      subst h2
      by_cases h0 : k = 0
      · subst h0
        have hn : ¬ n = n' := fun hn => h1 ⟨rfl, hn⟩
        clear h1
        go_enter Tryz.func92, Tryz.ntmps92
        go_wp2
        go_ret
        exact ⟨rfl, below3 _ _ _ _⟩
      · clear h1
        go_enter Tryz.func92, Tryz.ntmps92
        go_wp2
        go_ret
        exact ⟨rfl, below3 _ _ _ _⟩
    · rw [if_neg h2]
      by_cases h3 : k' = 3
      · rw [if_neg (by omega)]
        subst h3
        by_cases h4 : k = 2
        · rw [if_pos h4]
          subst h4
          clear h1 h2
          go_enter Tryz.func92, Tryz.ntmps92
          go_wp2
          go_ret
          exact ⟨rfl, below3 _ _ _ _⟩
        · rw [if_neg h4]
          by_cases h5 : k = 3
          · rw [if_pos h5]
            subst h5
            have hn : ¬ n = n' := fun hn => h1 ⟨rfl, hn⟩
            clear h1 h2 h4
            go_enter Tryz.func92, Tryz.ntmps92
            go_wp2_with fail
            refine (below_any l g cap n n' _ hl (hT.below (below3 _ _ _ _))).mono ?_
            rintro e w1 ⟨rfl, hb⟩
            go_wp2
            go_ret
            exact ⟨rfl, (below3 _ _ _ _).trans (hb.mono (by simp; omega))⟩
          · rw [if_neg h5]
            have h4' : (k == 2) = false := by simp [h4]
            have h5' : (k == 3) = false := by simp [h5]
            clear h1 h2 h4
            go_enter Tryz.func92, Tryz.ntmps92
            go_wp2
            go_ret
            exact ⟨rfl, below3 _ _ _ _⟩
      · rw [if_pos h3]
        have h2' : (k' == 0) = false := by simp [h2]
        have h3' : (k' != 3) = true := by simp [h3]
        by_cases h0 : k = k'
        · subst h0
          have hn : ¬ n = n' := fun hn => h1 ⟨rfl, hn⟩
          clear h1 h2 h3
          go_enter Tryz.func92, Tryz.ntmps92
          go_wp2
          go_ret
          exact ⟨rfl, below3 _ _ _ _⟩
        · clear h1 h2 h3
          go_enter Tryz.func92, Tryz.ntmps92
          go_wp2
          go_ret
          exact ⟨rfl, below3 _ _ _ _⟩
end Go.Proofs.YteffpdofcgbokaaGreat
