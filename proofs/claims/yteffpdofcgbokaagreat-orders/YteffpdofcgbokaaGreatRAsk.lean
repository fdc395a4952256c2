/-
  The walks over the document's asked and fits.
-/
import Derived.Test.YteffpdofcgbokaaGreatRJoinP
namespace Go.Proofs.YteffpdofcgbokaaGreat
open Go.RowKit

set_option maxRecDepth 100000 in
set_option maxHeartbeats 2000000 in
theorem rasked_any (T : List Int) (a a2 : Option Addr) (c n2 c2 : Nat) (k n : Int) (w : World) :
    Calls Tryz.prog 93 #[.agg #[.slice a T.length c, .slice a2 n2 c2], .agg #[.int .i64 k, .int .i64 n]] w fun e w' => e = .returned (.bool (Tr.argB T k n)) ∧ Below w.heap.size w w' := by
  unfold Tr.argB Tr.settledB Tr.plainB
  by_cases h4 : k = 4
  · rw [if_pos h4]
    subst h4
    by_cases h2 : 0 ≤ n
    all_goals
      go_enter Tryz.func93, Tryz.ntmps93
      go_wp2
      go_ret
      exact ⟨by first | (simp [h2]; done) | (simp; omega), below2 _ _ _⟩
  · rw [if_neg h4]
    by_cases h0 : k = 0
    · subst h0
      rw [if_pos (by omega)]
      go_enter Tryz.func93, Tryz.ntmps93
      go_wp2
      go_ret
      exact ⟨rfl, below2 _ _ _⟩
    · by_cases h2 : k = 2
      · subst h2
        rw [if_pos (by omega)]
        go_enter Tryz.func93, Tryz.ntmps93
        go_wp2
        go_ret
        exact ⟨rfl, below2 _ _ _⟩
      · rw [if_neg (by omega)]
        by_cases h1 : k = 1
        · rw [if_pos h1]
          subst h1
          go_enter Tryz.func93, Tryz.ntmps93
          go_wp2
          go_ret
          exact ⟨rfl, below2 _ _ _⟩
        · rw [if_neg h1]
          by_cases h3 : k = 3
          · rw [if_pos h3]
            subst h3
            go_enter Tryz.func93, Tryz.ntmps93
            go_wp2_with fail
            refine (rhas_any T a a2 c n2 c2 n _).mono ?_
            rintro e w1 ⟨rfl, hb1⟩
            go_wp2
            go_ret
            exact ⟨rfl, (below2 _ _ _).trans (hb1.mono (by simp; omega))⟩
          · rw [if_neg h3]
            have h0' : (k == 0) = false := by simp [h0]
            have h1' : (k == 1) = false := by simp [h1]
            have h2' : (k == 2) = false := by simp [h2]
            have h3' : (k == 3) = false := by simp [h3]
            have h4' : (k == 4) = false := by simp [h4]
            clear h0 h1 h2 h3 h4
            go_enter Tryz.func93, Tryz.ntmps93
            go_wp2
            go_ret
            exact ⟨rfl, below2 _ _ _⟩

set_option maxRecDepth 100000 in
set_option maxHeartbeats 2000000 in
theorem rfits_any (a1 a2 : Option Addr) (c1 n2 c2 bb : Nat) (l : List (Rd.Cls × Value)) (k n k' n' : Int) (w : World) (hl : l.length ≤ 1000) (hc : RClssIn w bb (.slice a1 l.length c1) l) :
    Calls Tryz.prog 94 #[.agg #[.slice a1 l.length c1, .slice a2 n2 c2], .agg #[.int .i64 k, .int .i64 n], .agg #[.int .i64 k', .int .i64 n']] w fun e w' => e = .returned (.bool (Tr.rfits (supers l) k n k' n')) ∧ Below w.heap.size w w' := by
  unfold Tr.rfits
  by_cases h1 : k = k' ∧ n = n'
  · rw [if_pos h1]
    obtain ⟨rfl, rfl⟩ := h1
    go_enter Tryz.func94, Tryz.ntmps94
    go_wp2
    go_ret
    exact ⟨rfl, below3 _ _ _ _⟩
  · rw [if_neg h1]
    by_cases h2 : k' = 0
    · rw [if_pos h2]
      subst h2
      by_cases h0 : k = 0
      · subst h0
        have hn : ¬ n = n' := fun hn => h1 ⟨rfl, hn⟩
        clear h1
        go_enter Tryz.func94, Tryz.ntmps94
        go_wp2
        go_ret
        exact ⟨rfl, below3 _ _ _ _⟩
      · clear h1
        go_enter Tryz.func94, Tryz.ntmps94
        go_wp2
        go_ret
        exact ⟨rfl, below3 _ _ _ _⟩
    · rw [if_neg h2]
      have h2' : (k' == 0) = false := by simp [h2]
      by_cases h4 : k = 2
      · rw [if_pos h4]
        subst h4
        by_cases h0 : (2 : Int) = k'
        · subst h0
          have hn : ¬ n = n' := fun hn => h1 ⟨rfl, hn⟩
          clear h1
          go_enter Tryz.func94, Tryz.ntmps94
          go_wp2
          go_ret
          exact ⟨rfl, below3 _ _ _ _⟩
        · clear h1 h2
          go_enter Tryz.func94, Tryz.ntmps94
          go_wp2
          go_ret
          exact ⟨rfl, below3 _ _ _ _⟩
      · rw [if_neg h4]
        by_cases h5 : k = 3
        · rw [if_pos h5]
          subst h5
          generalize hr : Tr.rbel (supers l) n n' = r
          have HR := hide hr
          clear hr
          by_cases h0 : (3 : Int) = k'
          · subst h0
            have hn : ¬ n = n' := fun hn => h1 ⟨rfl, hn⟩
            clear h1 h2 h4
            go_enter Tryz.func94, Tryz.ntmps94
            go_wp2_with fail
            refine (rbelow_any a1 a2 c1 n2 c2 bb l n n' _ hl (hc.kp (Kp.of_below (e := none) (below3 _ _ _ _)) (by decide) (by decide))).mono ?_
            rw [unhide HR]
            rintro e w1 ⟨rfl, hb⟩
            have C1 := stay hb (blks3 w _ _ _).2.2
            have y0 := blk_cell C1 0
            have y1 := blk_cell C1 1
            simp at y0 y1
            go_wp2
            go_ret
            exact ⟨rfl, (below3 _ _ _ _).trans (hb.mono (by simp; omega))⟩
          · have h3' : (k' == 3) = false := by simp; omega
            rw [h3']
            clear h1 h2 h4
            go_enter Tryz.func94, Tryz.ntmps94
            go_wp2_with fail
            refine (rbelow_any a1 a2 c1 n2 c2 bb l n n' _ hl (hc.kp (Kp.of_below (e := none) (below3 _ _ _ _)) (by decide) (by decide))).mono ?_
            rw [unhide HR]
            rintro e w1 ⟨rfl, hb⟩
            have C1 := stay hb (blks3 w _ _ _).2.2
            have y0 := blk_cell C1 0
            have y1 := blk_cell C1 1
            simp at y0 y1
            go_wp2
            go_ret
            exact ⟨rfl, (below3 _ _ _ _).trans (hb.mono (by simp; omega))⟩
        · rw [if_neg h5]
          have h4' : (k == 2) = false := by simp [h4]
          have h5' : (k == 3) = false := by simp [h5]
          by_cases h0 : k = k'
          · subst h0
            have hn : ¬ n = n' := fun hn => h1 ⟨rfl, hn⟩
            clear h1 h2 h4 h5
            go_enter Tryz.func94, Tryz.ntmps94
            go_wp2
            go_ret
            exact ⟨rfl, below3 _ _ _ _⟩
          · clear h1 h2 h4 h5
            go_enter Tryz.func94, Tryz.ntmps94
            go_wp2
            go_ret
            exact ⟨rfl, below3 _ _ _ _⟩
end Go.Proofs.YteffpdofcgbokaaGreat
