/-
  The walks over the document's rules of form: class, Below, plain.
-/
import Derived.Test.YteffpdofcgbokaaGreatRReps
import Derived.Test.YteffpdofcgbokaaGreatRTree
import Derived.Test.YteffpdofcgbokaaGreatTPlain
namespace Go.Proofs.YteffpdofcgbokaaGreat
open Go.RowKit

/-- the document's Below: a is b, or below it -/
def Tr.rb (l : List Int) (b : Int) : Nat → Int → Bool
  | 0, _ => false
  | n + 1, a => if a = b then true else if Tr.hasB l a = false then false else Tr.rb l b n (l.getD a.toNat 0)
def Tr.rbel (l : List Int) (a b : Int) : Bool := Tr.rb l b (l.length + 1) a

/-- the classes above, of a file that the document's reader read -/
def supers (l : List (Rd.Cls × Value)) : List Int := (l.map Prod.fst).map Rd.Cls.above
theorem supers_len (l : List (Rd.Cls × Value)) : (supers l).length = l.length := by simp [supers]
theorem supers_at (l : List (Rd.Cls × Value)) (k : Nat) (h : k < l.length) : (supers l).getD k 0 = l[k].1.above := by
  simp [supers, List.getD_eq_getElem?_getD, h]

set_option maxRecDepth 100000 in
set_option maxHeartbeats 1000000 in
theorem rhas_any (T : List Int) (a a2 : Option Addr) (c n2 c2 : Nat) (x : Int) (w : World) :
    Calls Tryz.prog 22 #[.agg #[.slice a T.length c, .slice a2 n2 c2], .int .i64 x] w fun e w' => e = .returned (.bool (Tr.hasB T x)) ∧ Below w.heap.size w w' := by
  unfold Tr.hasB
  by_cases h1 : 0 ≤ x
  · go_enter Tryz.func22, Tryz.ntmps22
    go_wp2
    go_ret
    exact ⟨by simp [h1], (Below.refl _ _).alloc (Nat.le_refl _) _⟩
  · go_enter Tryz.func22, Tryz.ntmps22
    go_wp2
    go_ret
    exact ⟨by simp; omega, (Below.refl _ _).alloc (Nat.le_refl _) _⟩

set_option maxRecDepth 100000 in
set_option maxHeartbeats 2000000 in
theorem rplain_any (T : List Int) (a a2 : Option Addr) (c n2 c2 : Nat) (k n : Int) (w : World) :
    Calls Tryz.prog 23 #[.agg #[.slice a T.length c, .slice a2 n2 c2], .agg #[.int .i64 k, .int .i64 n]] w fun e w' => e = .returned (.bool (Tr.plainB T k n)) ∧ Below w.heap.size w w' := by
  unfold Tr.plainB
  generalize hh : Tr.hasB T n = hb
  have HH := hide hh
  clear hh
  by_cases h1 : k = 1
  · rw [if_pos h1]
    subst h1
    cases hn : (n == 0)
    all_goals
      go_enter Tryz.func23, Tryz.ntmps23
      go_wp2_with fail
      refine (rhas_any T a a2 c n2 c2 n _).mono ?_
      rw [unhide HH]
      rintro e w1 ⟨rfl, hb1⟩
      have C1 := stay hb1 (alloc2_blk w _ _)
      have y0 := blk_cell C1 0
      have y1 := blk_cell C1 1
      simp at y0 y1
      go_wp2
      go_ret
      exact ⟨rfl, (below2 _ _ _).trans (hb1.mono (by simp; omega))⟩
  · rw [if_neg h1]
    have h1' : (k == 1) = false := by simp [h1]
    by_cases h3 : k = 3
    · rw [if_pos h3]
      subst h3
      cases hb
      all_goals
        go_enter Tryz.func23, Tryz.ntmps23
        go_wp2_with fail
        refine (rhas_any T a a2 c n2 c2 n _).mono ?_
        rw [unhide HH]
        rintro e w1 ⟨rfl, hb1⟩
        have C1 := stay hb1 (alloc2_blk w _ _)
        have y0 := blk_cell C1 0
        have y1 := blk_cell C1 1
        simp at y0 y1
        go_wp2
        go_ret
        exact ⟨rfl, (below2 _ _ _).trans (hb1.mono (by simp; omega))⟩
    · rw [if_neg h3]
      have h3' : (k == 3) = false := by simp [h3]
      clear h1 h3
      go_enter Tryz.func23, Tryz.ntmps23
      go_wp2_with fail
      refine (rhas_any T a a2 c n2 c2 n _).mono ?_
      rw [unhide HH]
      rintro e w1 ⟨rfl, hb1⟩
      have C1 := stay hb1 (alloc2_blk w _ _)
      have y0 := blk_cell C1 0
      have y1 := blk_cell C1 1
      simp at y0 y1
      go_wp2
      go_ret
      exact ⟨rfl, (below2 _ _ _).trans (hb1.mono (by simp; omega))⟩

theorem rb_hit {l : List Int} {a b : Int} {n : Nat} (h : a = b) : Tr.rb l b (n + 1) a = true := by simp [Tr.rb, h]
theorem rb_out {l : List Int} {a b : Int} {n : Nat} (h : a ≠ b) (h2 : Tr.hasB l a = false) : Tr.rb l b (n + 1) a = false := by simp [Tr.rb, h, h2]
theorem rb_up {l : List Int} {a b : Int} {n : Nat} (h : a ≠ b) (h2 : Tr.hasB l a = true) : Tr.rb l b (n + 1) a = Tr.rb l b n (l.getD a.toNat 0) := by simp [Tr.rb, h, h2]

set_option maxRecDepth 100000 in
set_option maxHeartbeats 4000000 in
theorem rbelow_any (a1 a2 : Option Addr) (c1 n2 c2 bb : Nat) (l : List (Rd.Cls × Value)) (x y : Int) (w : World) (hl : l.length ≤ 1000) (hc : RClssIn w bb (.slice a1 l.length c1) l) :
    Calls Tryz.prog 24 #[.agg #[.slice a1 l.length c1, .slice a2 n2 c2], .int .i64 x, .int .i64 y] w fun e w' => e = .returned (.bool (Tr.rbel (supers l) x y)) ∧ Below w.heap.size w w' := by
  unfold Tr.rbel
  rw [supers_len]
  generalize hr : Tr.rb (supers l) y (l.length + 1) x = r
  have HR : Hid (Tr.rb (supers l) y (l.length + 1 - 0) x = r) := hr
  clear hr
  have hB1 : Below w.heap.size w (w.alloc (.cells #[.slice a1 l.length c1, .slice a2 n2 c2] 28)) := (Below.refl _ _).alloc (Nat.le_refl _) _
  have hx1 := alloc_blk w (.cells #[.slice a1 l.length c1, .slice a2 n2 c2] 28)
  go_enter Tryz.func24, Tryz.ntmps24
  go_wp2
  go_loopw [1, 7] (fun p i wr => ∃ (k : Nat) (q : Int), k ≤ l.length + 1 ∧ i = .int .i64 k ∧ p = .int .i64 q ∧ Hid (Tr.rb (supers l) y (l.length + 1 - k) q = r) ∧ Below w.heap.size w wr ∧
      wr.heap[w.heap.size]? = some (.cells #[.slice a1 l.length c1, .slice a2 n2 c2] 28 (0, 0)))
    (fun _ i _ => l.length + 1 - (intOf i).toNat)
  case atStart => exact ⟨0, _, by omega, rfl, rfl, HR, hB1, hx1⟩
  case round =>
    clear hB1 hx1 HR
    obtain ⟨k, q, hk, rfl, rfl, HR, hB, hx⟩ := hrel
    have c0 := blk_cell hx 0
    have d1 := blk_cell hx 1
    simp at c0 d1
    have hBs := hB.size
    by_cases hkn : k ≤ l.length
    · by_cases h1 : q = y
      · have h1' : (q == y) = true := by simp [h1]
        have hf : r = true := by rw [← unhide HR, show l.length + 1 - k = (l.length - k) + 1 by omega]; exact rb_hit h1
        have HF := hide hf
        clear hf h1
        go_wp2
        go_ret
        exact ⟨by rw [unhide HF]; rfl, hB⟩
      · have h1' : (q == y) = false := by simp [h1]
        cases hh : Tr.hasB (supers l) q with
        | false =>
          have hf : r = false := by rw [← unhide HR, show l.length + 1 - k = (l.length - k) + 1 by omega]; exact rb_out h1 hh
          have HF := hide hf
          have HH := hide hh
          clear hf h1 hh
          go_wp2_with fail
          refine (show Calls Tryz.prog _ _ _ _ from by have := rhas_any (supers l) a1 a2 c1 n2 c2 q wr; rw [supers_len] at this; exact this).mono ?_
          rw [unhide HH]
          rintro e w2 ⟨rfl, hb2⟩
          go_wp2
          go_ret
          exact ⟨by rw [unhide HF]; rfl, hB.trans (hb2.mono hBs)⟩
        | true =>
          have hq : 0 ≤ q ∧ q < (l.length : Int) := by
            unfold Tr.hasB at hh
            rw [supers_len] at hh
            simpa using hh
          obtain ⟨m, hm⟩ := Int.eq_ofNat_of_zero_le hq.1
          subst hm
          have hml : m < l.length := by omega
          have HF : Hid (Tr.rb (supers l) y (l.length + 1 - (k + 1)) l[m].1.above = r) := by
            unfold Hid
            rw [← unhide HR, show l.length + 1 - k = (l.length + 1 - (k + 1)) + 1 by omega, rb_up h1 hh, Int.toNat_natCast, supers_at l m hml]
          have HH := hide hh
          clear h1 hh
          go_wp2_with fail
          refine (show Calls Tryz.prog _ _ _ _ from by have := rhas_any (supers l) a1 a2 c1 n2 c2 (m : Int) wr; rw [supers_len] at this; exact this).mono ?_
          rw [unhide HH]
          rintro e w2 ⟨rfl, hb2⟩
          have hB2 := hB.trans (hb2.mono hBs)
          have hx2 := stay hb2 hx
          obtain ⟨g, hg, hglt, _, hcell⟩ := own_some (own_kp hc.1 (Kp.of_below (e := none) hB2) (by decide)) (by omega)
          obtain ⟨e1, e2, e3⟩ := ccells_at l m hml
          have x0 := hcell (m * 2) (by omega)
          rw [e1] at x0
          have c2' := blk_cell hx2 0
          simp at c2'
          generalize l[m].1.above = ab at *
          clear hcell e1 e2 e3 hb2 hB hx c0 d1
          subst hg
          go_wp2
          go_roundw
          case rel => exact ⟨k + 1, _, by omega, by go_num, rfl, HF, hB2, hx2⟩
          case measure => simp [intOf]; omega
    · have hf : r = false := by rw [← unhide HR, show l.length + 1 - k = 0 by omega]; rfl
      have HF := hide hf
      clear hf
      go_wp2
      go_ret
      exact ⟨by rw [unhide HF]; rfl, hB⟩
end Go.Proofs.YteffpdofcgbokaaGreat
