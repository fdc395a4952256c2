/-
  The walks over the document's reader: at, count, types, readClass.
-/
import Derived.Test.YteffpdofcgbokaaGreatRReps
import Derived.Test.YteffpdofcgbokaaGreatClass
namespace Go.Proofs.YteffpdofcgbokaaGreat
open Go.RowKit

theorem at_hit {s : ByteArray} {i : Nat} (h : i < s.size) : Rf.at' s.data.toList (i : Int) = (s[i].toNat : Int) := by
  have h' : i < s.data.toList.length := by simpa using h
  have e : s.data.toList[i]?.getD 0 = s[i] := by rw [List.getElem?_eq_getElem h']; rfl
  unfold Rf.at'
  rw [if_neg (by omega), if_neg (by omega), Int.toNat_natCast, e]

set_option maxRecDepth 100000 in
set_option maxHeartbeats 400000 in
theorem rat_any (s : ByteArray) (i : Int) (w : World) (_hs : s.size ≤ maxLen) :
    Calls Tryz.prog 45 #[.string s, .int .i64 i] w fun e w' => e = .returned (.int .i64 (Rf.at' s.data.toList i)) ∧ w = w' := by
  have hl : s.data.toList.length = s.size := by simp
  by_cases h0 : i < 0
  · have e : Rf.at' s.data.toList i = -1 := by unfold Rf.at'; rw [if_pos h0]
    rw [e]
    go_enter Tryz.func45, Tryz.ntmps45
    go_wp2
    go_ret
    exact ⟨rfl, rfl⟩
  · by_cases h1 : (s.size : Int) ≤ i
    · rw [Rf.at_out (by omega)]
      go_enter Tryz.func45, Tryz.ntmps45
      go_wp2
      go_ret
      exact ⟨rfl, rfl⟩
    · obtain ⟨k, rfl⟩ := Int.eq_ofNat_of_zero_le (show 0 ≤ i by omega)
      have hk : k < s.size := by omega
      rw [at_hit hk]
      go_enter Tryz.func45, Tryz.ntmps45
      go_wp2
      go_ret
      exact ⟨ret_int (wrap_byte _), rfl⟩

set_option maxRecDepth 100000 in
set_option maxHeartbeats 400000 in
theorem rcount_any (s : ByteArray) (i least most : Int) (w : World) (hs : s.size ≤ maxLen) :
    Calls Tryz.prog 46 #[.string s, .int .i64 i, .int .i64 least, .int .i64 most] w fun e w' => e = .returned (.int .i64 (Rf.cnt s.data.toList i least most)) ∧ w = w' := by
  unfold Rf.cnt
  generalize hr : Rf.at' s.data.toList i = r
  have HR := hide hr
  clear hr
  by_cases h1 : r < least
  · rw [if_pos h1]
    go_enter Tryz.func46, Tryz.ntmps46
    go_wp2_with (go_at_call 45; refine (rat_any s i _ hs).mono ?_; rw [unhide HR]; rintro e w1 ⟨rfl, rfl⟩)
    go_ret
    exact ⟨rfl, rfl⟩
  · rw [if_neg h1]
    by_cases h2 : most < r
    · rw [if_pos h2]
      go_enter Tryz.func46, Tryz.ntmps46
      go_wp2_with (go_at_call 45; refine (rat_any s i _ hs).mono ?_; rw [unhide HR]; rintro e w1 ⟨rfl, rfl⟩)
      go_ret
      exact ⟨rfl, rfl⟩
    · rw [if_neg h2]
      go_enter Tryz.func46, Tryz.ntmps46
      go_wp2_with (go_at_call 45; refine (rat_any s i _ hs).mono ?_; rw [unhide HR]; rintro e w1 ⟨rfl, rfl⟩)
      go_ret
      exact ⟨rfl, rfl⟩

theorem rtys_len (s : List UInt8) (i : Int) (n : Nat) : (Rf.tys s i n).length = n := by
  induction n with
  | zero => rfl
  | succ k ih => simp [Rf.tys, ih]

set_option maxRecDepth 100000 in
set_option maxHeartbeats 1000000 in
theorem rtypes_any (s : ByteArray) (i n : Int) (w : World) (hs : s.size ≤ maxLen) (hi0 : 0 ≤ i) (hi1 : i ≤ 1000000) (hn0 : 0 ≤ n) (hn1 : n ≤ 255) :
    Calls Tryz.prog 79 #[.string s, .int .i64 i, .int .i64 n] w fun e w' =>
      ∃ a c, e = .returned (.slice a n.toNat c) ∧ TysAt w' w.heap.size (.slice a n.toNat c) (Rf.tys s.data.toList i n.toNat) ∧ Below w.heap.size w w' := by
  obtain ⟨i0, hi, hz0, hz1, hz2⟩ := info_parts Tryz.infoType
  go_enter Tryz.func79, Tryz.ntmps79
  go_wp2
  go_loopw [7, 8] (fun v j wr => ∃ k : Nat, (k : Int) ≤ n ∧ j = .int .i64 k ∧ wr.ownsRow w.heap.size 48 2 v k (tcells (Rf.tys s.data.toList i k)) ∧ Below w.heap.size w wr)
    (fun _ j _ => n.toNat - (intOf j).toNat)
  case atStart => exact ⟨0, by omega, rfl, World.ownsRow_nil _ _ _ _, Below.refl _ _⟩
  case round =>
    obtain ⟨k, hk, rfl, hown, hbl⟩ := hrel
    have hsz := hbl.size
    by_cases hkn : (k : Int) < n
    · generalize hp : Rf.tys s.data.toList i k = p at *
      generalize ha : Rf.at' s.data.toList (i + 2 * (k : Int)) = x at *
      generalize hb : Rf.at' s.data.toList (i + 2 * (k : Int) + 1) = y at *
      have HE : Hid (Rf.tys s.data.toList i (k + 1) = p ++ [(x, y)]) := by unfold Hid; rw [Rf.tys, hp, ha, hb]
      have HA := hide ha
      have HB := hide hb
      clear hp ha hb
      go_wp2_with fail
      refine (rat_any s (i + 2 * (k : Int)) _ hs).mono ?_
      rw [unhide HA]
      rintro e w1 ⟨rfl, rfl⟩
      go_wp2_with fail
      refine (rat_any s (i + 2 * (k : Int) + 1) _ hs).mono ?_
      rw [unhide HB]
      rintro e w1 ⟨rfl, rfl⟩
      go_wp2_with (at_builtin; refine wpList_append_own _ rfl _ _ 46 rfl w.heap.size 48 i0 _ 2 16 Tryz.underlying46 hi hz0 hz1 hz2 rfl (by decide) _ _ _ rfl (hown.alloc _) ⟨wr.heap.size, 0, none⟩ 1 1 [.int .i64 x, .int .i64 y] rfl rfl ?c1 ?c2 ?c3 ?c4 ?c5 ?_)
      case c1 => exact cells_new _ _ _ _ rfl
      case c2 => intro u hu; simp at hu; rcases hu with rfl | rfl <;> rfl
      case c3 => unfold maxLen; omega
      case c4 => omega
      case c5 => simp; omega
      intro v' w2 hown2 hgrow _
      have hown3 : w2.ownsRow w.heap.size 48 2 v' (k + 1) (tcells (Rf.tys s.data.toList i (k + 1))) := by
        rw [unhide HE, tcells_snoc]; exact hown2
      have hbl2 := (hbl.alloc hsz (.cells #[.int .i64 x, .int .i64 y] 48)).grown hgrow (by simp; omega) (fun j hj => (hown.lt j hj).1)
      clear hgrow hown hown2 hbl
      go_wp2
      go_roundw
      case rel => exact ⟨k + 1, by omega, by go_num, hown3, hbl2⟩
      case measure => simp [intOf]; omega
    · obtain rfl : k = n.toNat := by omega
      obtain ⟨va, vc, rfl⟩ := own_shape hown
      go_wp2
      go_ret
      refine ⟨_, _, rfl, ?_, hbl⟩
      unfold TysAt
      rw [rtys_len]
      exact hown

set_option maxRecDepth 100000 in
set_option maxHeartbeats 1000000 in
theorem rclass_any (s : ByteArray) (i : Int) (w : World) (hs : s.size ≤ maxLen) (hi0 : 0 ≤ i) (hi1 : i ≤ 100000) :
    Calls Tryz.prog 47 #[.string s, .int .i64 i] w fun e w' =>
      ∃ x a n c, e = .returned (.tuple #[.agg #[.int .i64 x, .slice a n c], .int .i64 (Rf.cls s.data.toList i).2]) ∧
        (0 ≤ (Rf.cls s.data.toList i).2 → x = (Rf.cls s.data.toList i).1.above ∧ TysAt w' w.heap.size (.slice a n c) (Rf.cls s.data.toList i).1.fields) ∧ Below w.heap.size w w' := by
  unfold Rf.cls
  generalize hr : Rf.cnt s.data.toList (i + 1) 0 4 = r
  have hb := Rf.cnt_bd s.data.toList (i + 1) 0 4 (by omega)
  rw [hr] at hb
  obtain ⟨hb0, hb1⟩ := hb
  have HR := hide hr
  clear hr
  by_cases h0 : r < 0
  · rw [if_pos h0]
    go_enter Tryz.func47, Tryz.ntmps47
    go_wp2_with fail
    refine (rcount_any s (i + 1) 0 4 _ hs).mono ?_
    rw [unhide HR]
    rintro e w1 ⟨rfl, rfl⟩
    go_wp2_with fail
    refine bodyPost_ret (v := .tuple #[.agg #[.int .i64 0, .slice none 0 0], .int .i64 (-1)]) (by simp [results, Tryz.results47, go_sem]) rfl ?_
    exact ⟨0, none, 0, 0, rfl, fun h => absurd h (by decide), (Below.refl _ _).alloc (Nat.le_refl _) _⟩
  · rw [if_neg h0]
    generalize hx : Rf.at' s.data.toList i = x
    have HX := hide hx
    clear hx
    go_enter Tryz.func47, Tryz.ntmps47
    go_wp2_with fail
    refine (rcount_any s (i + 1) 0 4 _ hs).mono ?_
    rw [unhide HR]
    rintro e w1 ⟨rfl, rfl⟩
    go_wp2_with fail
    refine (rat_any s i _ hs).mono ?_
    rw [unhide HX]
    rintro e w1 ⟨rfl, rfl⟩
    go_wp2_with fail
    refine (rtypes_any s (i + 2) r _ hs (by omega) (by omega) (by omega) (by omega)).mono ?_
    rintro e w1 ⟨a, c, rfl, ht, hb1⟩
    have hC := (hb1.block w.heap.size (by simp)).trans (alloc_blk w _)
    have y0 := blk_cell hC 0
    have y1 := blk_cell hC 1
    have f0 := blk_free hC 0
    have f1 := blk_free hC 1
    simp at y0 y1
    have hB : Below w.heap.size w w1 := ((Below.refl _ _).alloc (Nat.le_refl _) _).trans (hb1.mono (by simp))
    go_wp2_with fail
    refine bodyPost_ret (v := .tuple #[.agg #[.int .i64 x, .slice a r.toNat c], .int .i64 (i + 2 + 2 * r)]) (by simp [results, Tryz.results47, go_sem, y0, y1]) rfl ?_
    refine ⟨_, _, _, _, rfl, fun _ => ⟨rfl, ?_⟩, (hB.setCell (by simp) _).setCell (by simp) _⟩
    exact own_mono (ownsRow_setCell_below (ownsRow_setCell_below ht (by simp) _) (by simp) _) (by simp)
end Go.Proofs.YteffpdofcgbokaaGreat
