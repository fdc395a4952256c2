/-
  The walk over the document's reader: readMaps.
-/
import Derived.Test.YteffpdofcgbokaaGreatRAt
namespace Go.Proofs.YteffpdofcgbokaaGreat
open Go.RowKit

theorem Tryz.infoRMap : (Tryz.prog.info? 77).map (fun i => (i.zero, i.size, i.bytes)) = some (some (.agg #[.int .i64 0, .slice none 0 0, .slice none 0 0]), 3, 56) := by kernel_rfl

theorem rep_neg {α : Type} {f : Int → α × Int} {k : Nat} {i : Int} (h : (Rf.rep f k i).2 < 0) : ∀ m, k ≤ m → (Rf.rep f m i).2 < 0 := by
  intro m hm
  induction m with
  | zero => obtain rfl : k = 0 := by omega
            exact h
  | succ j ih =>
    by_cases e : k = j + 1
    · rw [← e]; exact h
    · unfold Rf.rep
      rw [if_pos (ih (by omega))]
      simp
theorem rep_fail {α : Type} {f : Int → α × Int} {k : Nat} {i : Int} (h0 : 0 ≤ (Rf.rep f k i).2) (h : (f (Rf.rep f k i).2).2 < 0) (m : Nat) (hm : k < m) : (Rf.rep f m i) = ([], -1) := by
  have h1 : Rf.rep f (k + 1) i = ([], -1) := by
    unfold Rf.rep
    rw [if_neg (by omega), if_pos h]
  have : ∀ n, Rf.rep f (k + 1 + n) i = ([], -1) := by
    intro n
    induction n with
    | zero => exact h1
    | succ j ih =>
      rw [show k + 1 + (j + 1) = (k + 1 + j) + 1 by omega]
      unfold Rf.rep
      rw [ih, if_pos (by simp)]
  obtain ⟨n, rfl⟩ : ∃ n, m = k + 1 + n := ⟨m - (k + 1), by omega⟩
  exact this n

theorem mp_step {s : List UInt8} {L H i : Int} (h : 0 ≤ (Rf.mp s L H i).2) (hH : H ≤ 8) (hL : L ≤ 8) (hL0 : 0 ≤ L) : (Rf.mp s L H i).2 ≤ i + 34 ∧ i ≤ (Rf.mp s L H i).2 := by
  unfold Rf.mp at h ⊢
  split
  · rename_i c
    rw [if_pos c] at h
    simp at h
  · rename_i c
    by_cases hh : -1 ≤ H
    · have := Rf.cnt_bd s (i + 1 + 2 * L) 0 H hh
      simp only
      omega
    · exfalso
      unfold Rf.cnt at c
      have := Rf.at_bd s (i + 1 + 2 * L)
      split at c
      · omega
      · split at c <;> omega

set_option maxRecDepth 100000 in
set_option maxHeartbeats 4000000 in
theorem rmaps_any (s : ByteArray) (i L H : Int) (w : World) (hs : s.size ≤ maxLen) (hi0 : 0 ≤ i) (hi1 : i ≤ 100000) (hL0 : 0 ≤ L) (hL1 : L ≤ 8) (hH0 : 0 ≤ H) (hH1 : H ≤ 8) :
    Calls Tryz.prog 81 #[.string s, .int .i64 i, .int .i64 L, .int .i64 H] w fun e w' =>
      ∃ a n c l, e = .returned (.tuple #[.slice a n c, .int .i64 (Rf.mps s.data.toList i L H).2]) ∧ l.map Prod.fst = (Rf.mps s.data.toList i L H).1 ∧ RMpsIn w' w.heap.size (.slice a n c) l ∧ Below w.heap.size w w' := by
  obtain ⟨i0, hi, hz0, hz1, hz2⟩ := info_parts Tryz.infoRMap
  unfold Rf.mps
  generalize hr : Rf.cnt s.data.toList i 0 64 = r
  have hb := Rf.cnt_bd s.data.toList i 0 64 (by omega)
  rw [hr] at hb
  obtain ⟨hb0, hb1⟩ := hb
  have HR := hide hr
  clear hr
  by_cases h0 : r < 0
  · rw [if_pos h0]
    go_enter Tryz.func81, Tryz.ntmps81
    go_wp2_with fail
    refine (rcount_any s i 0 64 _ hs).mono ?_
    rw [unhide HR]
    rintro e w1 ⟨rfl, rfl⟩
    go_wp2
    go_ret2
    exact ⟨none, 0, 0, [], rfl, rfl, ⟨World.ownsRow_nil _ _ _ _, by simp⟩, Below.refl _ _⟩
  · rw [if_neg h0]
    generalize hz : Rf.rep (Rf.mp s.data.toList L H) r.toNat (i + 1) = z
    have HZ := hide hz
    clear hz
    go_enter Tryz.func81, Tryz.ntmps81
    go_wp2_with fail
    refine (rcount_any s i 0 64 _ hs).mono ?_
    rw [unhide HR]
    rintro e w1 ⟨rfl, rfl⟩
    go_wp2
    go_loopw [1, 11, 12] (fun p v j wr => ∃ (k : Nat) (q : Int) (l : List (Rd.Mp × Value × Value)), (k : Int) ≤ r ∧ j = .int .i64 k ∧ p = .int .i64 q ∧ l.length = k ∧ 0 ≤ q ∧ q ≤ i + 1 + 34 * (k : Int) ∧ Hid (Rf.rep (Rf.mp s.data.toList L H) k (i + 1) = (l.map Prod.fst, q)) ∧
        RMpsIn wr w.heap.size v l ∧ Below w.heap.size w wr)
      (fun _ _ j _ => r.toNat - (intOf j).toNat)
    case atStart => exact ⟨0, _, [], by omega, rfl, rfl, rfl, by omega, by omega, rfl, ⟨World.ownsRow_nil _ _ _ _, by simp⟩, Below.refl _ _⟩
    case round =>
      obtain ⟨k, q, l, hk, rfl, rfl, hlen, hq0, hq1, HQ, hms, hbl⟩ := hrel
      have hsz := hbl.size
      by_cases hkn : (k : Int) < r
      · generalize hx : Rf.at' s.data.toList q = x
        generalize hh : Rf.cnt s.data.toList (q + 1 + 2 * L) 0 H = h
        have hbh := Rf.cnt_bd s.data.toList (q + 1 + 2 * L) 0 H (by omega)
        rw [hh] at hbh
        obtain ⟨hh0, hh1⟩ := hbh
        by_cases hneg : h < 0
        · have hz : z = ([], -1) := by
            rw [← unhide HZ]
            refine rep_fail (k := k) ?_ ?_ _ (by omega)
            · rw [unhide HQ]; exact hq0
            · rw [unhide HQ]
              unfold Rf.mp
              rw [hh, if_pos hneg]
              decide
          have HZ2 := hide hz
          have HX := hide hx
          have HH := hide hh
          clear hz hx hh hlen
          go_wp2_with fail
          refine (rat_any s q _ hs).mono ?_
          rw [unhide HX]
          rintro e w1 ⟨rfl, rfl⟩
          go_wp2_with fail
          refine (rcount_any s (q + 1 + 2 * L) 0 H _ hs).mono ?_
          rw [unhide HH]
          rintro e w1 ⟨rfl, rfl⟩
          go_wp2
          go_ret2
          exact ⟨none, 0, 0, [], by rw [unhide HZ2]; rfl, by rw [unhide HZ2]; rfl, ⟨World.ownsRow_nil _ _ _ _, by simp⟩, hbl⟩
        · generalize hq2 : Rf.tys s.data.toList (q + 1) L.toNat = q2
          generalize hq4 : Rf.tys s.data.toList (q + 2 + 2 * L) h.toNat = q4
          have hmp : Rf.mp s.data.toList L H q = (⟨x, q2, q4⟩, q + 2 + 2 * L + 2 * h) := by
            unfold Rf.mp
            rw [hh, if_neg hneg, hx, hq2, hq4]
          have HE : Hid (Rf.rep (Rf.mp s.data.toList L H) (k + 1) (i + 1) = (l.map Prod.fst ++ [⟨x, q2, q4⟩], q + 2 + 2 * L + 2 * h)) := Rf.rep_step (unhide HQ) hq0 hmp (by omega)
          have HX := hide hx
          have HH := hide hh
          have HQ2 := hide hq2
          have HQ4 := hide hq4
          have HLen := hide hlen
          clear hx hh hq2 hq4 hmp hlen
          go_wp2_with fail
          refine (rat_any s q _ hs).mono ?_
          rw [unhide HX]
          rintro e w1 ⟨rfl, rfl⟩
          go_wp2_with fail
          refine (rcount_any s (q + 1 + 2 * L) 0 H _ hs).mono ?_
          rw [unhide HH]
          rintro e w1 ⟨rfl, rfl⟩
          go_wp2_with fail
          refine (rtypes_any s (q + 1) L _ hs (by omega) (by omega) hL0 (by omega)).mono ?_
          rw [unhide HQ2]
          rintro e w1 ⟨a1, c1, rfl, ht1, hb1⟩
          have hB1 := hbl.trans (hb1.mono hsz)
          have hs1 := hB1.size
          go_wp2_with fail
          refine (rtypes_any s (q + 2 + 2 * L) h _ hs (by omega) (by omega) (by omega) (by omega)).mono ?_
          rw [unhide HQ4]
          rintro e w2 ⟨a2, c2, rfl, ht2, hb2⟩
          have hB2 := hB1.trans (hb2.mono hs1)
          have hs2 := hB2.size
          have T1 := (ht1.mono hsz).kp (Kp.of_below (e := none) hb2) (by decide)
          have T2 := ht2.mono hs1
          have hms2 := (hms.kp (Kp.of_below (e := none) hb1) (by decide) (by decide)).kp (Kp.of_below (e := none) hb2) (by decide) (by decide)
          have HMs := hide hms2.2
          have hown := hms2.1
          clear ht1 ht2 hms hms2 hbl hB1 hb1 hb2
          go_wp2_with (at_builtin; refine wpList_append_own _ rfl _ _ 50 rfl w.heap.size 77 i0 _ 3 56 Tryz.underlying50 hi hz0 hz1 hz2 rfl (by decide) _ _ _ rfl (hown.alloc _) ⟨w2.heap.size, 0, none⟩ 1 1 [.int .i64 x, .slice a1 L.toNat c1, .slice a2 h.toNat c2] rfl rfl ?c1 ?c2 ?c3 ?c4 ?c5 ?_)
          case c1 => exact cells_new _ _ _ _ rfl
          case c2 => intro u hu; simp at hu; rcases hu with rfl | rfl | rfl <;> rfl
          case c3 => have := unhide HLen; unfold maxLen; omega
          case c4 => have := unhide HLen; omega
          case c5 => simp; omega
          intro v' w3 hown2 hgrow _
          have hbl3 := (hB2.alloc hs2 (.cells #[.int .i64 x, .slice a1 L.toNat c1, .slice a2 h.toNat c2] 77)).grown hgrow (by simp; omega) (fun j hj => (hown.lt j hj).1)
          have hK := (Kp.alloc (e := some 77) (b := w.heap.size) _ _).trans (Kp.of_grown hgrow (hown.alloc _))
          have hms3 : RMpsIn w3 w.heap.size v' (l ++ [(⟨x, q2, q4⟩, .slice a1 L.toNat c1, .slice a2 h.toNat c2)]) := by
            refine ⟨?_, ?_⟩
            · rw [mcells_snoc, List.length_append]; exact hown2
            · intro p hp
              rw [List.mem_append] at hp
              rcases hp with hp | hp
              · exact ⟨(unhide HMs p hp).1.kp hK (by decide), (unhide HMs p hp).2.kp hK (by decide)⟩
              · simp only [List.mem_singleton] at hp
                subst hp
                exact ⟨T1.kp hK (by decide), T2.kp hK (by decide)⟩
          clear hgrow hown hown2 hK T1 T2 hB2
          go_wp2
          go_roundw
          case rel => exact ⟨k + 1, _, _, by omega, by go_num, rfl, by rw [List.length_append, unhide HLen]; rfl, by omega, by omega, by unfold Hid; rw [unhide HE, List.map_append]; rfl, hms3, hbl3⟩
          case measure => simp [intOf]; omega
      · obtain rfl : k = r.toNat := by omega
        have hz : z = (l.map Prod.fst, q) := by rw [← unhide HZ]; exact unhide HQ
        have HZ2 := hide hz
        clear hz hlen
        obtain ⟨va, vc, rfl⟩ := own_shape hms.1
        go_wp2
        go_ret2
        exact ⟨_, _, _, by rw [unhide HZ2]; rfl, l, by rw [unhide HZ2], hms, hbl⟩
end Go.Proofs.YteffpdofcgbokaaGreat
