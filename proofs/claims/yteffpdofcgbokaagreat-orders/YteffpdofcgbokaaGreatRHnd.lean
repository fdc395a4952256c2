/-
  The walk over the document's reader: readHandlers.
-/
import Derived.Test.YteffpdofcgbokaaGreatRAt
import Derived.Test.YteffpdofcgbokaaGreatLists
import Derived.Deep.RegionHeld3
namespace Go.Proofs.YteffpdofcgbokaaGreat
open Go.RowKit

/-- append onto a row of the call's own, as one step of a region that draws its order -/
theorem step_append_own {P : Program} {ops : Array Oper} {o : Oper} {a : Act} {w : World} {K : Act → World → Prop} {Q : Exit → Act → World → Prop} {E : Prop}
    (hg : o.guard = none) (s x : Operand) (t : TypeId) (hop : o.op = Op.call { callee := Callee.builtin Builtin.append, args := #[s, x], argTypes := #[t, t] })
    (base : Nat) (e : TypeId) (i : TypeInfo) (z : Value) (size bytes : Nat) (h1 : P.underlying t = some (.slice e)) (h2 : P.info? e = some i) (h3 : i.zero = some z) (h4 : i.size = size) (h5 : i.bytes = bytes) (h6 : z.cells.size = size) (h7 : 0 < size)
    (v : Value) (n : Nat) (xs : List Value) (hs : a.eval s = v) (hown : w.ownsRow base e size v n xs)
    (ad : Addr) (m c : Nat) (news : List Value) (hx : a.eval x = .slice (some ad) m c) (hn : news.length = m * size) (hc : ∀ j u, news[j]? = some u → w.cell? (ad.add j) = some u) (h1c : ∀ u ∈ news, u.oneCell' = true)
    (b1 : n + m ≤ maxLen) (b2 : (n + m) * bytes ≤ 140737488355328) (b3 : base ≤ w.heap.size)
    (hK : ∀ v' w', w'.ownsRow base e size v' (n + m) (xs ++ news) → w.grownBy w' v.ownBlock → K (a.put o.dst v') w') :
    if Region.wanted o (yielded ops a.tmps) = true then Oper.wp P o a w K Q else E := by
  have hw : Region.wanted o (yielded ops a.tmps) = true := by simp [Region.wanted, hg]
  rw [if_pos hw]
  obtain ⟨v', w', hrun, r1, r2, _⟩ := run_append_own (P := P) w base t o.type e i z size bytes h1 h2 h3 h4 h5 h6 h7 v n xs hown ad m c news hn hc h1c b1 b2 b3
  unfold Oper.wp
  simp [execOp, hop, resolve, invoke, builtin, hs, hx, hrun, Result.andThen]
  exact hK v' w' r1 r2

theorem Tryz.infoRHandler : (Tryz.prog.info? 73).map (fun i => (i.zero, i.size, i.bytes)) = some (some (.agg #[.int .i64 0, .int .i64 0, .int .i64 0, .int .i64 0]), 4, 32) := by kernel_rfl
theorem hndTo_len (s : List UInt8) (i : Int) (n : Nat) : (Rf.hndTo s i n).length = n := by
  induction n with
  | zero => rfl
  | succ k ih => simp [Rf.hndTo, ih]

theorem wrap_in (n : Int) (h0 : -9223372036854775808 ≤ n) (h1 : n ≤ 9223372036854775807) : IntKind.i64.wrap n = n := by
  rw [Go.IntWalk.i64_left, Go.IntWalk.wrap64_in _ ⟨h0, h1⟩]

set_option maxRecDepth 100000 in
set_option maxHeartbeats 40000000 in
theorem rhnds_any (s : ByteArray) (i : Int) (w : World) (hs : s.size ≤ maxLen) (hi0 : 0 ≤ i) (hi1 : i ≤ 100000) :
    Calls Tryz.prog 80 #[.string s, .int .i64 i] w fun e w' =>
      ∃ a n c, e = .returned (.tuple #[.slice a n c, .int .i64 (Rf.hnds s.data.toList i).2]) ∧ RHndsAt w' w.heap.size (.slice a n c) (Rf.hnds s.data.toList i).1 ∧ Below w.heap.size w w' := by
  obtain ⟨i0, hi, hz0, hz1, hz2⟩ := info_parts Tryz.infoRHandler
  have hlen : s.data.toList.length = s.size := by simp
  unfold Rf.hnds
  rw [hlen]
  generalize hr : Rf.cnt s.data.toList i 0 4 = r
  have hb := Rf.cnt_bd s.data.toList i 0 4 (by omega)
  rw [hr] at hb
  obtain ⟨hb0, hb1⟩ := hb
  have HR := hide hr
  clear hr
  by_cases h0 : r < 0
  · rw [if_pos h0]
    go_enter Tryz.func80, Tryz.ntmps80
    go_wp2_with fail
    refine (rcount_any s i 0 4 _ hs).mono ?_
    rw [unhide HR]
    rintro e w1 ⟨rfl, rfl⟩
    go_wp2
    go_ret2
    exact ⟨none, 0, 0, rfl, World.ownsRow_nil _ _ _ _, Below.refl _ _⟩
  · rw [if_neg h0]
    by_cases h1 : (s.size : Int) < i + 1 + 4 * r
    · rw [if_pos h1]
      go_enter Tryz.func80, Tryz.ntmps80
      go_wp2_with fail
      refine (rcount_any s i 0 4 _ hs).mono ?_
      rw [unhide HR]
      rintro e w1 ⟨rfl, rfl⟩
      go_wp2
      go_ret2
      exact ⟨none, 0, 0, rfl, World.ownsRow_nil _ _ _ _, Below.refl _ _⟩
    · rw [if_neg h1]
      unfold RHndsAt
      dsimp only
      rw [hndTo_len]
      have d0 : decide (r < 0) = false := by simp; omega
      have d1 : decide ((s.size : Int) < i + 1 + 4 * r) = false := by simp; omega
      go_enter Tryz.func80, Tryz.ntmps80
      go_wp2_with fail
      refine (rcount_any s i 0 4 _ hs).mono ?_
      rw [unhide HR]
      rintro e w1 ⟨rfl, rfl⟩
      go_wp2
      go_loopw [7, 8] (fun v j wr => ∃ k : Nat, (k : Int) ≤ r ∧ j = .int .i64 k ∧ wr.ownsRow w.heap.size 73 4 v k (hcells (Rf.hndTo s.data.toList i k)) ∧ Below w.heap.size w wr)
        (fun _ j _ => r.toNat - (intOf j).toNat)
      case atStart => exact ⟨0, by omega, rfl, World.ownsRow_nil _ _ _ _, Below.refl _ _⟩
      case round =>
        obtain ⟨k, hk, rfl, hown, hbl⟩ := hrel
        have hsz := hbl.size
        by_cases hkn : (k : Int) < r
        · obtain ⟨q, hq⟩ := Int.eq_ofNat_of_zero_le (show 0 ≤ i + 1 + 4 * (k : Int) by omega)
          have q3 : q + 3 < s.size := by omega
          have q2 : q + 2 < s.size := by omega
          have q1 : q + 1 < s.size := by omega
          have q0 : q < s.size := by omega
          have z3 : (q : Int) + 3 < (s.size : Int) := by omega
          have z2 : (q : Int) + 2 < (s.size : Int) := by omega
          have z1 : (q : Int) + 1 < (s.size : Int) := by omega
          have HE : Hid (hcells (Rf.hndTo s.data.toList i (k + 1)) = hcells (Rf.hndTo s.data.toList i k) ++ [.int .i64 (s[q].toNat : Int), .int .i64 (s[q + 1].toNat : Int), .int .i64 (s[q + 2].toNat : Int), .int .i64 (s[q + 3].toNat : Int)]) := by
            unfold Hid
            rw [Rf.hndTo, hcells_snoc, hq]
            unfold Rf.hndAt
            have a1 : Rf.at' s.data.toList ((q : Int) + 1) = _ := at_hit (i := q + 1) q1
            have a2 : Rf.at' s.data.toList ((q : Int) + 2) = _ := at_hit (i := q + 2) q2
            have a3 : Rf.at' s.data.toList ((q : Int) + 3) = _ := at_hit (i := q + 3) q3
            rw [at_hit q0, a1, a2, a3]
          have hw1 : IntKind.i64.wrap ((q : Int) + 1) = (q : Int) + 1 := wrap_in _ (by omega) (by omega)
          have hw2 : IntKind.i64.wrap ((q : Int) + 2) = (q : Int) + 2 := wrap_in _ (by omega) (by omega)
          have hw3 : IntKind.i64.wrap ((q : Int) + 3) = (q : Int) + 3 := wrap_in _ (by omega) (by omega)
          have hwb : ∀ c : UInt8, IntKind.i64.wrap (c.toNat : Int) = (c.toNat : Int) := fun c => wrap_in _ (by omega) (by have := c.toNat_lt; omega)
          have y1 : 0 ≤ (q : Int) + 1 := by omega
          have y2 : 0 ≤ (q : Int) + 2 := by omega
          have y3 : 0 ≤ (q : Int) + 3 := by omega
          have e1 : ((q : Int) + 1).toNat = q + 1 := by omega
          have e2 : ((q : Int) + 2).toNat = q + 2 := by omega
          have e3 : ((q : Int) + 3).toNat = q + 3 := by omega
          go_wp2
          go_region_held3 (fun _ => True) (exact trivial) ((refine step_append_own (by rfl) _ _ _ (by rfl) w.heap.size 73 i0 _ 4 32 Tryz.underlying49 hi hz0 hz1 hz2 rfl (by omega) _ _ _ (by rfl) ((hown.alloc _).drew) ⟨wr.heap.size, 0, none⟩ 1 1 [.int .i64 (s[q].toNat : Int), .int .i64 (s[q + 1].toNat : Int), .int .i64 (s[q + 2].toNat : Int), .int .i64 (s[q + 3].toNat : Int)] (by rfl) (by rfl) (cells_new wr _ _ _ rfl) (by simp [Value.oneCell']) (by unfold maxLen; omega) (by omega) (by simp; omega) ?_; intro v' w2 hown2 hgrow))
          all_goals
            have hown3 : w2.ownsRow w.heap.size 73 4 v' (k + 1) (hcells (Rf.hndTo s.data.toList i (k + 1))) := by rw [unhide HE]; exact hown2
            have hbl2 := ((hbl.alloc hsz _).drew).grown hgrow (by simp; omega) (fun j hj => (hown.lt j hj).1)
            clear hgrow hown2
            go_wp2
            go_roundw
            case rel => exact ⟨k + 1, by omega, by go_num, hown3, hbl2⟩
            case measure => simp [intOf]; omega
        · obtain rfl : k = r.toNat := by omega
          obtain ⟨va, vc, rfl⟩ := own_shape hown
          go_wp2
          go_ret2
          exact ⟨_, _, _, rfl, hown, hbl⟩
end Go.Proofs.YteffpdofcgbokaaGreat
