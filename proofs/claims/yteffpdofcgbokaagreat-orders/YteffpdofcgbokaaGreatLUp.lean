/-
  The walks over the law's own functions looks (of nothing) and UpTo.
-/
import Derived.Test.YteffpdofcgbokaaGreatRTree
namespace Go.Proofs.YteffpdofcgbokaaGreat
open Go.RowKit

/-- one step of a script -/
structure OpD where
  kind : Int
  file : ByteArray
  a1 : Int
  a2 : Int
  b1 : Int
  b2 : Int
  entry : Int
  heap : Int
  depth : Int
  fuel : Int
  ia : Option Addr
  il : Nat
  ic : Nat

def OpD.val (o : OpD) : Value := .agg #[.int .i64 o.kind, .string o.file, .int .i64 o.a1, .int .i64 o.a2, .int .i64 o.b1, .int .i64 o.b2, .int .i64 o.entry, .int .i64 o.heap, .int .i64 o.depth, .int .i64 o.fuel, .slice o.ia o.il o.ic]

set_option maxRecDepth 100000 in
set_option maxHeartbeats 1000000 in
theorem looks_empty (B : Nat) (w : World) (hB : w.cell? ⟨B, 0, none⟩ = some (.slice none 0 0)) :
    Calls Tryz.prog 17 #[.pointer (some ⟨B, 0, none⟩)] w fun e w' => e = .returned (.bool true) ∧ Below w.heap.size w w' := by
  go_enter Tryz.func17, Tryz.ntmps17
  go_wp2
  go_loopw [3] (fun i wr => i = .int .i64 0 ∧ wr = w) (fun _ _ => 0)
  case atStart => exact ⟨rfl, rfl⟩
  case round =>
    obtain ⟨rfl, rfl⟩ := hrel
    go_wp2
    go_ret
    exact ⟨rfl, Below.refl _ _⟩

/-- the steps of a script that came in -/
def OpsIn (w : World) (a : Option Addr) (len : Nat) (V : Nat → OpD) : Prop := ∀ i, i < len → ∃ b off, a = some ⟨b, off, none⟩ ∧ b < w.heap.size ∧
  w.cell? ⟨b, off + i * 11, none⟩ = some (.int .i64 (V i).kind) ∧ w.cell? ⟨b, off + i * 11 + 1, none⟩ = some (.string (V i).file) ∧
  w.cell? ⟨b, off + i * 11 + 2, none⟩ = some (.int .i64 (V i).a1) ∧ w.cell? ⟨b, off + i * 11 + 3, none⟩ = some (.int .i64 (V i).a2) ∧
  w.cell? ⟨b, off + i * 11 + 4, none⟩ = some (.int .i64 (V i).b1) ∧ w.cell? ⟨b, off + i * 11 + 5, none⟩ = some (.int .i64 (V i).b2) ∧
  w.cell? ⟨b, off + i * 11 + 6, none⟩ = some (.int .i64 (V i).entry) ∧ w.cell? ⟨b, off + i * 11 + 7, none⟩ = some (.int .i64 (V i).heap) ∧
  w.cell? ⟨b, off + i * 11 + 8, none⟩ = some (.int .i64 (V i).depth) ∧ w.cell? ⟨b, off + i * 11 + 9, none⟩ = some (.int .i64 (V i).fuel) ∧
  w.cell? ⟨b, off + i * 11 + 10, none⟩ = some (.slice (V i).ia (V i).il (V i).ic)
theorem OpsIn.below {w w' : World} {a : Option Addr} {len : Nat} {V : Nat → OpD} (h : OpsIn w a len V) (hb : Below w.heap.size w w') : OpsIn w' a len V := by
  intro i hi
  obtain ⟨b, off, h1, h2, h3⟩ := h i hi
  refine ⟨b, off, h1, Nat.lt_of_lt_of_le h2 hb.size, ?_⟩
  simpa only [hb.cell (p := ⟨b, _, none⟩) h2] using h3

set_option maxRecDepth 100000 in
set_option maxHeartbeats 4000000 in
theorem upTo_none (a : Option Addr) (len cap : Nat) (V : Nat → OpD) (lo hi : Int) (w : World) (hlen : len ≤ 9223372036854775807) (hV : OpsIn w a len V)
    (hp : ∀ i, i < len → lo ≤ (V i).kind → (V i).kind ≤ hi → ∀ (p : Value) (w1 : World), Calls Tryz.prog 16 #[p, (V i).val] w1 fun e w2 => e = .returned (.bool true) ∧ Below w1.heap.size w1 w2) :
    Calls Tryz.prog 9 #[.slice a len cap, .int .i64 lo, .int .i64 hi] w fun e w' => e = .returned (.int .i64 (-1)) ∧ Below w.heap.size w w' := by
  have HP := hide hp
  have HV := hide hV
  clear hp hV
  have hB0 : Below w.heap.size w (w.alloc (.cells #[.slice none 0 0] 57)) := (Below.refl _ _).alloc (Nat.le_refl _) _
  have hx0 := alloc_blk w (.cells #[.slice none 0 0] 57)
  go_enter Tryz.func9, Tryz.ntmps9
  go_wp2
  go_loopw [8] (fun i wr => ∃ k : Nat, k ≤ len ∧ i = .int .i64 k ∧ Below w.heap.size w wr ∧ wr.heap[w.heap.size]? = some (.cells #[.slice none 0 0] 57 (0, 0)))
    (fun i _ => len - (intOf i).toNat)
  case atStart => exact ⟨0, by omega, rfl, hB0, hx0⟩
  case round =>
    clear hB0 hx0
    obtain ⟨k, hk, rfl, hB, hx⟩ := hrel
    by_cases hkn : k < len
    · obtain ⟨b, off, rfl, hb, x0, x1, x2, x3, x4, x5, x6, x7, x8, x9, x10⟩ := (unhide HV).below hB k hkn
      have hpk := unhide HP k hkn
      have HPK := hide hpk
      clear hpk HP HV
      generalize V k = o at *
      obtain ⟨kind, s, k1, n1, k2, n2, entry, heap, depth, fuel, ia, il, ic⟩ := o
      simp only [OpD.val] at x0 x1 x2 x3 x4 x5 x6 x7 x8 x9 x10 HPK
      have mb : (k : Int) < (len : Int) := by omega
      by_cases h1 : kind < lo
      · clear x1 x2 x3 x4 x5 x6 x7 x8 x9 x10 HPK
        go_wp2
        go_roundw
        case rel => exact ⟨k + 1, by omega, by go_num, hB, hx⟩
        case measure => simp [intOf]; omega
      · by_cases h2 : hi < kind
        · clear x1 x2 x3 x4 x5 x6 x7 x8 x9 x10 HPK
          go_wp2
          go_roundw
          case rel => exact ⟨k + 1, by omega, by go_num, hB, hx⟩
          case measure => simp [intOf]; omega
        · have HC := hide (unhide HPK (by omega) (by omega))
          clear HPK
          go_wp2_with fail
          refine (unhide HC _ _).mono ?_
          rintro e w2 ⟨rfl, hb2⟩
          have hB2 := hB.trans (hb2.mono hB.size)
          have hx2 := stay hb2 hx
          have y0 := blk_cell hx2 0
          simp at y0
          clear hb2 hB hx x0 x1 x2 x3 x4 x5 x6 x7 x8 x9 x10 HC
          go_wp2_with fail
          refine (looks_empty w.heap.size w2 y0).mono ?_
          rintro e w3 ⟨rfl, hb3⟩
          have hB3 := hB2.trans (hb3.mono hB2.size)
          have hx3 := stay hb3 hx2
          clear hb3 hB2 hx2 y0
          go_wp2
          go_roundw
          case rel => exact ⟨k + 1, by omega, by go_num, hB3, hx3⟩
          case measure => simp [intOf]; omega
    · go_wp2
      go_ret
      exact ⟨rfl, hB⟩
end Go.Proofs.YteffpdofcgbokaaGreat
