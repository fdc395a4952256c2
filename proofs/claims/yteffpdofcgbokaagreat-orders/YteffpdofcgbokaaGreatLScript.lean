/-
  A script that came in, opened: each step's eleven cells.
-/
import Derived.Test.YteffpdofcgbokaaGreatLUp
import Derived.Deep.Slices
import Derived.Deep.Strs
import Derived.WalkKit
import Derived.ProofKit
import Derived.OpenShut
import Derived.ShutString
import Derived.ChangeOld
import Derived.Below
import Derived.Lib.SmallJoins
namespace Go.Proofs.YteffpdofcgbokaaGreat
open Go.ChangeShapes Go.WideShapes Go.ChangeAt Go.RowKit Go.Deep

theorem Tryz.cellsOp : Tryz.prog.cellsOf 60 = 11 := by kernel_rfl
theorem Tryz.cellsTy : Tryz.prog.cellsOf 48 = 2 := by kernel_rfl
theorem Tryz.cellsInt : Tryz.prog.cellsOf 3 = 1 := by kernel_rfl
theorem Tryz.cellsStr : Tryz.prog.cellsOf 9 = 1 := by kernel_rfl
theorem Tryz.cellsInts : Tryz.prog.cellsOf 58 = 1 := by kernel_rfl

section
variable {H : Type} {enc : TypeId × Value → H}

/-- what is known of a step that came in -/
def OpOk (o : OpD) : Prop := o.file.size ≤ maxLen

set_option maxRecDepth 100000 in
set_option maxHeartbeats 1000000 in
theorem open_op {W : World} {n : Nat} {cs : List Value} {x : DataW H × List MemPlace} (h : DataW.trod enc Tryz.prog W 0 (fun _ => true) true n 60 cs = some x) :
    ∃ o : OpD, OpOk o ∧ cs = [.int .i64 o.kind, .string o.file, .int .i64 o.a1, .int .i64 o.a2, .int .i64 o.b1, .int .i64 o.b2, .int .i64 o.entry, .int .i64 o.heap, .int .i64 o.depth, .int .i64 o.fuel, .slice o.ia o.il o.ic] := by
  obtain ⟨xs, m, _, _, hl, hlen, hf⟩ := DataW.trod_struct Tryz.underlying60 h
  rw [Tryz.cellsOp] at hl
  match cs, hl with
  | [c0, c1, c2, c3, c4, c5, c6, c7, c8, c9, c10], _ =>
    match xs, hlen with
    | [y0, y1, y2, y3, y4, y5, y6, y7, y8], _ =>
      have g0 : DataW.trod enc Tryz.prog W 0 (fun _ => true) true m 3 [c0] = some y0 := by simpa [Tryz.cellsInt] using hf 0 _ rfl
      have g1 : DataW.trod enc Tryz.prog W 0 (fun _ => true) true m 9 [c1] = some y1 := by simpa [Tryz.cellsStr] using hf 1 _ rfl
      have g2 : DataW.trod enc Tryz.prog W 0 (fun _ => true) true m 48 [c2, c3] = some y2 := by simpa [Tryz.cellsTy] using hf 2 _ rfl
      have g3 : DataW.trod enc Tryz.prog W 0 (fun _ => true) true m 48 [c4, c5] = some y3 := by simpa [Tryz.cellsTy] using hf 3 _ rfl
      have g4 : DataW.trod enc Tryz.prog W 0 (fun _ => true) true m 3 [c6] = some y4 := by simpa [Tryz.cellsInt] using hf 4 _ rfl
      have g5 : DataW.trod enc Tryz.prog W 0 (fun _ => true) true m 3 [c7] = some y5 := by simpa [Tryz.cellsInt] using hf 5 _ rfl
      have g6 : DataW.trod enc Tryz.prog W 0 (fun _ => true) true m 3 [c8] = some y6 := by simpa [Tryz.cellsInt] using hf 6 _ rfl
      have g7 : DataW.trod enc Tryz.prog W 0 (fun _ => true) true m 3 [c9] = some y7 := by simpa [Tryz.cellsInt] using hf 7 _ rfl
      have g8 : DataW.trod enc Tryz.prog W 0 (fun _ => true) true m 58 [c10] = some y8 := by simpa [Tryz.cellsInts] using hf 8 _ rfl
      obtain ⟨kind, e0, _, _⟩ := DataW.trod_int Tryz.underlying3 g0
      obtain ⟨file, e1, _, hfs⟩ := DataW.trod_string Tryz.underlying9 g1
      obtain ⟨z0, z1, _, _, _, hz0, hz1⟩ := trod_struct2 Tryz.underlying48 g2
      obtain ⟨v0, v1, _, _, _, hv0, hv1⟩ := trod_struct2 Tryz.underlying48 g3
      simp only [Tryz.cellsInt] at hz0 hz1 hv0 hv1
      simp at hz0 hz1 hv0 hv1
      obtain ⟨a1, e2, _, _⟩ := DataW.trod_int Tryz.underlying3 hz0
      obtain ⟨a2, e3, _, _⟩ := DataW.trod_int Tryz.underlying3 hz1
      obtain ⟨b1, e4, _, _⟩ := DataW.trod_int Tryz.underlying3 hv0
      obtain ⟨b2, e5, _, _⟩ := DataW.trod_int Tryz.underlying3 hv1
      obtain ⟨entry, e6, _, _⟩ := DataW.trod_int Tryz.underlying3 g4
      obtain ⟨heap, e7, _, _⟩ := DataW.trod_int Tryz.underlying3 g5
      obtain ⟨depth, e8, _, _⟩ := DataW.trod_int Tryz.underlying3 g6
      obtain ⟨fuel, e9, _, _⟩ := DataW.trod_int Tryz.underlying3 g7
      obtain ⟨ia, il, ic, e10⟩ : ∃ ia il ic, c10 = Value.slice ia il ic := by
        rcases open_slice Tryz.underlying58 g8 with ⟨hc, _⟩ | ⟨a, len, cap, _, _, _, _, hc, _⟩
        · simp at hc; exact ⟨_, _, _, hc⟩
        · simp at hc; exact ⟨_, _, _, hc⟩
      simp only [List.cons.injEq, and_true] at e0 e1 e2 e3 e4 e5 e6 e7 e8 e9
      subst e0 e1 e2 e3 e4 e5 e6 e7 e8 e9 e10
      exact ⟨⟨kind, file, a1, a2, b1, b2, entry, heap, depth, fuel, ia, il, ic⟩, hfs, rfl⟩

set_option maxRecDepth 100000 in
set_option maxHeartbeats 1000000 in
theorem open_script {W : World} {n : Nat} {c0 : Value} {x : DataW H × List MemPlace} (h : DataW.trod enc Tryz.prog W 0 (fun _ => true) true n 32 [c0] = some x) :
    ∃ a len cap V, c0 = .slice a len cap ∧ len ≤ 9223372036854775807 ∧ OpsIn W a len V ∧ ∀ i, i < len → OpOk (V i) := by
  rcases open_slice Tryz.underlying32 h with ⟨hc, _⟩ | ⟨a, len, cap, m, k, D, Pl, hc, _, hl, hm, hmm, _, hall⟩
  · simp only [List.cons.injEq, and_true] at hc
    exact ⟨none, 0, 0, fun _ => ⟨0, .empty, 0, 0, 0, 0, 0, 0, 0, 0, none, 0, 0⟩, hc, by omega, fun i hi => by omega, fun i hi => by omega⟩
  · simp only [List.cons.injEq, and_true] at hc
    simp only [if_true] at hmm
    subst hmm
    rw [Tryz.cellsOp] at hall
    haveI : Inhabited OpD := ⟨⟨0, .empty, 0, 0, 0, 0, 0, 0, 0, 0, none, 0, 0⟩⟩
    obtain ⟨V, hV⟩ := choose_lt (α := OpD) (p := fun i o => OpOk o ∧ ∀ j, j < 11 → W.cell? ((a.add (i * 11)).add j) = [Value.int .i64 o.kind, .string o.file, .int .i64 o.a1, .int .i64 o.a2, .int .i64 o.b1, .int .i64 o.b2, .int .i64 o.entry, .int .i64 o.heap, .int .i64 o.depth, .int .i64 o.fuel, .slice o.ia o.il o.ic][j]?) (fun i hi => by
      obtain ⟨cs', h1, h2⟩ := hall i hi
      obtain ⟨o, ho, rfl⟩ := open_op h2
      obtain ⟨_, _, hcell⟩ := World.cells?_some h1
      exact ⟨o, ho, hcell⟩)
    refine ⟨some a, len, m, V, hc, by unfold maxLen at hm; omega, ?_, fun i hi => (hV i (by omega)).1⟩
    intro i hi
    obtain ⟨b, off, spot⟩ := a
    have hcell := (hV i (by omega)).2
    have hc0 := hcell 0 (by omega)
    have hspot : spot = none := by simpa [Addr.add] using World.cell?_spot ((hV 0 (by omega)).2 0 (by omega))
    subst hspot
    have hadd : ∀ j, ((⟨b, off, none⟩ : Addr).add (i * 11)).add j = ⟨b, off + i * 11 + j, none⟩ := fun j => by simp [Addr.add_lit]
    simp only [hadd] at hcell hc0
    refine ⟨b, off, rfl, World.block_lt_of_cell? W _ hc0, ?_, ?_, ?_, ?_, ?_, ?_, ?_, ?_, ?_, ?_, ?_⟩
    · simpa using hcell 0 (by omega)
    · simpa using hcell 1 (by omega)
    · simpa using hcell 2 (by omega)
    · simpa using hcell 3 (by omega)
    · simpa using hcell 4 (by omega)
    · simpa using hcell 5 (by omega)
    · simpa using hcell 6 (by omega)
    · simpa using hcell 7 (by omega)
    · simpa using hcell 8 (by omega)
    · simpa using hcell 9 (by omega)
    · simpa using hcell 10 (by omega)
end

end Go.Proofs.YteffpdofcgbokaaGreat
