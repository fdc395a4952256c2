/-
  No cell of these rows narrows 'for every input' (looked for: loops, veiled, ifaces, maps, wideKeys, modest, calm, conditions, laid).
  DERIVED. THE GIVEN ROWS OF THIS SEAT. 4 by the template 'for every input the law returns true; each argument reads behind the call as it read before'; 0 by the template 'total and deterministic' (their statements: YtcefiamkoincoaaGreatTotals.lean).
  GIVEN WITH THE SEED: the statements are not yours to turn. If you find one false, say at which input.
  Laid BY PROGRAM, IN A SANDBOX (cutbox-rows.mjs): the forced cells as the released guide's own fill.sh prints them over the translation ae8e1b4159fb5b3c… (all of the seat's roots in one cut). By AI agents, Wed Nov 11 2026. No macro, syntax, notation, axiom, sorry.
-/
import Derived.Test.YtcefiamkoincoaaGreatChecked
import GoSem.Claim
import GoSem.ClaimJoined
import GoSem.ClaimMapViews
import Derived.JoinedTies
import Derived.KernelRfl
namespace Go.Proofs.YtcefiamkoincoaaGreat
/- THE CELL 'sum', in the pinned program and in every row, IS THE sha256 OF THE DUMP (.gsa) THAT YtcefiamkoincoaaGreatProg.lean LOADS. Nothing in Lean hashes anything: it is a label: what it is worth is what the hold of that sum in a sandbox is worth. -/
noncomputable def Tryz.pinned : Pinned := { name := "ytcefiamkoincoaagreat", sum := "ae8e1b4159fb5b3cc0ed9de9773a684da684ff76b97b2a4a242628a2ca72e49a", checked := Tryz.checked }
namespace Rows
def none {H : Type} : Left H := { results := [], args := [] }

/-- 'stackmaplaw.Prepares': WHATEVER THE INPUT: true; the input reads as it did. -/
def preparesSpec : ChangeSpec := { name := "prepares", fn := fun _ => fun
  | [d] => { results := [.lit (.bool true)], args := [d] }
  | _ => none }
def preparesRow : OpenClaim := { program := "ytcefiamkoincoaagreat", sum := "ae8e1b4159fb5b3cc0ed9de9773a684da684ff76b97b2a4a242628a2ca72e49a", func := "stackmap/stackmaplaw.Prepares", spec := "prepares", apart := false }
def PreparesSaid : Prop := preparesRow.holds Tryz.pinned (OpenSpec.ofChange preparesSpec)

/-- ITS FALSE NEIGHBOUR: 'it returns false'. Refute it at one input. -/
def preparesWrong : ChangeSpec := { name := "prepares", fn := fun _ => fun
  | [d] => { results := [.lit (.bool false)], args := [d] }
  | _ => none }
def PreparesWrongFalsely : Prop := preparesRow.holds Tryz.pinned (OpenSpec.ofChange preparesWrong)

/-- 'stackmapkeep.Stable': WHATEVER THE INPUT: true; the input reads as it did. -/
def stableSpec : ChangeSpec := { name := "stable", fn := fun _ => fun
  | [d] => { results := [.lit (.bool true)], args := [d] }
  | _ => none }
def stableRow : OpenClaim := { program := "ytcefiamkoincoaagreat", sum := "ae8e1b4159fb5b3cc0ed9de9773a684da684ff76b97b2a4a242628a2ca72e49a", func := "stackmap/stackmapkeep.Stable", spec := "stable", apart := false }
def StableSaid : Prop := stableRow.holds Tryz.pinned (OpenSpec.ofChange stableSpec)

/-- ITS FALSE NEIGHBOUR: 'it returns false'. Refute it at one input. -/
def stableWrong : ChangeSpec := { name := "stable", fn := fun _ => fun
  | [d] => { results := [.lit (.bool false)], args := [d] }
  | _ => none }
def StableWrongFalsely : Prop := stableRow.holds Tryz.pinned (OpenSpec.ofChange stableWrong)

/-- 'stackmapkeep.Tight': WHATEVER THE INPUT: true; the input reads as it did. -/
def tightSpec : ChangeSpec := { name := "tight", fn := fun _ => fun
  | [d1, d2, d3] => { results := [.lit (.bool true)], args := [d1, d2, d3] }
  | _ => none }
def tightRow : OpenClaim := { program := "ytcefiamkoincoaagreat", sum := "ae8e1b4159fb5b3cc0ed9de9773a684da684ff76b97b2a4a242628a2ca72e49a", func := "stackmap/stackmapkeep.Tight", spec := "tight", apart := false }
def TightSaid : Prop := tightRow.holds Tryz.pinned (OpenSpec.ofChange tightSpec)

/-- ITS FALSE NEIGHBOUR: 'it returns false'. Refute it at one input. -/
def tightWrong : ChangeSpec := { name := "tight", fn := fun _ => fun
  | [d1, d2, d3] => { results := [.lit (.bool false)], args := [d1, d2, d3] }
  | _ => none }
def TightWrongFalsely : Prop := tightRow.holds Tryz.pinned (OpenSpec.ofChange tightWrong)

/-- 'stackmaplaw.Found': WHATEVER THE INPUT: true; the input reads as it did. -/
def foundSpec : ChangeSpec := { name := "found", fn := fun _ => fun
  | [d] => { results := [.lit (.bool true)], args := [d] }
  | _ => none }
def foundRow : OpenClaim := { program := "ytcefiamkoincoaagreat", sum := "ae8e1b4159fb5b3cc0ed9de9773a684da684ff76b97b2a4a242628a2ca72e49a", func := "stackmap/stackmaplaw.Found", spec := "found", apart := false }
def FoundSaid : Prop := foundRow.holds Tryz.pinned (OpenSpec.ofChange foundSpec)

/-- ITS FALSE NEIGHBOUR: 'it returns false'. Refute it at one input. -/
def foundWrong : ChangeSpec := { name := "found", fn := fun _ => fun
  | [d] => { results := [.lit (.bool false)], args := [d] }
  | _ => none }
def FoundWrongFalsely : Prop := foundRow.holds Tryz.pinned (OpenSpec.ofChange foundWrong)

/- THE SECOND FORM. 'bulk': how many values and letters a reading holds, each counted each time it is reached (what is shared counts as often as it is met; a slice's spare places count too). A statement '..UptoSaid' is the law's where the arguments, and the package variables that the reading takes, are together of bulk at most 1048576: NARROWER than '..Said'. Prove '..Said' where nothing that the law and all that it calls make is longer than what came in: it says more and counts as full. Else prove '..UptoSaid'. A law counts once. -/
mutual
def uptoBulk {H : Type} : DataW H → Nat
  | .lit (.string bytes) => bytes.length + 1
  | .lit _ => 1
  | .nil => 1
  | .ptr d => uptoBulk d + 1
  | .slice elems spare => uptoBulkAll elems + uptoBulkAll spare + 1
  | .agg parts => uptoBulkAll parts + 1
  | .iface _ d => uptoBulk d + 1
  | .map entries => uptoBulkEntries entries + 1
  | .held _ => 1
def uptoBulkAll {H : Type} : List (DataW H) → Nat
  | [] => 0
  | d :: r => uptoBulk d + uptoBulkAll r
def uptoBulkEntries {H : Type} : List (Lit × DataW H) → Nat
  | [] => 0
  | x :: r => uptoBulkEntry x + uptoBulkEntries r
def uptoBulkEntry {H : Type} : Lit × DataW H → Nat
  | (.string bytes, d) => bytes.length + uptoBulk d + 1
  | (_, d) => uptoBulk d + 1
 end
def uptoSmall : (H : Type) → List (DataW H) → Bool := fun _ ds => decide (uptoBulkAll ds ≤ 1048576)
def OpenSpec.upto (s : _root_.Go.ChangeSpec) : _root_.Go.OpenSpec := { _root_.Go.OpenSpec.ofChange s with cond := some uptoSmall }

/-- 'stackmaplaw.Prepares', WHERE WHAT IT READS IS OF BULK AT MOST 1048576: true; the input reads as it did. -/
def preparesUptoRow : OpenClaim := { program := "ytcefiamkoincoaagreat", sum := "ae8e1b4159fb5b3cc0ed9de9773a684da684ff76b97b2a4a242628a2ca72e49a", func := "stackmap/stackmaplaw.Prepares", spec := "prepares", apart := false, narrowed := true }
def PreparesUptoSaid : Prop := preparesUptoRow.holds Tryz.pinned (OpenSpec.upto preparesSpec)

/-- 'stackmapkeep.Stable', WHERE WHAT IT READS IS OF BULK AT MOST 1048576: true; the input reads as it did. -/
def stableUptoRow : OpenClaim := { program := "ytcefiamkoincoaagreat", sum := "ae8e1b4159fb5b3cc0ed9de9773a684da684ff76b97b2a4a242628a2ca72e49a", func := "stackmap/stackmapkeep.Stable", spec := "stable", apart := false, narrowed := true }
def StableUptoSaid : Prop := stableUptoRow.holds Tryz.pinned (OpenSpec.upto stableSpec)

/-- 'stackmapkeep.Tight', WHERE WHAT IT READS IS OF BULK AT MOST 1048576: true; the input reads as it did. -/
def tightUptoRow : OpenClaim := { program := "ytcefiamkoincoaagreat", sum := "ae8e1b4159fb5b3cc0ed9de9773a684da684ff76b97b2a4a242628a2ca72e49a", func := "stackmap/stackmapkeep.Tight", spec := "tight", apart := false, narrowed := true }
def TightUptoSaid : Prop := tightUptoRow.holds Tryz.pinned (OpenSpec.upto tightSpec)

/-- 'stackmaplaw.Found', WHERE WHAT IT READS IS OF BULK AT MOST 1048576: true; the input reads as it did. -/
def foundUptoRow : OpenClaim := { program := "ytcefiamkoincoaagreat", sum := "ae8e1b4159fb5b3cc0ed9de9773a684da684ff76b97b2a4a242628a2ca72e49a", func := "stackmap/stackmaplaw.Found", spec := "found", apart := false, narrowed := true }
def FoundUptoSaid : Prop := foundUptoRow.holds Tryz.pinned (OpenSpec.upto foundSpec)

end Rows
end Go.Proofs.YtcefiamkoincoaaGreat
