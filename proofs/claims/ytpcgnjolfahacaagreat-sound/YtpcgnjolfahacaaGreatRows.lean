/-
  No cell of these rows narrows 'for every input' (looked for: loops, veiled, ifaces, maps, wideKeys, modest, calm, conditions, laid).
  DERIVED. THE GIVEN ROWS OF THIS SEAT. 10 by the template 'for every input the law returns true; each argument reads behind the call as it read before'; 0 by the template 'total and deterministic' (their statements: YtpcgnjolfahacaaGreatTotals.lean).
  GIVEN WITH THE SEED: the statements are not yours to turn. If you find one false, say at which input.
  Laid BY PROGRAM, IN A SANDBOX (cutbox-rows.mjs): the forced cells as the released guide's own fill.sh prints them over the translation 8f94779af942292d… (all of the seat's roots in one cut). By AI agents, Wed Nov 11 2026. No macro, syntax, notation, axiom, sorry.
-/
import Derived.Test.YtpcgnjolfahacaaGreatChecked
import GoSem.Claim
import GoSem.ClaimJoined
import GoSem.ClaimMapViews
import Derived.JoinedTies
import Derived.KernelRfl
namespace Go.Proofs.YtpcgnjolfahacaaGreat
/- THE CELL 'sum', in the pinned program and in every row, IS THE sha256 OF THE DUMP (.gsa) THAT YtpcgnjolfahacaaGreatProg.lean LOADS. Nothing in Lean hashes anything: it is a label: what it is worth is what the hold of that sum in a sandbox is worth. -/
noncomputable def Tryz.pinned : Pinned := { name := "ytpcgnjolfahacaagreat", sum := "8f94779af942292d5fc5031702d038e695e5ac4c9a781b9563ed1e3380f71170", checked := Tryz.checked }
namespace Rows
def none {H : Type} : Left H := { results := [], args := [] }

/-- 'stackmapkeep.Tight': WHATEVER THE INPUT: true; the input reads as it did. -/
def tightSpec : ChangeSpec := { name := "tight", fn := fun _ => fun
  | [d1, d2, d3] => { results := [.lit (.bool true)], args := [d1, d2, d3] }
  | _ => none }
def tightRow : OpenClaim := { program := "ytpcgnjolfahacaagreat", sum := "8f94779af942292d5fc5031702d038e695e5ac4c9a781b9563ed1e3380f71170", func := "stackmap/stackmapkeep.Tight", spec := "tight", apart := false }
def TightSaid : Prop := tightRow.holds Tryz.pinned (OpenSpec.ofChange tightSpec)

/-- ITS FALSE NEIGHBOUR: 'it returns false'. Refute it at one input. -/
def tightWrong : ChangeSpec := { name := "tight", fn := fun _ => fun
  | [d1, d2, d3] => { results := [.lit (.bool false)], args := [d1, d2, d3] }
  | _ => none }
def TightWrongFalsely : Prop := tightRow.holds Tryz.pinned (OpenSpec.ofChange tightWrong)

/-- 'stackmaplaw.Runs': WHATEVER THE INPUT: true; the input reads as it did. -/
def runsSpec : ChangeSpec := { name := "runs", fn := fun _ => fun
  | [d] => { results := [.lit (.bool true)], args := [d] }
  | _ => none }
def runsRow : OpenClaim := { program := "ytpcgnjolfahacaagreat", sum := "8f94779af942292d5fc5031702d038e695e5ac4c9a781b9563ed1e3380f71170", func := "stackmap/stackmaplaw.Runs", spec := "runs", apart := false }
def RunsSaid : Prop := runsRow.holds Tryz.pinned (OpenSpec.ofChange runsSpec)

/-- ITS FALSE NEIGHBOUR: 'it returns false'. Refute it at one input. -/
def runsWrong : ChangeSpec := { name := "runs", fn := fun _ => fun
  | [d] => { results := [.lit (.bool false)], args := [d] }
  | _ => none }
def RunsWrongFalsely : Prop := runsRow.holds Tryz.pinned (OpenSpec.ofChange runsWrong)

/-- 'stackmaplaw.Sound': WHATEVER THE INPUT: true; the input reads as it did. -/
def soundSpec : ChangeSpec := { name := "sound", fn := fun _ => fun
  | [d1, d2] => { results := [.lit (.bool true)], args := [d1, d2] }
  | _ => none }
def soundRow : OpenClaim := { program := "ytpcgnjolfahacaagreat", sum := "8f94779af942292d5fc5031702d038e695e5ac4c9a781b9563ed1e3380f71170", func := "stackmap/stackmaplaw.Sound", spec := "sound", apart := false }
def SoundSaid : Prop := soundRow.holds Tryz.pinned (OpenSpec.ofChange soundSpec)

/-- ITS FALSE NEIGHBOUR: 'it returns false'. Refute it at one input. -/
def soundWrong : ChangeSpec := { name := "sound", fn := fun _ => fun
  | [d1, d2] => { results := [.lit (.bool false)], args := [d1, d2] }
  | _ => none }
def SoundWrongFalsely : Prop := soundRow.holds Tryz.pinned (OpenSpec.ofChange soundWrong)

/-- 'stackmapkeep.Sums': WHATEVER THE INPUT: true; the input reads as it did. -/
def sumsSpec : ChangeSpec := { name := "sums", fn := fun _ => fun
  | [d1, d2] => { results := [.lit (.bool true)], args := [d1, d2] }
  | _ => none }
def sumsRow : OpenClaim := { program := "ytpcgnjolfahacaagreat", sum := "8f94779af942292d5fc5031702d038e695e5ac4c9a781b9563ed1e3380f71170", func := "stackmap/stackmapkeep.Sums", spec := "sums", apart := false }
def SumsSaid : Prop := sumsRow.holds Tryz.pinned (OpenSpec.ofChange sumsSpec)

/-- ITS FALSE NEIGHBOUR: 'it returns false'. Refute it at one input. -/
def sumsWrong : ChangeSpec := { name := "sums", fn := fun _ => fun
  | [d1, d2] => { results := [.lit (.bool false)], args := [d1, d2] }
  | _ => none }
def SumsWrongFalsely : Prop := sumsRow.holds Tryz.pinned (OpenSpec.ofChange sumsWrong)

/-- 'stackmapkeep.Counts': WHATEVER THE INPUT: true; the input reads as it did. -/
def countsSpec : ChangeSpec := { name := "counts", fn := fun _ => fun
  | [d] => { results := [.lit (.bool true)], args := [d] }
  | _ => none }
def countsRow : OpenClaim := { program := "ytpcgnjolfahacaagreat", sum := "8f94779af942292d5fc5031702d038e695e5ac4c9a781b9563ed1e3380f71170", func := "stackmap/stackmapkeep.Counts", spec := "counts", apart := false }
def CountsSaid : Prop := countsRow.holds Tryz.pinned (OpenSpec.ofChange countsSpec)

/-- ITS FALSE NEIGHBOUR: 'it returns false'. Refute it at one input. -/
def countsWrong : ChangeSpec := { name := "counts", fn := fun _ => fun
  | [d] => { results := [.lit (.bool false)], args := [d] }
  | _ => none }
def CountsWrongFalsely : Prop := countsRow.holds Tryz.pinned (OpenSpec.ofChange countsWrong)

/-- 'stackmapkeep.Unset': WHATEVER THE INPUT: true; the input reads as it did. -/
def unsetSpec : ChangeSpec := { name := "unset", fn := fun _ => fun
  | [d1, d2] => { results := [.lit (.bool true)], args := [d1, d2] }
  | _ => none }
def unsetRow : OpenClaim := { program := "ytpcgnjolfahacaagreat", sum := "8f94779af942292d5fc5031702d038e695e5ac4c9a781b9563ed1e3380f71170", func := "stackmap/stackmapkeep.Unset", spec := "unset", apart := false }
def UnsetSaid : Prop := unsetRow.holds Tryz.pinned (OpenSpec.ofChange unsetSpec)

/-- ITS FALSE NEIGHBOUR: 'it returns false'. Refute it at one input. -/
def unsetWrong : ChangeSpec := { name := "unset", fn := fun _ => fun
  | [d1, d2] => { results := [.lit (.bool false)], args := [d1, d2] }
  | _ => none }
def UnsetWrongFalsely : Prop := unsetRow.holds Tryz.pinned (OpenSpec.ofChange unsetWrong)

/-- 'stackmapkeep.Nearest': WHATEVER THE INPUT: true; the input reads as it did. -/
def nearestSpec : ChangeSpec := { name := "nearest", fn := fun _ => fun
  | [d1, d2, d3] => { results := [.lit (.bool true)], args := [d1, d2, d3] }
  | _ => none }
def nearestRow : OpenClaim := { program := "ytpcgnjolfahacaagreat", sum := "8f94779af942292d5fc5031702d038e695e5ac4c9a781b9563ed1e3380f71170", func := "stackmap/stackmapkeep.Nearest", spec := "nearest", apart := false }
def NearestSaid : Prop := nearestRow.holds Tryz.pinned (OpenSpec.ofChange nearestSpec)

/-- ITS FALSE NEIGHBOUR: 'it returns false'. Refute it at one input. -/
def nearestWrong : ChangeSpec := { name := "nearest", fn := fun _ => fun
  | [d1, d2, d3] => { results := [.lit (.bool false)], args := [d1, d2, d3] }
  | _ => none }
def NearestWrongFalsely : Prop := nearestRow.holds Tryz.pinned (OpenSpec.ofChange nearestWrong)

/-- 'stackmapkeep.Rooms': WHATEVER THE INPUT: true; the input reads as it did. -/
def roomsSpec : ChangeSpec := { name := "rooms", fn := fun _ => fun
  | [d1, d2, d3] => { results := [.lit (.bool true)], args := [d1, d2, d3] }
  | _ => none }
def roomsRow : OpenClaim := { program := "ytpcgnjolfahacaagreat", sum := "8f94779af942292d5fc5031702d038e695e5ac4c9a781b9563ed1e3380f71170", func := "stackmap/stackmapkeep.Rooms", spec := "rooms", apart := false }
def RoomsSaid : Prop := roomsRow.holds Tryz.pinned (OpenSpec.ofChange roomsSpec)

/-- ITS FALSE NEIGHBOUR: 'it returns false'. Refute it at one input. -/
def roomsWrong : ChangeSpec := { name := "rooms", fn := fun _ => fun
  | [d1, d2, d3] => { results := [.lit (.bool false)], args := [d1, d2, d3] }
  | _ => none }
def RoomsWrongFalsely : Prop := roomsRow.holds Tryz.pinned (OpenSpec.ofChange roomsWrong)

/-- 'stackmapkeep.Further': WHATEVER THE INPUT: true; the input reads as it did. -/
def furtherSpec : ChangeSpec := { name := "further", fn := fun _ => fun
  | [d1, d2, d3] => { results := [.lit (.bool true)], args := [d1, d2, d3] }
  | _ => none }
def furtherRow : OpenClaim := { program := "ytpcgnjolfahacaagreat", sum := "8f94779af942292d5fc5031702d038e695e5ac4c9a781b9563ed1e3380f71170", func := "stackmap/stackmapkeep.Further", spec := "further", apart := false }
def FurtherSaid : Prop := furtherRow.holds Tryz.pinned (OpenSpec.ofChange furtherSpec)

/-- ITS FALSE NEIGHBOUR: 'it returns false'. Refute it at one input. -/
def furtherWrong : ChangeSpec := { name := "further", fn := fun _ => fun
  | [d1, d2, d3] => { results := [.lit (.bool false)], args := [d1, d2, d3] }
  | _ => none }
def FurtherWrongFalsely : Prop := furtherRow.holds Tryz.pinned (OpenSpec.ofChange furtherWrong)

/-- 'stackmaplaw.All': WHATEVER THE INPUT: true; the input reads as it did. -/
def allSpec : ChangeSpec := { name := "all", fn := fun _ => fun
  | [d] => { results := [.lit (.bool true)], args := [d] }
  | _ => none }
def allRow : OpenClaim := { program := "ytpcgnjolfahacaagreat", sum := "8f94779af942292d5fc5031702d038e695e5ac4c9a781b9563ed1e3380f71170", func := "stackmap/stackmaplaw.All", spec := "all", apart := false }
def AllSaid : Prop := allRow.holds Tryz.pinned (OpenSpec.ofChange allSpec)

/-- ITS FALSE NEIGHBOUR: 'it returns false'. Refute it at one input. -/
def allWrong : ChangeSpec := { name := "all", fn := fun _ => fun
  | [d] => { results := [.lit (.bool false)], args := [d] }
  | _ => none }
def AllWrongFalsely : Prop := allRow.holds Tryz.pinned (OpenSpec.ofChange allWrong)

/- THE SECOND FORM. 'bulk': how many values and letters a reading holds, each counted each time it is reached (what is shared counts as often as it is met; a slice's spare places count too). A statement '..UptoSaid' is the law's where the arguments, and the package variables that the reading takes, are together of bulk at most 1048576: NARROWER than '..Said'. Prove '..Said' where nothing that the law and all that it calls make is longer than what came in: it says more and counts as full. Else prove '..UptoSaid'. A law counts once. -/
mutual
def uptoBulk {H : Type} : DataW H → Nat
  | .lit (.string bytes) => bytes.length + 1
  | .lit _ => 1
  | .nil => 1
  | .ptr d => uptoBulk d + 1
  | .slice elems spare => uptoBulkAll elems + uptoBulkAll spare + 1
  | .agg parts => uptoBulkAll parts + 1
  | .iface _ d => uptoBulk d + 1
  | .map entries => uptoBulkEntries entries + 1
  | .held _ => 1
def uptoBulkAll {H : Type} : List (DataW H) → Nat
  | [] => 0
  | d :: r => uptoBulk d + uptoBulkAll r
def uptoBulkEntries {H : Type} : List (Lit × DataW H) → Nat
  | [] => 0
  | x :: r => uptoBulkEntry x + uptoBulkEntries r
def uptoBulkEntry {H : Type} : Lit × DataW H → Nat
  | (.string bytes, d) => bytes.length + uptoBulk d + 1
  | (_, d) => uptoBulk d + 1
 end
def uptoSmall : (H : Type) → List (DataW H) → Bool := fun _ ds => decide (uptoBulkAll ds ≤ 1048576)
def OpenSpec.upto (s : _root_.Go.ChangeSpec) : _root_.Go.OpenSpec := { _root_.Go.OpenSpec.ofChange s with cond := some uptoSmall }

/-- 'stackmapkeep.Tight', WHERE WHAT IT READS IS OF BULK AT MOST 1048576: true; the input reads as it did. -/
def tightUptoRow : OpenClaim := { program := "ytpcgnjolfahacaagreat", sum := "8f94779af942292d5fc5031702d038e695e5ac4c9a781b9563ed1e3380f71170", func := "stackmap/stackmapkeep.Tight", spec := "tight", apart := false, narrowed := true }
def TightUptoSaid : Prop := tightUptoRow.holds Tryz.pinned (OpenSpec.upto tightSpec)

/-- 'stackmaplaw.Runs', WHERE WHAT IT READS IS OF BULK AT MOST 1048576: true; the input reads as it did. -/
def runsUptoRow : OpenClaim := { program := "ytpcgnjolfahacaagreat", sum := "8f94779af942292d5fc5031702d038e695e5ac4c9a781b9563ed1e3380f71170", func := "stackmap/stackmaplaw.Runs", spec := "runs", apart := false, narrowed := true }
def RunsUptoSaid : Prop := runsUptoRow.holds Tryz.pinned (OpenSpec.upto runsSpec)

/-- 'stackmaplaw.Sound', WHERE WHAT IT READS IS OF BULK AT MOST 1048576: true; the input reads as it did. -/
def soundUptoRow : OpenClaim := { program := "ytpcgnjolfahacaagreat", sum := "8f94779af942292d5fc5031702d038e695e5ac4c9a781b9563ed1e3380f71170", func := "stackmap/stackmaplaw.Sound", spec := "sound", apart := false, narrowed := true }
def SoundUptoSaid : Prop := soundUptoRow.holds Tryz.pinned (OpenSpec.upto soundSpec)

/-- 'stackmapkeep.Sums', WHERE WHAT IT READS IS OF BULK AT MOST 1048576: true; the input reads as it did. -/
def sumsUptoRow : OpenClaim := { program := "ytpcgnjolfahacaagreat", sum := "8f94779af942292d5fc5031702d038e695e5ac4c9a781b9563ed1e3380f71170", func := "stackmap/stackmapkeep.Sums", spec := "sums", apart := false, narrowed := true }
def SumsUptoSaid : Prop := sumsUptoRow.holds Tryz.pinned (OpenSpec.upto sumsSpec)

/-- 'stackmapkeep.Counts', WHERE WHAT IT READS IS OF BULK AT MOST 1048576: true; the input reads as it did. -/
def countsUptoRow : OpenClaim := { program := "ytpcgnjolfahacaagreat", sum := "8f94779af942292d5fc5031702d038e695e5ac4c9a781b9563ed1e3380f71170", func := "stackmap/stackmapkeep.Counts", spec := "counts", apart := false, narrowed := true }
def CountsUptoSaid : Prop := countsUptoRow.holds Tryz.pinned (OpenSpec.upto countsSpec)

/-- 'stackmapkeep.Unset', WHERE WHAT IT READS IS OF BULK AT MOST 1048576: true; the input reads as it did. -/
def unsetUptoRow : OpenClaim := { program := "ytpcgnjolfahacaagreat", sum := "8f94779af942292d5fc5031702d038e695e5ac4c9a781b9563ed1e3380f71170", func := "stackmap/stackmapkeep.Unset", spec := "unset", apart := false, narrowed := true }
def UnsetUptoSaid : Prop := unsetUptoRow.holds Tryz.pinned (OpenSpec.upto unsetSpec)

/-- 'stackmapkeep.Nearest', WHERE WHAT IT READS IS OF BULK AT MOST 1048576: true; the input reads as it did. -/
def nearestUptoRow : OpenClaim := { program := "ytpcgnjolfahacaagreat", sum := "8f94779af942292d5fc5031702d038e695e5ac4c9a781b9563ed1e3380f71170", func := "stackmap/stackmapkeep.Nearest", spec := "nearest", apart := false, narrowed := true }
def NearestUptoSaid : Prop := nearestUptoRow.holds Tryz.pinned (OpenSpec.upto nearestSpec)

/-- 'stackmapkeep.Rooms', WHERE WHAT IT READS IS OF BULK AT MOST 1048576: true; the input reads as it did. -/
def roomsUptoRow : OpenClaim := { program := "ytpcgnjolfahacaagreat", sum := "8f94779af942292d5fc5031702d038e695e5ac4c9a781b9563ed1e3380f71170", func := "stackmap/stackmapkeep.Rooms", spec := "rooms", apart := false, narrowed := true }
def RoomsUptoSaid : Prop := roomsUptoRow.holds Tryz.pinned (OpenSpec.upto roomsSpec)

/-- 'stackmapkeep.Further', WHERE WHAT IT READS IS OF BULK AT MOST 1048576: true; the input reads as it did. -/
def furtherUptoRow : OpenClaim := { program := "ytpcgnjolfahacaagreat", sum := "8f94779af942292d5fc5031702d038e695e5ac4c9a781b9563ed1e3380f71170", func := "stackmap/stackmapkeep.Further", spec := "further", apart := false, narrowed := true }
def FurtherUptoSaid : Prop := furtherUptoRow.holds Tryz.pinned (OpenSpec.upto furtherSpec)

/-- 'stackmaplaw.All', WHERE WHAT IT READS IS OF BULK AT MOST 1048576: true; the input reads as it did. -/
def allUptoRow : OpenClaim := { program := "ytpcgnjolfahacaagreat", sum := "8f94779af942292d5fc5031702d038e695e5ac4c9a781b9563ed1e3380f71170", func := "stackmap/stackmaplaw.All", spec := "all", apart := false, narrowed := true }
def AllUptoSaid : Prop := allUptoRow.holds Tryz.pinned (OpenSpec.upto allSpec)

end Rows
end Go.Proofs.YtpcgnjolfahacaaGreat
