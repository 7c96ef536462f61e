/-
  No cell of these rows narrows 'for every input' (looked for: loops, veiled, ifaces, maps, wideKeys, modest, calm, conditions, laid).
  DERIVED. THE GIVEN ROWS OF THIS SEAT. 7 by the template 'for every input the law returns true; each argument reads behind the call as it read before'; 0 by the template 'total and deterministic' (their statements: YtooogjfnnmacjaaTotals.lean).
  GIVEN WITH THE SEED: the statements are not yours to turn. If you find one false, say at which input.
  Laid BY PROGRAM, IN A SANDBOX (cutbox-rows.mjs): the forced cells as the released guide's own fill.sh prints them over the translation 3b89dcc19919b598… (all of the seat's roots in one cut). By AI agents, Wed Nov 11 2026. No macro, syntax, notation, axiom, sorry.
-/
import Derived.Test.YtooogjfnnmacjaaChecked
import GoSem.Claim
import GoSem.ClaimJoined
import GoSem.ClaimMapViews
import Derived.JoinedTies
import Derived.KernelRfl
namespace Go.Proofs.Ytooogjfnnmacjaa
/- THE CELL 'sum', in the pinned program and in every row, IS THE sha256 OF THE DUMP (.gsa) THAT YtooogjfnnmacjaaProg.lean LOADS. Nothing in Lean hashes anything: it is a label: what it is worth is what the hold of that sum in a sandbox is worth. -/
noncomputable def Try.pinned : Pinned := { name := "ytooogjfnnmacjaa", sum := "3b89dcc19919b59872b8129c05e7e4e492cc38970fef9ab5da6382469237b4ac", checked := Try.checked }
namespace Rows
def none {H : Type} : Left H := { results := [], args := [] }

/-- 'laws.FnWheels': WHATEVER THE INPUT: true; the input reads as it did. -/
def fnWheelsSpec : ChangeSpec := { name := "fnWheels", fn := fun _ => fun
  | [d] => { results := [.lit (.bool true)], args := [d] }
  | _ => none }
def fnWheelsRow : OpenClaim := { program := "ytooogjfnnmacjaa", sum := "3b89dcc19919b59872b8129c05e7e4e492cc38970fef9ab5da6382469237b4ac", func := "loop.example/g00732/laws.FnWheels", spec := "fnWheels", unfollowed := true, recurses := true, plainKeys := false, apart := false }
def FnWheelsSaid : Prop := fnWheelsRow.holds Try.pinned (OpenSpec.ofChange fnWheelsSpec)

/-- ITS FALSE NEIGHBOUR: 'it returns false'. Refute it at one input. -/
def fnWheelsWrong : ChangeSpec := { name := "fnWheels", fn := fun _ => fun
  | [d] => { results := [.lit (.bool false)], args := [d] }
  | _ => none }
def FnWheelsWrongFalsely : Prop := fnWheelsRow.holds Try.pinned (OpenSpec.ofChange fnWheelsWrong)

/-- 'laws.FnPlaces': WHATEVER THE INPUT: true; the input reads as it did. -/
def fnPlacesSpec : ChangeSpec := { name := "fnPlaces", fn := fun _ => fun
  | [d] => { results := [.lit (.bool true)], args := [d] }
  | _ => none }
def fnPlacesRow : OpenClaim := { program := "ytooogjfnnmacjaa", sum := "3b89dcc19919b59872b8129c05e7e4e492cc38970fef9ab5da6382469237b4ac", func := "loop.example/g00732/laws.FnPlaces", spec := "fnPlaces", unfollowed := true, recurses := true, plainKeys := false, apart := false }
def FnPlacesSaid : Prop := fnPlacesRow.holds Try.pinned (OpenSpec.ofChange fnPlacesSpec)

/-- ITS FALSE NEIGHBOUR: 'it returns false'. Refute it at one input. -/
def fnPlacesWrong : ChangeSpec := { name := "fnPlaces", fn := fun _ => fun
  | [d] => { results := [.lit (.bool false)], args := [d] }
  | _ => none }
def FnPlacesWrongFalsely : Prop := fnPlacesRow.holds Try.pinned (OpenSpec.ofChange fnPlacesWrong)

/-- 'laws.FnQueues': WHATEVER THE INPUT: true; the input reads as it did. -/
def fnQueuesSpec : ChangeSpec := { name := "fnQueues", fn := fun _ => fun
  | [d] => { results := [.lit (.bool true)], args := [d] }
  | _ => none }
def fnQueuesRow : OpenClaim := { program := "ytooogjfnnmacjaa", sum := "3b89dcc19919b59872b8129c05e7e4e492cc38970fef9ab5da6382469237b4ac", func := "loop.example/g00732/laws.FnQueues", spec := "fnQueues", unfollowed := true, recurses := true, plainKeys := false, apart := false }
def FnQueuesSaid : Prop := fnQueuesRow.holds Try.pinned (OpenSpec.ofChange fnQueuesSpec)

/-- ITS FALSE NEIGHBOUR: 'it returns false'. Refute it at one input. -/
def fnQueuesWrong : ChangeSpec := { name := "fnQueues", fn := fun _ => fun
  | [d] => { results := [.lit (.bool false)], args := [d] }
  | _ => none }
def FnQueuesWrongFalsely : Prop := fnQueuesRow.holds Try.pinned (OpenSpec.ofChange fnQueuesWrong)

/-- 'laws.FnExactEdgesIn': WHATEVER THE INPUT: true; the input reads as it did. -/
def fnExactEdgesInSpec : ChangeSpec := { name := "fnExactEdgesIn", fn := fun _ => fun
  | [d] => { results := [.lit (.bool true)], args := [d] }
  | _ => none }
def fnExactEdgesInRow : OpenClaim := { program := "ytooogjfnnmacjaa", sum := "3b89dcc19919b59872b8129c05e7e4e492cc38970fef9ab5da6382469237b4ac", func := "loop.example/g00732/laws.FnExactEdgesIn", spec := "fnExactEdgesIn", unfollowed := true, recurses := true, plainKeys := false, apart := false }
def FnExactEdgesInSaid : Prop := fnExactEdgesInRow.holds Try.pinned (OpenSpec.ofChange fnExactEdgesInSpec)

/-- ITS FALSE NEIGHBOUR: 'it returns false'. Refute it at one input. -/
def fnExactEdgesInWrong : ChangeSpec := { name := "fnExactEdgesIn", fn := fun _ => fun
  | [d] => { results := [.lit (.bool false)], args := [d] }
  | _ => none }
def FnExactEdgesInWrongFalsely : Prop := fnExactEdgesInRow.holds Try.pinned (OpenSpec.ofChange fnExactEdgesInWrong)

/-- 'laws.FnExactBothEnds': WHATEVER THE INPUT: true; the input reads as it did. -/
def fnExactBothEndsSpec : ChangeSpec := { name := "fnExactBothEnds", fn := fun _ => fun
  | [d] => { results := [.lit (.bool true)], args := [d] }
  | _ => none }
def fnExactBothEndsRow : OpenClaim := { program := "ytooogjfnnmacjaa", sum := "3b89dcc19919b59872b8129c05e7e4e492cc38970fef9ab5da6382469237b4ac", func := "loop.example/g00732/laws.FnExactBothEnds", spec := "fnExactBothEnds", unfollowed := true, recurses := true, plainKeys := false, apart := false }
def FnExactBothEndsSaid : Prop := fnExactBothEndsRow.holds Try.pinned (OpenSpec.ofChange fnExactBothEndsSpec)

/-- ITS FALSE NEIGHBOUR: 'it returns false'. Refute it at one input. -/
def fnExactBothEndsWrong : ChangeSpec := { name := "fnExactBothEnds", fn := fun _ => fun
  | [d] => { results := [.lit (.bool false)], args := [d] }
  | _ => none }
def FnExactBothEndsWrongFalsely : Prop := fnExactBothEndsRow.holds Try.pinned (OpenSpec.ofChange fnExactBothEndsWrong)

/-- 'laws.FnExactIsTight': WHATEVER THE INPUT: true; the input reads as it did. -/
def fnExactIsTightSpec : ChangeSpec := { name := "fnExactIsTight", fn := fun _ => fun
  | [d1, d2, d3] => { results := [.lit (.bool true)], args := [d1, d2, d3] }
  | _ => none }
def fnExactIsTightRow : OpenClaim := { program := "ytooogjfnnmacjaa", sum := "3b89dcc19919b59872b8129c05e7e4e492cc38970fef9ab5da6382469237b4ac", func := "loop.example/g00732/laws.FnExactIsTight", spec := "fnExactIsTight", unfollowed := true, recurses := true, plainKeys := false, apart := false }
def FnExactIsTightSaid : Prop := fnExactIsTightRow.holds Try.pinned (OpenSpec.ofChange fnExactIsTightSpec)

/-- ITS FALSE NEIGHBOUR: 'it returns false'. Refute it at one input. -/
def fnExactIsTightWrong : ChangeSpec := { name := "fnExactIsTight", fn := fun _ => fun
  | [d1, d2, d3] => { results := [.lit (.bool false)], args := [d1, d2, d3] }
  | _ => none }
def FnExactIsTightWrongFalsely : Prop := fnExactIsTightRow.holds Try.pinned (OpenSpec.ofChange fnExactIsTightWrong)

/-- 'laws.FnExactSameRoutes': WHATEVER THE INPUT: true; the input reads as it did. -/
def fnExactSameRoutesSpec : ChangeSpec := { name := "fnExactSameRoutes", fn := fun _ => fun
  | [d1, d2] => { results := [.lit (.bool true)], args := [d1, d2] }
  | _ => none }
def fnExactSameRoutesRow : OpenClaim := { program := "ytooogjfnnmacjaa", sum := "3b89dcc19919b59872b8129c05e7e4e492cc38970fef9ab5da6382469237b4ac", func := "loop.example/g00732/laws.FnExactSameRoutes", spec := "fnExactSameRoutes", unfollowed := true, recurses := true, plainKeys := false, apart := false }
def FnExactSameRoutesSaid : Prop := fnExactSameRoutesRow.holds Try.pinned (OpenSpec.ofChange fnExactSameRoutesSpec)

/-- ITS FALSE NEIGHBOUR: 'it returns false'. Refute it at one input. -/
def fnExactSameRoutesWrong : ChangeSpec := { name := "fnExactSameRoutes", fn := fun _ => fun
  | [d1, d2] => { results := [.lit (.bool false)], args := [d1, d2] }
  | _ => none }
def FnExactSameRoutesWrongFalsely : Prop := fnExactSameRoutesRow.holds Try.pinned (OpenSpec.ofChange fnExactSameRoutesWrong)

/- THE SECOND FORM. 'bulk': how many values and letters a reading holds, each counted each time it is reached (what is shared counts as often as it is met; a slice's spare places count too). A statement '..UptoSaid' is the law's where the arguments, and the package variables that the reading takes, are together of bulk at most 1048576: NARROWER than '..Said'. Prove '..Said' where nothing that the law and all that it calls make is longer than what came in: it says more and counts as full. Else prove '..UptoSaid'. A law counts once. -/
mutual
def uptoBulk {H : Type} : DataW H → Nat
  | .lit (.string bytes) => bytes.length + 1
  | .lit _ => 1
  | .nil => 1
  | .ptr d => uptoBulk d + 1
  | .slice elems spare => uptoBulkAll elems + uptoBulkAll spare + 1
  | .agg parts => uptoBulkAll parts + 1
  | .iface _ d => uptoBulk d + 1
  | .map entries => uptoBulkEntries entries + 1
  | .held _ => 1
def uptoBulkAll {H : Type} : List (DataW H) → Nat
  | [] => 0
  | d :: r => uptoBulk d + uptoBulkAll r
def uptoBulkEntries {H : Type} : List (Lit × DataW H) → Nat
  | [] => 0
  | x :: r => uptoBulkEntry x + uptoBulkEntries r
def uptoBulkEntry {H : Type} : Lit × DataW H → Nat
  | (.string bytes, d) => bytes.length + uptoBulk d + 1
  | (_, d) => uptoBulk d + 1
 end
def uptoSmall : (H : Type) → List (DataW H) → Bool := fun _ ds => decide (uptoBulkAll ds ≤ 1048576)
def OpenSpec.upto (s : _root_.Go.ChangeSpec) : _root_.Go.OpenSpec := { _root_.Go.OpenSpec.ofChange s with cond := some uptoSmall }

/-- 'laws.FnWheels', WHERE WHAT IT READS IS OF BULK AT MOST 1048576: true; the input reads as it did. -/
def fnWheelsUptoRow : OpenClaim := { program := "ytooogjfnnmacjaa", sum := "3b89dcc19919b59872b8129c05e7e4e492cc38970fef9ab5da6382469237b4ac", func := "loop.example/g00732/laws.FnWheels", spec := "fnWheels", unfollowed := true, recurses := true, plainKeys := false, apart := false, narrowed := true }
def FnWheelsUptoSaid : Prop := fnWheelsUptoRow.holds Try.pinned (OpenSpec.upto fnWheelsSpec)

/-- 'laws.FnPlaces', WHERE WHAT IT READS IS OF BULK AT MOST 1048576: true; the input reads as it did. -/
def fnPlacesUptoRow : OpenClaim := { program := "ytooogjfnnmacjaa", sum := "3b89dcc19919b59872b8129c05e7e4e492cc38970fef9ab5da6382469237b4ac", func := "loop.example/g00732/laws.FnPlaces", spec := "fnPlaces", unfollowed := true, recurses := true, plainKeys := false, apart := false, narrowed := true }
def FnPlacesUptoSaid : Prop := fnPlacesUptoRow.holds Try.pinned (OpenSpec.upto fnPlacesSpec)

/-- 'laws.FnQueues', WHERE WHAT IT READS IS OF BULK AT MOST 1048576: true; the input reads as it did. -/
def fnQueuesUptoRow : OpenClaim := { program := "ytooogjfnnmacjaa", sum := "3b89dcc19919b59872b8129c05e7e4e492cc38970fef9ab5da6382469237b4ac", func := "loop.example/g00732/laws.FnQueues", spec := "fnQueues", unfollowed := true, recurses := true, plainKeys := false, apart := false, narrowed := true }
def FnQueuesUptoSaid : Prop := fnQueuesUptoRow.holds Try.pinned (OpenSpec.upto fnQueuesSpec)

/-- 'laws.FnExactEdgesIn', WHERE WHAT IT READS IS OF BULK AT MOST 1048576: true; the input reads as it did. -/
def fnExactEdgesInUptoRow : OpenClaim := { program := "ytooogjfnnmacjaa", sum := "3b89dcc19919b59872b8129c05e7e4e492cc38970fef9ab5da6382469237b4ac", func := "loop.example/g00732/laws.FnExactEdgesIn", spec := "fnExactEdgesIn", unfollowed := true, recurses := true, plainKeys := false, apart := false, narrowed := true }
def FnExactEdgesInUptoSaid : Prop := fnExactEdgesInUptoRow.holds Try.pinned (OpenSpec.upto fnExactEdgesInSpec)

/-- 'laws.FnExactBothEnds', WHERE WHAT IT READS IS OF BULK AT MOST 1048576: true; the input reads as it did. -/
def fnExactBothEndsUptoRow : OpenClaim := { program := "ytooogjfnnmacjaa", sum := "3b89dcc19919b59872b8129c05e7e4e492cc38970fef9ab5da6382469237b4ac", func := "loop.example/g00732/laws.FnExactBothEnds", spec := "fnExactBothEnds", unfollowed := true, recurses := true, plainKeys := false, apart := false, narrowed := true }
def FnExactBothEndsUptoSaid : Prop := fnExactBothEndsUptoRow.holds Try.pinned (OpenSpec.upto fnExactBothEndsSpec)

/-- 'laws.FnExactIsTight', WHERE WHAT IT READS IS OF BULK AT MOST 1048576: true; the input reads as it did. -/
def fnExactIsTightUptoRow : OpenClaim := { program := "ytooogjfnnmacjaa", sum := "3b89dcc19919b59872b8129c05e7e4e492cc38970fef9ab5da6382469237b4ac", func := "loop.example/g00732/laws.FnExactIsTight", spec := "fnExactIsTight", unfollowed := true, recurses := true, plainKeys := false, apart := false, narrowed := true }
def FnExactIsTightUptoSaid : Prop := fnExactIsTightUptoRow.holds Try.pinned (OpenSpec.upto fnExactIsTightSpec)

/-- 'laws.FnExactSameRoutes', WHERE WHAT IT READS IS OF BULK AT MOST 1048576: true; the input reads as it did. -/
def fnExactSameRoutesUptoRow : OpenClaim := { program := "ytooogjfnnmacjaa", sum := "3b89dcc19919b59872b8129c05e7e4e492cc38970fef9ab5da6382469237b4ac", func := "loop.example/g00732/laws.FnExactSameRoutes", spec := "fnExactSameRoutes", unfollowed := true, recurses := true, plainKeys := false, apart := false, narrowed := true }
def FnExactSameRoutesUptoSaid : Prop := fnExactSameRoutesUptoRow.holds Try.pinned (OpenSpec.upto fnExactSameRoutesSpec)

end Rows
end Go.Proofs.Ytooogjfnnmacjaa
