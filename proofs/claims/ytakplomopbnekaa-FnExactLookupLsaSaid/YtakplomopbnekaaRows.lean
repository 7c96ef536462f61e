/-
  No cell of these rows narrows 'for every input' (looked for: loops, veiled, ifaces, maps, wideKeys, modest, calm, conditions, laid).
  DERIVED. THE GIVEN ROWS OF THIS SEAT. 9 by the template 'for every input the law returns true; each argument reads behind the call as it read before'; 0 by the template 'total and deterministic' (their statements: YtakplomopbnekaaTotals.lean).
  GIVEN WITH THE SEED: the statements are not yours to turn. If you find one false, say at which input.
  Laid BY PROGRAM, IN A SANDBOX (cutbox-rows.mjs): the forced cells as the released guide's own fill.sh prints them over the translation d3d5ed20d6bfc29b… (all of the seat's roots in one cut). By AI agents, Wed Nov 11 2026. No macro, syntax, notation, axiom, sorry.
-/
import Derived.Test.YtakplomopbnekaaChecked
import GoSem.Claim
import GoSem.ClaimJoined
import GoSem.ClaimMapViews
import Derived.JoinedTies
import Derived.KernelRfl
namespace Go.Proofs.Ytakplomopbnekaa
/- THE CELL 'sum', in the pinned program and in every row, IS THE sha256 OF THE DUMP (.gsa) THAT YtakplomopbnekaaProg.lean LOADS. Nothing in Lean hashes anything: it is a label: what it is worth is what the hold of that sum in a sandbox is worth. -/
noncomputable def Try.pinned : Pinned := { name := "ytakplomopbnekaa", sum := "d3d5ed20d6bfc29b682bcbb8bae04eca9b868445bf21f228d1492a7d00715578", checked := Try.checked }
namespace Rows
def none {H : Type} : Left H := { results := [], args := [] }

/-- 'laws.FnWheels': WHATEVER THE INPUT: true; the input reads as it did. -/
def fnWheelsSpec : ChangeSpec := { name := "fnWheels", fn := fun _ => fun
  | [d] => { results := [.lit (.bool true)], args := [d] }
  | _ => none }
def fnWheelsRow : OpenClaim := { program := "ytakplomopbnekaa", sum := "d3d5ed20d6bfc29b682bcbb8bae04eca9b868445bf21f228d1492a7d00715578", func := "loop.example/g00732/laws.FnWheels", spec := "fnWheels", unfollowed := true, recurses := true, plainKeys := false, apart := false }
def FnWheelsSaid : Prop := fnWheelsRow.holds Try.pinned (OpenSpec.ofChange fnWheelsSpec)

/-- ITS FALSE NEIGHBOUR: 'it returns false'. Refute it at one input. -/
def fnWheelsWrong : ChangeSpec := { name := "fnWheels", fn := fun _ => fun
  | [d] => { results := [.lit (.bool false)], args := [d] }
  | _ => none }
def FnWheelsWrongFalsely : Prop := fnWheelsRow.holds Try.pinned (OpenSpec.ofChange fnWheelsWrong)

/-- 'laws.FnPlaces': WHATEVER THE INPUT: true; the input reads as it did. -/
def fnPlacesSpec : ChangeSpec := { name := "fnPlaces", fn := fun _ => fun
  | [d] => { results := [.lit (.bool true)], args := [d] }
  | _ => none }
def fnPlacesRow : OpenClaim := { program := "ytakplomopbnekaa", sum := "d3d5ed20d6bfc29b682bcbb8bae04eca9b868445bf21f228d1492a7d00715578", func := "loop.example/g00732/laws.FnPlaces", spec := "fnPlaces", unfollowed := true, recurses := true, plainKeys := false, apart := false }
def FnPlacesSaid : Prop := fnPlacesRow.holds Try.pinned (OpenSpec.ofChange fnPlacesSpec)

/-- ITS FALSE NEIGHBOUR: 'it returns false'. Refute it at one input. -/
def fnPlacesWrong : ChangeSpec := { name := "fnPlaces", fn := fun _ => fun
  | [d] => { results := [.lit (.bool false)], args := [d] }
  | _ => none }
def FnPlacesWrongFalsely : Prop := fnPlacesRow.holds Try.pinned (OpenSpec.ofChange fnPlacesWrong)

/-- 'laws.FnExactAddTimer': WHATEVER THE INPUT: true; the input reads as it did. -/
def fnExactAddTimerSpec : ChangeSpec := { name := "fnExactAddTimer", fn := fun _ => fun
  | [d1, d2] => { results := [.lit (.bool true)], args := [d1, d2] }
  | _ => none }
def fnExactAddTimerRow : OpenClaim := { program := "ytakplomopbnekaa", sum := "d3d5ed20d6bfc29b682bcbb8bae04eca9b868445bf21f228d1492a7d00715578", func := "loop.example/g00732/laws.FnExactAddTimer", spec := "fnExactAddTimer", unfollowed := true, recurses := true, plainKeys := false, apart := false }
def FnExactAddTimerSaid : Prop := fnExactAddTimerRow.holds Try.pinned (OpenSpec.ofChange fnExactAddTimerSpec)

/-- ITS FALSE NEIGHBOUR: 'it returns false'. Refute it at one input. -/
def fnExactAddTimerWrong : ChangeSpec := { name := "fnExactAddTimer", fn := fun _ => fun
  | [d1, d2] => { results := [.lit (.bool false)], args := [d1, d2] }
  | _ => none }
def FnExactAddTimerWrongFalsely : Prop := fnExactAddTimerRow.holds Try.pinned (OpenSpec.ofChange fnExactAddTimerWrong)

/-- 'laws.FnExactTickWheel': WHATEVER THE INPUT: true; the input reads as it did. -/
def fnExactTickWheelSpec : ChangeSpec := { name := "fnExactTickWheel", fn := fun _ => fun
  | [d] => { results := [.lit (.bool true)], args := [d] }
  | _ => none }
def fnExactTickWheelRow : OpenClaim := { program := "ytakplomopbnekaa", sum := "d3d5ed20d6bfc29b682bcbb8bae04eca9b868445bf21f228d1492a7d00715578", func := "loop.example/g00732/laws.FnExactTickWheel", spec := "fnExactTickWheel", unfollowed := true, recurses := true, plainKeys := false, apart := false }
def FnExactTickWheelSaid : Prop := fnExactTickWheelRow.holds Try.pinned (OpenSpec.ofChange fnExactTickWheelSpec)

/-- ITS FALSE NEIGHBOUR: 'it returns false'. Refute it at one input. -/
def fnExactTickWheelWrong : ChangeSpec := { name := "fnExactTickWheel", fn := fun _ => fun
  | [d] => { results := [.lit (.bool false)], args := [d] }
  | _ => none }
def FnExactTickWheelWrongFalsely : Prop := fnExactTickWheelRow.holds Try.pinned (OpenSpec.ofChange fnExactTickWheelWrong)

/-- 'laws.FnExactRunWheel': WHATEVER THE INPUT: true; the input reads as it did. -/
def fnExactRunWheelSpec : ChangeSpec := { name := "fnExactRunWheel", fn := fun _ => fun
  | [d1, d2] => { results := [.lit (.bool true)], args := [d1, d2] }
  | _ => none }
def fnExactRunWheelRow : OpenClaim := { program := "ytakplomopbnekaa", sum := "d3d5ed20d6bfc29b682bcbb8bae04eca9b868445bf21f228d1492a7d00715578", func := "loop.example/g00732/laws.FnExactRunWheel", spec := "fnExactRunWheel", unfollowed := true, recurses := true, plainKeys := false, apart := false }
def FnExactRunWheelSaid : Prop := fnExactRunWheelRow.holds Try.pinned (OpenSpec.ofChange fnExactRunWheelSpec)

/-- ITS FALSE NEIGHBOUR: 'it returns false'. Refute it at one input. -/
def fnExactRunWheelWrong : ChangeSpec := { name := "fnExactRunWheel", fn := fun _ => fun
  | [d1, d2] => { results := [.lit (.bool false)], args := [d1, d2] }
  | _ => none }
def FnExactRunWheelWrongFalsely : Prop := fnExactRunWheelRow.holds Try.pinned (OpenSpec.ofChange fnExactRunWheelWrong)

/-- 'laws.FnExactBaseFault': WHATEVER THE INPUT: true; the input reads as it did. -/
def fnExactBaseFaultSpec : ChangeSpec := { name := "fnExactBaseFault", fn := fun _ => fun
  | [d] => { results := [.lit (.bool true)], args := [d] }
  | _ => none }
def fnExactBaseFaultRow : OpenClaim := { program := "ytakplomopbnekaa", sum := "d3d5ed20d6bfc29b682bcbb8bae04eca9b868445bf21f228d1492a7d00715578", func := "loop.example/g00732/laws.FnExactBaseFault", spec := "fnExactBaseFault", unfollowed := true, recurses := true, plainKeys := false, apart := false }
def FnExactBaseFaultSaid : Prop := fnExactBaseFaultRow.holds Try.pinned (OpenSpec.ofChange fnExactBaseFaultSpec)

/-- ITS FALSE NEIGHBOUR: 'it returns false'. Refute it at one input. -/
def fnExactBaseFaultWrong : ChangeSpec := { name := "fnExactBaseFault", fn := fun _ => fun
  | [d] => { results := [.lit (.bool false)], args := [d] }
  | _ => none }
def FnExactBaseFaultWrongFalsely : Prop := fnExactBaseFaultRow.holds Try.pinned (OpenSpec.ofChange fnExactBaseFaultWrong)

/-- 'laws.FnExactNewBase': WHATEVER THE INPUT: true; the input reads as it did. -/
def fnExactNewBaseSpec : ChangeSpec := { name := "fnExactNewBase", fn := fun _ => fun
  | [d] => { results := [.lit (.bool true)], args := [d] }
  | _ => none }
def fnExactNewBaseRow : OpenClaim := { program := "ytakplomopbnekaa", sum := "d3d5ed20d6bfc29b682bcbb8bae04eca9b868445bf21f228d1492a7d00715578", func := "loop.example/g00732/laws.FnExactNewBase", spec := "fnExactNewBase", plainKeys := false, apart := false }
def FnExactNewBaseSaid : Prop := fnExactNewBaseRow.holds Try.pinned (OpenSpec.ofChange fnExactNewBaseSpec)

/-- ITS FALSE NEIGHBOUR: 'it returns false'. Refute it at one input. -/
def fnExactNewBaseWrong : ChangeSpec := { name := "fnExactNewBase", fn := fun _ => fun
  | [d] => { results := [.lit (.bool false)], args := [d] }
  | _ => none }
def FnExactNewBaseWrongFalsely : Prop := fnExactNewBaseRow.holds Try.pinned (OpenSpec.ofChange fnExactNewBaseWrong)

/-- 'laws.FnExactLookupLsa': WHATEVER THE INPUT: true; the input reads as it did. -/
def fnExactLookupLsaSpec : ChangeSpec := { name := "fnExactLookupLsa", fn := fun _ => fun
  | [d1, d2] => { results := [.lit (.bool true)], args := [d1, d2] }
  | _ => none }
def fnExactLookupLsaRow : OpenClaim := { program := "ytakplomopbnekaa", sum := "d3d5ed20d6bfc29b682bcbb8bae04eca9b868445bf21f228d1492a7d00715578", func := "loop.example/g00732/laws.FnExactLookupLsa", spec := "fnExactLookupLsa", unfollowed := true, recurses := true, plainKeys := false, apart := false }
def FnExactLookupLsaSaid : Prop := fnExactLookupLsaRow.holds Try.pinned (OpenSpec.ofChange fnExactLookupLsaSpec)

/-- ITS FALSE NEIGHBOUR: 'it returns false'. Refute it at one input. -/
def fnExactLookupLsaWrong : ChangeSpec := { name := "fnExactLookupLsa", fn := fun _ => fun
  | [d1, d2] => { results := [.lit (.bool false)], args := [d1, d2] }
  | _ => none }
def FnExactLookupLsaWrongFalsely : Prop := fnExactLookupLsaRow.holds Try.pinned (OpenSpec.ofChange fnExactLookupLsaWrong)

/-- 'laws.FnExactSameBases': WHATEVER THE INPUT: true; the input reads as it did. -/
def fnExactSameBasesSpec : ChangeSpec := { name := "fnExactSameBases", fn := fun _ => fun
  | [d1, d2] => { results := [.lit (.bool true)], args := [d1, d2] }
  | _ => none }
def fnExactSameBasesRow : OpenClaim := { program := "ytakplomopbnekaa", sum := "d3d5ed20d6bfc29b682bcbb8bae04eca9b868445bf21f228d1492a7d00715578", func := "loop.example/g00732/laws.FnExactSameBases", spec := "fnExactSameBases", unfollowed := true, recurses := true, plainKeys := false, apart := false }
def FnExactSameBasesSaid : Prop := fnExactSameBasesRow.holds Try.pinned (OpenSpec.ofChange fnExactSameBasesSpec)

/-- ITS FALSE NEIGHBOUR: 'it returns false'. Refute it at one input. -/
def fnExactSameBasesWrong : ChangeSpec := { name := "fnExactSameBases", fn := fun _ => fun
  | [d1, d2] => { results := [.lit (.bool false)], args := [d1, d2] }
  | _ => none }
def FnExactSameBasesWrongFalsely : Prop := fnExactSameBasesRow.holds Try.pinned (OpenSpec.ofChange fnExactSameBasesWrong)

/- THE SECOND FORM. 'bulk': how many values and letters a reading holds, each counted each time it is reached (what is shared counts as often as it is met; a slice's spare places count too). A statement '..UptoSaid' is the law's where the arguments, and the package variables that the reading takes, are together of bulk at most 1048576: NARROWER than '..Said'. Prove '..Said' where nothing that the law and all that it calls make is longer than what came in: it says more and counts as full. Else prove '..UptoSaid'. A law counts once. -/
mutual
def uptoBulk {H : Type} : DataW H → Nat
  | .lit (.string bytes) => bytes.length + 1
  | .lit _ => 1
  | .nil => 1
  | .ptr d => uptoBulk d + 1
  | .slice elems spare => uptoBulkAll elems + uptoBulkAll spare + 1
  | .agg parts => uptoBulkAll parts + 1
  | .iface _ d => uptoBulk d + 1
  | .map entries => uptoBulkEntries entries + 1
  | .held _ => 1
def uptoBulkAll {H : Type} : List (DataW H) → Nat
  | [] => 0
  | d :: r => uptoBulk d + uptoBulkAll r
def uptoBulkEntries {H : Type} : List (Lit × DataW H) → Nat
  | [] => 0
  | x :: r => uptoBulkEntry x + uptoBulkEntries r
def uptoBulkEntry {H : Type} : Lit × DataW H → Nat
  | (.string bytes, d) => bytes.length + uptoBulk d + 1
  | (_, d) => uptoBulk d + 1
 end
def uptoSmall : (H : Type) → List (DataW H) → Bool := fun _ ds => decide (uptoBulkAll ds ≤ 1048576)
def OpenSpec.upto (s : _root_.Go.ChangeSpec) : _root_.Go.OpenSpec := { _root_.Go.OpenSpec.ofChange s with cond := some uptoSmall }

/-- 'laws.FnWheels', WHERE WHAT IT READS IS OF BULK AT MOST 1048576: true; the input reads as it did. -/
def fnWheelsUptoRow : OpenClaim := { program := "ytakplomopbnekaa", sum := "d3d5ed20d6bfc29b682bcbb8bae04eca9b868445bf21f228d1492a7d00715578", func := "loop.example/g00732/laws.FnWheels", spec := "fnWheels", unfollowed := true, recurses := true, plainKeys := false, apart := false, narrowed := true }
def FnWheelsUptoSaid : Prop := fnWheelsUptoRow.holds Try.pinned (OpenSpec.upto fnWheelsSpec)

/-- 'laws.FnPlaces', WHERE WHAT IT READS IS OF BULK AT MOST 1048576: true; the input reads as it did. -/
def fnPlacesUptoRow : OpenClaim := { program := "ytakplomopbnekaa", sum := "d3d5ed20d6bfc29b682bcbb8bae04eca9b868445bf21f228d1492a7d00715578", func := "loop.example/g00732/laws.FnPlaces", spec := "fnPlaces", unfollowed := true, recurses := true, plainKeys := false, apart := false, narrowed := true }
def FnPlacesUptoSaid : Prop := fnPlacesUptoRow.holds Try.pinned (OpenSpec.upto fnPlacesSpec)

/-- 'laws.FnExactAddTimer', WHERE WHAT IT READS IS OF BULK AT MOST 1048576: true; the input reads as it did. -/
def fnExactAddTimerUptoRow : OpenClaim := { program := "ytakplomopbnekaa", sum := "d3d5ed20d6bfc29b682bcbb8bae04eca9b868445bf21f228d1492a7d00715578", func := "loop.example/g00732/laws.FnExactAddTimer", spec := "fnExactAddTimer", unfollowed := true, recurses := true, plainKeys := false, apart := false, narrowed := true }
def FnExactAddTimerUptoSaid : Prop := fnExactAddTimerUptoRow.holds Try.pinned (OpenSpec.upto fnExactAddTimerSpec)

/-- 'laws.FnExactTickWheel', WHERE WHAT IT READS IS OF BULK AT MOST 1048576: true; the input reads as it did. -/
def fnExactTickWheelUptoRow : OpenClaim := { program := "ytakplomopbnekaa", sum := "d3d5ed20d6bfc29b682bcbb8bae04eca9b868445bf21f228d1492a7d00715578", func := "loop.example/g00732/laws.FnExactTickWheel", spec := "fnExactTickWheel", unfollowed := true, recurses := true, plainKeys := false, apart := false, narrowed := true }
def FnExactTickWheelUptoSaid : Prop := fnExactTickWheelUptoRow.holds Try.pinned (OpenSpec.upto fnExactTickWheelSpec)

/-- 'laws.FnExactRunWheel', WHERE WHAT IT READS IS OF BULK AT MOST 1048576: true; the input reads as it did. -/
def fnExactRunWheelUptoRow : OpenClaim := { program := "ytakplomopbnekaa", sum := "d3d5ed20d6bfc29b682bcbb8bae04eca9b868445bf21f228d1492a7d00715578", func := "loop.example/g00732/laws.FnExactRunWheel", spec := "fnExactRunWheel", unfollowed := true, recurses := true, plainKeys := false, apart := false, narrowed := true }
def FnExactRunWheelUptoSaid : Prop := fnExactRunWheelUptoRow.holds Try.pinned (OpenSpec.upto fnExactRunWheelSpec)

/-- 'laws.FnExactBaseFault', WHERE WHAT IT READS IS OF BULK AT MOST 1048576: true; the input reads as it did. -/
def fnExactBaseFaultUptoRow : OpenClaim := { program := "ytakplomopbnekaa", sum := "d3d5ed20d6bfc29b682bcbb8bae04eca9b868445bf21f228d1492a7d00715578", func := "loop.example/g00732/laws.FnExactBaseFault", spec := "fnExactBaseFault", unfollowed := true, recurses := true, plainKeys := false, apart := false, narrowed := true }
def FnExactBaseFaultUptoSaid : Prop := fnExactBaseFaultUptoRow.holds Try.pinned (OpenSpec.upto fnExactBaseFaultSpec)

/-- 'laws.FnExactNewBase', WHERE WHAT IT READS IS OF BULK AT MOST 1048576: true; the input reads as it did. -/
def fnExactNewBaseUptoRow : OpenClaim := { program := "ytakplomopbnekaa", sum := "d3d5ed20d6bfc29b682bcbb8bae04eca9b868445bf21f228d1492a7d00715578", func := "loop.example/g00732/laws.FnExactNewBase", spec := "fnExactNewBase", plainKeys := false, apart := false, narrowed := true }
def FnExactNewBaseUptoSaid : Prop := fnExactNewBaseUptoRow.holds Try.pinned (OpenSpec.upto fnExactNewBaseSpec)

/-- 'laws.FnExactLookupLsa', WHERE WHAT IT READS IS OF BULK AT MOST 1048576: true; the input reads as it did. -/
def fnExactLookupLsaUptoRow : OpenClaim := { program := "ytakplomopbnekaa", sum := "d3d5ed20d6bfc29b682bcbb8bae04eca9b868445bf21f228d1492a7d00715578", func := "loop.example/g00732/laws.FnExactLookupLsa", spec := "fnExactLookupLsa", unfollowed := true, recurses := true, plainKeys := false, apart := false, narrowed := true }
def FnExactLookupLsaUptoSaid : Prop := fnExactLookupLsaUptoRow.holds Try.pinned (OpenSpec.upto fnExactLookupLsaSpec)

/-- 'laws.FnExactSameBases', WHERE WHAT IT READS IS OF BULK AT MOST 1048576: true; the input reads as it did. -/
def fnExactSameBasesUptoRow : OpenClaim := { program := "ytakplomopbnekaa", sum := "d3d5ed20d6bfc29b682bcbb8bae04eca9b868445bf21f228d1492a7d00715578", func := "loop.example/g00732/laws.FnExactSameBases", spec := "fnExactSameBases", unfollowed := true, recurses := true, plainKeys := false, apart := false, narrowed := true }
def FnExactSameBasesUptoSaid : Prop := fnExactSameBasesUptoRow.holds Try.pinned (OpenSpec.upto fnExactSameBasesSpec)

end Rows
end Go.Proofs.Ytakplomopbnekaa
