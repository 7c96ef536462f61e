/-
  No cell of these rows narrows 'for every input' (looked for: loops, veiled, ifaces, maps, wideKeys, modest, calm, conditions, laid).
  DERIVED. THE GIVEN ROWS OF THIS SEAT. 11 by the template 'for every input the law returns true; each argument reads behind the call as it read before'; 0 by the template 'total and deterministic' (their statements: YtfgbjjaipakpaaaTotals.lean).
  GIVEN WITH THE SEED: the statements are not yours to turn. If you find one false, say at which input.
  Laid BY PROGRAM, IN A SANDBOX (cutbox-rows.mjs): the forced cells as the released guide's own fill.sh prints them over the translation 30fe1e28c0bad74d… (all of the seat's roots in one cut). By AI agents, Wed Nov 11 2026. No macro, syntax, notation, axiom, sorry.
-/
import Derived.Test.YtfgbjjaipakpaaaChecked
import GoSem.Claim
import GoSem.ClaimJoined
import GoSem.ClaimMapViews
import Derived.JoinedTies
import Derived.KernelRfl
namespace Go.Proofs.Ytfgbjjaipakpaaa
/- THE CELL 'sum', in the pinned program and in every row, IS THE sha256 OF THE DUMP (.gsa) THAT YtfgbjjaipakpaaaProg.lean LOADS. Nothing in Lean hashes anything: it is a label: what it is worth is what the hold of that sum in a sandbox is worth. -/
noncomputable def Try.pinned : Pinned := { name := "ytfgbjjaipakpaaa", sum := "30fe1e28c0bad74d1e3c263ed29ef89f9b8c09597dade6b39f7e970646804d4f", checked := Try.checked }
namespace Rows
def none {H : Type} : Left H := { results := [], args := [] }

/-- 'laws.FnWheels': WHATEVER THE INPUT: true; the input reads as it did. -/
def fnWheelsSpec : ChangeSpec := { name := "fnWheels", fn := fun _ => fun
  | [d] => { results := [.lit (.bool true)], args := [d] }
  | _ => none }
def fnWheelsRow : OpenClaim := { program := "ytfgbjjaipakpaaa", sum := "30fe1e28c0bad74d1e3c263ed29ef89f9b8c09597dade6b39f7e970646804d4f", func := "loop.example/g00732/laws.FnWheels", spec := "fnWheels", unfollowed := true, recurses := true, plainKeys := false, apart := false }
def FnWheelsSaid : Prop := fnWheelsRow.holds Try.pinned (OpenSpec.ofChange fnWheelsSpec)

/-- ITS FALSE NEIGHBOUR: 'it returns false'. Refute it at one input. -/
def fnWheelsWrong : ChangeSpec := { name := "fnWheels", fn := fun _ => fun
  | [d] => { results := [.lit (.bool false)], args := [d] }
  | _ => none }
def FnWheelsWrongFalsely : Prop := fnWheelsRow.holds Try.pinned (OpenSpec.ofChange fnWheelsWrong)

/-- 'laws.FnPlaces': WHATEVER THE INPUT: true; the input reads as it did. -/
def fnPlacesSpec : ChangeSpec := { name := "fnPlaces", fn := fun _ => fun
  | [d] => { results := [.lit (.bool true)], args := [d] }
  | _ => none }
def fnPlacesRow : OpenClaim := { program := "ytfgbjjaipakpaaa", sum := "30fe1e28c0bad74d1e3c263ed29ef89f9b8c09597dade6b39f7e970646804d4f", func := "loop.example/g00732/laws.FnPlaces", spec := "fnPlaces", unfollowed := true, recurses := true, plainKeys := false, apart := false }
def FnPlacesSaid : Prop := fnPlacesRow.holds Try.pinned (OpenSpec.ofChange fnPlacesSpec)

/-- ITS FALSE NEIGHBOUR: 'it returns false'. Refute it at one input. -/
def fnPlacesWrong : ChangeSpec := { name := "fnPlaces", fn := fun _ => fun
  | [d] => { results := [.lit (.bool false)], args := [d] }
  | _ => none }
def FnPlacesWrongFalsely : Prop := fnPlacesRow.holds Try.pinned (OpenSpec.ofChange fnPlacesWrong)

/-- 'laws.FnExactPlaceOf': WHATEVER THE INPUT: true; the input reads as it did. -/
def fnExactPlaceOfSpec : ChangeSpec := { name := "fnExactPlaceOf", fn := fun _ => fun
  | [d1, d2] => { results := [.lit (.bool true)], args := [d1, d2] }
  | _ => none }
def fnExactPlaceOfRow : OpenClaim := { program := "ytfgbjjaipakpaaa", sum := "30fe1e28c0bad74d1e3c263ed29ef89f9b8c09597dade6b39f7e970646804d4f", func := "loop.example/g00732/laws.FnExactPlaceOf", spec := "fnExactPlaceOf", plainKeys := false, apart := false }
def FnExactPlaceOfSaid : Prop := fnExactPlaceOfRow.holds Try.pinned (OpenSpec.ofChange fnExactPlaceOfSpec)

/-- ITS FALSE NEIGHBOUR: 'it returns false'. Refute it at one input. -/
def fnExactPlaceOfWrong : ChangeSpec := { name := "fnExactPlaceOf", fn := fun _ => fun
  | [d1, d2] => { results := [.lit (.bool false)], args := [d1, d2] }
  | _ => none }
def FnExactPlaceOfWrongFalsely : Prop := fnExactPlaceOfRow.holds Try.pinned (OpenSpec.ofChange fnExactPlaceOfWrong)

/-- 'laws.FnExactWheelFault': WHATEVER THE INPUT: true; the input reads as it did. -/
def fnExactWheelFaultSpec : ChangeSpec := { name := "fnExactWheelFault", fn := fun _ => fun
  | [d] => { results := [.lit (.bool true)], args := [d] }
  | _ => none }
def fnExactWheelFaultRow : OpenClaim := { program := "ytfgbjjaipakpaaa", sum := "30fe1e28c0bad74d1e3c263ed29ef89f9b8c09597dade6b39f7e970646804d4f", func := "loop.example/g00732/laws.FnExactWheelFault", spec := "fnExactWheelFault", unfollowed := true, recurses := true, plainKeys := false, apart := false }
def FnExactWheelFaultSaid : Prop := fnExactWheelFaultRow.holds Try.pinned (OpenSpec.ofChange fnExactWheelFaultSpec)

/-- ITS FALSE NEIGHBOUR: 'it returns false'. Refute it at one input. -/
def fnExactWheelFaultWrong : ChangeSpec := { name := "fnExactWheelFault", fn := fun _ => fun
  | [d] => { results := [.lit (.bool false)], args := [d] }
  | _ => none }
def FnExactWheelFaultWrongFalsely : Prop := fnExactWheelFaultRow.holds Try.pinned (OpenSpec.ofChange fnExactWheelFaultWrong)

/-- 'laws.FnExactNewWheel': WHATEVER THE INPUT: true; the input reads as it did. -/
def fnExactNewWheelSpec : ChangeSpec := { name := "fnExactNewWheel", fn := fun _ => fun
  | [d] => { results := [.lit (.bool true)], args := [d] }
  | _ => none }
def fnExactNewWheelRow : OpenClaim := { program := "ytfgbjjaipakpaaa", sum := "30fe1e28c0bad74d1e3c263ed29ef89f9b8c09597dade6b39f7e970646804d4f", func := "loop.example/g00732/laws.FnExactNewWheel", spec := "fnExactNewWheel", unfollowed := true, recurses := true, plainKeys := false, apart := false }
def FnExactNewWheelSaid : Prop := fnExactNewWheelRow.holds Try.pinned (OpenSpec.ofChange fnExactNewWheelSpec)

/-- ITS FALSE NEIGHBOUR: 'it returns false'. Refute it at one input. -/
def fnExactNewWheelWrong : ChangeSpec := { name := "fnExactNewWheel", fn := fun _ => fun
  | [d] => { results := [.lit (.bool false)], args := [d] }
  | _ => none }
def FnExactNewWheelWrongFalsely : Prop := fnExactNewWheelRow.holds Try.pinned (OpenSpec.ofChange fnExactNewWheelWrong)

/-- 'laws.FnExactAddTimer': WHATEVER THE INPUT: true; the input reads as it did. -/
def fnExactAddTimerSpec : ChangeSpec := { name := "fnExactAddTimer", fn := fun _ => fun
  | [d1, d2] => { results := [.lit (.bool true)], args := [d1, d2] }
  | _ => none }
def fnExactAddTimerRow : OpenClaim := { program := "ytfgbjjaipakpaaa", sum := "30fe1e28c0bad74d1e3c263ed29ef89f9b8c09597dade6b39f7e970646804d4f", func := "loop.example/g00732/laws.FnExactAddTimer", spec := "fnExactAddTimer", unfollowed := true, recurses := true, plainKeys := false, apart := false }
def FnExactAddTimerSaid : Prop := fnExactAddTimerRow.holds Try.pinned (OpenSpec.ofChange fnExactAddTimerSpec)

/-- ITS FALSE NEIGHBOUR: 'it returns false'. Refute it at one input. -/
def fnExactAddTimerWrong : ChangeSpec := { name := "fnExactAddTimer", fn := fun _ => fun
  | [d1, d2] => { results := [.lit (.bool false)], args := [d1, d2] }
  | _ => none }
def FnExactAddTimerWrongFalsely : Prop := fnExactAddTimerRow.holds Try.pinned (OpenSpec.ofChange fnExactAddTimerWrong)

/-- 'laws.FnExactDropTimer': WHATEVER THE INPUT: true; the input reads as it did. -/
def fnExactDropTimerSpec : ChangeSpec := { name := "fnExactDropTimer", fn := fun _ => fun
  | [d1, d2] => { results := [.lit (.bool true)], args := [d1, d2] }
  | _ => none }
def fnExactDropTimerRow : OpenClaim := { program := "ytfgbjjaipakpaaa", sum := "30fe1e28c0bad74d1e3c263ed29ef89f9b8c09597dade6b39f7e970646804d4f", func := "loop.example/g00732/laws.FnExactDropTimer", spec := "fnExactDropTimer", unfollowed := true, recurses := true, plainKeys := false, apart := false }
def FnExactDropTimerSaid : Prop := fnExactDropTimerRow.holds Try.pinned (OpenSpec.ofChange fnExactDropTimerSpec)

/-- ITS FALSE NEIGHBOUR: 'it returns false'. Refute it at one input. -/
def fnExactDropTimerWrong : ChangeSpec := { name := "fnExactDropTimer", fn := fun _ => fun
  | [d1, d2] => { results := [.lit (.bool false)], args := [d1, d2] }
  | _ => none }
def FnExactDropTimerWrongFalsely : Prop := fnExactDropTimerRow.holds Try.pinned (OpenSpec.ofChange fnExactDropTimerWrong)

/-- 'laws.FnExactTickWheel': WHATEVER THE INPUT: true; the input reads as it did. -/
def fnExactTickWheelSpec : ChangeSpec := { name := "fnExactTickWheel", fn := fun _ => fun
  | [d] => { results := [.lit (.bool true)], args := [d] }
  | _ => none }
def fnExactTickWheelRow : OpenClaim := { program := "ytfgbjjaipakpaaa", sum := "30fe1e28c0bad74d1e3c263ed29ef89f9b8c09597dade6b39f7e970646804d4f", func := "loop.example/g00732/laws.FnExactTickWheel", spec := "fnExactTickWheel", unfollowed := true, recurses := true, plainKeys := false, apart := false }
def FnExactTickWheelSaid : Prop := fnExactTickWheelRow.holds Try.pinned (OpenSpec.ofChange fnExactTickWheelSpec)

/-- ITS FALSE NEIGHBOUR: 'it returns false'. Refute it at one input. -/
def fnExactTickWheelWrong : ChangeSpec := { name := "fnExactTickWheel", fn := fun _ => fun
  | [d] => { results := [.lit (.bool false)], args := [d] }
  | _ => none }
def FnExactTickWheelWrongFalsely : Prop := fnExactTickWheelRow.holds Try.pinned (OpenSpec.ofChange fnExactTickWheelWrong)

/-- 'laws.FnExactRunWheel': WHATEVER THE INPUT: true; the input reads as it did. -/
def fnExactRunWheelSpec : ChangeSpec := { name := "fnExactRunWheel", fn := fun _ => fun
  | [d1, d2] => { results := [.lit (.bool true)], args := [d1, d2] }
  | _ => none }
def fnExactRunWheelRow : OpenClaim := { program := "ytfgbjjaipakpaaa", sum := "30fe1e28c0bad74d1e3c263ed29ef89f9b8c09597dade6b39f7e970646804d4f", func := "loop.example/g00732/laws.FnExactRunWheel", spec := "fnExactRunWheel", unfollowed := true, recurses := true, plainKeys := false, apart := false }
def FnExactRunWheelSaid : Prop := fnExactRunWheelRow.holds Try.pinned (OpenSpec.ofChange fnExactRunWheelSpec)

/-- ITS FALSE NEIGHBOUR: 'it returns false'. Refute it at one input. -/
def fnExactRunWheelWrong : ChangeSpec := { name := "fnExactRunWheel", fn := fun _ => fun
  | [d1, d2] => { results := [.lit (.bool false)], args := [d1, d2] }
  | _ => none }
def FnExactRunWheelWrongFalsely : Prop := fnExactRunWheelRow.holds Try.pinned (OpenSpec.ofChange fnExactRunWheelWrong)

/-- 'laws.FnExactTimersIn': WHATEVER THE INPUT: true; the input reads as it did. -/
def fnExactTimersInSpec : ChangeSpec := { name := "fnExactTimersIn", fn := fun _ => fun
  | [d] => { results := [.lit (.bool true)], args := [d] }
  | _ => none }
def fnExactTimersInRow : OpenClaim := { program := "ytfgbjjaipakpaaa", sum := "30fe1e28c0bad74d1e3c263ed29ef89f9b8c09597dade6b39f7e970646804d4f", func := "loop.example/g00732/laws.FnExactTimersIn", spec := "fnExactTimersIn", unfollowed := true, recurses := true, plainKeys := false, apart := false }
def FnExactTimersInSaid : Prop := fnExactTimersInRow.holds Try.pinned (OpenSpec.ofChange fnExactTimersInSpec)

/-- ITS FALSE NEIGHBOUR: 'it returns false'. Refute it at one input. -/
def fnExactTimersInWrong : ChangeSpec := { name := "fnExactTimersIn", fn := fun _ => fun
  | [d] => { results := [.lit (.bool false)], args := [d] }
  | _ => none }
def FnExactTimersInWrongFalsely : Prop := fnExactTimersInRow.holds Try.pinned (OpenSpec.ofChange fnExactTimersInWrong)

/-- 'laws.FnExactSameWheels': WHATEVER THE INPUT: true; the input reads as it did. -/
def fnExactSameWheelsSpec : ChangeSpec := { name := "fnExactSameWheels", fn := fun _ => fun
  | [d1, d2] => { results := [.lit (.bool true)], args := [d1, d2] }
  | _ => none }
def fnExactSameWheelsRow : OpenClaim := { program := "ytfgbjjaipakpaaa", sum := "30fe1e28c0bad74d1e3c263ed29ef89f9b8c09597dade6b39f7e970646804d4f", func := "loop.example/g00732/laws.FnExactSameWheels", spec := "fnExactSameWheels", unfollowed := true, recurses := true, plainKeys := false, apart := false }
def FnExactSameWheelsSaid : Prop := fnExactSameWheelsRow.holds Try.pinned (OpenSpec.ofChange fnExactSameWheelsSpec)

/-- ITS FALSE NEIGHBOUR: 'it returns false'. Refute it at one input. -/
def fnExactSameWheelsWrong : ChangeSpec := { name := "fnExactSameWheels", fn := fun _ => fun
  | [d1, d2] => { results := [.lit (.bool false)], args := [d1, d2] }
  | _ => none }
def FnExactSameWheelsWrongFalsely : Prop := fnExactSameWheelsRow.holds Try.pinned (OpenSpec.ofChange fnExactSameWheelsWrong)

/- THE SECOND FORM. 'bulk': how many values and letters a reading holds, each counted each time it is reached (what is shared counts as often as it is met; a slice's spare places count too). A statement '..UptoSaid' is the law's where the arguments, and the package variables that the reading takes, are together of bulk at most 1048576: NARROWER than '..Said'. Prove '..Said' where nothing that the law and all that it calls make is longer than what came in: it says more and counts as full. Else prove '..UptoSaid'. A law counts once. -/
mutual
def uptoBulk {H : Type} : DataW H → Nat
  | .lit (.string bytes) => bytes.length + 1
  | .lit _ => 1
  | .nil => 1
  | .ptr d => uptoBulk d + 1
  | .slice elems spare => uptoBulkAll elems + uptoBulkAll spare + 1
  | .agg parts => uptoBulkAll parts + 1
  | .iface _ d => uptoBulk d + 1
  | .map entries => uptoBulkEntries entries + 1
  | .held _ => 1
def uptoBulkAll {H : Type} : List (DataW H) → Nat
  | [] => 0
  | d :: r => uptoBulk d + uptoBulkAll r
def uptoBulkEntries {H : Type} : List (Lit × DataW H) → Nat
  | [] => 0
  | x :: r => uptoBulkEntry x + uptoBulkEntries r
def uptoBulkEntry {H : Type} : Lit × DataW H → Nat
  | (.string bytes, d) => bytes.length + uptoBulk d + 1
  | (_, d) => uptoBulk d + 1
 end
def uptoSmall : (H : Type) → List (DataW H) → Bool := fun _ ds => decide (uptoBulkAll ds ≤ 1048576)
def OpenSpec.upto (s : _root_.Go.ChangeSpec) : _root_.Go.OpenSpec := { _root_.Go.OpenSpec.ofChange s with cond := some uptoSmall }

/-- 'laws.FnWheels', WHERE WHAT IT READS IS OF BULK AT MOST 1048576: true; the input reads as it did. -/
def fnWheelsUptoRow : OpenClaim := { program := "ytfgbjjaipakpaaa", sum := "30fe1e28c0bad74d1e3c263ed29ef89f9b8c09597dade6b39f7e970646804d4f", func := "loop.example/g00732/laws.FnWheels", spec := "fnWheels", unfollowed := true, recurses := true, plainKeys := false, apart := false, narrowed := true }
def FnWheelsUptoSaid : Prop := fnWheelsUptoRow.holds Try.pinned (OpenSpec.upto fnWheelsSpec)

/-- 'laws.FnPlaces', WHERE WHAT IT READS IS OF BULK AT MOST 1048576: true; the input reads as it did. -/
def fnPlacesUptoRow : OpenClaim := { program := "ytfgbjjaipakpaaa", sum := "30fe1e28c0bad74d1e3c263ed29ef89f9b8c09597dade6b39f7e970646804d4f", func := "loop.example/g00732/laws.FnPlaces", spec := "fnPlaces", unfollowed := true, recurses := true, plainKeys := false, apart := false, narrowed := true }
def FnPlacesUptoSaid : Prop := fnPlacesUptoRow.holds Try.pinned (OpenSpec.upto fnPlacesSpec)

/-- 'laws.FnExactPlaceOf', WHERE WHAT IT READS IS OF BULK AT MOST 1048576: true; the input reads as it did. -/
def fnExactPlaceOfUptoRow : OpenClaim := { program := "ytfgbjjaipakpaaa", sum := "30fe1e28c0bad74d1e3c263ed29ef89f9b8c09597dade6b39f7e970646804d4f", func := "loop.example/g00732/laws.FnExactPlaceOf", spec := "fnExactPlaceOf", plainKeys := false, apart := false, narrowed := true }
def FnExactPlaceOfUptoSaid : Prop := fnExactPlaceOfUptoRow.holds Try.pinned (OpenSpec.upto fnExactPlaceOfSpec)

/-- 'laws.FnExactWheelFault', WHERE WHAT IT READS IS OF BULK AT MOST 1048576: true; the input reads as it did. -/
def fnExactWheelFaultUptoRow : OpenClaim := { program := "ytfgbjjaipakpaaa", sum := "30fe1e28c0bad74d1e3c263ed29ef89f9b8c09597dade6b39f7e970646804d4f", func := "loop.example/g00732/laws.FnExactWheelFault", spec := "fnExactWheelFault", unfollowed := true, recurses := true, plainKeys := false, apart := false, narrowed := true }
def FnExactWheelFaultUptoSaid : Prop := fnExactWheelFaultUptoRow.holds Try.pinned (OpenSpec.upto fnExactWheelFaultSpec)

/-- 'laws.FnExactNewWheel', WHERE WHAT IT READS IS OF BULK AT MOST 1048576: true; the input reads as it did. -/
def fnExactNewWheelUptoRow : OpenClaim := { program := "ytfgbjjaipakpaaa", sum := "30fe1e28c0bad74d1e3c263ed29ef89f9b8c09597dade6b39f7e970646804d4f", func := "loop.example/g00732/laws.FnExactNewWheel", spec := "fnExactNewWheel", unfollowed := true, recurses := true, plainKeys := false, apart := false, narrowed := true }
def FnExactNewWheelUptoSaid : Prop := fnExactNewWheelUptoRow.holds Try.pinned (OpenSpec.upto fnExactNewWheelSpec)

/-- 'laws.FnExactAddTimer', WHERE WHAT IT READS IS OF BULK AT MOST 1048576: true; the input reads as it did. -/
def fnExactAddTimerUptoRow : OpenClaim := { program := "ytfgbjjaipakpaaa", sum := "30fe1e28c0bad74d1e3c263ed29ef89f9b8c09597dade6b39f7e970646804d4f", func := "loop.example/g00732/laws.FnExactAddTimer", spec := "fnExactAddTimer", unfollowed := true, recurses := true, plainKeys := false, apart := false, narrowed := true }
def FnExactAddTimerUptoSaid : Prop := fnExactAddTimerUptoRow.holds Try.pinned (OpenSpec.upto fnExactAddTimerSpec)

/-- 'laws.FnExactDropTimer', WHERE WHAT IT READS IS OF BULK AT MOST 1048576: true; the input reads as it did. -/
def fnExactDropTimerUptoRow : OpenClaim := { program := "ytfgbjjaipakpaaa", sum := "30fe1e28c0bad74d1e3c263ed29ef89f9b8c09597dade6b39f7e970646804d4f", func := "loop.example/g00732/laws.FnExactDropTimer", spec := "fnExactDropTimer", unfollowed := true, recurses := true, plainKeys := false, apart := false, narrowed := true }
def FnExactDropTimerUptoSaid : Prop := fnExactDropTimerUptoRow.holds Try.pinned (OpenSpec.upto fnExactDropTimerSpec)

/-- 'laws.FnExactTickWheel', WHERE WHAT IT READS IS OF BULK AT MOST 1048576: true; the input reads as it did. -/
def fnExactTickWheelUptoRow : OpenClaim := { program := "ytfgbjjaipakpaaa", sum := "30fe1e28c0bad74d1e3c263ed29ef89f9b8c09597dade6b39f7e970646804d4f", func := "loop.example/g00732/laws.FnExactTickWheel", spec := "fnExactTickWheel", unfollowed := true, recurses := true, plainKeys := false, apart := false, narrowed := true }
def FnExactTickWheelUptoSaid : Prop := fnExactTickWheelUptoRow.holds Try.pinned (OpenSpec.upto fnExactTickWheelSpec)

/-- 'laws.FnExactRunWheel', WHERE WHAT IT READS IS OF BULK AT MOST 1048576: true; the input reads as it did. -/
def fnExactRunWheelUptoRow : OpenClaim := { program := "ytfgbjjaipakpaaa", sum := "30fe1e28c0bad74d1e3c263ed29ef89f9b8c09597dade6b39f7e970646804d4f", func := "loop.example/g00732/laws.FnExactRunWheel", spec := "fnExactRunWheel", unfollowed := true, recurses := true, plainKeys := false, apart := false, narrowed := true }
def FnExactRunWheelUptoSaid : Prop := fnExactRunWheelUptoRow.holds Try.pinned (OpenSpec.upto fnExactRunWheelSpec)

/-- 'laws.FnExactTimersIn', WHERE WHAT IT READS IS OF BULK AT MOST 1048576: true; the input reads as it did. -/
def fnExactTimersInUptoRow : OpenClaim := { program := "ytfgbjjaipakpaaa", sum := "30fe1e28c0bad74d1e3c263ed29ef89f9b8c09597dade6b39f7e970646804d4f", func := "loop.example/g00732/laws.FnExactTimersIn", spec := "fnExactTimersIn", unfollowed := true, recurses := true, plainKeys := false, apart := false, narrowed := true }
def FnExactTimersInUptoSaid : Prop := fnExactTimersInUptoRow.holds Try.pinned (OpenSpec.upto fnExactTimersInSpec)

/-- 'laws.FnExactSameWheels', WHERE WHAT IT READS IS OF BULK AT MOST 1048576: true; the input reads as it did. -/
def fnExactSameWheelsUptoRow : OpenClaim := { program := "ytfgbjjaipakpaaa", sum := "30fe1e28c0bad74d1e3c263ed29ef89f9b8c09597dade6b39f7e970646804d4f", func := "loop.example/g00732/laws.FnExactSameWheels", spec := "fnExactSameWheels", unfollowed := true, recurses := true, plainKeys := false, apart := false, narrowed := true }
def FnExactSameWheelsUptoSaid : Prop := fnExactSameWheelsUptoRow.holds Try.pinned (OpenSpec.upto fnExactSameWheelsSpec)

end Rows
end Go.Proofs.Ytfgbjjaipakpaaa
