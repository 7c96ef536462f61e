/-
  No cell of these rows narrows 'for every input' (looked for: loops, veiled, ifaces, maps, wideKeys, modest, calm, conditions, laid).
  DERIVED. THE GIVEN ROWS OF THIS SEAT. 9 by the template 'for every input the law returns true; each argument reads behind the call as it read before'; 0 by the template 'total and deterministic' (their statements: YtomkgohhfllpgaaTotals.lean).
  GIVEN WITH THE SEED: the statements are not yours to turn. If you find one false, say at which input.
  Laid BY PROGRAM, IN A SANDBOX (cutbox-rows.mjs): the forced cells as the released guide's own fill.sh prints them over the translation fa6fd7f4d517a5e8… (all of the seat's roots in one cut). By AI agents, Wed Nov 11 2026. No macro, syntax, notation, axiom, sorry.
-/
import Derived.Test.YtomkgohhfllpgaaChecked
import GoSem.Claim
import GoSem.ClaimJoined
import GoSem.ClaimMapViews
import Derived.JoinedTies
import Derived.KernelRfl
namespace Go.Proofs.Ytomkgohhfllpgaa
/- THE CELL 'sum', in the pinned program and in every row, IS THE sha256 OF THE DUMP (.gsa) THAT YtomkgohhfllpgaaProg.lean LOADS. Nothing in Lean hashes anything: it is a label: what it is worth is what the hold of that sum in a sandbox is worth. -/
noncomputable def Try.pinned : Pinned := { name := "ytomkgohhfllpgaa", sum := "fa6fd7f4d517a5e810eb359e484b4ab8764c7037fd16b509e8cf330a2d1d908d", checked := Try.checked }
namespace Rows
def none {H : Type} : Left H := { results := [], args := [] }

/-- 'laws.FnQueues': WHATEVER THE INPUT: true; the input reads as it did. -/
def fnQueuesSpec : ChangeSpec := { name := "fnQueues", fn := fun _ => fun
  | [d] => { results := [.lit (.bool true)], args := [d] }
  | _ => none }
def fnQueuesRow : OpenClaim := { program := "ytomkgohhfllpgaa", sum := "fa6fd7f4d517a5e810eb359e484b4ab8764c7037fd16b509e8cf330a2d1d908d", func := "loop.example/g00732/laws.FnQueues", spec := "fnQueues", unfollowed := true, recurses := true, apart := false }
def FnQueuesSaid : Prop := fnQueuesRow.holds Try.pinned (OpenSpec.ofChange fnQueuesSpec)

/-- ITS FALSE NEIGHBOUR: 'it returns false'. Refute it at one input. -/
def fnQueuesWrong : ChangeSpec := { name := "fnQueues", fn := fun _ => fun
  | [d] => { results := [.lit (.bool false)], args := [d] }
  | _ => none }
def FnQueuesWrongFalsely : Prop := fnQueuesRow.holds Try.pinned (OpenSpec.ofChange fnQueuesWrong)

/-- 'laws.FnDrains': WHATEVER THE INPUT: true; the input reads as it did. -/
def fnDrainsSpec : ChangeSpec := { name := "fnDrains", fn := fun _ => fun
  | [d] => { results := [.lit (.bool true)], args := [d] }
  | _ => none }
def fnDrainsRow : OpenClaim := { program := "ytomkgohhfllpgaa", sum := "fa6fd7f4d517a5e810eb359e484b4ab8764c7037fd16b509e8cf330a2d1d908d", func := "loop.example/g00732/laws.FnDrains", spec := "fnDrains", unfollowed := true, recurses := true, apart := false }
def FnDrainsSaid : Prop := fnDrainsRow.holds Try.pinned (OpenSpec.ofChange fnDrainsSpec)

/-- ITS FALSE NEIGHBOUR: 'it returns false'. Refute it at one input. -/
def fnDrainsWrong : ChangeSpec := { name := "fnDrains", fn := fun _ => fun
  | [d] => { results := [.lit (.bool false)], args := [d] }
  | _ => none }
def FnDrainsWrongFalsely : Prop := fnDrainsRow.holds Try.pinned (OpenSpec.ofChange fnDrainsWrong)

/-- 'laws.FnExactQueueFault': WHATEVER THE INPUT: true; the input reads as it did. -/
def fnExactQueueFaultSpec : ChangeSpec := { name := "fnExactQueueFault", fn := fun _ => fun
  | [d] => { results := [.lit (.bool true)], args := [d] }
  | _ => none }
def fnExactQueueFaultRow : OpenClaim := { program := "ytomkgohhfllpgaa", sum := "fa6fd7f4d517a5e810eb359e484b4ab8764c7037fd16b509e8cf330a2d1d908d", func := "loop.example/g00732/laws.FnExactQueueFault", spec := "fnExactQueueFault", unfollowed := true, recurses := true, apart := false }
def FnExactQueueFaultSaid : Prop := fnExactQueueFaultRow.holds Try.pinned (OpenSpec.ofChange fnExactQueueFaultSpec)

/-- ITS FALSE NEIGHBOUR: 'it returns false'. Refute it at one input. -/
def fnExactQueueFaultWrong : ChangeSpec := { name := "fnExactQueueFault", fn := fun _ => fun
  | [d] => { results := [.lit (.bool false)], args := [d] }
  | _ => none }
def FnExactQueueFaultWrongFalsely : Prop := fnExactQueueFaultRow.holds Try.pinned (OpenSpec.ofChange fnExactQueueFaultWrong)

/-- 'laws.FnExactNewQueue': WHATEVER THE INPUT: true; the input reads as it did. -/
def fnExactNewQueueSpec : ChangeSpec := { name := "fnExactNewQueue", fn := fun _ => fun
  | [d] => { results := [.lit (.bool true)], args := [d] }
  | _ => none }
def fnExactNewQueueRow : OpenClaim := { program := "ytomkgohhfllpgaa", sum := "fa6fd7f4d517a5e810eb359e484b4ab8764c7037fd16b509e8cf330a2d1d908d", func := "loop.example/g00732/laws.FnExactNewQueue", spec := "fnExactNewQueue", apart := false }
def FnExactNewQueueSaid : Prop := fnExactNewQueueRow.holds Try.pinned (OpenSpec.ofChange fnExactNewQueueSpec)

/-- ITS FALSE NEIGHBOUR: 'it returns false'. Refute it at one input. -/
def fnExactNewQueueWrong : ChangeSpec := { name := "fnExactNewQueue", fn := fun _ => fun
  | [d] => { results := [.lit (.bool false)], args := [d] }
  | _ => none }
def FnExactNewQueueWrongFalsely : Prop := fnExactNewQueueRow.holds Try.pinned (OpenSpec.ofChange fnExactNewQueueWrong)

/-- 'laws.FnExactPushItem': WHATEVER THE INPUT: true; the input reads as it did. -/
def fnExactPushItemSpec : ChangeSpec := { name := "fnExactPushItem", fn := fun _ => fun
  | [d1, d2] => { results := [.lit (.bool true)], args := [d1, d2] }
  | _ => none }
def fnExactPushItemRow : OpenClaim := { program := "ytomkgohhfllpgaa", sum := "fa6fd7f4d517a5e810eb359e484b4ab8764c7037fd16b509e8cf330a2d1d908d", func := "loop.example/g00732/laws.FnExactPushItem", spec := "fnExactPushItem", unfollowed := true, recurses := true, apart := false }
def FnExactPushItemSaid : Prop := fnExactPushItemRow.holds Try.pinned (OpenSpec.ofChange fnExactPushItemSpec)

/-- ITS FALSE NEIGHBOUR: 'it returns false'. Refute it at one input. -/
def fnExactPushItemWrong : ChangeSpec := { name := "fnExactPushItem", fn := fun _ => fun
  | [d1, d2] => { results := [.lit (.bool false)], args := [d1, d2] }
  | _ => none }
def FnExactPushItemWrongFalsely : Prop := fnExactPushItemRow.holds Try.pinned (OpenSpec.ofChange fnExactPushItemWrong)

/-- 'laws.FnExactPopItem': WHATEVER THE INPUT: true; the input reads as it did. -/
def fnExactPopItemSpec : ChangeSpec := { name := "fnExactPopItem", fn := fun _ => fun
  | [d] => { results := [.lit (.bool true)], args := [d] }
  | _ => none }
def fnExactPopItemRow : OpenClaim := { program := "ytomkgohhfllpgaa", sum := "fa6fd7f4d517a5e810eb359e484b4ab8764c7037fd16b509e8cf330a2d1d908d", func := "loop.example/g00732/laws.FnExactPopItem", spec := "fnExactPopItem", unfollowed := true, recurses := true, apart := false }
def FnExactPopItemSaid : Prop := fnExactPopItemRow.holds Try.pinned (OpenSpec.ofChange fnExactPopItemSpec)

/-- ITS FALSE NEIGHBOUR: 'it returns false'. Refute it at one input. -/
def fnExactPopItemWrong : ChangeSpec := { name := "fnExactPopItem", fn := fun _ => fun
  | [d] => { results := [.lit (.bool false)], args := [d] }
  | _ => none }
def FnExactPopItemWrongFalsely : Prop := fnExactPopItemRow.holds Try.pinned (OpenSpec.ofChange fnExactPopItemWrong)

/-- 'laws.FnExactPushAll': WHATEVER THE INPUT: true; the input reads as it did. -/
def fnExactPushAllSpec : ChangeSpec := { name := "fnExactPushAll", fn := fun _ => fun
  | [d1, d2] => { results := [.lit (.bool true)], args := [d1, d2] }
  | _ => none }
def fnExactPushAllRow : OpenClaim := { program := "ytomkgohhfllpgaa", sum := "fa6fd7f4d517a5e810eb359e484b4ab8764c7037fd16b509e8cf330a2d1d908d", func := "loop.example/g00732/laws.FnExactPushAll", spec := "fnExactPushAll", unfollowed := true, recurses := true, apart := false }
def FnExactPushAllSaid : Prop := fnExactPushAllRow.holds Try.pinned (OpenSpec.ofChange fnExactPushAllSpec)

/-- ITS FALSE NEIGHBOUR: 'it returns false'. Refute it at one input. -/
def fnExactPushAllWrong : ChangeSpec := { name := "fnExactPushAll", fn := fun _ => fun
  | [d1, d2] => { results := [.lit (.bool false)], args := [d1, d2] }
  | _ => none }
def FnExactPushAllWrongFalsely : Prop := fnExactPushAllRow.holds Try.pinned (OpenSpec.ofChange fnExactPushAllWrong)

/-- 'laws.FnExactDrainQueue': WHATEVER THE INPUT: true; the input reads as it did. -/
def fnExactDrainQueueSpec : ChangeSpec := { name := "fnExactDrainQueue", fn := fun _ => fun
  | [d] => { results := [.lit (.bool true)], args := [d] }
  | _ => none }
def fnExactDrainQueueRow : OpenClaim := { program := "ytomkgohhfllpgaa", sum := "fa6fd7f4d517a5e810eb359e484b4ab8764c7037fd16b509e8cf330a2d1d908d", func := "loop.example/g00732/laws.FnExactDrainQueue", spec := "fnExactDrainQueue", unfollowed := true, recurses := true, apart := false }
def FnExactDrainQueueSaid : Prop := fnExactDrainQueueRow.holds Try.pinned (OpenSpec.ofChange fnExactDrainQueueSpec)

/-- ITS FALSE NEIGHBOUR: 'it returns false'. Refute it at one input. -/
def fnExactDrainQueueWrong : ChangeSpec := { name := "fnExactDrainQueue", fn := fun _ => fun
  | [d] => { results := [.lit (.bool false)], args := [d] }
  | _ => none }
def FnExactDrainQueueWrongFalsely : Prop := fnExactDrainQueueRow.holds Try.pinned (OpenSpec.ofChange fnExactDrainQueueWrong)

/-- 'laws.FnExactSameQueues': WHATEVER THE INPUT: true; the input reads as it did. -/
def fnExactSameQueuesSpec : ChangeSpec := { name := "fnExactSameQueues", fn := fun _ => fun
  | [d1, d2] => { results := [.lit (.bool true)], args := [d1, d2] }
  | _ => none }
def fnExactSameQueuesRow : OpenClaim := { program := "ytomkgohhfllpgaa", sum := "fa6fd7f4d517a5e810eb359e484b4ab8764c7037fd16b509e8cf330a2d1d908d", func := "loop.example/g00732/laws.FnExactSameQueues", spec := "fnExactSameQueues", apart := false }
def FnExactSameQueuesSaid : Prop := fnExactSameQueuesRow.holds Try.pinned (OpenSpec.ofChange fnExactSameQueuesSpec)

/-- ITS FALSE NEIGHBOUR: 'it returns false'. Refute it at one input. -/
def fnExactSameQueuesWrong : ChangeSpec := { name := "fnExactSameQueues", fn := fun _ => fun
  | [d1, d2] => { results := [.lit (.bool false)], args := [d1, d2] }
  | _ => none }
def FnExactSameQueuesWrongFalsely : Prop := fnExactSameQueuesRow.holds Try.pinned (OpenSpec.ofChange fnExactSameQueuesWrong)

/- THE SECOND FORM. 'bulk': how many values and letters a reading holds, each counted each time it is reached (what is shared counts as often as it is met; a slice's spare places count too). A statement '..UptoSaid' is the law's where the arguments, and the package variables that the reading takes, are together of bulk at most 1048576: NARROWER than '..Said'. Prove '..Said' where nothing that the law and all that it calls make is longer than what came in: it says more and counts as full. Else prove '..UptoSaid'. A law counts once. -/
mutual
def uptoBulk {H : Type} : DataW H → Nat
  | .lit (.string bytes) => bytes.length + 1
  | .lit _ => 1
  | .nil => 1
  | .ptr d => uptoBulk d + 1
  | .slice elems spare => uptoBulkAll elems + uptoBulkAll spare + 1
  | .agg parts => uptoBulkAll parts + 1
  | .iface _ d => uptoBulk d + 1
  | .map entries => uptoBulkEntries entries + 1
  | .held _ => 1
def uptoBulkAll {H : Type} : List (DataW H) → Nat
  | [] => 0
  | d :: r => uptoBulk d + uptoBulkAll r
def uptoBulkEntries {H : Type} : List (Lit × DataW H) → Nat
  | [] => 0
  | x :: r => uptoBulkEntry x + uptoBulkEntries r
def uptoBulkEntry {H : Type} : Lit × DataW H → Nat
  | (.string bytes, d) => bytes.length + uptoBulk d + 1
  | (_, d) => uptoBulk d + 1
 end
def uptoSmall : (H : Type) → List (DataW H) → Bool := fun _ ds => decide (uptoBulkAll ds ≤ 1048576)
def OpenSpec.upto (s : _root_.Go.ChangeSpec) : _root_.Go.OpenSpec := { _root_.Go.OpenSpec.ofChange s with cond := some uptoSmall }

/-- 'laws.FnQueues', WHERE WHAT IT READS IS OF BULK AT MOST 1048576: true; the input reads as it did. -/
def fnQueuesUptoRow : OpenClaim := { program := "ytomkgohhfllpgaa", sum := "fa6fd7f4d517a5e810eb359e484b4ab8764c7037fd16b509e8cf330a2d1d908d", func := "loop.example/g00732/laws.FnQueues", spec := "fnQueues", unfollowed := true, recurses := true, apart := false, narrowed := true }
def FnQueuesUptoSaid : Prop := fnQueuesUptoRow.holds Try.pinned (OpenSpec.upto fnQueuesSpec)

/-- 'laws.FnDrains', WHERE WHAT IT READS IS OF BULK AT MOST 1048576: true; the input reads as it did. -/
def fnDrainsUptoRow : OpenClaim := { program := "ytomkgohhfllpgaa", sum := "fa6fd7f4d517a5e810eb359e484b4ab8764c7037fd16b509e8cf330a2d1d908d", func := "loop.example/g00732/laws.FnDrains", spec := "fnDrains", unfollowed := true, recurses := true, apart := false, narrowed := true }
def FnDrainsUptoSaid : Prop := fnDrainsUptoRow.holds Try.pinned (OpenSpec.upto fnDrainsSpec)

/-- 'laws.FnExactQueueFault', WHERE WHAT IT READS IS OF BULK AT MOST 1048576: true; the input reads as it did. -/
def fnExactQueueFaultUptoRow : OpenClaim := { program := "ytomkgohhfllpgaa", sum := "fa6fd7f4d517a5e810eb359e484b4ab8764c7037fd16b509e8cf330a2d1d908d", func := "loop.example/g00732/laws.FnExactQueueFault", spec := "fnExactQueueFault", unfollowed := true, recurses := true, apart := false, narrowed := true }
def FnExactQueueFaultUptoSaid : Prop := fnExactQueueFaultUptoRow.holds Try.pinned (OpenSpec.upto fnExactQueueFaultSpec)

/-- 'laws.FnExactNewQueue', WHERE WHAT IT READS IS OF BULK AT MOST 1048576: true; the input reads as it did. -/
def fnExactNewQueueUptoRow : OpenClaim := { program := "ytomkgohhfllpgaa", sum := "fa6fd7f4d517a5e810eb359e484b4ab8764c7037fd16b509e8cf330a2d1d908d", func := "loop.example/g00732/laws.FnExactNewQueue", spec := "fnExactNewQueue", apart := false, narrowed := true }
def FnExactNewQueueUptoSaid : Prop := fnExactNewQueueUptoRow.holds Try.pinned (OpenSpec.upto fnExactNewQueueSpec)

/-- 'laws.FnExactPushItem', WHERE WHAT IT READS IS OF BULK AT MOST 1048576: true; the input reads as it did. -/
def fnExactPushItemUptoRow : OpenClaim := { program := "ytomkgohhfllpgaa", sum := "fa6fd7f4d517a5e810eb359e484b4ab8764c7037fd16b509e8cf330a2d1d908d", func := "loop.example/g00732/laws.FnExactPushItem", spec := "fnExactPushItem", unfollowed := true, recurses := true, apart := false, narrowed := true }
def FnExactPushItemUptoSaid : Prop := fnExactPushItemUptoRow.holds Try.pinned (OpenSpec.upto fnExactPushItemSpec)

/-- 'laws.FnExactPopItem', WHERE WHAT IT READS IS OF BULK AT MOST 1048576: true; the input reads as it did. -/
def fnExactPopItemUptoRow : OpenClaim := { program := "ytomkgohhfllpgaa", sum := "fa6fd7f4d517a5e810eb359e484b4ab8764c7037fd16b509e8cf330a2d1d908d", func := "loop.example/g00732/laws.FnExactPopItem", spec := "fnExactPopItem", unfollowed := true, recurses := true, apart := false, narrowed := true }
def FnExactPopItemUptoSaid : Prop := fnExactPopItemUptoRow.holds Try.pinned (OpenSpec.upto fnExactPopItemSpec)

/-- 'laws.FnExactPushAll', WHERE WHAT IT READS IS OF BULK AT MOST 1048576: true; the input reads as it did. -/
def fnExactPushAllUptoRow : OpenClaim := { program := "ytomkgohhfllpgaa", sum := "fa6fd7f4d517a5e810eb359e484b4ab8764c7037fd16b509e8cf330a2d1d908d", func := "loop.example/g00732/laws.FnExactPushAll", spec := "fnExactPushAll", unfollowed := true, recurses := true, apart := false, narrowed := true }
def FnExactPushAllUptoSaid : Prop := fnExactPushAllUptoRow.holds Try.pinned (OpenSpec.upto fnExactPushAllSpec)

/-- 'laws.FnExactDrainQueue', WHERE WHAT IT READS IS OF BULK AT MOST 1048576: true; the input reads as it did. -/
def fnExactDrainQueueUptoRow : OpenClaim := { program := "ytomkgohhfllpgaa", sum := "fa6fd7f4d517a5e810eb359e484b4ab8764c7037fd16b509e8cf330a2d1d908d", func := "loop.example/g00732/laws.FnExactDrainQueue", spec := "fnExactDrainQueue", unfollowed := true, recurses := true, apart := false, narrowed := true }
def FnExactDrainQueueUptoSaid : Prop := fnExactDrainQueueUptoRow.holds Try.pinned (OpenSpec.upto fnExactDrainQueueSpec)

/-- 'laws.FnExactSameQueues', WHERE WHAT IT READS IS OF BULK AT MOST 1048576: true; the input reads as it did. -/
def fnExactSameQueuesUptoRow : OpenClaim := { program := "ytomkgohhfllpgaa", sum := "fa6fd7f4d517a5e810eb359e484b4ab8764c7037fd16b509e8cf330a2d1d908d", func := "loop.example/g00732/laws.FnExactSameQueues", spec := "fnExactSameQueues", apart := false, narrowed := true }
def FnExactSameQueuesUptoSaid : Prop := fnExactSameQueuesUptoRow.holds Try.pinned (OpenSpec.upto fnExactSameQueuesSpec)

end Rows
end Go.Proofs.Ytomkgohhfllpgaa
