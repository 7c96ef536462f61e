/-
  No cell of these rows narrows 'for every input' (looked for: loops, veiled, ifaces, maps, wideKeys, modest, calm, conditions, laid).
  DERIVED. THE GIVEN ROWS OF THIS SEAT. 6 by the template 'for every input the law returns true; each argument reads behind the call as it read before'; 0 by the template 'total and deterministic' (their statements: YtcmjldmnannmcaaTotals.lean).
  GIVEN WITH THE SEED: the statements are not yours to turn. If you find one false, say at which input.
  Laid BY PROGRAM, IN A SANDBOX (cutbox-rows.mjs): the forced cells as the released guide's own fill.sh prints them over the translation 3b9f76fe46d30b69… (all of the seat's roots in one cut). By AI agents, Wed Nov 11 2026. No macro, syntax, notation, axiom, sorry.
-/
import Derived.Test.YtcmjldmnannmcaaChecked
import GoSem.Claim
import GoSem.ClaimJoined
import GoSem.ClaimMapViews
import Derived.JoinedTies
import Derived.KernelRfl
namespace Go.Proofs.Ytcmjldmnannmcaa
/- THE CELL 'sum', in the pinned program and in every row, IS THE sha256 OF THE DUMP (.gsa) THAT YtcmjldmnannmcaaProg.lean LOADS. Nothing in Lean hashes anything: it is a label: what it is worth is what the hold of that sum in a sandbox is worth. -/
noncomputable def Try.pinned : Pinned := { name := "ytcmjldmnannmcaa", sum := "3b9f76fe46d30b69fb694f6eba27718eaeea12323c864cf6e311207019e6b662", checked := Try.checked }
namespace Rows
def none {H : Type} : Left H := { results := [], args := [] }

/-- 'laws.FnLsas': WHATEVER THE INPUT: true; the input reads as it did. -/
def fnLsasSpec : ChangeSpec := { name := "fnLsas", fn := fun _ => fun
  | [d] => { results := [.lit (.bool true)], args := [d] }
  | _ => none }
def fnLsasRow : OpenClaim := { program := "ytcmjldmnannmcaa", sum := "3b9f76fe46d30b69fb694f6eba27718eaeea12323c864cf6e311207019e6b662", func := "loop.example/g00732/laws.FnLsas", spec := "fnLsas", unfollowed := true, recurses := true, apart := false }
def FnLsasSaid : Prop := fnLsasRow.holds Try.pinned (OpenSpec.ofChange fnLsasSpec)

/-- ITS FALSE NEIGHBOUR: 'it returns false'. Refute it at one input. -/
def fnLsasWrong : ChangeSpec := { name := "fnLsas", fn := fun _ => fun
  | [d] => { results := [.lit (.bool false)], args := [d] }
  | _ => none }
def FnLsasWrongFalsely : Prop := fnLsasRow.holds Try.pinned (OpenSpec.ofChange fnLsasWrong)

/-- 'laws.FnExactLsaFault': WHATEVER THE INPUT: true; the input reads as it did. -/
def fnExactLsaFaultSpec : ChangeSpec := { name := "fnExactLsaFault", fn := fun _ => fun
  | [d] => { results := [.lit (.bool true)], args := [d] }
  | _ => none }
def fnExactLsaFaultRow : OpenClaim := { program := "ytcmjldmnannmcaa", sum := "3b9f76fe46d30b69fb694f6eba27718eaeea12323c864cf6e311207019e6b662", func := "loop.example/g00732/laws.FnExactLsaFault", spec := "fnExactLsaFault", unfollowed := true, recurses := true, apart := false }
def FnExactLsaFaultSaid : Prop := fnExactLsaFaultRow.holds Try.pinned (OpenSpec.ofChange fnExactLsaFaultSpec)

/-- ITS FALSE NEIGHBOUR: 'it returns false'. Refute it at one input. -/
def fnExactLsaFaultWrong : ChangeSpec := { name := "fnExactLsaFault", fn := fun _ => fun
  | [d] => { results := [.lit (.bool false)], args := [d] }
  | _ => none }
def FnExactLsaFaultWrongFalsely : Prop := fnExactLsaFaultRow.holds Try.pinned (OpenSpec.ofChange fnExactLsaFaultWrong)

/-- 'laws.FnExactSumOf': WHATEVER THE INPUT: true; the input reads as it did. -/
def fnExactSumOfSpec : ChangeSpec := { name := "fnExactSumOf", fn := fun _ => fun
  | [d] => { results := [.lit (.bool true)], args := [d] }
  | _ => none }
def fnExactSumOfRow : OpenClaim := { program := "ytcmjldmnannmcaa", sum := "3b9f76fe46d30b69fb694f6eba27718eaeea12323c864cf6e311207019e6b662", func := "loop.example/g00732/laws.FnExactSumOf", spec := "fnExactSumOf", unfollowed := true, recurses := true, apart := false }
def FnExactSumOfSaid : Prop := fnExactSumOfRow.holds Try.pinned (OpenSpec.ofChange fnExactSumOfSpec)

/-- ITS FALSE NEIGHBOUR: 'it returns false'. Refute it at one input. -/
def fnExactSumOfWrong : ChangeSpec := { name := "fnExactSumOf", fn := fun _ => fun
  | [d] => { results := [.lit (.bool false)], args := [d] }
  | _ => none }
def FnExactSumOfWrongFalsely : Prop := fnExactSumOfRow.holds Try.pinned (OpenSpec.ofChange fnExactSumOfWrong)

/-- 'laws.FnExactEncodeLsa': WHATEVER THE INPUT: true; the input reads as it did. -/
def fnExactEncodeLsaSpec : ChangeSpec := { name := "fnExactEncodeLsa", fn := fun _ => fun
  | [d] => { results := [.lit (.bool true)], args := [d] }
  | _ => none }
def fnExactEncodeLsaRow : OpenClaim := { program := "ytcmjldmnannmcaa", sum := "3b9f76fe46d30b69fb694f6eba27718eaeea12323c864cf6e311207019e6b662", func := "loop.example/g00732/laws.FnExactEncodeLsa", spec := "fnExactEncodeLsa", unfollowed := true, recurses := true, apart := false }
def FnExactEncodeLsaSaid : Prop := fnExactEncodeLsaRow.holds Try.pinned (OpenSpec.ofChange fnExactEncodeLsaSpec)

/-- ITS FALSE NEIGHBOUR: 'it returns false'. Refute it at one input. -/
def fnExactEncodeLsaWrong : ChangeSpec := { name := "fnExactEncodeLsa", fn := fun _ => fun
  | [d] => { results := [.lit (.bool false)], args := [d] }
  | _ => none }
def FnExactEncodeLsaWrongFalsely : Prop := fnExactEncodeLsaRow.holds Try.pinned (OpenSpec.ofChange fnExactEncodeLsaWrong)

/-- 'laws.FnExactDecodeLsa': WHATEVER THE INPUT: true; the input reads as it did. -/
def fnExactDecodeLsaSpec : ChangeSpec := { name := "fnExactDecodeLsa", fn := fun _ => fun
  | [d] => { results := [.lit (.bool true)], args := [d] }
  | _ => none }
def fnExactDecodeLsaRow : OpenClaim := { program := "ytcmjldmnannmcaa", sum := "3b9f76fe46d30b69fb694f6eba27718eaeea12323c864cf6e311207019e6b662", func := "loop.example/g00732/laws.FnExactDecodeLsa", spec := "fnExactDecodeLsa", unfollowed := true, recurses := true, apart := false }
def FnExactDecodeLsaSaid : Prop := fnExactDecodeLsaRow.holds Try.pinned (OpenSpec.ofChange fnExactDecodeLsaSpec)

/-- ITS FALSE NEIGHBOUR: 'it returns false'. Refute it at one input. -/
def fnExactDecodeLsaWrong : ChangeSpec := { name := "fnExactDecodeLsa", fn := fun _ => fun
  | [d] => { results := [.lit (.bool false)], args := [d] }
  | _ => none }
def FnExactDecodeLsaWrongFalsely : Prop := fnExactDecodeLsaRow.holds Try.pinned (OpenSpec.ofChange fnExactDecodeLsaWrong)

/-- 'laws.FnExactSameLsas': WHATEVER THE INPUT: true; the input reads as it did. -/
def fnExactSameLsasSpec : ChangeSpec := { name := "fnExactSameLsas", fn := fun _ => fun
  | [d1, d2] => { results := [.lit (.bool true)], args := [d1, d2] }
  | _ => none }
def fnExactSameLsasRow : OpenClaim := { program := "ytcmjldmnannmcaa", sum := "3b9f76fe46d30b69fb694f6eba27718eaeea12323c864cf6e311207019e6b662", func := "loop.example/g00732/laws.FnExactSameLsas", spec := "fnExactSameLsas", apart := false }
def FnExactSameLsasSaid : Prop := fnExactSameLsasRow.holds Try.pinned (OpenSpec.ofChange fnExactSameLsasSpec)

/-- ITS FALSE NEIGHBOUR: 'it returns false'. Refute it at one input. -/
def fnExactSameLsasWrong : ChangeSpec := { name := "fnExactSameLsas", fn := fun _ => fun
  | [d1, d2] => { results := [.lit (.bool false)], args := [d1, d2] }
  | _ => none }
def FnExactSameLsasWrongFalsely : Prop := fnExactSameLsasRow.holds Try.pinned (OpenSpec.ofChange fnExactSameLsasWrong)

/- THE SECOND FORM. 'bulk': how many values and letters a reading holds, each counted each time it is reached (what is shared counts as often as it is met; a slice's spare places count too). A statement '..UptoSaid' is the law's where the arguments, and the package variables that the reading takes, are together of bulk at most 1048576: NARROWER than '..Said'. Prove '..Said' where nothing that the law and all that it calls make is longer than what came in: it says more and counts as full. Else prove '..UptoSaid'. A law counts once. -/
mutual
def uptoBulk {H : Type} : DataW H → Nat
  | .lit (.string bytes) => bytes.length + 1
  | .lit _ => 1
  | .nil => 1
  | .ptr d => uptoBulk d + 1
  | .slice elems spare => uptoBulkAll elems + uptoBulkAll spare + 1
  | .agg parts => uptoBulkAll parts + 1
  | .iface _ d => uptoBulk d + 1
  | .map entries => uptoBulkEntries entries + 1
  | .held _ => 1
def uptoBulkAll {H : Type} : List (DataW H) → Nat
  | [] => 0
  | d :: r => uptoBulk d + uptoBulkAll r
def uptoBulkEntries {H : Type} : List (Lit × DataW H) → Nat
  | [] => 0
  | x :: r => uptoBulkEntry x + uptoBulkEntries r
def uptoBulkEntry {H : Type} : Lit × DataW H → Nat
  | (.string bytes, d) => bytes.length + uptoBulk d + 1
  | (_, d) => uptoBulk d + 1
 end
def uptoSmall : (H : Type) → List (DataW H) → Bool := fun _ ds => decide (uptoBulkAll ds ≤ 1048576)
def OpenSpec.upto (s : _root_.Go.ChangeSpec) : _root_.Go.OpenSpec := { _root_.Go.OpenSpec.ofChange s with cond := some uptoSmall }

/-- 'laws.FnLsas', WHERE WHAT IT READS IS OF BULK AT MOST 1048576: true; the input reads as it did. -/
def fnLsasUptoRow : OpenClaim := { program := "ytcmjldmnannmcaa", sum := "3b9f76fe46d30b69fb694f6eba27718eaeea12323c864cf6e311207019e6b662", func := "loop.example/g00732/laws.FnLsas", spec := "fnLsas", unfollowed := true, recurses := true, apart := false, narrowed := true }
def FnLsasUptoSaid : Prop := fnLsasUptoRow.holds Try.pinned (OpenSpec.upto fnLsasSpec)

/-- 'laws.FnExactLsaFault', WHERE WHAT IT READS IS OF BULK AT MOST 1048576: true; the input reads as it did. -/
def fnExactLsaFaultUptoRow : OpenClaim := { program := "ytcmjldmnannmcaa", sum := "3b9f76fe46d30b69fb694f6eba27718eaeea12323c864cf6e311207019e6b662", func := "loop.example/g00732/laws.FnExactLsaFault", spec := "fnExactLsaFault", unfollowed := true, recurses := true, apart := false, narrowed := true }
def FnExactLsaFaultUptoSaid : Prop := fnExactLsaFaultUptoRow.holds Try.pinned (OpenSpec.upto fnExactLsaFaultSpec)

/-- 'laws.FnExactSumOf', WHERE WHAT IT READS IS OF BULK AT MOST 1048576: true; the input reads as it did. -/
def fnExactSumOfUptoRow : OpenClaim := { program := "ytcmjldmnannmcaa", sum := "3b9f76fe46d30b69fb694f6eba27718eaeea12323c864cf6e311207019e6b662", func := "loop.example/g00732/laws.FnExactSumOf", spec := "fnExactSumOf", unfollowed := true, recurses := true, apart := false, narrowed := true }
def FnExactSumOfUptoSaid : Prop := fnExactSumOfUptoRow.holds Try.pinned (OpenSpec.upto fnExactSumOfSpec)

/-- 'laws.FnExactEncodeLsa', WHERE WHAT IT READS IS OF BULK AT MOST 1048576: true; the input reads as it did. -/
def fnExactEncodeLsaUptoRow : OpenClaim := { program := "ytcmjldmnannmcaa", sum := "3b9f76fe46d30b69fb694f6eba27718eaeea12323c864cf6e311207019e6b662", func := "loop.example/g00732/laws.FnExactEncodeLsa", spec := "fnExactEncodeLsa", unfollowed := true, recurses := true, apart := false, narrowed := true }
def FnExactEncodeLsaUptoSaid : Prop := fnExactEncodeLsaUptoRow.holds Try.pinned (OpenSpec.upto fnExactEncodeLsaSpec)

/-- 'laws.FnExactDecodeLsa', WHERE WHAT IT READS IS OF BULK AT MOST 1048576: true; the input reads as it did. -/
def fnExactDecodeLsaUptoRow : OpenClaim := { program := "ytcmjldmnannmcaa", sum := "3b9f76fe46d30b69fb694f6eba27718eaeea12323c864cf6e311207019e6b662", func := "loop.example/g00732/laws.FnExactDecodeLsa", spec := "fnExactDecodeLsa", unfollowed := true, recurses := true, apart := false, narrowed := true }
def FnExactDecodeLsaUptoSaid : Prop := fnExactDecodeLsaUptoRow.holds Try.pinned (OpenSpec.upto fnExactDecodeLsaSpec)

/-- 'laws.FnExactSameLsas', WHERE WHAT IT READS IS OF BULK AT MOST 1048576: true; the input reads as it did. -/
def fnExactSameLsasUptoRow : OpenClaim := { program := "ytcmjldmnannmcaa", sum := "3b9f76fe46d30b69fb694f6eba27718eaeea12323c864cf6e311207019e6b662", func := "loop.example/g00732/laws.FnExactSameLsas", spec := "fnExactSameLsas", apart := false, narrowed := true }
def FnExactSameLsasUptoSaid : Prop := fnExactSameLsasUptoRow.holds Try.pinned (OpenSpec.upto fnExactSameLsasSpec)

end Rows
end Go.Proofs.Ytcmjldmnannmcaa
