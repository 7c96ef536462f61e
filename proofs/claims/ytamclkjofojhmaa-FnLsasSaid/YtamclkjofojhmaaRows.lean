/-
  No cell of these rows narrows 'for every input' (looked for: loops, veiled, ifaces, maps, wideKeys, modest, calm, conditions, laid).
  DERIVED. THE GIVEN ROWS OF THIS SEAT. 9 by the template 'for every input the law returns true; each argument reads behind the call as it read before'; 0 by the template 'total and deterministic' (their statements: YtamclkjofojhmaaTotals.lean).
  GIVEN WITH THE SEED: the statements are not yours to turn. If you find one false, say at which input.
  Laid BY PROGRAM, IN A SANDBOX (cutbox-rows.mjs): the forced cells as the released guide's own fill.sh prints them over the translation 135e848f1021389b… (all of the seat's roots in one cut). By AI agents, Wed Nov 11 2026. No macro, syntax, notation, axiom, sorry.
-/
import Derived.Test.YtamclkjofojhmaaChecked
import GoSem.Claim
import GoSem.ClaimJoined
import GoSem.ClaimMapViews
import Derived.JoinedTies
import Derived.KernelRfl
namespace Go.Proofs.Ytamclkjofojhmaa
/- THE CELL 'sum', in the pinned program and in every row, IS THE sha256 OF THE DUMP (.gsa) THAT YtamclkjofojhmaaProg.lean LOADS. Nothing in Lean hashes anything: it is a label: what it is worth is what the hold of that sum in a sandbox is worth. -/
noncomputable def Try.pinned : Pinned := { name := "ytamclkjofojhmaa", sum := "135e848f1021389befd0cb5edbc55803443c9dfa3af265dffcf9cecb3d3ffcbd", checked := Try.checked }
namespace Rows
def none {H : Type} : Left H := { results := [], args := [] }

/-- 'laws.FnLsas': WHATEVER THE INPUT: true; the input reads as it did. -/
def fnLsasSpec : ChangeSpec := { name := "fnLsas", fn := fun _ => fun
  | [d] => { results := [.lit (.bool true)], args := [d] }
  | _ => none }
def fnLsasRow : OpenClaim := { program := "ytamclkjofojhmaa", sum := "135e848f1021389befd0cb5edbc55803443c9dfa3af265dffcf9cecb3d3ffcbd", func := "loop.example/g00732/laws.FnLsas", spec := "fnLsas", unfollowed := true, recurses := true, apart := false }
def FnLsasSaid : Prop := fnLsasRow.holds Try.pinned (OpenSpec.ofChange fnLsasSpec)

/-- ITS FALSE NEIGHBOUR: 'it returns false'. Refute it at one input. -/
def fnLsasWrong : ChangeSpec := { name := "fnLsas", fn := fun _ => fun
  | [d] => { results := [.lit (.bool false)], args := [d] }
  | _ => none }
def FnLsasWrongFalsely : Prop := fnLsasRow.holds Try.pinned (OpenSpec.ofChange fnLsasWrong)

/-- 'laws.FnFresh': WHATEVER THE INPUT: true; the input reads as it did. -/
def fnFreshSpec : ChangeSpec := { name := "fnFresh", fn := fun _ => fun
  | [d] => { results := [.lit (.bool true)], args := [d] }
  | _ => none }
def fnFreshRow : OpenClaim := { program := "ytamclkjofojhmaa", sum := "135e848f1021389befd0cb5edbc55803443c9dfa3af265dffcf9cecb3d3ffcbd", func := "loop.example/g00732/laws.FnFresh", spec := "fnFresh", unfollowed := true, recurses := true, apart := false }
def FnFreshSaid : Prop := fnFreshRow.holds Try.pinned (OpenSpec.ofChange fnFreshSpec)

/-- ITS FALSE NEIGHBOUR: 'it returns false'. Refute it at one input. -/
def fnFreshWrong : ChangeSpec := { name := "fnFresh", fn := fun _ => fun
  | [d] => { results := [.lit (.bool false)], args := [d] }
  | _ => none }
def FnFreshWrongFalsely : Prop := fnFreshRow.holds Try.pinned (OpenSpec.ofChange fnFreshWrong)

/-- 'laws.FnAges': WHATEVER THE INPUT: true; the input reads as it did. -/
def fnAgesSpec : ChangeSpec := { name := "fnAges", fn := fun _ => fun
  | [d] => { results := [.lit (.bool true)], args := [d] }
  | _ => none }
def fnAgesRow : OpenClaim := { program := "ytamclkjofojhmaa", sum := "135e848f1021389befd0cb5edbc55803443c9dfa3af265dffcf9cecb3d3ffcbd", func := "loop.example/g00732/laws.FnAges", spec := "fnAges", unfollowed := true, recurses := true, apart := false }
def FnAgesSaid : Prop := fnAgesRow.holds Try.pinned (OpenSpec.ofChange fnAgesSpec)

/-- ITS FALSE NEIGHBOUR: 'it returns false'. Refute it at one input. -/
def fnAgesWrong : ChangeSpec := { name := "fnAges", fn := fun _ => fun
  | [d] => { results := [.lit (.bool false)], args := [d] }
  | _ => none }
def FnAgesWrongFalsely : Prop := fnAgesRow.holds Try.pinned (OpenSpec.ofChange fnAgesWrong)

/-- 'laws.FnExactDecodeLsa': WHATEVER THE INPUT: true; the input reads as it did. -/
def fnExactDecodeLsaSpec : ChangeSpec := { name := "fnExactDecodeLsa", fn := fun _ => fun
  | [d] => { results := [.lit (.bool true)], args := [d] }
  | _ => none }
def fnExactDecodeLsaRow : OpenClaim := { program := "ytamclkjofojhmaa", sum := "135e848f1021389befd0cb5edbc55803443c9dfa3af265dffcf9cecb3d3ffcbd", func := "loop.example/g00732/laws.FnExactDecodeLsa", spec := "fnExactDecodeLsa", unfollowed := true, recurses := true, apart := false }
def FnExactDecodeLsaSaid : Prop := fnExactDecodeLsaRow.holds Try.pinned (OpenSpec.ofChange fnExactDecodeLsaSpec)

/-- ITS FALSE NEIGHBOUR: 'it returns false'. Refute it at one input. -/
def fnExactDecodeLsaWrong : ChangeSpec := { name := "fnExactDecodeLsa", fn := fun _ => fun
  | [d] => { results := [.lit (.bool false)], args := [d] }
  | _ => none }
def FnExactDecodeLsaWrongFalsely : Prop := fnExactDecodeLsaRow.holds Try.pinned (OpenSpec.ofChange fnExactDecodeLsaWrong)

/-- 'laws.FnExactCompareLsas': WHATEVER THE INPUT: true; the input reads as it did. -/
def fnExactCompareLsasSpec : ChangeSpec := { name := "fnExactCompareLsas", fn := fun _ => fun
  | [d1, d2] => { results := [.lit (.bool true)], args := [d1, d2] }
  | _ => none }
def fnExactCompareLsasRow : OpenClaim := { program := "ytamclkjofojhmaa", sum := "135e848f1021389befd0cb5edbc55803443c9dfa3af265dffcf9cecb3d3ffcbd", func := "loop.example/g00732/laws.FnExactCompareLsas", spec := "fnExactCompareLsas", unfollowed := true, recurses := true, apart := false }
def FnExactCompareLsasSaid : Prop := fnExactCompareLsasRow.holds Try.pinned (OpenSpec.ofChange fnExactCompareLsasSpec)

/-- ITS FALSE NEIGHBOUR: 'it returns false'. Refute it at one input. -/
def fnExactCompareLsasWrong : ChangeSpec := { name := "fnExactCompareLsas", fn := fun _ => fun
  | [d1, d2] => { results := [.lit (.bool false)], args := [d1, d2] }
  | _ => none }
def FnExactCompareLsasWrongFalsely : Prop := fnExactCompareLsasRow.holds Try.pinned (OpenSpec.ofChange fnExactCompareLsasWrong)

/-- 'laws.FnExactIsNewer': WHATEVER THE INPUT: true; the input reads as it did. -/
def fnExactIsNewerSpec : ChangeSpec := { name := "fnExactIsNewer", fn := fun _ => fun
  | [d1, d2] => { results := [.lit (.bool true)], args := [d1, d2] }
  | _ => none }
def fnExactIsNewerRow : OpenClaim := { program := "ytamclkjofojhmaa", sum := "135e848f1021389befd0cb5edbc55803443c9dfa3af265dffcf9cecb3d3ffcbd", func := "loop.example/g00732/laws.FnExactIsNewer", spec := "fnExactIsNewer", unfollowed := true, recurses := true, apart := false }
def FnExactIsNewerSaid : Prop := fnExactIsNewerRow.holds Try.pinned (OpenSpec.ofChange fnExactIsNewerSpec)

/-- ITS FALSE NEIGHBOUR: 'it returns false'. Refute it at one input. -/
def fnExactIsNewerWrong : ChangeSpec := { name := "fnExactIsNewer", fn := fun _ => fun
  | [d1, d2] => { results := [.lit (.bool false)], args := [d1, d2] }
  | _ => none }
def FnExactIsNewerWrongFalsely : Prop := fnExactIsNewerRow.holds Try.pinned (OpenSpec.ofChange fnExactIsNewerWrong)

/-- 'laws.FnExactAgeLsa': WHATEVER THE INPUT: true; the input reads as it did. -/
def fnExactAgeLsaSpec : ChangeSpec := { name := "fnExactAgeLsa", fn := fun _ => fun
  | [d1, d2] => { results := [.lit (.bool true)], args := [d1, d2] }
  | _ => none }
def fnExactAgeLsaRow : OpenClaim := { program := "ytamclkjofojhmaa", sum := "135e848f1021389befd0cb5edbc55803443c9dfa3af265dffcf9cecb3d3ffcbd", func := "loop.example/g00732/laws.FnExactAgeLsa", spec := "fnExactAgeLsa", unfollowed := true, recurses := true, apart := false }
def FnExactAgeLsaSaid : Prop := fnExactAgeLsaRow.holds Try.pinned (OpenSpec.ofChange fnExactAgeLsaSpec)

/-- ITS FALSE NEIGHBOUR: 'it returns false'. Refute it at one input. -/
def fnExactAgeLsaWrong : ChangeSpec := { name := "fnExactAgeLsa", fn := fun _ => fun
  | [d1, d2] => { results := [.lit (.bool false)], args := [d1, d2] }
  | _ => none }
def FnExactAgeLsaWrongFalsely : Prop := fnExactAgeLsaRow.holds Try.pinned (OpenSpec.ofChange fnExactAgeLsaWrong)

/-- 'laws.FnExactFlushLsa': WHATEVER THE INPUT: true; the input reads as it did. -/
def fnExactFlushLsaSpec : ChangeSpec := { name := "fnExactFlushLsa", fn := fun _ => fun
  | [d] => { results := [.lit (.bool true)], args := [d] }
  | _ => none }
def fnExactFlushLsaRow : OpenClaim := { program := "ytamclkjofojhmaa", sum := "135e848f1021389befd0cb5edbc55803443c9dfa3af265dffcf9cecb3d3ffcbd", func := "loop.example/g00732/laws.FnExactFlushLsa", spec := "fnExactFlushLsa", unfollowed := true, recurses := true, apart := false }
def FnExactFlushLsaSaid : Prop := fnExactFlushLsaRow.holds Try.pinned (OpenSpec.ofChange fnExactFlushLsaSpec)

/-- ITS FALSE NEIGHBOUR: 'it returns false'. Refute it at one input. -/
def fnExactFlushLsaWrong : ChangeSpec := { name := "fnExactFlushLsa", fn := fun _ => fun
  | [d] => { results := [.lit (.bool false)], args := [d] }
  | _ => none }
def FnExactFlushLsaWrongFalsely : Prop := fnExactFlushLsaRow.holds Try.pinned (OpenSpec.ofChange fnExactFlushLsaWrong)

/-- 'laws.FnExactNextSeq': WHATEVER THE INPUT: true; the input reads as it did. -/
def fnExactNextSeqSpec : ChangeSpec := { name := "fnExactNextSeq", fn := fun _ => fun
  | [d] => { results := [.lit (.bool true)], args := [d] }
  | _ => none }
def fnExactNextSeqRow : OpenClaim := { program := "ytamclkjofojhmaa", sum := "135e848f1021389befd0cb5edbc55803443c9dfa3af265dffcf9cecb3d3ffcbd", func := "loop.example/g00732/laws.FnExactNextSeq", spec := "fnExactNextSeq", apart := false }
def FnExactNextSeqSaid : Prop := fnExactNextSeqRow.holds Try.pinned (OpenSpec.ofChange fnExactNextSeqSpec)

/-- ITS FALSE NEIGHBOUR: 'it returns false'. Refute it at one input. -/
def fnExactNextSeqWrong : ChangeSpec := { name := "fnExactNextSeq", fn := fun _ => fun
  | [d] => { results := [.lit (.bool false)], args := [d] }
  | _ => none }
def FnExactNextSeqWrongFalsely : Prop := fnExactNextSeqRow.holds Try.pinned (OpenSpec.ofChange fnExactNextSeqWrong)

/- THE SECOND FORM. 'bulk': how many values and letters a reading holds, each counted each time it is reached (what is shared counts as often as it is met; a slice's spare places count too). A statement '..UptoSaid' is the law's where the arguments, and the package variables that the reading takes, are together of bulk at most 1048576: NARROWER than '..Said'. Prove '..Said' where nothing that the law and all that it calls make is longer than what came in: it says more and counts as full. Else prove '..UptoSaid'. A law counts once. -/
mutual
def uptoBulk {H : Type} : DataW H → Nat
  | .lit (.string bytes) => bytes.length + 1
  | .lit _ => 1
  | .nil => 1
  | .ptr d => uptoBulk d + 1
  | .slice elems spare => uptoBulkAll elems + uptoBulkAll spare + 1
  | .agg parts => uptoBulkAll parts + 1
  | .iface _ d => uptoBulk d + 1
  | .map entries => uptoBulkEntries entries + 1
  | .held _ => 1
def uptoBulkAll {H : Type} : List (DataW H) → Nat
  | [] => 0
  | d :: r => uptoBulk d + uptoBulkAll r
def uptoBulkEntries {H : Type} : List (Lit × DataW H) → Nat
  | [] => 0
  | x :: r => uptoBulkEntry x + uptoBulkEntries r
def uptoBulkEntry {H : Type} : Lit × DataW H → Nat
  | (.string bytes, d) => bytes.length + uptoBulk d + 1
  | (_, d) => uptoBulk d + 1
 end
def uptoSmall : (H : Type) → List (DataW H) → Bool := fun _ ds => decide (uptoBulkAll ds ≤ 1048576)
def OpenSpec.upto (s : _root_.Go.ChangeSpec) : _root_.Go.OpenSpec := { _root_.Go.OpenSpec.ofChange s with cond := some uptoSmall }

/-- 'laws.FnLsas', WHERE WHAT IT READS IS OF BULK AT MOST 1048576: true; the input reads as it did. -/
def fnLsasUptoRow : OpenClaim := { program := "ytamclkjofojhmaa", sum := "135e848f1021389befd0cb5edbc55803443c9dfa3af265dffcf9cecb3d3ffcbd", func := "loop.example/g00732/laws.FnLsas", spec := "fnLsas", unfollowed := true, recurses := true, apart := false, narrowed := true }
def FnLsasUptoSaid : Prop := fnLsasUptoRow.holds Try.pinned (OpenSpec.upto fnLsasSpec)

/-- 'laws.FnFresh', WHERE WHAT IT READS IS OF BULK AT MOST 1048576: true; the input reads as it did. -/
def fnFreshUptoRow : OpenClaim := { program := "ytamclkjofojhmaa", sum := "135e848f1021389befd0cb5edbc55803443c9dfa3af265dffcf9cecb3d3ffcbd", func := "loop.example/g00732/laws.FnFresh", spec := "fnFresh", unfollowed := true, recurses := true, apart := false, narrowed := true }
def FnFreshUptoSaid : Prop := fnFreshUptoRow.holds Try.pinned (OpenSpec.upto fnFreshSpec)

/-- 'laws.FnAges', WHERE WHAT IT READS IS OF BULK AT MOST 1048576: true; the input reads as it did. -/
def fnAgesUptoRow : OpenClaim := { program := "ytamclkjofojhmaa", sum := "135e848f1021389befd0cb5edbc55803443c9dfa3af265dffcf9cecb3d3ffcbd", func := "loop.example/g00732/laws.FnAges", spec := "fnAges", unfollowed := true, recurses := true, apart := false, narrowed := true }
def FnAgesUptoSaid : Prop := fnAgesUptoRow.holds Try.pinned (OpenSpec.upto fnAgesSpec)

/-- 'laws.FnExactDecodeLsa', WHERE WHAT IT READS IS OF BULK AT MOST 1048576: true; the input reads as it did. -/
def fnExactDecodeLsaUptoRow : OpenClaim := { program := "ytamclkjofojhmaa", sum := "135e848f1021389befd0cb5edbc55803443c9dfa3af265dffcf9cecb3d3ffcbd", func := "loop.example/g00732/laws.FnExactDecodeLsa", spec := "fnExactDecodeLsa", unfollowed := true, recurses := true, apart := false, narrowed := true }
def FnExactDecodeLsaUptoSaid : Prop := fnExactDecodeLsaUptoRow.holds Try.pinned (OpenSpec.upto fnExactDecodeLsaSpec)

/-- 'laws.FnExactCompareLsas', WHERE WHAT IT READS IS OF BULK AT MOST 1048576: true; the input reads as it did. -/
def fnExactCompareLsasUptoRow : OpenClaim := { program := "ytamclkjofojhmaa", sum := "135e848f1021389befd0cb5edbc55803443c9dfa3af265dffcf9cecb3d3ffcbd", func := "loop.example/g00732/laws.FnExactCompareLsas", spec := "fnExactCompareLsas", unfollowed := true, recurses := true, apart := false, narrowed := true }
def FnExactCompareLsasUptoSaid : Prop := fnExactCompareLsasUptoRow.holds Try.pinned (OpenSpec.upto fnExactCompareLsasSpec)

/-- 'laws.FnExactIsNewer', WHERE WHAT IT READS IS OF BULK AT MOST 1048576: true; the input reads as it did. -/
def fnExactIsNewerUptoRow : OpenClaim := { program := "ytamclkjofojhmaa", sum := "135e848f1021389befd0cb5edbc55803443c9dfa3af265dffcf9cecb3d3ffcbd", func := "loop.example/g00732/laws.FnExactIsNewer", spec := "fnExactIsNewer", unfollowed := true, recurses := true, apart := false, narrowed := true }
def FnExactIsNewerUptoSaid : Prop := fnExactIsNewerUptoRow.holds Try.pinned (OpenSpec.upto fnExactIsNewerSpec)

/-- 'laws.FnExactAgeLsa', WHERE WHAT IT READS IS OF BULK AT MOST 1048576: true; the input reads as it did. -/
def fnExactAgeLsaUptoRow : OpenClaim := { program := "ytamclkjofojhmaa", sum := "135e848f1021389befd0cb5edbc55803443c9dfa3af265dffcf9cecb3d3ffcbd", func := "loop.example/g00732/laws.FnExactAgeLsa", spec := "fnExactAgeLsa", unfollowed := true, recurses := true, apart := false, narrowed := true }
def FnExactAgeLsaUptoSaid : Prop := fnExactAgeLsaUptoRow.holds Try.pinned (OpenSpec.upto fnExactAgeLsaSpec)

/-- 'laws.FnExactFlushLsa', WHERE WHAT IT READS IS OF BULK AT MOST 1048576: true; the input reads as it did. -/
def fnExactFlushLsaUptoRow : OpenClaim := { program := "ytamclkjofojhmaa", sum := "135e848f1021389befd0cb5edbc55803443c9dfa3af265dffcf9cecb3d3ffcbd", func := "loop.example/g00732/laws.FnExactFlushLsa", spec := "fnExactFlushLsa", unfollowed := true, recurses := true, apart := false, narrowed := true }
def FnExactFlushLsaUptoSaid : Prop := fnExactFlushLsaUptoRow.holds Try.pinned (OpenSpec.upto fnExactFlushLsaSpec)

/-- 'laws.FnExactNextSeq', WHERE WHAT IT READS IS OF BULK AT MOST 1048576: true; the input reads as it did. -/
def fnExactNextSeqUptoRow : OpenClaim := { program := "ytamclkjofojhmaa", sum := "135e848f1021389befd0cb5edbc55803443c9dfa3af265dffcf9cecb3d3ffcbd", func := "loop.example/g00732/laws.FnExactNextSeq", spec := "fnExactNextSeq", apart := false, narrowed := true }
def FnExactNextSeqUptoSaid : Prop := fnExactNextSeqUptoRow.holds Try.pinned (OpenSpec.upto fnExactNextSeqSpec)

end Rows
end Go.Proofs.Ytamclkjofojhmaa
