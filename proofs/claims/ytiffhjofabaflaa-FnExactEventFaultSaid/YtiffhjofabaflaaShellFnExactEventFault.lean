/-
  The program's EventFault answers as the model's and writes into no argument. No condition.
-/
import Derived.Test.YtiffhjofabaflaaRows
import Derived.WalkKit
import Derived.ProofKit
import Derived.OpenShut
import Derived.ShutString
import Derived.ChangeOld
import Derived.Below
import Derived.Test.YtiffhjofabaflaaLawEventFault
import Derived.Test.YtiffhjofabaflaaOpLaws
namespace Go.Proofs.Ytiffhjofabaflaa.fnExactEventFault
open Go.ChangeShapes Go.WideShapes Go.ChangeAt Go.RowKit
open Go.ChangeMaps (open_string shut_string)
set_option linter.unusedVariables false

theorem own : ownKnob Try.prog.godebug = none := by kernel_rfl
theorem laidOut : laidOutB Try.prog = true := by kernel_rfl

theorem walk (x0 y0 o0 : Int) (A0 : Option Addr) (n0 c0 : Nat) (t0 i0 a0 N0 : Int) (ys0 : List Int) (w : World) (hl0 : Rep.u8.Sl false 0 w.heap.size w A0 n0 ys0) (hn0 : n0 ≤ maxLen) :
    Calls Try.prog 8 #[.agg (#[.int .i64 x0, .int .i64 y0, .int .i64 o0, .slice A0 n0 c0, .int .i64 t0, .int .i64 i0, .int .i64 a0, .int .i64 N0])] w fun e w' => e = .returned (.bool true) ∧ Below w.heap.size w w' := by
  exact law_EventFault x0 y0 o0 t0 i0 a0 N0 ys0 false 0 w.heap.size A0 n0 c0 w hl0 (Nat.le_refl _) hn0

set_option maxRecDepth 100000 in
theorem lifted (os : Os) (started : os.Started) (H : Type) (enc : TypeId × Value → H) :
    ReturnsInHanded {} Try.checked os 8 .any (Rows.fnExactEventFaultSpec.pre6 enc Try.prog Try.f8 Rows.fnExactEventFaultRow.domain false) (Rows.fnExactEventFaultSpec.post enc Try.prog Try.f8 false true false false) := by
  refine returnsInHanded_of_change (C := Try.checked) own started (by kernel_rfl) Try.func8
    (ChangeSpec.witness6 (enc := enc) (C := Try.checked) false ⟨#[], #[.agg #[.int .i64 0, .int .i64 0, .int .i64 0, .slice none 0 0, .int .i64 0, .int .i64 0, .int .i64 0, .int .i64 0]], []⟩ 8 (by kernel_rfl) (by kernel_rfl) (by kernel_rfl) (by kernel_rfl)) ?_
  intro W base args ds gs before hval0 hW hcnd _
  have hval : ∀ (j : Nat) t v, Try.f8.params[j]? = some t → args[j]? = some v → Value.okWide Try.prog W .any base t v := hval0
  have hW' := hW
  obtain ⟨p, q, hA0, hV, rfl, hfz, hnd⟩ := hW
  have hA : DataW.TrodAll enc Try.prog W 0 (fun _ => true) true Try.f8.params.toList args.toList ds p := hA0
  rw [Try.params8] at hA hval
  obtain ⟨v0, vs0, d0, ds0, p0, q0, hargs, rfl, rfl, h0, r0⟩ := trodAll_cons hA
  obtain ⟨rfl, rfl, rfl⟩ := trodAll_nil r0
  obtain rfl : args = #[v0] := by cases args; simp_all
  obtain ⟨rfl, rfl⟩ := trodVars_none hV
  obtain ⟨cs0, rfl, hsz0⟩ := okWide_struct Try.underlying98 (hval 0 98 v0 rfl rfl)
  have k0 := h0
  have lt0 : ∀ x ∈ p0, x.block < W.heap.size := by obtain ⟨m, hm⟩ := k0; exact DataW.trod_lt m _ _ _ hm
  obtain ⟨fuel0, hf0⟩ := h0
  obtain ⟨x0, y0, o0, A0, n0, c0, t0, i0, a0, N0, ys0, he0, hl0, hn0⟩ := open_event hf0
  obtain rfl : cs0 = #[.int .i64 x0, .int .i64 y0, .int .i64 o0, .slice A0 n0 c0, .int .i64 t0, .int .i64 i0, .int .i64 a0, .int .i64 N0] := by cases cs0; simp [Value.cells] at he0; simp [he0]
  clear hA0 hval0
  refine (walk x0 y0 o0 A0 n0 c0 t0 i0 a0 N0 ys0 W hl0 hn0).mono fun e W' ⟨he, bel⟩ => ?_
  subst he
  exact ⟨_, rfl, _, _, _, [], _, [], hW', trodAll_mk1 (shut_bool Try.underlying4 _), (trodAll_cons_mk (Below.trod laidOut (by kernel_rfl) (of_decide_eq_true (by kernel_rfl)) k0 bel lt0) trodAll_mk0), rfl, bel.frame _, fun h => by cases h⟩

theorem over : Rows.fnExactEventFaultRow.holds Try.pinned (OpenSpec.ofChange Rows.fnExactEventFaultSpec) :=
  OpenClaim.holds_of_wide 8 Try.f8 rfl rfl rfl rfl rfl rfl rfl ⟨rfl, rfl, rfl, rfl, rfl⟩ rfl rfl rfl rfl rfl (by kernel_rfl) Try.func8 (by kernel_rfl)
    (of_decide_eq_true (by kernel_rfl)) (by unfold Func.isWrapper; first | (rw [if_pos (by decide +kernel)]; kernel_rfl) | (rw [if_neg (by decide +kernel)]; exact ⟨rfl, rfl⟩))
    (fun os started H enc _ => lifted os started H enc)

theorem proved : Rows.FnExactEventFaultSaid := over
#print axioms proved
end Go.Proofs.Ytiffhjofabaflaa.fnExactEventFault
