/-
  The program's ShardOf answers as the model's and writes into no argument. No condition.
-/
import Derived.Test.YtiffhjofabaflaaRows
import Derived.WalkKit
import Derived.ProofKit
import Derived.OpenShut
import Derived.ShutString
import Derived.ChangeOld
import Derived.Below
import Derived.Test.YtiffhjofabaflaaLawShardOf
import Derived.Test.YtiffhjofabaflaaConfig
import Derived.Test.YtiffhjofabaflaaOpLaws
namespace Go.Proofs.Ytiffhjofabaflaa.fnExactShardOf
open Go.ChangeShapes Go.WideShapes Go.ChangeAt Go.RowKit
open Go.ChangeMaps (open_string shut_string)
set_option linter.unusedVariables false

theorem own : ownKnob Try.prog.godebug = none := by kernel_rfl
theorem laidOut : laidOutB Try.prog = true := by kernel_rfl

theorem walk (v0 u0 : Int) (A0 : Option Addr) (n0 c0 : Nat) (ys0 : List Int) (t1 i1 a1 : Int) (w : World) (hl0 : Rep.int.Sl false 0 w.heap.size w A0 n0 ys0) (hn0 : n0 ≤ maxLen)  :
    Calls Try.prog 9 #[.agg (#[.int .i64 v0, .int .i64 u0, .slice A0 n0 c0]), .agg (#[.int .i64 t1, .int .i64 i1, .int .i64 a1])] w fun e w' => e = .returned (.bool true) ∧ Below w.heap.size w w' := by
  exact law_ShardOf v0 u0 ys0 false 0 w.heap.size A0 n0 c0 t1 i1 a1 w hl0 (Nat.le_refl _) hn0

set_option maxRecDepth 100000 in
theorem lifted (os : Os) (started : os.Started) (H : Type) (enc : TypeId × Value → H) :
    ReturnsInHanded {} Try.checked os 9 .any (Rows.fnExactShardOfSpec.pre6 enc Try.prog Try.f9 Rows.fnExactShardOfRow.domain false) (Rows.fnExactShardOfSpec.post enc Try.prog Try.f9 false true false false) := by
  refine returnsInHanded_of_change (C := Try.checked) own started (by kernel_rfl) Try.func9
    (ChangeSpec.witness6 (enc := enc) (C := Try.checked) false ⟨#[], #[.agg #[.int .i64 0, .int .i64 0, .slice none 0 0], .agg #[.int .i64 0, .int .i64 0, .int .i64 0]], []⟩ 8 (by kernel_rfl) (by kernel_rfl) (by kernel_rfl) (by kernel_rfl)) ?_
  intro W base args ds gs before hval0 hW hcnd _
  have hval : ∀ (j : Nat) t v, Try.f9.params[j]? = some t → args[j]? = some v → Value.okWide Try.prog W .any base t v := hval0
  have hW' := hW
  obtain ⟨p, q, hA0, hV, rfl, hfz, hnd⟩ := hW
  have hA : DataW.TrodAll enc Try.prog W 0 (fun _ => true) true Try.f9.params.toList args.toList ds p := hA0
  rw [Try.params9] at hA hval
  obtain ⟨v0, vs0, d0, ds0, p0, q0, hargs, rfl, rfl, h0, r0⟩ := trodAll_cons hA
  obtain ⟨v1, vs1, d1, ds1, p1, q1, rfl, rfl, rfl, h1, r1⟩ := trodAll_cons r0
  obtain ⟨rfl, rfl, rfl⟩ := trodAll_nil r1
  obtain rfl : args = #[v0, v1] := by cases args; simp_all
  obtain ⟨rfl, rfl⟩ := trodVars_none hV
  obtain ⟨cs0, rfl, hsz0⟩ := okWide_struct Try.underlying80 (hval 0 80 v0 rfl rfl)
  have k0 := h0
  have lt0 : ∀ x ∈ p0, x.block < W.heap.size := by obtain ⟨m, hm⟩ := k0; exact DataW.trod_lt m _ _ _ hm
  obtain ⟨fuel0, hf0⟩ := h0
  obtain ⟨v0, u0, A0, n0, c0, ys0, he0, hl0, hn0⟩ := open_config hf0
  obtain rfl : cs0 = #[.int .i64 v0, .int .i64 u0, .slice A0 n0 c0] := by cases cs0; simp [Value.cells] at he0; simp [he0]
  obtain ⟨cs1, rfl, hsz1⟩ := okWide_struct Try.underlying87 (hval 1 87 v1 rfl rfl)
  have k1 := h1
  have lt1 : ∀ x ∈ p1, x.block < W.heap.size := by obtain ⟨m, hm⟩ := k1; exact DataW.trod_lt m _ _ _ hm
  obtain ⟨fuel1, hf1⟩ := h1
  obtain ⟨t1, i1, a1, he1⟩ := open_okey hf1
  obtain rfl : cs1 = #[.int .i64 t1, .int .i64 i1, .int .i64 a1] := by cases cs1; simp [Value.cells] at he1; simp [he1]
  clear hA0 hval0
  refine (walk v0 u0 A0 n0 c0 ys0 t1 i1 a1 W hl0 hn0 ).mono fun e W' ⟨he, bel⟩ => ?_
  subst he
  exact ⟨_, rfl, _, _, _, [], _, [], hW', trodAll_mk1 (shut_bool Try.underlying4 _), (trodAll_cons_mk (Below.trod laidOut (by kernel_rfl) (of_decide_eq_true (by kernel_rfl)) k0 bel lt0) (trodAll_cons_mk (Below.trod laidOut (by kernel_rfl) (of_decide_eq_true (by kernel_rfl)) k1 bel lt1) trodAll_mk0)), rfl, bel.frame _, fun h => by cases h⟩

theorem over : Rows.fnExactShardOfRow.holds Try.pinned (OpenSpec.ofChange Rows.fnExactShardOfSpec) :=
  OpenClaim.holds_of_wide 9 Try.f9 rfl rfl rfl rfl rfl rfl rfl ⟨rfl, rfl, rfl, rfl, rfl⟩ rfl rfl rfl rfl rfl (by kernel_rfl) Try.func9 (by kernel_rfl)
    (of_decide_eq_true (by kernel_rfl)) (by unfold Func.isWrapper; first | (rw [if_pos (by decide +kernel)]; kernel_rfl) | (rw [if_neg (by decide +kernel)]; exact ⟨rfl, rfl⟩))
    (fun os started H enc _ => lifted os started H enc)

theorem proved : Rows.FnExactShardOfSaid := over
#print axioms proved
end Go.Proofs.Ytiffhjofabaflaa.fnExactShardOf
