/-
  The program's SameAnswers answers as the model's and writes into no argument. No condition.
-/
import Derived.Test.YtiffhjofabaflaaRows
import Derived.WalkKit
import Derived.ProofKit
import Derived.OpenShut
import Derived.ShutString
import Derived.ChangeOld
import Derived.Below
import Derived.Test.YtiffhjofabaflaaMLawSA
import Derived.Test.YtiffhjofabaflaaMOpenAns
namespace Go.Proofs.Ytiffhjofabaflaa.fnExactSameAnswers
open Go.ChangeShapes Go.WideShapes Go.ChangeAt Go.RowKit
open Go.ChangeMaps (open_string shut_string)
set_option linter.unusedVariables false

theorem own : ownKnob Try.prog.godebug = none := by kernel_rfl
theorem laidOut : laidOutB Try.prog = true := by kernel_rfl

theorem walk (a0 : AnsM) (A0 B0 E0 G0 : Option Addr) (n0 c0 m0 d0 u0 f0 g0 j0 : Nat) (a1 : AnsM) (A1 B1 E1 G1 : Option Addr) (n1 c1 m1 d1 u1 f1 g1 j1 : Nat) (w : World) (hl0 : AnsIn false 0 w.heap.size w A0 n0 B0 m0 E0 u0 G0 g0 a0) (hn0 : AnsFit maxLen a0) (hl1 : AnsIn false 0 w.heap.size w A1 n1 B1 m1 E1 u1 G1 g1 a1) (hn1 : AnsFit maxLen a1) :
    Calls Try.prog 10 #[.agg (#[.int .i64 (a0.code), .bool (a0.ch), .int .i64 (a0.l.age), .int .i64 (a0.l.options), .int .i64 (a0.l.typ), .int .i64 (a0.l.id), .int .i64 (a0.l.adv), .int .i64 (a0.l.seq), .slice (A0) (n0) (c0), .slice (B0) (m0) (d0), .int .i64 (a0.l.mask), .int .i64 (a0.l.cost), .int .i64 (a0.now), .slice (E0) (u0) (f0), .bool (a0.mrk), .slice (G0) (g0) (j0)]), .agg (#[.int .i64 (a1.code), .bool (a1.ch), .int .i64 (a1.l.age), .int .i64 (a1.l.options), .int .i64 (a1.l.typ), .int .i64 (a1.l.id), .int .i64 (a1.l.adv), .int .i64 (a1.l.seq), .slice (A1) (n1) (c1), .slice (B1) (m1) (d1), .int .i64 (a1.l.mask), .int .i64 (a1.l.cost), .int .i64 (a1.now), .slice (E1) (u1) (f1), .bool (a1.mrk), .slice (G1) (g1) (j1)])] w fun e w' => e = .returned (.bool true) ∧ Below w.heap.size w w' := by
  exact law_SameAnswers a0 false 0 w.heap.size A0 B0 E0 G0 n0 c0 m0 d0 u0 f0 g0 j0 a1 false 0 w.heap.size A1 B1 E1 G1 n1 c1 m1 d1 u1 f1 g1 j1 w hl0 (Nat.le_refl _) hn0 hl1 (Nat.le_refl _) hn1

set_option maxRecDepth 100000 in
theorem lifted (os : Os) (started : os.Started) (H : Type) (enc : TypeId × Value → H) :
    ReturnsInHanded {} Try.checked os 10 .any (Rows.fnExactSameAnswersSpec.pre6 enc Try.prog Try.f10 Rows.fnExactSameAnswersRow.domain false) (Rows.fnExactSameAnswersSpec.post enc Try.prog Try.f10 false true false false) := by
  refine returnsInHanded_of_change (C := Try.checked) own started (by kernel_rfl) Try.func10
    (ChangeSpec.witness6 (enc := enc) (C := Try.checked) false ⟨#[], #[.agg #[.int .i64 0, .bool false, .int .i64 0, .int .i64 0, .int .i64 0, .int .i64 0, .int .i64 0, .int .i64 0, .slice none 0 0, .slice none 0 0, .int .i64 0, .int .i64 0, .int .i64 0, .slice none 0 0, .bool false, .slice none 0 0], .agg #[.int .i64 0, .bool false, .int .i64 0, .int .i64 0, .int .i64 0, .int .i64 0, .int .i64 0, .int .i64 0, .slice none 0 0, .slice none 0 0, .int .i64 0, .int .i64 0, .int .i64 0, .slice none 0 0, .bool false, .slice none 0 0]], []⟩ 8 (by kernel_rfl) (by kernel_rfl) (by kernel_rfl) (by kernel_rfl)) ?_
  intro W base args ds gs before hval0 hW hcnd _
  have hval : ∀ (j : Nat) t v, Try.f10.params[j]? = some t → args[j]? = some v → Value.okWide Try.prog W .any base t v := hval0
  have hW' := hW
  obtain ⟨p, q, hA0, hV, rfl, hfz, hnd⟩ := hW
  have hA : DataW.TrodAll enc Try.prog W 0 (fun _ => true) true Try.f10.params.toList args.toList ds p := hA0
  rw [Try.params10] at hA hval
  obtain ⟨v0, vs0, d0, ds0, p0, q0, hargs, rfl, rfl, h0, r0⟩ := trodAll_cons hA
  obtain ⟨v1, vs1, d1, ds1, p1, q1, rfl, rfl, rfl, h1, r1⟩ := trodAll_cons r0
  obtain ⟨rfl, rfl, rfl⟩ := trodAll_nil r1
  obtain rfl : args = #[v0, v1] := by cases args; simp_all
  obtain ⟨rfl, rfl⟩ := trodVars_none hV
  obtain ⟨cs0, rfl, hsz0⟩ := okWide_struct Try.underlying118 (hval 0 118 v0 rfl rfl)
  have k0 := h0
  have lt0 : ∀ x ∈ p0, x.block < W.heap.size := by obtain ⟨m, hm⟩ := k0; exact DataW.trod_lt m _ _ _ hm
  obtain ⟨fuel0, hf0⟩ := h0
  obtain ⟨a0, A0, B0, E0, G0, n0, c0, m0, d0, u0, f0, g0, j0, he0, hl0, hn0⟩ := open_answer hf0
  obtain rfl : cs0 = #[.int .i64 (a0.code), .bool (a0.ch), .int .i64 (a0.l.age), .int .i64 (a0.l.options), .int .i64 (a0.l.typ), .int .i64 (a0.l.id), .int .i64 (a0.l.adv), .int .i64 (a0.l.seq), .slice (A0) (n0) (c0), .slice (B0) (m0) (d0), .int .i64 (a0.l.mask), .int .i64 (a0.l.cost), .int .i64 (a0.now), .slice (E0) (u0) (f0), .bool (a0.mrk), .slice (G0) (g0) (j0)] := by cases cs0; simp [Value.cells] at he0; simp [he0]
  obtain ⟨cs1, rfl, hsz1⟩ := okWide_struct Try.underlying118 (hval 1 118 v1 rfl rfl)
  have k1 := h1
  have lt1 : ∀ x ∈ p1, x.block < W.heap.size := by obtain ⟨m, hm⟩ := k1; exact DataW.trod_lt m _ _ _ hm
  obtain ⟨fuel1, hf1⟩ := h1
  obtain ⟨a1, A1, B1, E1, G1, n1, c1, m1, d1, u1, f1, g1, j1, he1, hl1, hn1⟩ := open_answer hf1
  obtain rfl : cs1 = #[.int .i64 (a1.code), .bool (a1.ch), .int .i64 (a1.l.age), .int .i64 (a1.l.options), .int .i64 (a1.l.typ), .int .i64 (a1.l.id), .int .i64 (a1.l.adv), .int .i64 (a1.l.seq), .slice (A1) (n1) (c1), .slice (B1) (m1) (d1), .int .i64 (a1.l.mask), .int .i64 (a1.l.cost), .int .i64 (a1.now), .slice (E1) (u1) (f1), .bool (a1.mrk), .slice (G1) (g1) (j1)] := by cases cs1; simp [Value.cells] at he1; simp [he1]
  clear hA0 hval0
  refine (walk a0 A0 B0 E0 G0 n0 c0 m0 d0 u0 f0 g0 j0 a1 A1 B1 E1 G1 n1 c1 m1 d1 u1 f1 g1 j1 W hl0 hn0 hl1 hn1).mono fun e W' ⟨he, bel⟩ => ?_
  subst he
  exact ⟨_, rfl, _, _, _, [], _, [], hW', trodAll_mk1 (shut_bool Try.underlying4 _), (trodAll_cons_mk (Below.trod laidOut (by kernel_rfl) (of_decide_eq_true (by kernel_rfl)) k0 bel lt0) (trodAll_cons_mk (Below.trod laidOut (by kernel_rfl) (of_decide_eq_true (by kernel_rfl)) k1 bel lt1) trodAll_mk0)), rfl, bel.frame _, fun h => by cases h⟩

theorem over : Rows.fnExactSameAnswersRow.holds Try.pinned (OpenSpec.ofChange Rows.fnExactSameAnswersSpec) :=
  OpenClaim.holds_of_wide 10 Try.f10 rfl rfl rfl rfl rfl rfl rfl ⟨rfl, rfl, rfl, rfl, rfl⟩ rfl rfl rfl rfl rfl (by kernel_rfl) Try.func10 (by kernel_rfl)
    (of_decide_eq_true (by kernel_rfl)) (by unfold Func.isWrapper; first | (rw [if_pos (by decide +kernel)]; kernel_rfl) | (rw [if_neg (by decide +kernel)]; exact ⟨rfl, rfl⟩))
    (fun os started H enc _ => lifted os started H enc)

theorem proved : Rows.FnExactSameAnswersSaid := over
#print axioms proved
end Go.Proofs.Ytiffhjofabaflaa.fnExactSameAnswers
