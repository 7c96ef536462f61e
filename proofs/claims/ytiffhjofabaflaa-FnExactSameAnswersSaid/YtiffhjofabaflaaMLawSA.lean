/-
  The walk of the law FnExactSameAnswers. No statement is proved here.
-/
import Derived.Laws.Cells
import Derived.Laws.Tables
import Derived.Test.YtiffhjofabaflaaWalk
import Derived.Test.YtiffhjofabaflaaMSameAns
import Derived.Deep.DeepCutAuto
namespace Go.Proofs.Ytiffhjofabaflaa
open Go.RowKit
set_option linter.unusedVariables false

theorem loadCells_box {V : World} {g : Nat} {t : TypeId} {cs : Array Value} (h : Box V g t cs) : (loadCells ⟨g, 0, none⟩ cs.size).run Try.prog V = .ok cs V := by
  have := run_loadCells_list (P := Try.prog) V ⟨g, 0, none⟩ cs.toList (fun j v hv => by
    have hadd : (⟨g, 0, none⟩ : Addr).add j = ⟨g, j, none⟩ := by unfold Addr.add; split <;> simp_all
    rw [hadd, h.look j]
    simpa using hv)
  simpa using this
theorem loadAt_agg {V : World} {g : Nat} {t T : TypeId} {cs : Array Value} (h : Box V g t cs) (hi : (isAgg T).run Try.prog V = .ok true V) (hz : (sizeOf T).run Try.prog V = .ok cs.size V) :
    (Instr.loadAt T (.pointer (some ⟨g, 0, none⟩))).run Try.prog V = .ok (.agg cs) V := by
  have hl := loadCells_box h
  simp only [Instr.loadAt, Instr.sureAddr, Sem.run_bind, Sem.run_pure, Result.andThen, loadVar, hi, hz, if_true, hl]
theorem wpList_load_agg {ops : Array Oper} {rest : List Oper} {o : Oper} {a : Act} {Q : Exit → Act → World → Prop} {w : World} {T : TypeId} (hgd : o.guard = none) (x : Operand) (ho : o.op = .load T x)
    {g : Nat} {t : TypeId} {cs : Array Value} (hx : a.eval x = .pointer (some ⟨g, 0, none⟩)) (h : Box w g t cs) (hi : (isAgg T).run Try.prog w = .ok true w) (hz : (sizeOf T).run Try.prog w = .ok cs.size w)
    (k : wpList Try.prog ops Q rest (a.put o.dst (.agg cs)) w) : wpList Try.prog ops Q (o :: rest) a w := by
  refine wpList_plain hgd fun K hK => ?_
  have hl := loadAt_agg h hi hz
  unfold Oper.wp
  simp only [execOp, ho, hx, Sem.run_bind, hl, Result.andThen_ok, Sem.run_pure]
  exact hK _ _ k
theorem exec_load_agg {ev : Operand → Value} {o : Oper} {T : TypeId} {x : Operand} {g : Nat} {cs : Array Value} {W : World} (ho : o.op = .load T x) (hx : ev x = .pointer (some ⟨g, 0, none⟩))
    (hl : (Instr.loadAt T (.pointer (some ⟨g, 0, none⟩))).run Try.prog W = .ok (.agg cs) W) : (execOp ev o).run Try.prog W = .ok (.value (.agg cs)) W := by
  simp only [execOp, ho, hx, Sem.run_bind, hl, Result.andThen_ok, Sem.run_pure]
theorem storeAt_agg {V : World} {g : Nat} {T : TypeId} {old cs : Array Value} (h : Box V g T old) (hi : (Try.prog.info? T).map (·.size) = some cs.size) (hs : old.size = cs.size) (h1 : cs.all (·.oneCell') = true) :
    (Instr.storeAt T (.pointer (some ⟨g, 0, none⟩)) (.agg cs)).run Try.prog V = .ok () (V.setRow g cs) := by
  simp only [Instr.storeAt, Instr.sureAddr, Sem.run_bind, Sem.run_pure, Result.andThen]
  exact run_storeVar_row V g T T old cs h hi hs h1
theorem wpList_store_agg {ops : Array Oper} {rest : List Oper} {o : Oper} {a : Act} {Q : Exit → Act → World → Prop} {w : World} {T : TypeId} (hgd : o.guard = none) (x y : Operand) (ho : o.op = .store T x y)
    {g : Nat} {old cs : Array Value} (hx : a.eval x = .pointer (some ⟨g, 0, none⟩)) (hy : a.eval y = .agg cs) (h : Box w g T old) (hi : (Try.prog.info? T).map (·.size) = some cs.size) (hs : old.size = cs.size) (h1 : cs.all (·.oneCell') = true)
    (k : wpList Try.prog ops Q rest (a.put o.dst undef) (w.setRow g cs)) : wpList Try.prog ops Q (o :: rest) a w := by
  refine wpList_plain hgd fun K hK => ?_
  have hl := storeAt_agg h hi hs h1
  unfold Oper.wp
  simp only [execOp, ho, hx, hy, Sem.run_bind, hl, Result.andThen_ok, Sem.run_pure]
  exact hK _ _ k
theorem Box.row {w : World} {g : Nat} {t : TypeId} {cs cs' : Array Value} (h : Box w g t cs) : Box (w.setRow g cs') g t cs' := by
  unfold Box at h ⊢
  obtain ⟨hlt, hk⟩ := Array.getElem?_eq_some_iff.1 h
  show (w.heap.modify g _)[g]? = _
  rw [Array.getElem?_eq_getElem (by rw [Array.size_modify]; exact hlt), Array.getElem_modify_self, hk]
theorem row_grown (w : World) (g : Nat) (cs : Array Value) : w.grownBy (w.setRow g cs) (some g) :=
  ⟨rfl, rfl, rfl, by simp [World.setRow], fun k _ hk => by
    show (w.heap.modify g _)[k]? = _
    rw [Array.getElem?_modify, if_neg (fun e => hk (by rw [e]))]⟩
/-- A new block, filled at once. -/
theorem below_made (w : World) (t : TypeId) (z cs : Array Value) : Below w.heap.size w ((w.alloc (.cells z t)).setRow w.heap.size cs) :=
  ((Below.refl _ _).alloc (Nat.le_refl _) _).grown (row_grown _ _ _) (by simp) (fun k e => by injection e with e; omega)
theorem box_made (w : World) (t : TypeId) (z cs : Array Value) : Box ((w.alloc (.cells z t)).setRow w.heap.size cs) w.heap.size t cs := (Box.made w t z).row
theorem size_made (w : World) (t : TypeId) (z cs : Array Value) : w.heap.size + 1 = ((w.alloc (.cells z t)).setRow w.heap.size cs).heap.size := by simp [World.setRow]

end Go.Proofs.Ytiffhjofabaflaa

namespace Go.Proofs.Ytiffhjofabaflaa
open Go.RowKit
set_option linter.unusedVariables false

/-- The cells of an answer, as one word. -/
def ansArr (a : AnsM) (A : Option Addr) (n c : Nat) (B : Option Addr) (m d : Nat) (E : Option Addr) (k f : Nat) (G : Option Addr) (g j : Nat) : Array Value := #[.int .i64 a.code, .bool a.ch, .int .i64 a.l.age, .int .i64 a.l.options, .int .i64 a.l.typ, .int .i64 a.l.id, .int .i64 a.l.adv, .int .i64 a.l.seq, .slice A n c, .slice B m d, .int .i64 a.l.mask, .int .i64 a.l.cost, .int .i64 a.now, .slice E k f, .bool a.mrk, .slice G g j]
theorem ansArr_one (a : AnsM) (A B E G : Option Addr) (n c m d k f g j : Nat) : ((ansArr a A n c B m d E k f G g j)).all (·.oneCell') = true := by
  refine Array.all_eq_true_iff_forall_mem.2 fun v hv => ?_
  simp only [ansArr, List.mem_toArray, List.mem_cons, List.not_mem_nil, or_false] at hv
  rcases hv with rfl | rfl | rfl | rfl | rfl | rfl | rfl | rfl | rfl | rfl | rfl | rfl | rfl | rfl | rfl | rfl <;> rfl
theorem szAnswerO (a : AnsM) (q : Bool) (lo hi : Nat) (A B E G : Option Addr) (n c m d k f g j : Nat) (left : Int) (w : World) (ha : AnsIn q lo hi w A n B m E k G g a) (hh : hi ≤ w.heap.size) (hf : AnsFit maxLen a) (h0 : 0 ≤ left) (h1 : left ≤ 1048576) :
    Calls Try.prog 78 #[.agg (ansArr a A n c B m d E k f G g j), .int .i64 left] w fun e w' => e = .returned (.int .i64 (szr left (totA a))) ∧ Below w.heap.size w w' :=
  szAnswer_any a q lo hi A B E G n c m d k f g j left w ha hh hf h0 h1
theorem toAnswerO (a : AnsM) (q : Bool) (lo hi : Nat) (A B E G : Option Addr) (n c m d k f g j : Nat) (w : World) (ha : AnsIn q lo hi w A n B m E k G g a) (hh : hi ≤ w.heap.size) (hf : AnsFit 1048576 a) :
    Calls Try.prog 80 #[.agg (ansArr a A n c B m d E k f G g j)] w fun e w' => ∃ A2 B2 E2 G2, e = .returned (.agg (ansArr a A2 n n B2 m m E2 k k G2 g g)) ∧ Kept w.heap.size w'.heap.size (AnsK true w.heap.size w'.heap.size A2 n B2 m E2 k G2 g a) w' ∧ Below w.heap.size w w' :=
  toAnswer_any a q lo hi A B E G n c m d k f g j w ha hh hf
theorem eqAnswerO (a : AnsM) (q1 q2 : Bool) (l1 h1 l2 h2 : Nat) (A B E G : Option Addr) (n c m d k f g j : Nat) (A2 B2 E2 G2 : Option Addr) (c2 d2 f2 j2 : Nat) (w : World) (ha : AnsIn q1 l1 h1 w A n B m E k G g a) (hb : AnsIn q2 l2 h2 w A2 n B2 m E2 k G2 g a) (hh1 : h1 ≤ w.heap.size) (hh2 : h2 ≤ w.heap.size) (hf : AnsFit 1048576 a) :
    Calls Try.prog 82 #[.agg (ansArr a A n c B m d E k f G g j), .agg (ansArr a A2 n c2 B2 m d2 E2 k f2 G2 g j2)] w fun e w' => e = .returned (.bool true) ∧ Below w.heap.size w w' :=
  eqAnswer_yes a q1 q2 l1 h1 l2 h2 A B E G n c m d k f g j A2 B2 E2 G2 c2 d2 f2 j2 w ha hb hh1 hh2 hf
theorem sameAnswersO (a b : AnsM) (q1 q2 : Bool) (l1 h1 l2 h2 : Nat) (A B E G : Option Addr) (n c m d k f g j : Nat) (A2 B2 E2 G2 : Option Addr) (n2 c2 m2 d2 k2 f2 g2 j2 : Nat) (r : Bool) (w : World) (ha : AnsIn q1 l1 h1 w A n B m E k G g a) (hb : AnsIn q2 l2 h2 w A2 n2 B2 m2 E2 k2 G2 g2 b) (hh1 : h1 ≤ w.heap.size) (hh2 : h2 ≤ w.heap.size) (hf : AnsFit 1048576 a) (hf2 : AnsFit 1048576 b) (hr : r = true ↔ a = b) :
    Calls Try.prog 81 #[.agg (ansArr a A n c B m d E k f G g j), .agg (ansArr b A2 n2 c2 B2 m2 d2 E2 k2 f2 G2 g2 j2)] w fun e w' => e = .returned (.bool r) ∧ Below w.heap.size w w' :=
  sameAnswers_any a b q1 q2 l1 h1 l2 h2 A B E G n c m d k f g j A2 B2 E2 G2 n2 c2 m2 d2 k2 f2 g2 j2 r w ha hb hh1 hh2 hf hf2 hr
theorem specSameAnswersO (a b : AnsM) (q1 q2 : Bool) (l1 h1 l2 h2 : Nat) (A B E G : Option Addr) (n c m d k f g j : Nat) (A2 B2 E2 G2 : Option Addr) (n2 c2 m2 d2 k2 f2 g2 j2 : Nat) (r : Bool) (w : World) (ha : AnsIn q1 l1 h1 w A n B m E k G g a) (hb : AnsIn q2 l2 h2 w A2 n2 B2 m2 E2 k2 G2 g2 b) (hh1 : h1 ≤ w.heap.size) (hh2 : h2 ≤ w.heap.size) (hf : AnsFit 1048576 a) (hf2 : AnsFit 1048576 b) (hr : r = true ↔ a = b) :
    Calls Try.prog 79 #[.agg (ansArr a A n c B m d E k f G g j), .agg (ansArr b A2 n2 c2 B2 m2 d2 E2 k2 f2 G2 g2 j2)] w fun e w' => e = .returned (.bool r) ∧ Below w.heap.size w w' :=
  specSameAnswers_any a b q1 q2 l1 h1 l2 h2 A B E G n c m d k f g j A2 B2 E2 G2 n2 c2 m2 d2 k2 f2 g2 j2 r w ha hb hh1 hh2 hf hf2 hr

end Go.Proofs.Ytiffhjofabaflaa

namespace Go.Proofs.Ytiffhjofabaflaa
open Go.RowKit
set_option linter.unusedVariables false

set_option maxRecDepth 100000 in
set_option maxHeartbeats 12800000 in
theorem law_SameAnswersO (a0 : AnsM) (q0 : Bool) (lo0 hi0 : Nat) (A0 B0 E0 G0 : Option Addr) (n0 c0 m0 d0 k0 f0 g0 j0 : Nat) (a1 : AnsM) (q1 : Bool) (lo1 hi1 : Nat) (A1 B1 E1 G1 : Option Addr) (n1 c1 m1 d1 k1 f1 g1 j1 : Nat) (w : World) (ha0 : AnsIn q0 lo0 hi0 w A0 n0 B0 m0 E0 k0 G0 g0 a0) (hh0 : hi0 ≤ w.heap.size) (hf0 : AnsFit maxLen a0) (ha1 : AnsIn q1 lo1 hi1 w A1 n1 B1 m1 E1 k1 G1 g1 a1) (hh1 : hi1 ≤ w.heap.size) (hf1 : AnsFit maxLen a1) :
    Calls Try.prog 10 #[.agg (ansArr a0 A0 n0 c0 B0 m0 d0 E0 k0 f0 G0 g0 j0), .agg (ansArr a1 A1 n1 c1 B1 m1 d1 E1 k1 f1 G1 g1 j1)] w fun e w' => e = .returned (.bool true) ∧ Below w.heap.size w w' := by
  obtain ⟨T0, hT0⟩ : ∃ T, totA a0 = T := ⟨_, rfl⟩
  obtain ⟨T1, hT1⟩ : ∃ T, totA a1 = T := ⟨_, rfl⟩
  have HT0 := Lib.hid hT0
  have HT1 := Lib.hid hT1
  by_cases hbig0 : (1048576 : Int) - (T0 : Int) < 0
  · have HR0 : Hid (szr 1048576 T0 = -1) := Lib.hid (szr_neg hbig0)
    clear hbig0 hT0 hT1
    have HB := Lib.hid (Below.refl w.heap.size w)
    have HA0 := ha0.kept hh0
    have HA1 := ha1.kept hh1
    have HFX0 := Lib.hid hf0
    have HFX1 := Lib.hid hf1
    clear ha0 ha1 hf0 hf1
    go_enter Try.func10, Try.ntmps10
    go_upto_region 2 with (fail)
    refine Code.wp_name ?_
    intro U1 hU1
    have hb : Below w.heap.size w U1 := by rw [hU1]; exact ((Below.refl _ _).alloc (Nat.le_refl _) _).alloc (by simp) _
    have HX0 : Kept w.heap.size (w.heap.size + 1) (BoxK w.heap.size 118 (ansArr a0 A0 n0 c0 B0 m0 d0 E0 k0 f0 G0 g0 j0)) U1 := by rw [hU1]; exact Kept.box ((Box.made _ _ _).over _)
    have HX1 : Kept (w.heap.size + 1) ((w.heap.size + 1) + 1) (BoxK (w.heap.size + 1) 118 (ansArr a1 A1 n1 c1 B1 m1 d1 E1 k1 f1 G1 g1 j1)) U1 := by rw [hU1]; exact Kept.box (Box.made_at _ _ _ (by simp))
    replace HA0 := HA0.below hb
    replace HA1 := HA1.below hb
    replace HB := Lib.hid (below_step HB.out hb)
    clear hb
    clear hU1
    go_wp2_with (refine wpList_load_agg rfl _ rfl rfl HX0.bx (by kernel_rfl) (by kernel_rfl) ?_)
    refine (szAnswerO a0 q0 lo0 hi0 A0 B0 E0 G0 n0 c0 m0 d0 k0 f0 g0 j0 (1048576) _ HA0.ans HA0.le HFX0.out (by omega) (by omega)).mono ?_
    rw [HT0.out]
    rw [HR0.out]
    rintro e w2 ⟨rfl, hb⟩
    replace HA0 := HA0.below hb
    replace HA1 := HA1.below hb
    replace HX0 := HX0.below hb
    replace HX1 := HX1.below hb
    replace HB := Lib.hid (below_step HB.out hb)
    clear hb
    go_wp2
    go_ret
    exact ⟨rfl, HB.out⟩
  have HR0 : Hid (szr 1048576 T0 = 1048576 - T0) := Lib.hid (szr_pos hbig0)
  have HF0 : Hid (AnsFit 1048576 a0) := Lib.hid (AnsFit.of_tot (by omega))
  by_cases hbig1 : (1048576 : Int) - (T0 : Int) - (T1 : Int) < 0
  · have HR1 : Hid (szr (1048576 - T0) T1 = -1) := Lib.hid (szr_neg hbig1)
    clear hbig1 hT0 hT1
    have HB := Lib.hid (Below.refl w.heap.size w)
    have HA0 := ha0.kept hh0
    have HA1 := ha1.kept hh1
    have HFX0 := Lib.hid hf0
    have HFX1 := Lib.hid hf1
    clear ha0 ha1 hf0 hf1
    go_enter Try.func10, Try.ntmps10
    go_upto_region 2 with (fail)
    refine Code.wp_name ?_
    intro U1 hU1
    have hb : Below w.heap.size w U1 := by rw [hU1]; exact ((Below.refl _ _).alloc (Nat.le_refl _) _).alloc (by simp) _
    have HX0 : Kept w.heap.size (w.heap.size + 1) (BoxK w.heap.size 118 (ansArr a0 A0 n0 c0 B0 m0 d0 E0 k0 f0 G0 g0 j0)) U1 := by rw [hU1]; exact Kept.box ((Box.made _ _ _).over _)
    have HX1 : Kept (w.heap.size + 1) ((w.heap.size + 1) + 1) (BoxK (w.heap.size + 1) 118 (ansArr a1 A1 n1 c1 B1 m1 d1 E1 k1 f1 G1 g1 j1)) U1 := by rw [hU1]; exact Kept.box (Box.made_at _ _ _ (by simp))
    replace HA0 := HA0.below hb
    replace HA1 := HA1.below hb
    replace HB := Lib.hid (below_step HB.out hb)
    clear hb
    clear hU1
    go_wp2_with (refine wpList_load_agg rfl _ rfl rfl HX0.bx (by kernel_rfl) (by kernel_rfl) ?_)
    refine (szAnswerO a0 q0 lo0 hi0 A0 B0 E0 G0 n0 c0 m0 d0 k0 f0 g0 j0 (1048576) _ HA0.ans HA0.le HFX0.out (by omega) (by omega)).mono ?_
    rw [HT0.out]
    rw [HR0.out]
    rintro e w2 ⟨rfl, hb⟩
    replace HA0 := HA0.below hb
    replace HA1 := HA1.below hb
    replace HX0 := HX0.below hb
    replace HX1 := HX1.below hb
    replace HB := Lib.hid (below_step HB.out hb)
    clear hb
    go_wp2_with (refine wpList_load_agg rfl _ rfl rfl HX1.bx (by kernel_rfl) (by kernel_rfl) ?_)
    refine (szAnswerO a1 q1 lo1 hi1 A1 B1 E1 G1 n1 c1 m1 d1 k1 f1 g1 j1 (1048576 - T0) _ HA1.ans HA1.le HFX1.out (by omega) (by omega)).mono ?_
    rw [HT1.out]
    rw [HR1.out]
    rintro e w3 ⟨rfl, hb⟩
    replace HA0 := HA0.below hb
    replace HA1 := HA1.below hb
    replace HX0 := HX0.below hb
    replace HX1 := HX1.below hb
    replace HB := Lib.hid (below_step HB.out hb)
    clear hb
    go_wp2
    go_ret
    exact ⟨rfl, HB.out⟩
  have HR1 : Hid (szr (1048576 - T0) T1 = 1048576 - T0 - T1) := Lib.hid (szr_pos hbig1)
  have HF1 : Hid (AnsFit 1048576 a1) := Lib.hid (AnsFit.of_tot (by omega))
  obtain ⟨r, hr⟩ : ∃ r : Bool, r = true ↔ a0 = a1 := by by_cases h : a0 = a1; exact ⟨true, by simp [h]⟩; exact ⟨false, by simp [h]⟩
  have HRR := Lib.hid hr
  clear hr hT0 hT1
  have HB := Lib.hid (Below.refl w.heap.size w)
  have HA0 := ha0.kept hh0
  have HA1 := ha1.kept hh1
  have HFX0 := Lib.hid hf0
  have HFX1 := Lib.hid hf1
  clear ha0 ha1 hf0 hf1
  go_enter Try.func10, Try.ntmps10
  go_upto_region 2 with (fail)
  refine Code.wp_name ?_
  intro U1 hU1
  have hb : Below w.heap.size w U1 := by rw [hU1]; exact ((Below.refl _ _).alloc (Nat.le_refl _) _).alloc (by simp) _
  have HX0 : Kept w.heap.size (w.heap.size + 1) (BoxK w.heap.size 118 (ansArr a0 A0 n0 c0 B0 m0 d0 E0 k0 f0 G0 g0 j0)) U1 := by rw [hU1]; exact Kept.box ((Box.made _ _ _).over _)
  have HX1 : Kept (w.heap.size + 1) ((w.heap.size + 1) + 1) (BoxK (w.heap.size + 1) 118 (ansArr a1 A1 n1 c1 B1 m1 d1 E1 k1 f1 G1 g1 j1)) U1 := by rw [hU1]; exact Kept.box (Box.made_at _ _ _ (by simp))
  replace HA0 := HA0.below hb
  replace HA1 := HA1.below hb
  replace HB := Lib.hid (below_step HB.out hb)
  clear hb
  clear hU1
  go_wp2_with (refine wpList_load_agg rfl _ rfl rfl HX0.bx (by kernel_rfl) (by kernel_rfl) ?_)
  refine (szAnswerO a0 q0 lo0 hi0 A0 B0 E0 G0 n0 c0 m0 d0 k0 f0 g0 j0 (1048576) _ HA0.ans HA0.le HFX0.out (by omega) (by omega)).mono ?_
  rw [HT0.out]
  rw [HR0.out]
  rintro e w2 ⟨rfl, hb⟩
  replace HA0 := HA0.below hb
  replace HA1 := HA1.below hb
  replace HX0 := HX0.below hb
  replace HX1 := HX1.below hb
  replace HB := Lib.hid (below_step HB.out hb)
  clear hb
  go_wp2_with (refine wpList_load_agg rfl _ rfl rfl HX1.bx (by kernel_rfl) (by kernel_rfl) ?_)
  refine (szAnswerO a1 q1 lo1 hi1 A1 B1 E1 G1 n1 c1 m1 d1 k1 f1 g1 j1 (1048576 - T0) _ HA1.ans HA1.le HFX1.out (by omega) (by omega)).mono ?_
  rw [HT1.out]
  rw [HR1.out]
  rintro e w3 ⟨rfl, hb⟩
  replace HA0 := HA0.below hb
  replace HA1 := HA1.below hb
  replace HX0 := HX0.below hb
  replace HX1 := HX1.below hb
  replace HB := Lib.hid (below_step HB.out hb)
  clear hb
  go_wp2_with fail
  clear hbig0 hbig1 HR0 HR1 HT0 HT1 HFX0 HFX1
  have SB : Hid (∀ W, Hid (Below w3.heap.size w3 W) → (fun W => (Instr.loadAt 118 (.pointer (some ⟨w.heap.size, 0, none⟩))).run Try.prog W = .ok (.agg (ansArr a0 A0 n0 c0 B0 m0 d0 E0 k0 f0 G0 g0 j0)) W ∧ (Instr.loadAt 118 (.pointer (some ⟨w.heap.size + 1, 0, none⟩))).run Try.prog W = .ok (.agg (ansArr a1 A1 n1 c1 B1 m1 d1 E1 k1 f1 G1 g1 j1)) W) W) := fun W h => ⟨loadAt_agg (HX0.below h.out).bx (by kernel_rfl) (by kernel_rfl), loadAt_agg (HX1.below h.out).bx (by kernel_rfl) (by kernel_rfl)⟩
  have V0 : Hid (Below w3.heap.size w3 w3.drew) := (Below.refl _ _).drew
  refine wp_region_held_drew (S := (fun W => (Instr.loadAt 118 (.pointer (some ⟨w.heap.size, 0, none⟩))).run Try.prog W = .ok (.agg (ansArr a0 A0 n0 c0 B0 m0 d0 E0 k0 f0 G0 g0 j0)) W ∧ (Instr.loadAt 118 (.pointer (some ⟨w.heap.size + 1, 0, none⟩))).run Try.prog W = .ok (.agg (ansArr a1 A1 n1 c1 B1 m1 d1 E1 k1 f1 G1 g1 j1)) W)) (by kernel_rfl) ?_ (fun hHeld => ?_)
  · exact SB.out _ V0
  refine wpAnyH_take (i := 0) (v := .agg (ansArr a0 A0 n0 c0 B0 m0 d0 E0 k0 f0 G0 g0 j0)) rfl (by kernel_rfl) (by kernel_rfl) (by kernel_rfl) (fun _ _ _ h => h) (Or.inl ⟨by rfl, fun W hSw => exec_load_agg rfl rfl hSw.1⟩) (by assumption) ?_
  (try simp only [List.getElem_toArray, List.getElem_cons_zero, Act.put, List.setIfInBounds_toArray, List.set_cons_zero, List.set_cons_succ])
  refine wpAnyH_take (i := 2) (v := .agg (ansArr a1 A1 n1 c1 B1 m1 d1 E1 k1 f1 G1 g1 j1)) rfl (by kernel_rfl) (by kernel_rfl) (by kernel_rfl) (fun _ _ _ h => h) (Or.inl ⟨by rfl, fun W hSw => exec_load_agg rfl rfl hSw.2⟩) (by assumption) ?_
  (try simp only [List.getElem_toArray, List.getElem_cons_succ, List.getElem_cons_zero, Act.put, List.setIfInBounds_toArray, List.set_cons_zero, List.set_cons_succ])
  refine wpAnyH_ready (rs := [1]) (by kernel_rfl) (by simp) ?_
  refine AllReadyH.cons rfl (fun K hK => ?_) AllReadyH.nil
  go_simp
  with_reducible refine (toAnswerO a0 q0 lo0 hi0 A0 B0 E0 G0 n0 c0 m0 d0 k0 f0 g0 j0 _ (HA0.below V0.out).ans (HA0.below V0.out).le HF0.out).mono ?_
  rintro e u4 ⟨As0, Bs0, Es0, Gs0, rfl, hk, hb⟩
  have V1 := Lib.hid (below_step V0.out hb)
  have HS0 := hk
  clear hk
  clear hb
  (try go_wp2_with fail)
  refine hK.out _ _ ?_ (fun hHeld => ?_)
  · (try dsimp only); exact SB.out _ V1
  clear hK K
  (try simp only [List.getElem_toArray, List.getElem_cons_succ, List.getElem_cons_zero, Act.put, List.setIfInBounds_toArray, List.set_cons_zero, List.set_cons_succ])
  refine wpAnyH_ready (rs := [3]) (by kernel_rfl) (by simp) ?_
  refine AllReadyH.cons rfl (fun K hK => ?_) AllReadyH.nil
  go_simp
  with_reducible refine (toAnswerO a1 q1 lo1 hi1 A1 B1 E1 G1 n1 c1 m1 d1 k1 f1 g1 j1 _ (HA1.below V1.out).ans (HA1.below V1.out).le HF1.out).mono ?_
  rintro e u5 ⟨As1, Bs1, Es1, Gs1, rfl, hk, hb⟩
  have V2 := Lib.hid (below_step V1.out hb)
  replace HS0 := HS0.below hb
  have HS1 := hk
  clear hk
  clear hb
  (try go_wp2_with fail)
  refine hK.out _ _ ?_ (fun hHeld => ?_)
  · (try dsimp only); exact SB.out _ V2
  clear hK K
  (try simp only [List.getElem_toArray, List.getElem_cons_succ, List.getElem_cons_zero, Act.put, List.setIfInBounds_toArray, List.set_cons_zero, List.set_cons_succ])
  refine wpAnyH_ready (rs := [4]) (by kernel_rfl) (by simp) ?_
  refine AllReadyH.cons rfl (fun K hK => ?_) AllReadyH.nil
  go_simp
  with_reducible refine (specSameAnswersO a0 a1 true true _ _ _ _ As0 Bs0 Es0 Gs0 n0 n0 m0 m0 k0 k0 g0 g0 As1 Bs1 Es1 Gs1 n1 n1 m1 m1 k1 k1 g1 g1 r _ HS0.ans HS1.ans HS0.le HS1.le HF0.out HF1.out HRR.out).mono ?_
  rintro e u6 ⟨rfl, hb⟩
  have V3 := Lib.hid (below_step V2.out hb)
  clear hb
  (try go_wp2_with fail)
  refine hK.out _ _ ?_ (fun hHeld => ?_)
  · (try dsimp only); exact SB.out _ V3
  clear hK K
  (try simp only [List.getElem_toArray, List.getElem_cons_succ, List.getElem_cons_zero, Act.put, List.setIfInBounds_toArray, List.set_cons_zero, List.set_cons_succ])
  refine wpAnyH_take (i := 5) (v := ?v3) rfl (by kernel_rfl) (by kernel_rfl) (by kernel_rfl) (fun _ _ _ h => h) (Or.inl ⟨by rfl, ?hy3⟩) (by assumption) ?rest3
  case hy3 => (intro W hSw; (go_simp <;> with_reducible rfl))
  (try simp only [List.getElem_toArray, List.getElem_cons_succ, List.getElem_cons_zero, Act.put, List.setIfInBounds_toArray, List.set_cons_zero, List.set_cons_succ])
  refine wpAnyH_done (by kernel_rfl) ?_ _
  have hb := V3.out
  clear SB V0 hHeld V1 V2 V3
  replace HA0 := HA0.below hb
  replace HA1 := HA1.below hb
  replace HX0 := HX0.below hb
  replace HX1 := HX1.below hb
  replace HB := Lib.hid (below_step HB.out hb)
  clear hb
  clear HS0 HS1
  go_wp2_with (refine wpList_load_agg rfl _ rfl rfl HX0.bx (by kernel_rfl) (by kernel_rfl) ?_)
  refine (toAnswerO a0 q0 lo0 hi0 A0 B0 E0 G0 n0 c0 m0 d0 k0 f0 g0 j0 _ HA0.ans HA0.le HF0.out).mono ?_
  rintro e w7 ⟨Ax0, Bx0, Ex0, Gx0, rfl, hk, hb⟩
  replace HA0 := HA0.below hb
  replace HA1 := HA1.below hb
  replace HX0 := HX0.below hb
  replace HX1 := HX1.below hb
  replace HB := Lib.hid (below_step HB.out hb)
  clear hb
  have HG0 := hk; clear hk
  go_upto_region 10 with (refine wpList_store_agg rfl _ _ rfl rfl rfl (Box.made w7 128 _) (by kernel_rfl) rfl (ansArr_one _ _ _ _ _ _ _ _ _ _ _ _ _) ?_)
  refine Code.wp_name ?_
  intro U8 hU8
  have hb : Below w7.heap.size w7 U8 := by rw [hU8]; exact below_made _ _ _ _
  have HY0 : Kept w7.heap.size (w7.heap.size + 1) (BoxK w7.heap.size 128 (ansArr a0 Ax0 n0 n0 Bx0 m0 m0 Ex0 k0 k0 Gx0 g0 g0)) U8 := by rw [hU8]; exact Kept.box (box_made _ _ _ _)
  replace HA0 := HA0.below hb
  replace HA1 := HA1.below hb
  replace HX0 := HX0.below hb
  replace HX1 := HX1.below hb
  replace HG0 := HG0.below hb
  replace HB := Lib.hid (below_step HB.out hb)
  clear hb
  clear hU8
  go_wp2_with (refine wpList_load_agg rfl _ rfl rfl HX1.bx (by kernel_rfl) (by kernel_rfl) ?_)
  refine (toAnswerO a1 q1 lo1 hi1 A1 B1 E1 G1 n1 c1 m1 d1 k1 f1 g1 j1 _ HA1.ans HA1.le HF1.out).mono ?_
  rintro e w9 ⟨Ax1, Bx1, Ex1, Gx1, rfl, hk, hb⟩
  replace HA0 := HA0.below hb
  replace HA1 := HA1.below hb
  replace HX0 := HX0.below hb
  replace HX1 := HX1.below hb
  replace HG0 := HG0.below hb
  replace HY0 := HY0.below hb
  replace HB := Lib.hid (below_step HB.out hb)
  clear hb
  have HG1 := hk; clear hk
  go_upto_region 11 with (refine wpList_store_agg rfl _ _ rfl rfl rfl (Box.made w9 128 _) (by kernel_rfl) rfl (ansArr_one _ _ _ _ _ _ _ _ _ _ _ _ _) ?_)
  refine Code.wp_name ?_
  intro U10 hU10
  have hb : Below w9.heap.size w9 U10 := by rw [hU10]; exact below_made _ _ _ _
  have HY1 : Kept w9.heap.size (w9.heap.size + 1) (BoxK w9.heap.size 128 (ansArr a1 Ax1 n1 n1 Bx1 m1 m1 Ex1 k1 k1 Gx1 g1 g1)) U10 := by rw [hU10]; exact Kept.box (box_made _ _ _ _)
  replace HA0 := HA0.below hb
  replace HA1 := HA1.below hb
  replace HX0 := HX0.below hb
  replace HX1 := HX1.below hb
  replace HG0 := HG0.below hb
  replace HY0 := HY0.below hb
  replace HG1 := HG1.below hb
  replace HB := Lib.hid (below_step HB.out hb)
  clear hb
  clear hU10
  go_wp2_with (first | (refine wpList_load_agg rfl _ rfl rfl HY0.bx (by kernel_rfl) (by kernel_rfl) ?_) | (refine wpList_load_agg rfl _ rfl rfl HY1.bx (by kernel_rfl) (by kernel_rfl) ?_))
  refine (sameAnswersO a0 a1 true true _ _ _ _ Ax0 Bx0 Ex0 Gx0 n0 n0 m0 m0 k0 k0 g0 g0 Ax1 Bx1 Ex1 Gx1 n1 n1 m1 m1 k1 k1 g1 g1 r _ HG0.ans HG1.ans HG0.le HG1.le HF0.out HF1.out HRR.out).mono ?_
  rintro e w11 ⟨rfl, hb⟩
  replace HA0 := HA0.below hb
  replace HA1 := HA1.below hb
  replace HX0 := HX0.below hb
  replace HX1 := HX1.below hb
  replace HG0 := HG0.below hb
  replace HY0 := HY0.below hb
  replace HG1 := HG1.below hb
  replace HY1 := HY1.below hb
  replace HB := Lib.hid (below_step HB.out hb)
  clear hb
  go_wp2_with fail
  have SB : Hid (∀ W, Hid (Below w11.heap.size w11 W) → (fun W => (Instr.loadAt 128 (.pointer (some ⟨w7.heap.size, 0, none⟩))).run Try.prog W = .ok (.agg (ansArr a0 Ax0 n0 n0 Bx0 m0 m0 Ex0 k0 k0 Gx0 g0 g0)) W ∧ (Instr.loadAt 118 (.pointer (some ⟨w.heap.size, 0, none⟩))).run Try.prog W = .ok (.agg (ansArr a0 A0 n0 c0 B0 m0 d0 E0 k0 f0 G0 g0 j0)) W) W) := fun W h => ⟨loadAt_agg (HY0.below h.out).bx (by kernel_rfl) (by kernel_rfl), loadAt_agg (HX0.below h.out).bx (by kernel_rfl) (by kernel_rfl)⟩
  have V0 : Hid (Below w11.heap.size w11 w11.drew) := (Below.refl _ _).drew
  refine wp_region_held_drew (S := (fun W => (Instr.loadAt 128 (.pointer (some ⟨w7.heap.size, 0, none⟩))).run Try.prog W = .ok (.agg (ansArr a0 Ax0 n0 n0 Bx0 m0 m0 Ex0 k0 k0 Gx0 g0 g0)) W ∧ (Instr.loadAt 118 (.pointer (some ⟨w.heap.size, 0, none⟩))).run Try.prog W = .ok (.agg (ansArr a0 A0 n0 c0 B0 m0 d0 E0 k0 f0 G0 g0 j0)) W)) (by kernel_rfl) ?_ (fun hHeld => ?_)
  · exact SB.out _ V0
  refine wpAnyH_take (i := 0) (v := .agg (ansArr a0 Ax0 n0 n0 Bx0 m0 m0 Ex0 k0 k0 Gx0 g0 g0)) rfl (by kernel_rfl) (by kernel_rfl) (by kernel_rfl) (fun _ _ _ h => h) (Or.inl ⟨by rfl, fun W hSw => exec_load_agg rfl rfl hSw.1⟩) (by assumption) ?_
  (try simp only [List.getElem_toArray, List.getElem_cons_zero, Act.put, List.setIfInBounds_toArray, List.set_cons_zero, List.set_cons_succ])
  refine wpAnyH_take (i := 1) (v := .agg (ansArr a0 A0 n0 c0 B0 m0 d0 E0 k0 f0 G0 g0 j0)) rfl (by kernel_rfl) (by kernel_rfl) (by kernel_rfl) (fun _ _ _ h => h) (Or.inl ⟨by rfl, fun W hSw => exec_load_agg rfl rfl hSw.2⟩) (by assumption) ?_
  (try simp only [List.getElem_toArray, List.getElem_cons_succ, List.getElem_cons_zero, Act.put, List.setIfInBounds_toArray, List.set_cons_zero, List.set_cons_succ])
  refine wpAnyH_ready (rs := [2]) (by kernel_rfl) (by simp) ?_
  refine AllReadyH.cons rfl (fun K hK => ?_) AllReadyH.nil
  go_simp
  with_reducible refine (toAnswerO a0 q0 lo0 hi0 A0 B0 E0 G0 n0 c0 m0 d0 k0 f0 g0 j0 _ (HA0.below V0.out).ans (HA0.below V0.out).le HF0.out).mono ?_
  rintro e u12 ⟨Az0, Bz0, Ez0, Gz0, rfl, hk, hb⟩
  have V1 := Lib.hid (below_step V0.out hb)
  have HZ0 := hk
  clear hk
  clear hb
  (try go_wp2_with fail)
  refine hK.out _ _ ?_ (fun hHeld => ?_)
  · (try dsimp only); exact SB.out _ V1
  clear hK K
  (try simp only [List.getElem_toArray, List.getElem_cons_succ, List.getElem_cons_zero, Act.put, List.setIfInBounds_toArray, List.set_cons_zero, List.set_cons_succ])
  refine wpAnyH_ready (rs := [3]) (by kernel_rfl) (by simp) ?_
  refine AllReadyH.cons rfl (fun K hK => ?_) AllReadyH.nil
  go_simp
  with_reducible refine (eqAnswerO a0 true true _ _ _ _ Ax0 Bx0 Ex0 Gx0 n0 n0 m0 m0 k0 k0 g0 g0 Az0 Bz0 Ez0 Gz0 n0 m0 k0 g0 _ (HG0.below V1.out).ans HZ0.ans (HG0.below V1.out).le HZ0.le HF0.out).mono ?_
  rintro e u13 ⟨rfl, hb⟩
  have V2 := Lib.hid (below_step V1.out hb)
  clear hb
  (try go_wp2_with fail)
  refine hK.out _ _ ?_ (fun hHeld => ?_)
  · (try dsimp only); exact SB.out _ V2
  clear hK K
  (try simp only [List.getElem_toArray, List.getElem_cons_succ, List.getElem_cons_zero, Act.put, List.setIfInBounds_toArray, List.set_cons_zero, List.set_cons_succ])
  refine wpAnyH_take (i := 4) (v := ?v6) rfl (by kernel_rfl) (by kernel_rfl) (by kernel_rfl) (fun _ _ _ h => h) (Or.inl ⟨by rfl, ?hy6⟩) (by assumption) ?rest6
  case hy6 => (intro W hSw; (go_simp <;> with_reducible rfl))
  (try simp only [List.getElem_toArray, List.getElem_cons_succ, List.getElem_cons_zero, Act.put, List.setIfInBounds_toArray, List.set_cons_zero, List.set_cons_succ])
  refine wpAnyH_done (by kernel_rfl) ?_ _
  have hb := V2.out
  clear SB V0 hHeld V1 V2
  replace HA0 := HA0.below hb
  replace HA1 := HA1.below hb
  replace HX0 := HX0.below hb
  replace HX1 := HX1.below hb
  replace HG0 := HG0.below hb
  replace HY0 := HY0.below hb
  replace HG1 := HG1.below hb
  replace HY1 := HY1.below hb
  replace HB := Lib.hid (below_step HB.out hb)
  clear hb
  clear HZ0
  go_wp2_with fail
  have SB : Hid (∀ W, Hid (Below u13.heap.size u13 W) → (fun W => (Instr.loadAt 128 (.pointer (some ⟨w9.heap.size, 0, none⟩))).run Try.prog W = .ok (.agg (ansArr a1 Ax1 n1 n1 Bx1 m1 m1 Ex1 k1 k1 Gx1 g1 g1)) W ∧ (Instr.loadAt 118 (.pointer (some ⟨w.heap.size + 1, 0, none⟩))).run Try.prog W = .ok (.agg (ansArr a1 A1 n1 c1 B1 m1 d1 E1 k1 f1 G1 g1 j1)) W) W) := fun W h => ⟨loadAt_agg (HY1.below h.out).bx (by kernel_rfl) (by kernel_rfl), loadAt_agg (HX1.below h.out).bx (by kernel_rfl) (by kernel_rfl)⟩
  have V0 : Hid (Below u13.heap.size u13 u13.drew) := (Below.refl _ _).drew
  refine wp_region_held_drew (S := (fun W => (Instr.loadAt 128 (.pointer (some ⟨w9.heap.size, 0, none⟩))).run Try.prog W = .ok (.agg (ansArr a1 Ax1 n1 n1 Bx1 m1 m1 Ex1 k1 k1 Gx1 g1 g1)) W ∧ (Instr.loadAt 118 (.pointer (some ⟨w.heap.size + 1, 0, none⟩))).run Try.prog W = .ok (.agg (ansArr a1 A1 n1 c1 B1 m1 d1 E1 k1 f1 G1 g1 j1)) W)) (by kernel_rfl) ?_ (fun hHeld => ?_)
  · exact SB.out _ V0
  refine wpAnyH_take (i := 0) (v := .agg (ansArr a1 Ax1 n1 n1 Bx1 m1 m1 Ex1 k1 k1 Gx1 g1 g1)) rfl (by kernel_rfl) (by kernel_rfl) (by kernel_rfl) (fun _ _ _ h => h) (Or.inl ⟨by rfl, fun W hSw => exec_load_agg rfl rfl hSw.1⟩) (by assumption) ?_
  (try simp only [List.getElem_toArray, List.getElem_cons_zero, Act.put, List.setIfInBounds_toArray, List.set_cons_zero, List.set_cons_succ])
  refine wpAnyH_take (i := 1) (v := .agg (ansArr a1 A1 n1 c1 B1 m1 d1 E1 k1 f1 G1 g1 j1)) rfl (by kernel_rfl) (by kernel_rfl) (by kernel_rfl) (fun _ _ _ h => h) (Or.inl ⟨by rfl, fun W hSw => exec_load_agg rfl rfl hSw.2⟩) (by assumption) ?_
  (try simp only [List.getElem_toArray, List.getElem_cons_succ, List.getElem_cons_zero, Act.put, List.setIfInBounds_toArray, List.set_cons_zero, List.set_cons_succ])
  refine wpAnyH_ready (rs := [2]) (by kernel_rfl) (by simp) ?_
  refine AllReadyH.cons rfl (fun K hK => ?_) AllReadyH.nil
  go_simp
  with_reducible refine (toAnswerO a1 q1 lo1 hi1 A1 B1 E1 G1 n1 c1 m1 d1 k1 f1 g1 j1 _ (HA1.below V0.out).ans (HA1.below V0.out).le HF1.out).mono ?_
  rintro e u14 ⟨Az1, Bz1, Ez1, Gz1, rfl, hk, hb⟩
  have V1 := Lib.hid (below_step V0.out hb)
  have HZ1 := hk
  clear hk
  clear hb
  (try go_wp2_with fail)
  refine hK.out _ _ ?_ (fun hHeld => ?_)
  · (try dsimp only); exact SB.out _ V1
  clear hK K
  (try simp only [List.getElem_toArray, List.getElem_cons_succ, List.getElem_cons_zero, Act.put, List.setIfInBounds_toArray, List.set_cons_zero, List.set_cons_succ])
  refine wpAnyH_ready (rs := [3]) (by kernel_rfl) (by simp) ?_
  refine AllReadyH.cons rfl (fun K hK => ?_) AllReadyH.nil
  go_simp
  with_reducible refine (eqAnswerO a1 true true _ _ _ _ Ax1 Bx1 Ex1 Gx1 n1 n1 m1 m1 k1 k1 g1 g1 Az1 Bz1 Ez1 Gz1 n1 m1 k1 g1 _ (HG1.below V1.out).ans HZ1.ans (HG1.below V1.out).le HZ1.le HF1.out).mono ?_
  rintro e u15 ⟨rfl, hb⟩
  have V2 := Lib.hid (below_step V1.out hb)
  clear hb
  (try go_wp2_with fail)
  refine hK.out _ _ ?_ (fun hHeld => ?_)
  · (try dsimp only); exact SB.out _ V2
  clear hK K
  (try simp only [List.getElem_toArray, List.getElem_cons_succ, List.getElem_cons_zero, Act.put, List.setIfInBounds_toArray, List.set_cons_zero, List.set_cons_succ])
  refine wpAnyH_take (i := 4) (v := ?v9) rfl (by kernel_rfl) (by kernel_rfl) (by kernel_rfl) (fun _ _ _ h => h) (Or.inl ⟨by rfl, ?hy9⟩) (by assumption) ?rest9
  case hy9 => (intro W hSw; (go_simp <;> with_reducible rfl))
  (try simp only [List.getElem_toArray, List.getElem_cons_succ, List.getElem_cons_zero, Act.put, List.setIfInBounds_toArray, List.set_cons_zero, List.set_cons_succ])
  refine wpAnyH_done (by kernel_rfl) ?_ _
  have hb := V2.out
  clear SB V0 hHeld V1 V2
  replace HA0 := HA0.below hb
  replace HA1 := HA1.below hb
  replace HX0 := HX0.below hb
  replace HX1 := HX1.below hb
  replace HG0 := HG0.below hb
  replace HY0 := HY0.below hb
  replace HG1 := HG1.below hb
  replace HY1 := HY1.below hb
  replace HB := Lib.hid (below_step HB.out hb)
  clear hb
  clear HZ1
  go_wp2
  go_ret
  exact ⟨rfl, HB.out⟩

theorem law_SameAnswers (a0 : AnsM) (q0 : Bool) (lo0 hi0 : Nat) (A0 B0 E0 G0 : Option Addr) (n0 c0 m0 d0 k0 f0 g0 j0 : Nat) (a1 : AnsM) (q1 : Bool) (lo1 hi1 : Nat) (A1 B1 E1 G1 : Option Addr) (n1 c1 m1 d1 k1 f1 g1 j1 : Nat) (w : World) (ha0 : AnsIn q0 lo0 hi0 w A0 n0 B0 m0 E0 k0 G0 g0 a0) (hh0 : hi0 ≤ w.heap.size) (hf0 : AnsFit maxLen a0) (ha1 : AnsIn q1 lo1 hi1 w A1 n1 B1 m1 E1 k1 G1 g1 a1) (hh1 : hi1 ≤ w.heap.size) (hf1 : AnsFit maxLen a1) :
    Calls Try.prog 10 #[.agg #[.int .i64 a0.code, .bool a0.ch, .int .i64 a0.l.age, .int .i64 a0.l.options, .int .i64 a0.l.typ, .int .i64 a0.l.id, .int .i64 a0.l.adv, .int .i64 a0.l.seq, .slice A0 n0 c0, .slice B0 m0 d0, .int .i64 a0.l.mask, .int .i64 a0.l.cost, .int .i64 a0.now, .slice E0 k0 f0, .bool a0.mrk, .slice G0 g0 j0], .agg #[.int .i64 a1.code, .bool a1.ch, .int .i64 a1.l.age, .int .i64 a1.l.options, .int .i64 a1.l.typ, .int .i64 a1.l.id, .int .i64 a1.l.adv, .int .i64 a1.l.seq, .slice A1 n1 c1, .slice B1 m1 d1, .int .i64 a1.l.mask, .int .i64 a1.l.cost, .int .i64 a1.now, .slice E1 k1 f1, .bool a1.mrk, .slice G1 g1 j1]] w fun e w' => e = .returned (.bool true) ∧ Below w.heap.size w w' :=
  law_SameAnswersO a0 q0 lo0 hi0 A0 B0 E0 G0 n0 c0 m0 d0 k0 f0 g0 j0 a1 q1 lo1 hi1 A1 B1 E1 G1 n1 c1 m1 d1 k1 f1 g1 j1 w ha0 hh0 hf0 ha1 hh1 hf1

end Go.Proofs.Ytiffhjofabaflaa

