/-
  The program's iterator over a dial's slots: what it yields, for whatever a loop's body does that keeps what lay. No statement is proved here.
-/
import Derived.RangeFuncNested
import Derived.RangeFuncBound
import Derived.RangeFuncCalls
import Derived.RangeFuncLeaves
import Derived.RangeFuncBox
import Derived.Shelf.Abstract
import Derived.Shelf.RegionOpen
import Derived.OwnWalkIn
import Derived.TacticsInMore
import Derived.LoopNIn
import Derived.LoopIn
import Derived.Test.YtakplomopbnekaaFoot
import Derived.Test.YtakplomopbnekaaTimerRows
import Derived.Test.YtakplomopbnekaaClone
namespace Go.Proofs.Ytakplomopbnekaa
open Go.RowKit Go.Shelf
set_option linter.unusedVariables false

/-- A slot's place. -/
abbrev S24 : Type := { k : Nat // k < 24 }
/-- The first k of them. -/
def upto : Nat → List S24
  | 0 => []
  | k + 1 => if h : k < 24 then upto k ++ [⟨k, h⟩] else upto k
theorem upto_succ {k : Nat} (h : k < 24) : upto (k + 1) = upto k ++ [⟨k, h⟩] := by simp [upto, h]
theorem upto_len {k : Nat} (h : k ≤ 24) : (upto k).length = k := by
  induction k with
  | zero => rfl
  | succ k ih => rw [upto_succ (by omega), List.length_append, ih (by omega)]; rfl
theorem upto_pre {k : Nat} (h : k ≤ 24) : upto k <+: upto 24 := by
  obtain ⟨d, hd⟩ : ∃ d, d + k = 24 := ⟨24 - k, by omega⟩
  induction d generalizing k with
  | zero => rw [show k = 24 by omega]; exact List.prefix_refl _
  | succ d ih => exact List.IsPrefix.trans (by rw [upto_succ (by omega)]; exact List.prefix_append _ _) (ih (k := k + 1) (by omega) (by omega))

/-- The cells of a dial. -/
def dialCells (now : Int) (s : Nat → Value) : Array Value := #[.int .i64 now, s 0, s 1, s 2, s 3, s 4, s 5, s 6, s 7, s 8, s 9, s 10, s 11, s 12, s 13, s 14, s 15, s 16, s 17, s 18, s 19, s 20, s 21, s 22, s 23]
theorem dialCells_at (now : Int) (s : Nat → Value) (k : Nat) (h : k < 24) : (dialCells now s)[1 + k]? = some (s k) := by
  rcases (show k = 0 ∨ k = 1 ∨ k = 2 ∨ k = 3 ∨ k = 4 ∨ k = 5 ∨ k = 6 ∨ k = 7 ∨ k = 8 ∨ k = 9 ∨ k = 10 ∨ k = 11 ∨ k = 12 ∨ k = 13 ∨ k = 14 ∨ k = 15 ∨ k = 16 ∨ k = 17 ∨ k = 18 ∨ k = 19 ∨ k = 20 ∨ k = 21 ∨ k = 22 ∨ k = 23 by omega) with h | h | h | h | h | h | h | h | h | h | h | h | h | h | h | h | h | h | h | h | h | h | h | h <;> subst h <;> rfl

theorem load_dial {V : World} {g : Nat} {t : TypeId} {now : Int} {s : Nat → Value} (h : Box V g t (dialCells now s)) : (loadCellsFrom ⟨g, 0, none⟩ 0 25 #[]).run Try.prog V = .ok (dialCells now s) V := by
  have := run_loadCells_list (P := Try.prog) V ⟨g, 0, none⟩ (dialCells now s).toList (fun j v hv => by
    have hadd : (⟨g, 0, none⟩ : Addr).add j = ⟨g, j, none⟩ := by unfold Addr.add; split <;> simp_all
    rw [hadd, h.look j]
    simpa using hv)
  simpa [loadCells, dialCells] using this

theorem loadAt_dial {V : World} {g : Nat} {t : TypeId} {now : Int} {s : Nat → Value} (h : Box V g t (dialCells now s)) : (Instr.loadAt 112 (.pointer (some ⟨g, 0, none⟩))).run Try.prog V = .ok (.agg (dialCells now s)) V := by
  have hl := load_dial h
  have hi : (isAgg 112).run Try.prog V = .ok true V := by kernel_rfl
  have hz : (sizeOf 112).run Try.prog V = .ok 25 V := by kernel_rfl
  simp only [Instr.loadAt, Instr.sureAddr, Sem.run_bind, Sem.run_pure, Result.andThen, loadVar, hi, hz, if_true, loadCells, hl]
theorem wpList_load_dial {ops : Array Oper} {rest : List Oper} {o : Oper} {a : Act} {Q : Exit → Act → World → Prop} {w : World} (hgd : o.guard = none) (x : Operand) (ho : o.op = .load 112 x)
    {g : Nat} {t : TypeId} {now : Int} {s : Nat → Value} (hx : a.eval x = .pointer (some ⟨g, 0, none⟩)) (h : Box w g t (dialCells now s))
    (k : wpList Try.prog ops Q rest (a.put o.dst (.agg (dialCells now s))) w) : wpList Try.prog ops Q (o :: rest) a w := by
  refine wpList_plain hgd fun K hK => ?_
  have hl := loadAt_dial h
  unfold Oper.wp
  simp only [execOp, ho, hx, Sem.run_bind, hl, Result.andThen_ok, Sem.run_pure]
  exact hK _ _ k

section
attribute [local go_sem] Oper.semAt_some

set_option maxRecDepth 100000 in
set_option maxHeartbeats 1000000 in
theorem slots1_in (n : Nat) (hn : 1 ≤ n) (l Bn : Nat) (now : Int) (s : Nat → Value) (J Jx : List S24 → World → Prop)
    (hY : ∀ pre (x : S24) W, J pre W → pre.length < 24 → YieldAt Fence.wide (n - 1) Try.prog l #[.int .i64 (x.1 : Int), s x.1] W fun e W' =>
      (e = .returned (.bool true) ∧ J (pre ++ [x]) W' ∧ SameB [Bn] W W') ∨ (e = .returned (.bool false) ∧ Jx (pre ++ [x]) W'))
    (W : World) (hc : ∀ k, k < 24 → W.cell? ⟨Bn, 1 + k, none⟩ = some (s k)) (h0 : J [] W) :
    CallsIn Fence.wide n Try.prog 135 #[.func (.yield l) #[] #[], .pointer (some ⟨Bn, 0, none⟩)] W fun e W' => (∃ v, e = .returned v) ∧
      ((∃ ys, ys = upto 24 ∧ J ys W') ∨ (∃ pre, pre <+: upto 24 ∧ Jx pre W')) := by
  refine callsIn_of_wp Try.func135 rfl trivial ?_ rfl
  simp only [Try.ntmps135, List.size_toArray, List.length_cons, List.length_nil, Nat.reduceAdd, Nat.reduceSub, Array.replicate_succ, Array.replicate_zero, List.push_toArray, List.append_toArray, List.nil_append, List.cons_append]
  gi_wp2
  gi_loopw [4] (fun i wr => ∃ k : Nat, k ≤ 24 ∧ i = .int .i64 k ∧ SameB [Bn] W wr ∧ J (upto k) wr) (fun i _ => 24 - (intOf i).toNat)
  case atStart => exact ⟨0, Nat.zero_le _, rfl, fun _ _ => rfl, h0⟩
  case round =>
    obtain ⟨k, hk, rfl, hbw, hJ⟩ := hrel
    by_cases hlt : k < 24
    · have hlt' : (k : Int) < 24 := by omega
      have hck : wr.cell? ⟨Bn, 1 + k / 8 * 8 + k % 8, none⟩ = some (s k) := by rw [show 1 + k / 8 * 8 + k % 8 = 1 + k by omega]; exact (World.cell?_of_block (hbw Bn (by simp))).trans (hc k hlt)
      obtain ⟨fn, tmps, assign, body, hy, hR⟩ := hY (upto k) ⟨k, hlt⟩ wr hJ (by rw [upto_len hk]; exact hlt)
      dsimp only at hy
      gi_wp2
      refine hR.mono ?_
      rintro e W3 (⟨rfl, hJ3, hk3⟩ | ⟨rfl, hJx3⟩)
      · gi_wp2
        go_roundw
        case rel => exact ⟨k + 1, by omega, by go_num, (fun b hb => (hk3 b hb).trans (hbw b hb)), by rw [upto_succ hlt]; exact hJ3⟩
        case measure => simp [intOf]; omega
      · gi_wp2
        refine bodyPost_ret (results_none rfl _ _ _) rfl ?_
        exact ⟨⟨_, rfl⟩, .inr ⟨upto k ++ [⟨k, hlt⟩], by rw [← upto_succ hlt]; exact upto_pre (by omega), hJx3⟩⟩
    · have hk24 : k = 24 := by omega
      subst hk24
      gi_wp2
      go_end0
      exact ⟨⟨_, rfl⟩, .inl ⟨upto 24, rfl, hJ⟩⟩

set_option maxHeartbeats 1000000 in
/-- d.slots(): the receiver is boxed; the function value captures the box. -/
theorem slots_any (now : Int) (s : Nat → Value) (w : World) :
    Calls Try.prog 89 #[.agg (dialCells now s)] w fun e w' => e = .returned (.func (.func 135) #[] #[.pointer (some ⟨w.heap.size, 0, none⟩)]) ∧ w' = w.alloc (.cells (dialCells now s) 112) := by
  go_enter Try.func89, Try.ntmps89
  go_wp2
  go_ret
  exact ⟨rfl, rfl⟩

/-- d.slots() hands back a value that yields each place and its slot, in order. -/
theorem slots_stops (n : Nat) (hn : 1 ≤ n) (Bn : Nat) (now : Int) (s : Nat → Value) (w : World) (hBox : Box w Bn 112 (dialCells now s)) :
    SeqStopsK Fence.wide n Try.prog 135 #[.pointer (some ⟨Bn, 0, none⟩)] (fun x : S24 => #[Value.int .i64 (x.1 : Int), s x.1]) (SameB [Bn]) (fun ys => ys = upto 24) (fun pre => pre <+: upto 24) 24 w := fun l J Jx W hW _ _ hY h0 =>
  slots1_in n hn l Bn now s J Jx hY W (fun k hk => (hW.cell (p := ⟨Bn, 1 + k, none⟩) hBox.lt).trans ((hBox.look _).trans (dialCells_at now s k hk))) h0
end

/-! ### What lies on when a block that is no cells turns -/
/-- The world has grown; of old blocks one alone may have turned, and it holds no cells. -/
structure Calm (B : Nat) (W W' : World) : Prop where
  os : W'.os = W.os
  tape : W'.tape = W.tape
  output : W'.output = W.output
  size : W.heap.size ≤ W'.heap.size
  block : ∀ k, k < W.heap.size → (k < B ∨ ∃ cs t f, W.heap[k]? = some (.cells cs t f)) → W'.heap[k]? = W.heap[k]?
theorem Calm.of_row {B : Nat} {W W' : World} {row : Option Nat} (hg : W.grownBy W' row) (hr : ∀ r, row = some r → B ≤ r ∧ ∃ o : Obj, W.heap[r]? = some o ∧ o.isCells = false) : Calm B W W' :=
  ⟨hg.os, hg.tape, hg.output, hg.size, fun k hk h => hg.block k hk fun e => by
    obtain ⟨h1, o, h2, h3⟩ := hr k e.symm
    rcases h with h | ⟨cs, t, f, h⟩
    · omega
    · rw [h] at h2; injection h2 with h2; subst h2; cases h3⟩
theorem Calm.put {B : Nat} {W : World} {D : Nat} (hD : B ≤ D) (hK : W.heap[D]? = some (.deferred (some []))) : Calm B W (W.putObj D (.deferred none)) :=
  Calm.of_row (grownBy_putObj' W D _) (fun r e => by cases e; exact ⟨hD, _, hK, rfl⟩)
theorem ownFrom_of_calm {β : Type} {B : Nat} {I : β → World → Prop} (h : ∀ s W W', I s W → Calm B W W' → I s W') : OwnFrom B I := fun s W W' row hs hg hr => h s W W' hs (Calm.of_row hg hr)
section
variable {B : Nat} {W W' : World}
theorem Calm.below {n₀ : Nat} {w : World} (h : Calm B W W') (k : Below n₀ w W) (h1 : n₀ ≤ B) (h2 : n₀ ≤ w.heap.size) : Below n₀ w W' :=
  ⟨h.os.trans k.os, h.tape.trans k.tape, h.output.trans k.output, Nat.le_trans k.size h.size, fun i hi => (h.block i (by have := k.size; omega) (.inl (by omega))).trans (k.block i hi)⟩
theorem Calm.box {g : Nat} {t : TypeId} {cs : Array Value} (h : Calm B W W') (k : Box W g t cs) : Box W' g t cs := (h.block g k.lt (.inr ⟨_, _, _, k⟩)).trans k
theorem cells_of_cell {W : World} {b o : Nat} {v : Value} (h : W.cell? ⟨b, o, none⟩ = some v) : ∃ cs t f, W.heap[b]? = some (.cells cs t f) := by
  unfold World.cell? at h
  split at h <;> first | exact ⟨_, _, _, by assumption⟩ | cases h | skip
  all_goals (first | (rename_i h1; exact ⟨_, _, _, h1⟩) | skip)
theorem Calm.ownF {α : Type} {t : TypeId} {size : Nat} {f : α → List Value} {B₀ : Nat} {A : Option Addr} {n c : Nat} {ys : List α} (h : Calm B W W') (k : OwnF t size f W B₀ A n c ys) : OwnF t size f W' B₀ A n c ys := by
  refine ⟨k.1, k.2.1, ?_⟩
  rcases k.2.2 with h' | ⟨g, cap, cur, h1, h2, h3, h4⟩
  · exact .inl h'
  · exact .inr ⟨g, cap, cur, h1, h2, (h.block g (by rcases Nat.lt_or_ge g W.heap.size with hl | hl; exact hl; rw [Array.getElem?_eq_none hl] at h3; cases h3) (.inr ⟨_, _, _, h3⟩)).trans h3, h4⟩
end

/-- **The range over a dial's slots, for the walk.** -/
theorem wp_range24 {ps : Array Tmp} {g : Operand} {assign body : Code} {Q : Exit → Act → World → Prop} {a : Act} {w : World} (Bn : Nat) (now : Int) (s : Nat → Value)
    (hg : a.eval g = .func (.func 135) #[] #[.pointer (some ⟨Bn, 0, none⟩)]) (hBox : Box w Bn 112 (dialCells now s)) (hps : ps.size = 2)
    (I : List S24 → World → Prop) (Ix : Code → List S24 → World → Prop) (hI : ∀ pre W W', I pre W → Calm w.heap.size W W' → I pre W') (hIx : ∀ c pre W W', Ix c pre W → Calm w.heap.size W W' → Ix c pre W') (h0 : I [] w) (a₁ : S24 → Act)
    (hassign : ∀ (l : Nat) (x : S24) (W : World) (K : Act → World → Prop), K (a₁ x) W →
      assign.wpIn (Fence.wide.inRound l) 1 Try.prog (Exit.then K (fun _ _ _ => False)) { tmps := (ps.zip #[Value.int .i64 (x.1 : Int), s x.1]).foldl (fun t (p, v) => t.setIfInBounds p v) a.tmps, defers := [] } W)
    (hbody : ∀ (l : Nat) (pre : List S24) (x : S24) (W : World), I pre W → pre.length < 24 → body.wpIn (Fence.wide.inRound l) 1 Try.prog (ownPostG w.heap.size (SameB [Bn]) I Ix (pre ++ [x]) W) (a₁ x) W)
    (hdone : ∀ (D : Nat) (W : World), w.heap.size ≤ D → I (upto 24) W → W.heap[D]? = some (.deferred (some [])) → Q .normal { a with defers := { target := .collected D, args := #[] } :: a.defers } W)
    (hstop : ∀ (D : Nat) (c : Code) (pre : List S24) (W : World), w.heap.size ≤ D → pre <+: upto 24 → Ix c pre W → W.heap[D]? = some (.deferred (some [])) → c.wp Try.prog Q { a with defers := { target := .collected D, args := #[] } :: a.defers } W) :
    (Code.rangeFunc g ps assign body).wp Try.prog Q a w := by
  refine (wpIn_wide (n := 3)).1 ?_
  exact wpIn_rangeFunc_ownG (F := Fence.wide) (n := 3) rfl (by omega) (gf := 135) (lb := #[.pointer (some ⟨Bn, 0, none⟩)]) hg trivial (enters_of Try.func135 (by kernel_rfl) rfl)
    (slots_stops 2 (by omega) Bn now s w hBox) (fun h k b hb => (k b hb).trans (h b hb))
    (fun W l o o' hl h _ _ b hb => by
      obtain rfl : b = Bn := by simpa using hb
      exact World.putObj_heap_other (by have := hBox.lt; omega))
    (Below.refl _ _) (fun _ => hps.symm) I Ix (ownFrom_of_calm hI) (fun c => ownFrom_of_calm (hIx c)) h0 a₁ hassign hbody
    (fun D xs W hD hS hi hK => hdone D W hD (hS ▸ hi) hK) (fun D c pre W hD hS hi hK => wpIn_wide.2 (hstop D c pre W hD hS hi hK))

/-- A function's contract, where its body holds a range over a function. -/
theorem calls_of_marks {f : FuncId} {fn : Func} {c : Code} {args : Array Value} {w : World} {R : Ending → World → Prop} (hf : Try.prog.funcs[f]? = some fn) (hb : fn.body = some c)
    (h : c.wp Try.prog (bodyPostM Fence.wide 3 Try.prog fn R) { tmps := args ++ Array.replicate (fn.ntmps - args.size) undef, defers := [] } w) : Calls Try.prog f args w R :=
  (callsIn_wide (n := 3)).1 (callsIn_of_wp_marks hf hb trivial (wpIn_wide.2 h) rfl)
/-- At its return. -/
theorem bodyPostM_ret {fn : Func} {R : Ending → World → Prop} {a : Act} {W : World} {v : Value} {D : Nat} (hd : a.defers = [{ target := .collected D, args := #[] }]) (hK : W.heap[D]? = some (.deferred (some [])))
    (hr : (results fn a.tmps).run Try.prog (W.putObj D (.deferred none)) = .ok v (W.putObj D (.deferred none))) (hR : R (.returned v) (W.putObj D (.deferred none))) : bodyPostM Fence.wide 3 Try.prog fn R .ret a W := by
  show LeavesInM Fence.wide 3 Try.prog fn a.tmps R a.defers .returning W
  rw [hd]
  exact ⟨by simp, .inl ⟨_, _, rfl, run_takeDeferred hK, _, hr, hR⟩⟩
theorem bodyPostM_ret0 {fn : Func} {R : Ending → World → Prop} {a : Act} {W : World} {v : Value} (hd : a.defers = [])
    (hr : (results fn a.tmps).run Try.prog W = .ok v W) (hR : R (.returned v) W) : bodyPostM Fence.wide 3 Try.prog fn R .ret a W := by
  show LeavesInM Fence.wide 3 Try.prog fn a.tmps R a.defers .returning W
  rw [hd]
  exact ⟨_, hr, hR⟩

end Go.Proofs.Ytakplomopbnekaa
