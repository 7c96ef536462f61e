/-
  The program's IsTight answers as the model's and writes into no argument. No condition.
-/
import Derived.Test.YtooogjfnnmacjaaWalk
import Derived.Test.YtooogjfnnmacjaaFlat
import Derived.RangeFuncNested
import Derived.Laws.CopyRow
import Derived.Shelf.Abstract
import Derived.Test.YtooogjfnnmacjaaNodeRow
import Derived.ChangeKeysEq
import Derived.Test.YtooogjfnnmacjaaEdgeRow
import Derived.Test.YtooogjfnnmacjaaRoute
import Derived.Test.YtooogjfnnmacjaaOwnFault
import Derived.Test.YtooogjfnnmacjaaSameWheel
import Derived.Test.YtooogjfnnmacjaaOpenEdge
import Derived.Test.YtooogjfnnmacjaaOpenRoute
import Derived.Test.YtooogjfnnmacjaaRouteLaws
import Derived.Test.YtooogjfnnmacjaaRows
import Derived.WalkKit
import Derived.ProofKit
import Derived.OpenShut
import Derived.ShutString
import Derived.ChangeOld
import Derived.Below
import Derived.Test.YtooogjfnnmacjaaOpenNode
namespace Go.Proofs.Ytooogjfnnmacjaa
open Go.RowKit Go.Shelf
set_option linter.unusedVariables false

/-- A kind of map: its types, how its keys lie in values, when two of them are the same, and what is read where there is none. -/
structure MapK (α : Type) where
  mt : TypeId
  kt : TypeId
  vt : TypeId
  enc : α → Value
  eqb : α → α → Bool
  zero : Value
  eqb_iff : ∀ a b, eqb a b = true ↔ a = b
  mu : Try.prog.underlying mt = some (.map kt vt)
  equal : ∀ a b W, (Op.equal kt (enc a) (enc b)).run Try.prog W = .ok (eqb a b) W
  check : ∀ e a W, (Instr.checkKey e 10000 kt (enc a)).run Try.prog W = .ok () W
  now : ∃ u, Try.prog.underlying kt = some u ∧ ∀ a e es, Instr.findNow u (enc a) (e :: es) 0 = none
  bits : ∀ a, Instr.sameBits 10000 (enc a) (enc a) = true
  zeroR : ∀ W, (zeroValue vt).run Try.prog W = .ok zero W

section
variable {α : Type} (K : MapK α)
def MapG (w : World) (b : Nat) (ps : List (α × Value)) : Prop := ∃ es clock, w.heap[b]? = some (.map es clock) ∧ es.toList.map (fun e => (e.key, e.val)) = ps.map fun p => (K.enc p.1, p.2)
def findG (a : α) : List (α × Value) → Nat → Option (Nat × Value)
  | [], _ => none
  | p :: ps, i => if K.eqb a p.1 = true then some (i, p.2) else findG a ps (i + 1)
/-- What a map has at a key. -/
def getG (a : α) : List (α × Value) → Option Value
  | [] => none
  | p :: ps => if K.eqb a p.1 = true then some p.2 else getG a ps
/-- A map with another value at a key. -/
def putG (a : α) (v : Value) : List (α × Value) → List (α × Value)
  | [] => [(a, v)]
  | p :: ps => if K.eqb a p.1 = true then (p.1, v) :: ps else p :: putG a v ps
theorem findG_get (a : α) : ∀ (ps : List (α × Value)) (i : Nat), (findG K a ps i).map (·.2) = getG K a ps
  | [], _ => rfl
  | p :: ps, i => by
    unfold findG getG
    by_cases h : K.eqb a p.1 = true
    · rw [if_pos h, if_pos h]; rfl
    · rw [if_neg h, if_neg h]; exact findG_get a ps (i + 1)
theorem putG_none {a : α} {v : Value} : ∀ {ps : List (α × Value)} {i : Nat}, findG K a ps i = none → putG K a v ps = ps ++ [(a, v)]
  | [], _, _ => rfl
  | p :: ps, i, h => by
    unfold findG at h
    unfold putG
    by_cases e : K.eqb a p.1 = true
    · rw [if_pos e] at h; cases h
    · rw [if_neg e] at h
      rw [if_neg e, putG_none h]; rfl
theorem putG_some {a : α} {v v0 : Value} : ∀ {ps : List (α × Value)} {i k : Nat}, findG K a ps i = some (k, v0) → ∃ j, k = i + j ∧ ps[j]? = some (a, v0) ∧ putG K a v ps = ps.set j (a, v)
  | [], _, _, h => by cases h
  | p :: ps, i, k, h => by
    unfold findG at h
    unfold putG
    by_cases e : K.eqb a p.1 = true
    · rw [if_pos e] at h
      injection h with h
      injection h with h1 h2
      have hp := (K.eqb_iff a p.1).1 e
      exact ⟨0, by omega, by rw [hp, ← h2]; rfl, by rw [if_pos e, hp]; rfl⟩
    · rw [if_neg e] at h
      obtain ⟨j, h1, h2, h3⟩ := putG_some (v := v) h
      exact ⟨j + 1, by omega, by simpa using h2, by rw [if_neg e, h3]; rfl⟩
theorem getG_put (a b : α) (v : Value) : ∀ ps : List (α × Value), getG K b (putG K a v ps) = if K.eqb a b = true then some v else getG K b ps
  | [] => by
    unfold putG getG
    by_cases e : K.eqb a b = true
    · rw [if_pos ((K.eqb_iff b a).2 ((K.eqb_iff a b).1 e).symm), if_pos e]
    · rw [if_neg (fun h => e ((K.eqb_iff a b).2 ((K.eqb_iff b a).1 h).symm)), if_neg e]; rfl
  | p :: ps => by
    unfold putG
    by_cases h : K.eqb a p.1 = true
    · have hp := (K.eqb_iff a p.1).1 h
      rw [if_pos h]
      unfold getG
      by_cases e : K.eqb a b = true
      · rw [if_pos ((K.eqb_iff b p.1).2 (by rw [← (K.eqb_iff a b).1 e, hp])), if_pos e]
      · have hb : ¬ K.eqb b p.1 = true := fun hb => e ((K.eqb_iff a b).2 (hp.trans ((K.eqb_iff b p.1).1 hb).symm))
        rw [if_neg hb, if_neg e, if_neg hb]
    · rw [if_neg h]
      unfold getG
      by_cases hb : K.eqb b p.1 = true
      · have hp := (K.eqb_iff b p.1).1 hb
        rw [if_pos hb, if_neg (fun e => h (by rw [(K.eqb_iff a b).1 e]; exact hb)), if_pos hb]
      · rw [if_neg hb, if_neg hb]
        exact getG_put a b v ps
theorem findAskingG (a : α) (W : World) : ∀ (ps : List (α × Value)) (es : List MapEntry) (i : Nat), es.map (fun e => (e.key, e.val)) = ps.map (fun p => (K.enc p.1, p.2)) →
    (Instr.findAsking K.kt (K.enc a) es i).run Try.prog W = .ok (findG K a ps i) W := by
  intro ps
  induction ps with
  | nil =>
    intro es i h
    obtain rfl : es = [] := by simpa using h
    simp [Instr.findAsking, findG]
  | cons t ts ih =>
    intro es i h
    cases es with
    | nil => simp at h
    | cons e es =>
      simp only [List.map_cons, List.cons.injEq, Prod.mk.injEq] at h
      obtain ⟨⟨hk, hv⟩, hr⟩ := h
      simp only [Instr.findAsking, Sem.run_bind, hk, K.equal, Result.andThen_ok]
      by_cases hkt : K.eqb a t.1 = true
      · simp [hkt, hv, findG]
      · have hkf : K.eqb a t.1 = false := by simpa using hkt
        rw [hkf]
        simp only [Bool.false_eq_true, if_false]
        rw [ih es (i + 1) hr, findG, if_neg hkt]
theorem findKeyG (a : α) (W : World) (ps : List (α × Value)) (es : List MapEntry) (h : es.map (fun e => (e.key, e.val)) = ps.map (fun p => (K.enc p.1, p.2))) :
    (Instr.findKey K.kt (K.enc a) es).run Try.prog W = .ok (findG K a ps 0) W := by
  obtain ⟨u, hu0, hn⟩ := K.now
  have hu := run_underlying (w := W) hu0
  cases es with
  | nil =>
    obtain rfl : ps = [] := by cases ps; rfl; simp at h
    simp [Instr.findKey, hu, Instr.findNow, findG]
  | cons e es =>
    have ha := findAskingG K a W ps (e :: es) 0 h
    simp only [Instr.findKey, Sem.run_bind, hu, Result.andThen_ok, hn, ha]
/-- What a map answers. -/
def answerG (a : α) (ps : List (α × Value)) (ok : Bool) : Value :=
  match getG K a ps with
  | some v => if ok then .tuple #[v, .bool true] else v
  | none => if ok then .tuple #[K.zero, .bool false] else K.zero
variable {K}
theorem lookupG {w : World} {b : Nat} {ps : List (α × Value)} (h : MapG K w b ps) (a : α) (ok : Bool) : (Instr.lookup K.mt (.map (some b)) (K.enc a) ok).run Try.prog w = .ok (answerG K a ps ok) w := by
  obtain ⟨es, clock, hb, he⟩ := h
  have hu := run_underlying (w := w) K.mu
  have hf := findKeyG K a w ps es.toList he
  have hz := K.zeroR w
  have hc := K.check es.isEmpty a w
  have hg := findG_get K a ps 0
  unfold answerG
  rw [← hg]
  simp only [Instr.lookup, Sem.run_bind, hu, Result.andThen_ok, getObj, Sem.run, hb, hc, hf, Sem.run_pure]
  cases findG K a ps 0 with
  | none => cases ok <;> simp [hz]
  | some p => cases ok <;> simp
theorem updateG {w : World} {b : Nat} {ps : List (α × Value)} (h : MapG K w b ps) (a : α) (v : Value) : ∃ w', (Instr.mapUpdate K.mt (.map (some b)) (K.enc a) v).run Try.prog w = .ok () w' ∧ MapG K w' b (putG K a v ps) ∧ w.grownBy w' (some b) ∧ w'.heap.size = w.heap.size := by
  obtain ⟨es, clock, hb, he⟩ := h
  have hu := run_underlying (w := w) K.mu
  have hf := findKeyG K a w ps es.toList he
  have hc := K.check false a w
  have hlt : b < w.heap.size := (Array.getElem?_eq_some_iff.1 hb).1
  cases hfg : findG K a ps 0 with
  | none =>
    refine ⟨w.putObj b (.map (es.push { key := K.enc a, val := v, born := clock }) (clock + 1)), ?_, ⟨_, _, World.putObj_heap_same hlt, by rw [putG_none K hfg]; simp [he]⟩, grownBy_putObj' w b _, by simp [World.putObj]⟩
    simp [Instr.mapUpdate, Sem.run_bind, hu, getObj, setObj, Sem.run, hb, hc, hf, hfg, Result.andThen, World.putObj]
  | some q =>
    obtain ⟨i, v0⟩ := q
    obtain ⟨j, h1, h2, h3⟩ := putG_some K (v := v) hfg
    obtain rfl : i = j := by omega
    have hei : ∃ e, es[i]? = some e ∧ e.key = K.enc a ∧ e.val = v0 := by
      have := congrArg (fun l => l[i]?) he
      simp only [List.getElem?_map, h2, Option.map_some] at this
      cases hes : es.toList[i]? with
      | none => rw [hes] at this; cases this
      | some e =>
        rw [hes] at this
        simp only [Option.map_some, Option.some.injEq, Prod.mk.injEq] at this
        exact ⟨e, by simpa using hes, this.1, this.2⟩
    obtain ⟨e, he1, he2, he3⟩ := hei
    have hbits := K.bits a
    refine ⟨w.putObj b (.map (es.modify i fun e => { e with key := K.enc a, val := v }) clock), ?_, ⟨_, _, World.putObj_heap_same hlt, ?_⟩, grownBy_putObj' w b _, by simp [World.putObj]⟩
    · simp [Instr.mapUpdate, Sem.run_bind, hu, getObj, setObj, Sem.run, hb, hc, hf, hfg, Result.andThen, World.putObj, Instr.keyThatStays, he1, he2, hbits]
    · rw [h3, List.map_set, ← he, Array.toList_modify]
      apply List.ext_getElem?
      intro t
      simp only [List.getElem?_map, List.getElem?_modify, List.getElem?_set, List.length_map, Array.length_toList]
      by_cases hti : i = t
      · subst hti
        have hl := (Array.getElem?_eq_some_iff.1 he1).1
        simp [hl]
      · simp [hti]
theorem MapG.grown {w w' : World} {b : Nat} {ps : List (α × Value)} (h : MapG K w b ps) {row : Option Nat} (hg : w.grownBy w' row) (hr : row ≠ some b) : MapG K w' b ps := by
  obtain ⟨es, clock, hb, he⟩ := h
  exact ⟨es, clock, (hg.block b (Array.getElem?_eq_some_iff.1 hb).1 (fun e => hr e.symm)).trans hb, he⟩
theorem MapG.lt {w : World} {b : Nat} {ps : List (α × Value)} (h : MapG K w b ps) : b < w.heap.size := by
  obtain ⟨es, clock, hb, he⟩ := h
  exact (Array.getElem?_eq_some_iff.1 hb).1
theorem MapG.below {w w' : World} {b : Nat} {ps : List (α × Value)} (h : MapG K w b ps) (hb : Below w.heap.size w w') : MapG K w' b ps := by
  have hl := h.lt
  obtain ⟨es, clock, h1, he⟩ := h
  exact ⟨es, clock, (hb.block b hl).trans h1, he⟩
theorem MapG.drew {w : World} {b : Nat} {ps : List (α × Value)} (h : MapG K w b ps) : MapG K w.drew b ps := h
theorem MapG.over {w : World} {b : Nat} {ps : List (α × Value)} (h : MapG K w b ps) (o : Obj) : MapG K (w.alloc o) b ps := h.below ((Below.refl _ _).alloc (Nat.le_refl _) _)
theorem MapG.made (K : MapK α) (w : World) : MapG K (w.alloc (.map #[] 0)) w.heap.size [] := ⟨#[], 0, World.alloc_heap_new w _, rfl⟩
theorem MapG.kept {w : World} {b : Nat} {ps : List (α × Value)} (h : MapG K w b ps) : Kept b (b + 1) (fun W => MapG K W b ps) w :=
  ⟨h.lt, fun w2 k => by
    obtain ⟨es, clock, h1, he⟩ := h
    exact ⟨es, clock, (k b (Nat.le_refl _) (Nat.lt_succ_self _)).trans h1, he⟩⟩
/-- A map is no row of cells. -/
theorem MapG.ne_own {w : World} {b : Nat} {ps : List (α × Value)} (h : MapG K w b ps) {β : Type} {t : TypeId} {size : Nat} {f : β → List Value} {B n c : Nat} {A : Option Addr} {ys : List β} (ho : OwnF t size f w B A n c ys) : A.map (·.block) ≠ some b := by
  intro e
  obtain ⟨es, clock, hb, _⟩ := h
  rcases ho.2.2 with ⟨h', _⟩ | ⟨g', cap, cur, h', _, hg, _⟩
  · simp only [Value.slice.injEq] at h'
    rw [h'.1] at e
    cases e
  · simp only [Value.slice.injEq] at h'
    rw [h'.1] at e
    simp only [Option.map_some, Option.some.injEq] at e
    subst e
    rw [hb] at hg
    cases hg
theorem wpList_lookupG {ops : Array Oper} {rest : List Oper} {o : Oper} {a : Act} {Q : Exit → Act → World → Prop} {w : World} (hgd : o.guard = none) {t : TypeId} (u v : Operand) (ok : Bool) (ho : o.op = .lookup t u v ok) (ht : t = K.mt)
    {b : Nat} {ps : List (α × Value)} (h : MapG K w b ps) (x : α) (hx : a.eval u = .map (some b)) (hy : a.eval v = K.enc x)
    (k : wpList Try.prog ops Q rest (a.put o.dst (answerG K x ps ok)) w) : wpList Try.prog ops Q (o :: rest) a w := by
  subst ht
  refine wpList_plain hgd fun K' hK => ?_
  have hl := lookupG h x ok
  unfold Oper.wp
  simp only [execOp, ho, hx, hy, Sem.run_bind, hl, Result.andThen_ok, Sem.run_pure]
  exact hK _ _ k
theorem wpList_updateG {ops : Array Oper} {rest : List Oper} {o : Oper} {a : Act} {Q : Exit → Act → World → Prop} {w : World} (hgd : o.guard = none) {t : TypeId} (u v z : Operand) (ho : o.op = .mapUpdate t u v z) (ht : t = K.mt)
    {b : Nat} {ps : List (α × Value)} (h : MapG K w b ps) (x : α) {y : Value} (hx : a.eval u = .map (some b)) (hy : a.eval v = K.enc x) (hz : a.eval z = y)
    (k : ∀ w', MapG K w' b (putG K x y ps) → w.grownBy w' (some b) → w'.heap.size = w.heap.size → wpList Try.prog ops Q rest (a.put o.dst undef) w') : wpList Try.prog ops Q (o :: rest) a w := by
  subst ht
  refine wpList_plain hgd fun K' hK => ?_
  obtain ⟨w', hl, h1, h2, h3⟩ := updateG h x y
  unfold Oper.wp
  simp only [execOp, ho, hx, hy, hz, Sem.run_bind, hl, Result.andThen_ok, Sem.run_pure]
  exact hK _ _ (k w' h1 h2 h3)
end

end Go.Proofs.Ytooogjfnnmacjaa

namespace Go.Proofs.Ytooogjfnnmacjaa
open Go.RowKit Go.Shelf
set_option linter.unusedVariables false

/-- Are two nodes the same. -/
def ndE (a b : Nd) : Bool := decide (a.net = b.net) && decide (a.id = b.id)
theorem ndE_iff (a b : Nd) : ndE a b = true ↔ a = b := by
  cases a; cases b
  simp [ndE]
abbrev pairV (p : Nd × Nd) : Value := .agg #[.bool p.1.net, .int .i64 p.1.id, .bool p.2.net, .int .i64 p.2.id]
theorem equalIn_nd (n m : Bool) (i j : Int) (W : World) : (Op.equalIn 9999 105 (.agg #[.bool n, .int .i64 i]) (.agg #[.bool m, .int .i64 j])).run Try.prog W = .ok (decide (n = m) && decide (i = j)) W := by
  cases n <;> cases m <;> by_cases h2 : i = j <;> simp [go_sem, h2]
theorem part_nd (c0 c1 c2 c3 : Value) (W : World) : (part 105 #[c0, c1, c2, c3] 0).run Try.prog W = .ok (.agg #[c0, c1]) W ∧ (part 105 #[c0, c1, c2, c3] 2).run Try.prog W = .ok (.agg #[c2, c3]) W := ⟨by kernel_rfl, by kernel_rfl⟩
theorem equal_pair (a b : Nd × Nd) (W : World) : (Op.equal 192 (pairV a) (pairV b)).run Try.prog W = .ok (ndE a.1 b.1 && ndE a.2 b.2) W := by
  obtain ⟨⟨n1, i1⟩, ⟨n2, i2⟩⟩ := a
  obtain ⟨⟨m1, j1⟩, ⟨m2, j2⟩⟩ := b
  obtain ⟨i0, hi, _, _, _⟩ := info_parts nodeInfo
  have h := run_equalIn_array (w := W) 9999 (t := 192) (e := 105) (n := 2) #[.bool n1, .int .i64 i1, .bool n2, .int .i64 i2] #[.bool m1, .int .i64 j1, .bool m2, .int .i64 j2] (by kernel_rfl) hi
  have hc : Try.prog.cellsOf 105 = 2 := by kernel_rfl
  rw [hc] at h
  refine h.trans ?_
  rw [show List.range 2 = [0, 1] from rfl]
  have p1 := part_nd (.bool n1) (.int .i64 i1) (.bool n2) (.int .i64 i2) W
  have p2 := part_nd (.bool m1) (.int .i64 j1) (.bool m2) (.int .i64 j2) W
  have e1 := equalIn_nd n1 m1 i1 j1 W
  have e2 := equalIn_nd n2 m2 i2 j2 W
  simp only [Op.eqItems, Sem.run_bind, Nat.zero_mul, Nat.one_mul, p1.1, p2.1, e1, Result.andThen_ok]
  unfold ndE
  have p1b := p1.2
  have p2b := p2.2
  generalize (decide (n1 = m1) && decide (i1 = j1)) = r1
  generalize (decide (n2 = m2) && decide (i2 = j2)) = r2 at e2
  cases r1 <;> cases r2 <;> simp [p1b, p2b, e2]
theorem check_pair (e : Bool) (a : Nd × Nd) (W : World) : (Instr.checkKey e 10000 192 (pairV a)).run Try.prog W = .ok () W := by
  obtain ⟨⟨n1, i1⟩, ⟨n2, i2⟩⟩ := a
  kernel_rfl
/-- The map of pairs that are told. -/
def pairK : MapK (Nd × Nd) where
  mt := 189
  kt := 192
  vt := 4
  enc := pairV
  eqb a b := ndE a.1 b.1 && ndE a.2 b.2
  zero := .bool false
  eqb_iff a b := by
    obtain ⟨a1, a2⟩ := a
    obtain ⟨b1, b2⟩ := b
    simp [ndE_iff]
  mu := by kernel_rfl
  equal := equal_pair
  check := check_pair
  now := ⟨_, Try.underlying192, fun a e es => by simp [Instr.findNow, Instr.sameNow]⟩
  bits a := by rw [show (10000 : Nat) = 9999 + 1 from rfl]; simp [Instr.sameBits]
  zeroR W := by kernel_rfl

end Go.Proofs.Ytooogjfnnmacjaa

namespace Go.Proofs.Ytooogjfnnmacjaa
open Go.RowKit Go.Shelf
set_option linter.unusedVariables false

abbrev nodeV (a : Nd) : Value := .agg #[.bool a.net, .int .i64 a.id]
theorem equal_node (a b : Nd) (W : World) : (Op.equal 105 (nodeV a) (nodeV b)).run Try.prog W = .ok (ndE a b) W := by
  obtain ⟨n, i⟩ := a
  obtain ⟨m, j⟩ := b
  cases n <;> cases m <;> by_cases h : i = j <;> simp [Op.equal, Op.maxDepth, go_sem, ndE, nodeV, h]
theorem check_node (e : Bool) (a : Nd) (W : World) : (Instr.checkKey e 10000 105 (nodeV a)).run Try.prog W = .ok () W := by
  obtain ⟨n, i⟩ := a
  kernel_rfl
/-- Costs of nodes. -/
def costK : MapK Nd where
  mt := 209
  kt := 105
  vt := 2
  enc := nodeV
  eqb := ndE
  zero := .int .i64 0
  eqb_iff := ndE_iff
  mu := by kernel_rfl
  equal := equal_node
  check := check_node
  now := ⟨_, Try.underlying105, fun a e es => by simp [Instr.findNow, Instr.sameNow]⟩
  bits a := by rw [show (10000 : Nat) = 9999 + 1 from rfl]; simp [Instr.sameBits]
  zeroR W := by kernel_rfl
/-- Which nodes are met. -/
def metK : MapK Nd where
  mt := 213
  kt := 105
  vt := 4
  enc := nodeV
  eqb := ndE
  zero := .bool false
  eqb_iff := ndE_iff
  mu := by kernel_rfl
  equal := equal_node
  check := check_node
  now := ⟨_, Try.underlying105, fun a e es => by simp [Instr.findNow, Instr.sameNow]⟩
  bits a := by rw [show (10000 : Nat) = 9999 + 1 from rfl]; simp [Instr.sameBits]
  zeroR W := by kernel_rfl
theorem MapG.len {α : Type} {K : MapK α} {w : World} {b : Nat} {ps : List (α × Value)} (h : MapG K w b ps) (ty : TypeId) : (Builtin.len_ #[K.mt] ty #[.map (some b)]).run Try.prog w = .ok (.int .i64 ps.length) w := by
  obtain ⟨es, clock, hb, he⟩ := h
  have hu := run_underlying (w := w) K.mu
  have hl : es.size = ps.length := by have := congrArg List.length he; simpa using this
  simp [Builtin.len_, Sem.run_bind, hu, getObj, Sem.run, hb, hl, goInt]
theorem wpList_insertG {α : Type} {K : MapK α} {ops : Array Oper} {rest : List Oper} {o : Oper} {a : Act} {Q : Exit → Act → World → Prop} {w : World} (hgd : o.guard = none) {t : TypeId} (u v z : Operand) (ho : o.op = .insert t u v z) (ht : t = K.mt)
    {b : Nat} {ps : List (α × Value)} (h : MapG K w b ps) (x : α) {y : Value} (hx : a.eval u = .map (some b)) (hy : a.eval v = K.enc x) (hz : a.eval z = y)
    (k : ∀ w', MapG K w' b (putG K x y ps) → w.grownBy w' (some b) → w'.heap.size = w.heap.size → wpList Try.prog ops Q rest (a.put o.dst undef) w') : wpList Try.prog ops Q (o :: rest) a w := by
  subst ht
  refine wpList_plain hgd fun K' hK => ?_
  obtain ⟨w', hl, h1, h2, h3⟩ := updateG h x y
  unfold Oper.wp
  simp only [execOp, ho, hx, hy, hz, Sem.run_bind, hl, Result.andThen_ok, Sem.run_pure]
  exact hK _ _ (k w' h1 h2 h3)

/-- Is a cost one that is asked of any. -/
def saneC (c : Int) : Bool := decide (0 ≤ c) && decide (c ≤ 1000000000)
theorem saneC_iff (c : Int) : saneC c = true ↔ 0 ≤ c ∧ c ≤ 1000000000 := by simp [saneC]
/-- The root and all routes, with their costs. -/
def allC (root : Nd) (rs : List Rt) : List (Nd × Int) := (root, 0) :: rs.map fun r => (r.dst, r.cost)
/-- The cost of a node, where it has one. -/
def lookN (al : List (Nd × Int)) (n : Nd) : Option Int := (al.find? fun p => ndE p.1 n).map (·.2)
def allM (al : List (Nd × Int)) : List (Nd × Value) := al.map fun p => (p.1, .int .i64 p.2)
theorem ndE_comm (a b : Nd) : ndE a b = ndE b a := by
  unfold ndE
  rw [decide_eq_decide.2 (eq_comm (a := a.net)), decide_eq_decide.2 (eq_comm (a := a.id))]
theorem getG_all (n : Nd) : ∀ al : List (Nd × Int), getG costK n (allM al) = (lookN al n).map (Value.int .i64)
  | [] => rfl
  | p :: al => by
    have ih := getG_all n al
    unfold allM at ih
    unfold allM lookN
    rw [List.map_cons, List.find?_cons]
    unfold getG
    show (if ndE n p.1 = true then _ else _) = _
    rw [ndE_comm]
    cases h : ndE p.1 n with
    | true => simp
    | false =>
      simp only [Bool.false_eq_true, if_false]
      exact ih
theorem lookN_none {al : List (Nd × Int)} {n : Nd} : lookN al n = none ↔ n ∉ al.map (·.1) := by
  unfold lookN
  rw [Option.map_eq_none_iff, List.find?_eq_none]
  constructor
  · intro h hn
    obtain ⟨p, hp, e⟩ := List.mem_map.1 hn
    exact h p hp (by rw [ndE_iff]; exact e)
  · intro h p hp e
    exact h (List.mem_map.2 ⟨p, hp, (ndE_iff _ _).1 e⟩)
theorem lookN_some {al : List (Nd × Int)} {n : Nd} {c : Int} (h : lookN al n = some c) : n ∈ al.map (·.1) := by
  rcases Classical.em (n ∈ al.map (·.1)) with h1 | h1
  · exact h1
  · rw [lookN_none.2 h1] at h; cases h
/-- Does an edge keep to the costs. -/
def edgeOK (al : List (Nd × Int)) (e : Eg) : Prop := ∀ cf, lookN al e.frm = some cf → ∃ ct, lookN al e.dst = some ct ∧ ct ≤ cf + e.cost
/-- Is the cost of an edge's end told by it. -/
def edgeT (al : List (Nd × Int)) (e : Eg) : Prop := ∃ cf, lookN al e.frm = some cf ∧ lookN al e.dst = some (cf + e.cost)
/-- What IsTight asks. -/
def TightP (root : Nd) (es : List Eg) (rs : List Rt) : Prop :=
  (∀ r ∈ rs, saneC r.cost = true) ∧ (∀ e ∈ es, saneC e.cost = true) ∧ ((allC root rs).map (·.1)).Nodup ∧ (∀ e ∈ es, edgeOK (allC root rs) e) ∧
    ∀ n ∈ (allC root rs).map (·.1), n = root ∨ ∃ e ∈ es, edgeT (allC root rs) e ∧ e.dst = n

/-- Keys of a map. -/
def keysM (ps : List (Nd × Value)) : List Nd := ps.map (·.1)
theorem keys_put (a : Nd) (v : Value) : ∀ ps : List (Nd × Value), keysM (putG metK a v ps) = if a ∈ keysM ps then keysM ps else keysM ps ++ [a]
  | [] => by simp [keysM, putG]
  | p :: ps => by
    have ih := keys_put a v ps
    unfold keysM at ih ⊢
    unfold putG
    by_cases h : metK.eqb a p.1 = true
    · have e := (metK.eqb_iff a p.1).1 h
      rw [if_pos h, if_pos (by rw [e]; simp)]; rfl
    · have e : ¬ a = p.1 := fun e => h ((metK.eqb_iff a p.1).2 e)
      rw [if_neg h, List.map_cons, ih, List.map_cons]
      by_cases hm : a ∈ ps.map (·.1)
      · rw [if_pos hm, if_pos (List.mem_cons_of_mem _ hm)]
      · rw [if_neg hm, if_neg (by rw [List.mem_cons]; rintro (h | h); exact e h; exact hm h)]; rfl
theorem keys_nodup {a : Nd} {v : Value} {ps : List (Nd × Value)} (h : (keysM ps).Nodup) : (keysM (putG metK a v ps)).Nodup := by
  rw [keys_put]
  split
  · exact h
  · rename_i hm
    exact List.nodup_append.2 ⟨h, by simp, fun x hx y hy e => by simp at hy; subst hy; exact hm (e ▸ hx)⟩
theorem keys_mem {a n : Nd} {v : Value} {ps : List (Nd × Value)} : n ∈ keysM (putG metK a v ps) ↔ n ∈ keysM ps ∨ n = a := by
  rw [keys_put]
  split
  · rename_i hm
    exact ⟨Or.inl, fun h => by rcases h with h | h; exact h; rw [h]; exact hm⟩
  · simp
theorem nodup_le {S T : List Nd} (hS : S.Nodup) (h : ∀ x ∈ S, x ∈ T) : S.length ≤ T.length := by
  induction S generalizing T with
  | nil => simp
  | cons x S ih =>
    have hx := h x (by simp)
    have hn := List.nodup_cons.1 hS
    have := ih (T := T.erase x) hn.2 (fun y hy => (List.mem_erase_of_ne (fun e => hn.1 (by rw [← e]; exact hy))).2 (h y (List.mem_cons_of_mem _ hy)))
    rw [List.length_erase_of_mem hx] at this
    have hp : 0 < T.length := List.length_pos_of_mem hx
    simp only [List.length_cons]
    omega
theorem nodup_full {S T : List Nd} (hS : S.Nodup) (hT : T.Nodup) (h : ∀ x ∈ S, x ∈ T) : S.length = T.length ↔ ∀ x ∈ T, x ∈ S := by
  constructor
  · intro e x hx
    rcases Classical.em (x ∈ S) with h1 | h1
    · exact h1
    · have := nodup_le (S := x :: S) (T := T) (List.nodup_cons.2 ⟨h1, hS⟩) (fun y hy => by rcases List.mem_cons.1 hy with h2 | h2; rw [h2]; exact hx; exact h y h2)
      simp only [List.length_cons] at this
      omega
  · intro h2
    exact Nat.le_antisymm (nodup_le hS h) (nodup_le hT h2)

end Go.Proofs.Ytooogjfnnmacjaa

namespace Go.Proofs.Ytooogjfnnmacjaa
open Go.RowKit Go.Shelf
set_option linter.unusedVariables false

/-- Routes whose costs are told. -/
def GoodR (root : Nd) (rs : List Rt) : Prop := (∀ r ∈ rs, saneC r.cost = true) ∧ ((allC root rs).map (·.1)).Nodup
theorem allC_succ (root : Nd) {rs : List Rt} {j : Nat} {r : Rt} (h : rs[j]? = some r) : allC root (rs.take (j + 1)) = allC root (rs.take j) ++ [(r.dst, r.cost)] := by
  unfold allC
  rw [List.take_add_one, h, List.map_append]; rfl
theorem GoodR.next {root : Nd} {rs : List Rt} {j : Nat} {r : Rt} (h : GoodR root (rs.take j)) (hr : rs[j]? = some r) (hs : saneC r.cost = true) (hl : lookN (allC root (rs.take j)) r.dst = none) : GoodR root (rs.take (j + 1)) := by
  refine ⟨fun x hx => ?_, ?_⟩
  · rw [List.take_add_one, hr] at hx
    rcases List.mem_append.1 hx with hx | hx
    · exact h.1 x hx
    · simp at hx; rw [hx]; exact hs
  · rw [allC_succ root hr, List.map_append]
    exact List.nodup_append.2 ⟨h.2, by simp, fun x hx y hy e => by simp at hy; subst hy; exact lookN_none.1 hl (e ▸ hx)⟩
theorem GoodR.bad_cost {root : Nd} {rs : List Rt} {j : Nat} {r : Rt} (hr : rs[j]? = some r) (hs : saneC r.cost = false) : ¬ GoodR root rs := fun h => by
  have := h.1 r (List.mem_of_getElem? hr)
  rw [hs] at this; cases this
theorem GoodR.bad_twice {root : Nd} {rs : List Rt} {j : Nat} {r : Rt} {c : Int} (hr : rs[j]? = some r) (hl : lookN (allC root (rs.take j)) r.dst = some c) : ¬ GoodR root rs := fun h => by
  have h1 := lookN_some hl
  have h2 : allC root rs = allC root (rs.take j) ++ (rs.drop j).map fun r => (r.dst, r.cost) := by
    unfold allC
    rw [List.cons_append, ← List.map_append, List.take_append_drop]
  have h3 := h.2
  rw [h2, List.map_append] at h3
  refine (List.nodup_append.1 h3).2.2 r.dst h1 r.dst ?_ rfl
  rw [List.mem_map]
  refine ⟨(r.dst, r.cost), ?_, rfl⟩
  rw [List.mem_map]
  refine ⟨r, ?_, rfl⟩
  have hj := (List.getElem?_eq_some_iff.1 hr)
  rw [List.drop_eq_getElem_cons hj.1, hj.2]; simp
theorem answer_cost (al : List (Nd × Int)) (n : Nd) : answerG costK n (allM al) true = (match lookN al n with | some c => .tuple #[.int .i64 c, .bool true] | none => .tuple #[.int .i64 0, .bool false]) := by
  unfold answerG
  rw [getG_all]
  cases lookN al n <;> rfl
/-- What costsTold answers. -/
def ToldOut (w : World) (root : Nd) (rs : List Rt) (e : Ending) (w' : World) : Prop :=
  ((GoodR root rs ∧ ∃ b, e = .returned (.tuple #[.map (some b), .bool true]) ∧ w.heap.size ≤ b ∧ MapG costK w' b (allM (allC root rs))) ∨ (¬ GoodR root rs ∧ e = .returned (.tuple #[.map none, .bool false]))) ∧ Below w.heap.size w w'

set_option maxRecDepth 100000 in
set_option maxHeartbeats 3200000 in
theorem costsTold_any (rs : List Rt) (root : Nd) (q : Bool) (lo hi : Nat) (A : Option Addr) (n c : Nat) (w : World) (ha : Rep.route.Sl q lo hi w A n rs) (hh : hi ≤ w.heap.size) (hn : n ≤ 1048576) :
    Calls Try.prog 148 #[.slice A n c, .agg #[.bool root.net, .int .i64 root.id]] w fun e w' => ToldOut w root rs e w' := by
  have HA := Rep.Sl.kept ha hh
  have hl := ha.1
  have HM0 : Hid (MapG costK ((w.alloc (.cells #[.bool root.net, .int .i64 root.id] 105)).alloc (.map #[] 0)) (w.heap.size + 1) []) := Lib.hid (by have := MapG.made costK (w.alloc (.cells #[.bool root.net, .int .i64 root.id] 105)); simpa using this)
  have HB0 : Hid (Below w.heap.size w ((w.alloc (.cells #[.bool root.net, .int .i64 root.id] 105)).alloc (.map #[] 0))) := Lib.hid (((Below.refl _ _).alloc (Nat.le_refl _) _).alloc (by simp) _)
  clear ha
  go_enter Try.func148, Try.ntmps148
  have hmm := @run_makeMap Try.prog
  go_wp2_with (refine wpList_insertG (K := costK) rfl (.tmp 11) (.tmp 12) (.const (.int .i64 0)) rfl rfl HM0.out root rfl rfl rfl ?_; intro V hm1 hg1 hs1)
  clear hmm
  have HM : Hid (MapG costK V (w.heap.size + 1) (allM (allC root (rs.take 0)))) := Lib.hid hm1
  have HB : Hid (Below w.heap.size w V) := Lib.hid (HB0.out.grown hg1 HB0.out.size (fun r e => by injection e with e; omega))
  have HZ : Hid (w.heap.size + 2 ≤ V.heap.size) := Lib.hid (by rw [hs1]; simp)
  clear hm1 hg1 hs1 HM0 HB0
  go_loopw [16] (fun i wr => ∃ j : Nat, j ≤ n ∧ i = .int .i64 j ∧ Hid (MapG costK wr (w.heap.size + 1) (allM (allC root (rs.take j)))) ∧ Hid (GoodR root (rs.take j)) ∧ Hid (w.heap.size + 2 ≤ wr.heap.size) ∧ Hid (Below w.heap.size w wr)) (fun i _ => n - (intOf i).toNat)
  case atStart => exact ⟨0, Nat.zero_le _, rfl, HM, Lib.hid ⟨fun r hr => by simp at hr, by simp [allC]⟩, HZ, HB⟩
  case round =>
    clear HM HZ HB
    obtain ⟨j, hj, rfl, HM, HG, HZ, HB⟩ := hrel
    by_cases hlt : j < n
    · obtain ⟨b, o, r, E, m, c1, rfl, hya, hyl, a0, a1, a2, a3⟩ := Rep.route_at (HA.below HB.out).sl hlt
      have hlt' : (j : Int) < n := by omega
      have HYA := Lib.hid hya
      have HM1 : Hid (MapG costK (wr.alloc (.cells #[.bool r.dst.net, .int .i64 r.dst.id, .int .i64 r.cost, .slice E m c1] 201)) (w.heap.size + 1) (allM (allC root (rs.take j)))) := Lib.hid (HM.out.over _)
      clear hya hyl
      cases hlk : lookN (allC root (rs.take j)) r.dst with
      | some c0 =>
        have HAN : Hid (answerG costK r.dst (allM (allC root (rs.take j))) true = .tuple #[.int .i64 c0, .bool true]) := Lib.hid (by rw [answer_cost, hlk])
        have HNO := Lib.hid (GoodR.bad_twice HYA.out hlk)
        have HBA : Hid (Below w.heap.size w (wr.alloc (.cells #[.bool r.dst.net, .int .i64 r.dst.id, .int .i64 r.cost, .slice E m c1] 201))) := Lib.hid (HB.out.alloc HB.out.size _)
        clear hlk
        go_wp2_with (refine wpList_lookupG (K := costK) rfl (.tmp 21) (.tmp 23) true rfl rfl HM1.out r.dst rfl rfl ?_; rw [HAN.out])
        exact bodyPost_ret (v := .tuple #[.map none, .bool false]) (by simp [results, Try.results148, go_sem]) rfl ⟨.inr ⟨HNO.out, rfl⟩, HBA.out⟩
      | none =>
        have HAN : Hid (answerG costK r.dst (allM (allC root (rs.take j))) true = .tuple #[.int .i64 0, .bool false]) := Lib.hid (by rw [answer_cost, hlk])
        have HLK := Lib.hid hlk
        clear hlk
        go_wp2_with (refine wpList_lookupG (K := costK) rfl (.tmp 21) (.tmp 23) true rfl rfl HM1.out r.dst rfl rfl ?_; rw [HAN.out])
        refine Calls.name ?_
        intro U hU
        have HLT : Hid (U.cell? ⟨wr.heap.size + 1, 0, none⟩ = some (.int .i64 r.cost)) := Lib.hid (by rw [hU]; exact (Box.made_at _ _ _ (by simp)).look 0)
        have HBX : Hid (Below w.heap.size w U) := Lib.hid (by rw [hU]; exact (HB.out.alloc HB.out.size _).alloc (by simp; have := HB.out.size; omega) _)
        have HM2 : Hid (MapG costK U (w.heap.size + 1) (allM (allC root (rs.take j)))) := Lib.hid (by rw [hU]; exact HM1.out.over _)
        have HRX : Hid (Box U wr.heap.size 201 #[.bool r.dst.net, .int .i64 r.dst.id, .int .i64 r.cost, .slice E m c1]) := Lib.hid (by rw [hU]; exact (Box.made _ _ _).over _)
        have HZU : Hid (wr.heap.size ≤ U.heap.size) := Lib.hid (by rw [hU]; simp; omega)
        clear hU HM1
        refine (allWithin_one 0 1000000000 _ r.cost _ HLT.out).mono ?_
        obtain ⟨s, hs⟩ : ∃ s, allIn 0 1000000000 [r.cost] = s := ⟨_, rfl⟩
        have HS : Hid (saneC r.cost = s) := Lib.hid (by rw [← hs]; simp [saneC, allIn])
        rw [hs]
        clear hs
        rintro e _ ⟨rfl, rfl⟩
        cases s with
        | false =>
          have HNO := Lib.hid (GoodR.bad_cost (root := root) HYA.out HS.out)
          go_wp2
          exact bodyPost_ret (v := .tuple #[.map none, .bool false]) (by simp [results, Try.results148, go_sem]) rfl ⟨.inr ⟨HNO.out, rfl⟩, HBX.out⟩
        | true =>
          have HNX := Lib.hid (HG.out.next HYA.out HS.out HLK.out)
          have x0 := HRX.out
          have y0 := x0.look 0
          have y1 := x0.look 1
          have y2 := x0.look 2
          have yl := x0.lt
          clear x0
          go_wp2_with (refine wpList_updateG (K := costK) rfl (.tmp 35) (.tmp 37) (.tmp 39) rfl rfl HM2.out r.dst rfl rfl rfl ?_; intro u3 hm3 hg3 hs3)
          go_roundw
          case rel => exact ⟨j + 1, by omega, by go_num, Lib.hid (by
            have hf : findG costK r.dst (allM (allC root (rs.take j))) 0 = none := by
              have h1 := findG_get costK r.dst (allM (allC root (rs.take j))) 0
              rw [getG_all, HLK.out] at h1
              exact Option.map_eq_none_iff.1 h1
            rw [putG_none costK hf] at hm3
            rw [allC_succ root HYA.out]
            unfold allM at hm3 ⊢
            rw [List.map_append]
            exact hm3), HNX, Lib.hid (by have := HZ.out; have := HZU.out; rw [hs3]; omega), Lib.hid (HBX.out.grown hg3 HBX.out.size (fun k e => by injection e with e; omega))⟩
          case measure => simp [intOf]; omega
    · obtain rfl : j = n := by omega
      have HT : Hid (rs.take j = rs) := Lib.hid (List.take_of_length_le (by omega))
      go_wp2
      have hm := HM.out
      have hg := HG.out
      rw [HT.out] at hm hg
      exact bodyPost_ret (v := .tuple #[.map (some (w.heap.size + 1)), .bool true]) (by simp [results, Try.results148, go_sem]) rfl ⟨.inl ⟨hg, _, rfl, Nat.le_succ _, hm⟩, HB.out⟩

set_option maxRecDepth 100000 in
set_option maxHeartbeats 1600000 in
theorem isNoEdge_any (a : Eg) (w : World) :
    Calls Try.prog 150 #[.agg #[.bool a.frm.net, .int .i64 a.frm.id, .bool a.dst.net, .int .i64 a.dst.id, .int .i64 a.cost]] w fun e w' => e = .returned (.bool (!saneC a.cost)) ∧ Below w.heap.size w w' := by
  go_enter Try.func150, Try.ntmps150
  go_wp2_with fail
  refine Calls.name ?_
  intro U hU
  have HLT : Hid (U.cell? ⟨w.heap.size + 1, 0, none⟩ = some (.int .i64 a.cost)) := Lib.hid (by rw [hU]; exact (Box.made_at _ _ _ (by simp)).look 0)
  have HBX : Hid (Below w.heap.size w U) := Lib.hid (by rw [hU]; exact ((Below.refl _ _).alloc (Nat.le_refl _) _).alloc (by simp) _)
  clear hU
  refine (allWithin_one 0 1000000000 _ a.cost _ HLT.out).mono ?_
  obtain ⟨s, hs⟩ : ∃ s, allIn 0 1000000000 [a.cost] = s := ⟨_, rfl⟩
  have HS : Hid (saneC a.cost = s) := Lib.hid (by rw [← hs]; simp [saneC, allIn])
  rw [hs]
  clear hs
  rintro e _ ⟨rfl, rfl⟩
  go_wp2
  go_ret
  exact ⟨by rw [HS.out]; rfl, HBX.out⟩
abbrev noEdgeV : Value := .func (.func 150) #[] #[]

/-- Is an edge's cost none. -/
def badE (a : Eg) : Bool := !saneC a.cost
set_option maxHeartbeats 1600000 in
/-- What IndexFunc answers: the place of the first one that is dropped. -/
theorem indexN_any (q : Bool) (lo hi : Nat) (A : Option Addr) (n c : Nat) (ts : List Eg) (v : Int) (w : World) (ha : Rep.edge.Sl q lo hi w A n ts) (hh : hi ≤ w.heap.size) (hn : n ≤ 1048576) (hv : (v = -1 ∧ ∀ (i : Nat) t, ts[i]? = some t → badE t = false) ∨ ∃ (k : Nat) (a : Eg), v = k ∧ ts[k]? = some a ∧ badE a = true ∧ ∀ (i : Nat) t, i < k → ts[i]? = some t → badE t = false) :
    Calls Try.prog 176 #[.slice A n c, noEdgeV] w fun e w' => e = .returned (.int .i64 v) ∧ Below w.heap.size w w' := by
  have HV := Lib.hid hv
  clear hv
  go_enter Try.func176, Try.ntmps176
  go_wp2
  go_loopw [8] (fun i wr => ∃ j : Nat, j ≤ n ∧ i = .int .i64 j ∧ Hid (∀ i a, i < j → ts[i]? = some a → badE a = false) ∧ Hid (Below w.heap.size w wr)) (fun i _ => n - (intOf i).toNat)
  case atStart => exact ⟨0, Nat.zero_le _, rfl, Lib.hid (fun j a h => absurd h (by omega)), Below.refl _ _⟩
  case round =>
    obtain ⟨j, hj, rfl, HI, HB⟩ := hrel
    by_cases hlt : j < n
    · obtain ⟨b', o, a, rfl, hya, a0, a1, a2, a3, a4⟩ := Rep.edge_at (ha.below HB.out hh) hlt
      have hlt' : (j : Int) < n := by omega
      have HYA := Lib.hid hya
      clear hya
      by_cases hK : badE a = true
      · have HF : Hid (v = j) := Lib.hid (by
          rcases HV.out with ⟨_, h⟩ | ⟨k, a', e, h1, h2, h3⟩
          · have := h j a HYA.out; rw [hK] at this; cases this
          · rcases Nat.lt_trichotomy k j with h | h | h
            · have := HI.out k a' h h1; rw [h2] at this; cases this
            · rw [e, h]
            · have := h3 j a h HYA.out; rw [hK] at this; cases this)
        have HR := Lib.hid hK
        clear hK
        go_wp2_with fail
        refine (isNoEdge_any a _).mono ?_
        rw [show (!saneC a.cost) = badE a from rfl, HR.out]
        rintro e w2 ⟨rfl, hb⟩
        have HB2 := Lib.hid (below_step HB.out hb)
        clear hb
        go_wp2
        go_ret
        exact ⟨by rw [HF.out]; rfl, HB2.out⟩
      · have HR : Hid (badE a = false) := Lib.hid (by simpa using hK)
        clear hK
        go_wp2_with fail
        refine (isNoEdge_any a _).mono ?_
        rw [show (!saneC a.cost) = badE a from rfl, HR.out]
        rintro e w2 ⟨rfl, hb⟩
        have HB2 := Lib.hid (below_step HB.out hb)
        clear hb
        go_wp2
        go_roundw
        case rel => exact ⟨j + 1, by omega, by go_num, Lib.hid (fun i a' hi hz => by
          rcases Nat.lt_succ_iff_lt_or_eq.1 hi with h | rfl
          · exact HI.out i a' h hz
          · obtain rfl : a' = a := by have := HYA.out; rw [this] at hz; injection hz with e; exact e.symm
            exact HR.out), HB2⟩
        case measure => simp [intOf]; omega
    · have HF : Hid (v = -1) := Lib.hid (by
        rcases HV.out with ⟨e, _⟩ | ⟨k, a', e, h1, h2, h3⟩
        · exact e
        · have hk := (List.getElem?_eq_some_iff.1 h1).1
          have := HI.out k a' (by have := ha.1; omega) h1
          rw [h2] at this; cases this)
      clear HI
      go_wp2
      go_ret
      exact ⟨by rw [HF.out]; rfl, HB.out⟩

theorem find_casesN (p : Eg → Bool) (ys : List Eg) : (∀ (i : Nat) t, ys[i]? = some t → p t = false) ∨ ∃ (k : Nat) (a : Eg), ys[k]? = some a ∧ p a = true ∧ ∀ (i : Nat) t, i < k → ys[i]? = some t → p t = false := by
  by_cases h : ys.any p = true
  · refine .inr ⟨ys.findIdx p, ?_⟩
    have hl : ys.findIdx p < ys.length := List.findIdx_lt_length.2 (by
      obtain ⟨t, ht, hk⟩ := List.any_eq_true.1 h
      exact ⟨t, ht, hk⟩)
    refine ⟨ys[ys.findIdx p], List.getElem?_eq_getElem hl, List.findIdx_getElem (w := hl), fun i t hi ht => ?_⟩
    have h1 := (List.getElem?_eq_some_iff.1 ht).1
    have h2 := List.not_of_lt_findIdx hi
    rw [(List.getElem?_eq_some_iff.1 ht).2] at h2
    simpa using h2
  · exact .inl (fun i t ht => by
      have := List.any_eq_false.1 (by simpa using h) t (List.mem_of_getElem? ht)
      simpa using this)
set_option maxHeartbeats 800000 in
theorem containsN_any (q : Bool) (lo hi : Nat) (A : Option Addr) (n c : Nat) (ts : List Eg) (r : Bool) (w : World) (ha : Rep.edge.Sl q lo hi w A n ts) (hh : hi ≤ w.heap.size) (hn : n ≤ 1048576) (hr : r = true ↔ ∃ e ∈ ts, badE e = true) :
    Calls Try.prog 149 #[.slice A n c, noEdgeV] w fun e w' => e = .returned (.bool r) ∧ Below w.heap.size w w' := by
  have HA := Rep.Sl.kept ha hh
  rcases find_casesN badE ts with h | ⟨k, a, h1, h2, h3⟩
  · obtain rfl : r = false := by
      rcases Bool.eq_false_or_eq_true r with e | e
      · obtain ⟨x, hx, hb⟩ := hr.1 e
        obtain ⟨t, ht, rfl⟩ := List.getElem_of_mem hx
        rw [h t _ (List.getElem?_eq_getElem ht)] at hb; cases hb
      · exact e
    have HV := Lib.hid h
    clear ha hr h
    go_enter Try.func149, Try.ntmps149
    go_wp2_with fail
    refine (indexN_any q lo hi A n c ts (-1) _ HA.sl HA.le hn (.inl ⟨rfl, HV.out⟩)).mono ?_
    rintro e w2 ⟨rfl, hb⟩
    have HB := Lib.hid hb
    clear hb
    go_wp2
    go_ret
    exact ⟨rfl, HB.out⟩
  · obtain rfl : r = true := hr.2 ⟨a, List.mem_of_getElem? h1, h2⟩
    have H1 := Lib.hid h1
    have H2 := Lib.hid h2
    have H3 := Lib.hid h3
    have hk0 : (k : Int) ≥ 0 := by omega
    clear ha hr h1 h2 h3
    go_enter Try.func149, Try.ntmps149
    go_wp2_with fail
    refine (indexN_any q lo hi A n c ts k _ HA.sl HA.le hn (.inr ⟨k, a, rfl, H1.out, H2.out, H3.out⟩)).mono ?_
    rintro e w2 ⟨rfl, hb⟩
    have HB := Lib.hid hb
    clear hb
    go_wp2
    go_ret
    exact ⟨by simp, HB.out⟩

end Go.Proofs.Ytooogjfnnmacjaa

namespace Go.Proofs.Ytooogjfnnmacjaa
open Go.RowKit Go.Shelf
set_option linter.unusedVariables false

theorem lookN_sane {al : List (Nd × Int)} (h : ∀ p ∈ al, saneC p.2 = true) {n : Nd} {c : Int} (hc : lookN al n = some c) : 0 ≤ c ∧ c ≤ 1000000000 := by
  unfold lookN at hc
  cases hf : al.find? fun p => ndE p.1 n with
  | none => rw [hf] at hc; cases hc
  | some p =>
    rw [hf] at hc
    injection hc with hc
    rw [← hc]
    exact (saneC_iff _).1 (h p (List.mem_of_find?_eq_some hf))
theorem GoodR.sane {root : Nd} {rs : List Rt} (h : GoodR root rs) : ∀ p ∈ allC root rs, saneC p.2 = true := by
  intro p hp
  unfold allC at hp
  rcases List.mem_cons.1 hp with rfl | hp
  · rfl
  · obtain ⟨r, hr, rfl⟩ := List.mem_map.1 hp
    exact h.1 r hr
/-- Is the cost of an edge's end told by it. -/
def tB (al : List (Nd × Int)) (e : Eg) : Bool := match lookN al e.frm, lookN al e.dst with
  | some cf, some ct => decide (ct = cf + e.cost)
  | _, _ => false
theorem tB_iff (al : List (Nd × Int)) (e : Eg) : tB al e = true ↔ edgeT al e := by
  unfold tB edgeT
  cases lookN al e.frm with
  | none =>
    constructor
    · intro h; cases h
    · rintro ⟨_, h, _⟩; cases h
  | some cf =>
    cases lookN al e.dst with
    | none =>
      constructor
      · intro h; cases h
      · rintro ⟨_, _, h⟩; cases h
    | some ct =>
      constructor
      · intro h
        exact ⟨cf, rfl, by rw [of_decide_eq_true h]⟩
      · rintro ⟨c, h1, h2⟩
        injection h1 with h1
        injection h2 with h2
        subst h1
        exact decide_eq_true h2
/-- The map of what is met. -/
def metM (root : Nd) (al : List (Nd × Int)) (es : List Eg) : List (Nd × Value) := es.foldl (fun ps e => if tB al e = true then putG metK e.dst (.bool true) ps else ps) [(root, .bool true)]
theorem metM_succ (root : Nd) (al : List (Nd × Int)) {es : List Eg} {k : Nat} {e : Eg} (h : es[k]? = some e) : metM root al (es.take (k + 1)) = if tB al e = true then putG metK e.dst (.bool true) (metM root al (es.take k)) else metM root al (es.take k) := by
  unfold metM
  rw [List.take_add_one, h, List.foldl_append]; rfl
theorem met_fold (al : List (Nd × Int)) : ∀ (es : List Eg) (ps : List (Nd × Value)), (keysM ps).Nodup →
    (keysM (es.foldl (fun ps e => if tB al e = true then putG metK e.dst (.bool true) ps else ps) ps)).Nodup ∧ ∀ n, n ∈ keysM (es.foldl (fun ps e => if tB al e = true then putG metK e.dst (.bool true) ps else ps) ps) ↔ n ∈ keysM ps ∨ ∃ e ∈ es, edgeT al e ∧ e.dst = n
  | [], ps, h => ⟨h, fun n => by simp⟩
  | e :: es, ps, h => by
    rw [List.foldl_cons]
    by_cases ht : tB al e = true
    · rw [if_pos ht]
      obtain ⟨h1, h2⟩ := met_fold al es _ (keys_nodup (a := e.dst) (v := .bool true) h)
      refine ⟨h1, fun n => ?_⟩
      rw [h2, keys_mem]
      constructor
      · rintro ((h | h) | ⟨x, hx, h⟩)
        · exact .inl h
        · exact .inr ⟨e, by simp, (tB_iff _ _).1 ht, h.symm⟩
        · exact .inr ⟨x, List.mem_cons_of_mem _ hx, h⟩
      · rintro (h | ⟨x, hx, h, hd⟩)
        · exact .inl (.inl h)
        · rcases List.mem_cons.1 hx with rfl | hx
          · exact .inl (.inr hd.symm)
          · exact .inr ⟨x, hx, h, hd⟩
    · rw [if_neg ht]
      obtain ⟨h1, h2⟩ := met_fold al es _ h
      refine ⟨h1, fun n => ?_⟩
      rw [h2]
      constructor
      · rintro (h | ⟨x, hx, h⟩)
        · exact .inl h
        · exact .inr ⟨x, List.mem_cons_of_mem _ hx, h⟩
      · rintro (h | ⟨x, hx, h, hd⟩)
        · exact .inl h
        · rcases List.mem_cons.1 hx with rfl | hx
          · exact absurd ((tB_iff _ _).2 h) ht
          · exact .inr ⟨x, hx, h, hd⟩
theorem met_count {root : Nd} {rs : List Rt} {es : List Eg} (hg : GoodR root rs) : (metM root (allC root rs) es).length = (allM (allC root rs)).length ↔ ∀ n ∈ (allC root rs).map (·.1), n = root ∨ ∃ e ∈ es, edgeT (allC root rs) e ∧ e.dst = n := by
  obtain ⟨h1, h2⟩ := met_fold (allC root rs) es [(root, .bool true)] (by simp [keysM])
  have hl : (metM root (allC root rs) es).length = (keysM (metM root (allC root rs) es)).length := by simp [keysM]
  have hl2 : (allM (allC root rs)).length = ((allC root rs).map (·.1)).length := by simp [allM]
  have hk : ∀ n, n ∈ keysM (metM root (allC root rs) es) ↔ n = root ∨ ∃ e ∈ es, edgeT (allC root rs) e ∧ e.dst = n := fun n => by
    unfold metM
    rw [h2]
    simp [keysM]
  rw [hl, hl2, nodup_full (S := keysM (metM root (allC root rs) es)) h1 hg.2 (fun x hx => by
    rcases (hk x).1 hx with rfl | ⟨e, _, ⟨cf, _, hd⟩, rfl⟩
    · simp [allC]
    · exact lookN_some hd)]
  exact ⟨fun h n hn => (hk n).1 (h n hn), fun h n hn => (hk n).2 (h n hn)⟩
theorem TightP.good {root : Nd} {es : List Eg} {rs : List Rt} (h : TightP root es rs) : GoodR root rs := ⟨h.1, h.2.2.1⟩

set_option maxRecDepth 100000 in
set_option maxHeartbeats 6400000 in
theorem isTight_any (es : List Eg) (rs : List Rt) (root : Nd) (q1 : Bool) (lo1 hi1 : Nat) (A : Option Addr) (n c : Nat) (q2 : Bool) (lo2 hi2 : Nat) (B : Option Addr) (m d : Nat) (r : Bool) (w : World) (ha : Rep.edge.Sl q1 lo1 hi1 w A n es) (hh1 : hi1 ≤ w.heap.size) (hn : n ≤ 1048576) (hb : Rep.route.Sl q2 lo2 hi2 w B m rs) (hh2 : hi2 ≤ w.heap.size) (hm : m ≤ 1048576) (hr : r = true ↔ TightP root es rs) :
    Calls Try.prog 74 #[.slice A n c, .slice B m d, .agg #[.bool root.net, .int .i64 root.id]] w fun e w' => e = .returned (.bool r) ∧ Below w.heap.size w w' := by
  have HA := Rep.Sl.kept ha hh1
  have HR := Lib.hid hr
  have hl := ha.1
  have HX0 : Hid (Below w.heap.size w (w.alloc (.cells #[.bool root.net, .int .i64 root.id] 105))) := Lib.hid ((Below.refl _ _).alloc (Nat.le_refl _) _)
  have HC0 := Rep.Sl.kept (hb.below HX0.out hh2) (Nat.le_trans hh2 HX0.out.size)
  have HN0 : Hid (Box (w.alloc (.cells #[.bool root.net, .int .i64 root.id] 105)) w.heap.size 105 #[.bool root.net, .int .i64 root.id]) := Lib.hid (Box.made _ _ _)
  clear ha hb hr
  go_enter Try.func74, Try.ntmps74
  go_wp2_with fail
  refine (costsTold_any rs root q2 lo2 hi2 B m d _ HC0.sl HC0.le hm).mono ?_
  rintro e w1 ⟨⟨hg, b, rfl, hbl, hmp⟩ | ⟨hg, rfl⟩, hb1⟩
  rotate_left
  · have HF : Hid (r = false) := Lib.hid (bool_of HR.out (fun h => hg h.good))
    have HB1 := Lib.hid (below_step HX0.out hb1)
    clear hg hb1
    go_wp2
    go_ret
    exact ⟨by rw [HF.out]; rfl, HB1.out⟩
  · have HG := Lib.hid hg
    have HMP := Lib.hid hmp
    have HB1 := Lib.hid (below_step HX0.out hb1)
    have HN1 := Lib.hid (HN0.out.below hb1)
    have HBL : Hid (w.heap.size + 1 ≤ b) := Lib.hid (by have := hbl; simp at this; omega)
    have hlm := hmp.lt
    clear hg hmp hb1 hbl HN0 HX0 HC0
    obtain ⟨r1, hr1⟩ := is_of (∃ e ∈ es, badE e = true)
    have HR1 := Lib.hid hr1
    clear hr1
    go_wp2_with fail
    refine (containsN_any q1 lo1 hi1 A n c es r1 _ (HA.below HB1.out).sl (HA.below HB1.out).le hn HR1.out).mono ?_
    rintro e w2 ⟨rfl, hb2⟩
    have HB2 := Lib.hid (below_step HB1.out hb2)
    have HMP2 := Lib.hid (HMP.out.below hb2)
    have HN2 := Lib.hid (HN1.out.below hb2)
    have hlm2 : b < w2.heap.size := Nat.lt_of_lt_of_le hlm hb2.size
    clear hb2 HB1 HMP HN1 hlm
    cases r1 with
    | true =>
      have HF : Hid (r = false) := Lib.hid (bool_of HR.out (fun h => by
        obtain ⟨x, hx, hb⟩ := HR1.out.1 rfl
        unfold badE at hb
        rw [h.2.1 x hx] at hb; cases hb))
      go_wp2
      go_ret
      exact ⟨by rw [HF.out]; rfl, HB2.out⟩
    | false =>
      have HS : Hid (∀ e ∈ es, saneC e.cost = true) := Lib.hid (fun x hx => by
        rcases Bool.eq_false_or_eq_true (saneC x.cost) with h | h
        · exact h
        · have := HR1.out.2 ⟨x, hx, by unfold badE; rw [h]; rfl⟩
          cases this)
      have HM0 : Hid (MapG metK (w2.alloc (.map #[] 0)) w2.heap.size []) := Lib.hid (MapG.made metK w2)
      have HB3 : Hid (Below w.heap.size w (w2.alloc (.map #[] 0))) := Lib.hid (HB2.out.alloc HB2.out.size _)
      have x0 := HN2.out.look 0
      have x1 := HN2.out.look 1
      have xl := HN2.out.lt
      have hmm := @run_makeMap Try.prog
      clear HR1
      go_wp2_with (refine wpList_insertG (K := metK) rfl (.tmp 28) (.tmp 29) (.const (.bool true)) rfl rfl HM0.out root rfl rfl rfl ?_; intro V hm1 hg1 hs1)
      clear hmm x0 x1 xl
      have HME : Hid (MapG metK V w2.heap.size (metM root (allC root rs) (es.take 0))) := Lib.hid hm1
      have HMQ : Hid (MapG costK V b (allM (allC root rs))) := Lib.hid ((HMP2.out.over _).grown hg1 (fun e => by injection e with e; omega))
      have HB : Hid (Below w.heap.size w V) := Lib.hid (HB3.out.grown hg1 HB3.out.size (fun k e => by injection e with e; have := HB2.out.size; omega))
      have HZ : Hid (w2.heap.size < V.heap.size) := Lib.hid (by rw [hs1]; simp)
      have HBZ := Lib.hid HB2.out.size
      clear hm1 hg1 hs1 HM0 HB3 HB2 HMP2 HN2
      go_wp2
      go_loopw [33] (fun i wr => ∃ k : Nat, k ≤ n ∧ i = .int .i64 k ∧ Hid (MapG metK wr w2.heap.size (metM root (allC root rs) (es.take k))) ∧ Hid (MapG costK wr b (allM (allC root rs))) ∧ Hid (∀ e ∈ es.take k, edgeOK (allC root rs) e) ∧ Hid (w2.heap.size < wr.heap.size) ∧ Hid (Below w.heap.size w wr)) (fun i _ => n - (intOf i).toNat)
      case atStart => exact ⟨0, Nat.zero_le _, rfl, HME, HMQ, Lib.hid (fun e he => by simp at he), HZ, HB⟩
      case round =>
        clear HME HMQ HZ HB
        obtain ⟨k, hk, rfl, HME, HMQ, HOK, HZ, HB⟩ := hrel
        by_cases hlt : k < n
        · obtain ⟨b', o, a, rfl, hya, a0, a1, a2, a3, a4⟩ := Rep.edge_at (HA.below HB.out).sl hlt
          have hlt' : (k : Int) < n := by omega
          have HYA := Lib.hid hya
          have hsc := (saneC_iff _).1 (HS.out a (List.mem_of_getElem? hya))
          have HBA : Hid (Below wr.heap.size wr (wr.alloc (.cells #[.bool a.frm.net, .int .i64 a.frm.id, .bool a.dst.net, .int .i64 a.dst.id, .int .i64 a.cost] 191))) := Lib.hid ((Below.refl _ _).alloc (Nat.le_refl _) _)
          have HQ1 : Hid (MapG costK (wr.alloc (.cells #[.bool a.frm.net, .int .i64 a.frm.id, .bool a.dst.net, .int .i64 a.dst.id, .int .i64 a.cost] 191)) b (allM (allC root rs))) := Lib.hid (HMQ.out.over _)
          have HE1 : Hid (MapG metK (wr.alloc (.cells #[.bool a.frm.net, .int .i64 a.frm.id, .bool a.dst.net, .int .i64 a.dst.id, .int .i64 a.cost] 191)) w2.heap.size (metM root (allC root rs) (es.take k))) := Lib.hid (HME.out.over _)
          have HNX : Hid (∀ z : Bool, tB (allC root rs) a = z → edgeOK (allC root rs) a → ∀ e ∈ es.take (k + 1), edgeOK (allC root rs) e) := Lib.hid (fun z _ ho e he => by
            rw [List.take_add_one, hya] at he
            rcases List.mem_append.1 he with he | he
            · exact HOK.out e he
            · simp at he; rw [he]; exact ho)
          have HSU := Lib.hid (metM_succ root (allC root rs) hya)
          clear hya
          cases hf : lookN (allC root rs) a.frm with
          | none =>
            have HAN : Hid (answerG costK a.frm (allM (allC root rs)) true = .tuple #[.int .i64 0, .bool false]) := Lib.hid (by rw [answer_cost, hf])
            have HT : Hid (tB (allC root rs) a = false) := Lib.hid (by unfold tB; rw [hf])
            have HO : Hid (edgeOK (allC root rs) a) := Lib.hid (fun cf h => by rw [hf] at h; cases h)
            clear hf
            go_wp2_with (refine wpList_lookupG (K := costK) rfl (.tmp 38) (.tmp 40) true rfl rfl HQ1.out a.frm rfl rfl ?_; rw [HAN.out])
            go_roundw
            case rel => exact ⟨k + 1, by omega, by go_num, Lib.hid (by rw [HSU.out, HT.out]; exact HE1.out), HQ1, Lib.hid (HNX.out _ rfl HO.out), Lib.hid (Nat.lt_of_lt_of_le HZ.out HBA.out.size), Lib.hid (below_step HB.out HBA.out)⟩
            case measure => simp [intOf]; omega
          | some cf =>
            have hcf := lookN_sane HG.out.sane hf
            have HAN : Hid (answerG costK a.frm (allM (allC root rs)) true = .tuple #[.int .i64 cf, .bool true]) := Lib.hid (by rw [answer_cost, hf])
            have HFF := Lib.hid hf
            clear hf
            cases hd : lookN (allC root rs) a.dst with
            | none =>
              have HAM : Hid (answerG costK a.dst (allM (allC root rs)) true = .tuple #[.int .i64 0, .bool false]) := Lib.hid (by rw [answer_cost, hd])
              have HF : Hid (r = false) := Lib.hid (bool_of HR.out (fun h => by
                obtain ⟨ct, h1, _⟩ := h.2.2.2.1 a (List.mem_of_getElem? HYA.out) cf HFF.out
                rw [hd] at h1; cases h1))
              clear hd
              go_wp2_with (first | (refine wpList_lookupG (K := costK) rfl (.tmp 38) (.tmp 40) true rfl rfl HQ1.out a.frm rfl rfl ?_; rw [HAN.out]) | (refine wpList_lookupG (K := costK) rfl (.tmp 47) (.tmp 49) true rfl rfl HQ1.out a.dst rfl rfl ?_; rw [HAM.out]))
              go_ret
              exact ⟨by rw [HF.out]; rfl, below_step HB.out HBA.out⟩
            | some ct =>
              have hct := lookN_sane HG.out.sane hd
              have HAM : Hid (answerG costK a.dst (allM (allC root rs)) true = .tuple #[.int .i64 ct, .bool true]) := Lib.hid (by rw [answer_cost, hd])
              have HDD := Lib.hid hd
              have hwr : IntKind.i64.wrap (cf + a.cost) = cf + a.cost := IntWalk.i64_in _ (by omega)
              clear hd
              by_cases hgt : ct > cf + a.cost
              · have HF : Hid (r = false) := Lib.hid (bool_of HR.out (fun h => by
                  obtain ⟨ct', h1, h2⟩ := h.2.2.2.1 a (List.mem_of_getElem? HYA.out) cf HFF.out
                  rw [HDD.out] at h1; injection h1 with h1; omega))
                go_wp2_with (first | (refine wpList_lookupG (K := costK) rfl (.tmp 38) (.tmp 40) true rfl rfl HQ1.out a.frm rfl rfl ?_; rw [HAN.out]) | (refine wpList_lookupG (K := costK) rfl (.tmp 47) (.tmp 49) true rfl rfl HQ1.out a.dst rfl rfl ?_; rw [HAM.out]))
                go_ret
                exact ⟨by rw [HF.out]; rfl, below_step HB.out HBA.out⟩
              · have HO : Hid (edgeOK (allC root rs) a) := Lib.hid (fun cf' h => by rw [HFF.out] at h; injection h with h; subst h; exact ⟨ct, HDD.out, by omega⟩)
                by_cases heq : ct = cf + a.cost
                · have HT : Hid (tB (allC root rs) a = true) := Lib.hid (by unfold tB; rw [HFF.out, HDD.out]; exact decide_eq_true heq)
                  have hee : (ct == cf + a.cost) = true := by simpa using heq
                  go_wp2_with (first | (refine wpList_lookupG (K := costK) rfl (.tmp 38) (.tmp 40) true rfl rfl HQ1.out a.frm rfl rfl ?_; rw [HAN.out]) | (refine wpList_lookupG (K := costK) rfl (.tmp 47) (.tmp 49) true rfl rfl HQ1.out a.dst rfl rfl ?_; rw [HAM.out]) | (refine wpList_updateG (K := metK) rfl (.tmp 69) (.tmp 71) (.const (.bool true)) rfl rfl HE1.out a.dst rfl rfl rfl ?_; intro u3 hm3 hg3 hs3))
                  go_roundw
                  case rel => exact ⟨k + 1, by omega, by go_num, Lib.hid (by rw [HSU.out, HT.out]; exact hm3), Lib.hid (HQ1.out.grown hg3 (fun e => by injection e with e; omega)), Lib.hid (HNX.out _ rfl HO.out), Lib.hid (Nat.lt_of_lt_of_le HZ.out (Nat.le_trans HBA.out.size hg3.size)), Lib.hid ((below_step HB.out HBA.out).grown hg3 (below_step HB.out HBA.out).size (fun q e => by injection e with e; have := HBZ.out; omega))⟩
                  case measure => simp [intOf]; omega
                · have HT : Hid (tB (allC root rs) a = false) := Lib.hid (by unfold tB; rw [HFF.out, HDD.out]; exact decide_eq_false heq)
                  have hee : (ct == cf + a.cost) = false := by simpa using heq
                  go_wp2_with (first | (refine wpList_lookupG (K := costK) rfl (.tmp 38) (.tmp 40) true rfl rfl HQ1.out a.frm rfl rfl ?_; rw [HAN.out]) | (refine wpList_lookupG (K := costK) rfl (.tmp 47) (.tmp 49) true rfl rfl HQ1.out a.dst rfl rfl ?_; rw [HAM.out]))
                  go_roundw
                  case rel => exact ⟨k + 1, by omega, by go_num, Lib.hid (by rw [HSU.out, HT.out]; exact HE1.out), HQ1, Lib.hid (HNX.out _ rfl HO.out), Lib.hid (Nat.lt_of_lt_of_le HZ.out HBA.out.size), Lib.hid (below_step HB.out HBA.out)⟩
                  case measure => simp [intOf]; omega
        · obtain rfl : k = n := by omega
          have HT : Hid (es.take k = es) := Lib.hid (List.take_of_length_le (by omega))
          have hle1 : ∀ ty, (Builtin.len_ #[213] ty #[.map (some w2.heap.size)]).run Try.prog wr = .ok (.int .i64 (metM root (allC root rs) (es.take k)).length) wr := fun ty => HME.out.len ty
          have hle2 : ∀ ty, (Builtin.len_ #[209] ty #[.map (some b)]).run Try.prog wr = .ok (.int .i64 (allM (allC root rs)).length) wr := fun ty => HMQ.out.len ty
          have HRR : Hid ((((metM root (allC root rs) (es.take k)).length : Int) == ((allM (allC root rs)).length : Int)) = r) := Lib.hid (by
            have h1 := met_count (es := es) HG.out
            have h2 := HOK.out
            rw [HT.out] at h2 ⊢
            have h3 : r = true ↔ (metM root (allC root rs) es).length = (allM (allC root rs)).length := by
              rw [HR.out, h1]
              exact ⟨fun h => h.2.2.2.2, fun h => ⟨HG.out.1, HS.out, HG.out.2, h2, h⟩⟩
            rcases Bool.eq_false_or_eq_true r with e | e
            · rw [e, h3.1 e]; simp
            · rw [e, beq_eq_false_iff_ne]
              intro h4
              have := h3.2 (by omega)
              rw [e] at this; cases this)
          go_wp2
          go_ret
          exact ⟨by rw [← HRR.out]; rfl, HB.out⟩

end Go.Proofs.Ytooogjfnnmacjaa

namespace Go.Proofs.Ytooogjfnnmacjaa
open Go.RowKit Go.Shelf
set_option linter.unusedVariables false

/-- A route with its list's slice. -/
abbrev RtV : Type := Rt × (Option Addr × Nat × Nat)
def rvcell (x : RtV) : List Value := [.bool x.1.dst.net, .int .i64 x.1.dst.id, .int .i64 x.1.cost, .slice x.2.1 x.2.2.1 x.2.2.2]
theorem rvcell_len (x : RtV) : (rvcell x).length = 4 := rfl
theorem rvcell_one : ∀ x : RtV, ∀ u ∈ rvcell x, u.oneCell' = true := by
  intro a u hu
  simp only [rvcell, List.mem_cons, List.not_mem_nil, or_false] at hu
  rcases hu with rfl | rfl | rfl | rfl <;> rfl
def alOf (zs : List RtV) : List (Nd × Int) := zs.map fun x => (x.1.dst, x.1.cost)
theorem alOf_at {zs : List RtV} {k : Nat} {x : RtV} (h : zs[k]? = some x) : (alOf zs)[k]? = some (x.1.dst, x.1.cost) := by simp [alOf, h]
theorem gatherR {α : Type} {Q : Nat → α → Prop} (len : Nat) (h : ∀ i, i < len → ∃ b, Q i b) : ∃ ys : List α, ys.length = len ∧ ∀ i b, ys[i]? = some b → Q i b := by
  induction len with
  | zero => exact ⟨[], rfl, fun i b hb => by simp at hb⟩
  | succ k ih =>
    obtain ⟨ys, h1, h2⟩ := ih fun i hi => h i (by omega)
    obtain ⟨b, hb⟩ := h k (by omega)
    refine ⟨ys ++ [b], by simp [h1], fun i x hx => ?_⟩
    by_cases hi : i < k
    · rw [List.getElem?_append_left (by omega)] at hx; exact h2 i x hx
    · have hl := (List.getElem?_eq_some_iff.1 hx).1
      simp [h1] at hl
      obtain rfl : i = k := by omega
      rw [List.getElem?_append_right (by omega), h1] at hx
      simp at hx; subst hx; exact hb
/-- Routes that came in, by their cells. -/
theorem Rep.route_inF {q : Bool} {lo hi : Nat} {w : World} {A : Option Addr} {n : Nat} {rs : List Rt} (h : Rep.route.Sl q lo hi w A n rs) : ∃ zs : List RtV, zs.map (·.1) = rs ∧ InF 4 rvcell w A n zs := by
  obtain ⟨zs, h1, h2⟩ := gatherR (Q := fun i (x : RtV) => rs[i]? = some x.1 ∧ ∃ b o, A = some ⟨b, o, none⟩ ∧ ∀ j u, (rvcell x)[j]? = some u → w.cell? ⟨b, o + i * 4 + j, none⟩ = some u) n (fun i hi => by
    obtain ⟨b, o, e, E, m, c, hA, he, _, a0, a1, a2, a3⟩ := Rep.route_at h hi
    refine ⟨(e, E, m, c), he, b, o, hA, fun j u hj => ?_⟩
    have hj4 : j < 4 := by have := (List.getElem?_eq_some_iff.1 hj).1; simpa [rvcell] using this
    rcases (show j = 0 ∨ j = 1 ∨ j = 2 ∨ j = 3 by omega) with rfl | rfl | rfl | rfl
    · simp [rvcell] at hj; rw [← hj]; exact a0
    · simp [rvcell] at hj; rw [← hj]; exact a1
    · simp [rvcell] at hj; rw [← hj]; exact a2
    · simp [rvcell] at hj; rw [← hj]; exact a3)
  have hl := h.1
  refine ⟨zs, ?_, h1, fun hn => ?_⟩
  · apply List.ext_getElem?
    intro i
    rw [List.getElem?_map]
    cases hz : zs[i]? with
    | none => rw [List.getElem?_eq_none_iff] at hz; rw [List.getElem?_eq_none (by omega)]; rfl
    | some x => rw [(h2 i x hz).1]; rfl
  · obtain ⟨x, hx⟩ : ∃ x, zs[0]? = some x := ⟨_, List.getElem?_eq_getElem (by omega)⟩
    obtain ⟨_, b, o, hA, _⟩ := h2 0 x hx
    refine ⟨b, o, hA, fun j u hj => ?_⟩
    have hjl := (List.getElem?_eq_some_iff.1 hj).1
    rw [flat_len rvcell_len] at hjl
    obtain ⟨y, hy⟩ : ∃ y, zs[j / 4]? = some y := ⟨_, List.getElem?_eq_getElem (by omega)⟩
    have hg := flat_get rvcell_len zs (j / 4) y hy (j % 4) (by omega)
    rw [show j / 4 * 4 + j % 4 = j by omega, hj] at hg
    obtain ⟨_, b2, o2, hA2, hc⟩ := h2 (j / 4) y hy
    rw [hA] at hA2
    injection hA2 with hA2
    injection hA2 with e1 e2 _
    subst e1 e2
    have := hc (j % 4) u hg.symm
    rwa [show o + j / 4 * 4 + j % 4 = o + j by omega] at this
/-- The cells of a route of a row. -/
theorem InF.rv_at {w : World} {A : Option Addr} {n : Nat} {zs : List RtV} (h : InF 4 rvcell w A n zs) {k : Nat} (hk : k < n) :
    ∃ b o x, A = some ⟨b, o, none⟩ ∧ zs[k]? = some x ∧ w.cell? ⟨b, o + k * 4, none⟩ = some (.bool x.1.dst.net) ∧ w.cell? ⟨b, o + k * 4 + 1, none⟩ = some (.int .i64 x.1.dst.id) ∧ w.cell? ⟨b, o + k * 4 + 2, none⟩ = some (.int .i64 x.1.cost) := by
  obtain ⟨b, o, x, hA, hx, hc⟩ := h.at_ rvcell_len hk
  exact ⟨b, o, x, hA, hx, hc 0 _ (by decide) rfl, hc 1 _ (by decide) rfl, hc 2 _ (by decide) rfl⟩
/-- A node's first place among routes, or -1. -/
def AtI (al : List (Nd × Int)) (n : Nd) (v : Int) : Prop := (v = -1 ∧ ∀ (i : Nat) p, al[i]? = some p → ndE p.1 n = false) ∨ ∃ (k : Nat) (p : Nd × Int), v = k ∧ al[k]? = some p ∧ ndE p.1 n = true ∧ ∀ (i : Nat) q, i < k → al[i]? = some q → ndE q.1 n = false
theorem AtI.exists (al : List (Nd × Int)) (n : Nd) : ∃ v, AtI al n v := by
  by_cases h : al.any (fun p => ndE p.1 n) = true
  · have hl : al.findIdx (fun p => ndE p.1 n) < al.length := List.findIdx_lt_length.2 (by
      obtain ⟨t, ht, hk⟩ := List.any_eq_true.1 h
      exact ⟨t, ht, hk⟩)
    refine ⟨_, .inr ⟨al.findIdx (fun p => ndE p.1 n), al[al.findIdx (fun p => ndE p.1 n)], rfl, List.getElem?_eq_getElem hl, List.findIdx_getElem (w := hl), fun i t hi ht => ?_⟩⟩
    have h1 := (List.getElem?_eq_some_iff.1 ht).1
    have h2 := List.not_of_lt_findIdx hi
    rw [(List.getElem?_eq_some_iff.1 ht).2] at h2
    simpa using h2
  · exact ⟨-1, .inl ⟨rfl, fun i t ht => by
      have := List.any_eq_false.1 (Bool.eq_false_iff.2 h) t (List.mem_of_getElem? ht)
      simpa using this⟩⟩
theorem lookN_at {n : Nd} : ∀ {al : List (Nd × Int)} {k : Nat} {p : Nd × Int}, al[k]? = some p → ndE p.1 n = true → (∀ (i : Nat) q, i < k → al[i]? = some q → ndE q.1 n = false) → lookN al n = some p.2
  | [], _, _, h, _, _ => by simp at h
  | q :: al, 0, p, h, hk, _ => by
    simp only [List.getElem?_cons_zero, Option.some.injEq] at h
    subst h
    unfold lookN
    rw [List.find?_cons, hk]; rfl
  | q :: al, k + 1, p, h, hk, hj => by
    have ih := lookN_at (n := n) (al := al) (k := k) (by simpa using h) hk (fun i r hi hr => hj (i + 1) r (by omega) (by simpa using hr))
    unfold lookN at ih ⊢
    rw [List.find?_cons, hj 0 q (by omega) rfl]
    exact ih
theorem AtI.look {al : List (Nd × Int)} {n : Nd} {v : Int} (h : AtI al n v) : (v = -1 ∧ lookN al n = none) ∨ ∃ (k : Nat) (p : Nd × Int), v = k ∧ al[k]? = some p ∧ p.1 = n ∧ lookN al n = some p.2 := by
  rcases h with ⟨e, h⟩ | ⟨k, p, e, h1, h2, h3⟩
  · refine .inl ⟨e, lookN_none.2 fun hn => ?_⟩
    obtain ⟨p, hp, e⟩ := List.mem_map.1 hn
    obtain ⟨i, hi, rfl⟩ := List.getElem_of_mem hp
    have := h i _ (List.getElem?_eq_getElem hi)
    rw [(ndE_iff _ _).2 e] at this; cases this
  · exact .inr ⟨k, p, e, h1, (ndE_iff _ _).1 h2, lookN_at h1 h2 h3⟩
theorem AtI.uniq {al : List (Nd × Int)} {n : Nd} {u v : Int} (h : AtI al n u) (k : AtI al n v) : u = v := by
  rcases h with ⟨e, h⟩ | ⟨i, p, e, h1, h2, h3⟩ <;> rcases k with ⟨f, k⟩ | ⟨j, q, f, k1, k2, k3⟩
  · rw [e, f]
  · have := h j q k1; rw [k2] at this; cases this
  · have := k i p h1; rw [h2] at this; cases this
  · rcases Nat.lt_trichotomy i j with hl | hl | hl
    · have := k3 i p hl h1; rw [h2] at this; cases this
    · rw [e, f, hl]
    · have := h3 j q hl k1; rw [k2] at this; cases this
/-- Places tell that no two nodes are the same. -/
theorem nodup_at (al : List (Nd × Int)) : (∀ (i : Nat) p, al[i]? = some p → AtI al p.1 i) ↔ (al.map (·.1)).Nodup := by
  constructor
  · intro h
    rw [List.Nodup, List.pairwise_iff_getElem]
    intro i j hi hj hij e
    simp only [List.length_map] at hi hj
    simp only [List.getElem_map] at e
    have h1 := h j al[j] (List.getElem?_eq_getElem hj)
    rcases h1 with ⟨f, _⟩ | ⟨k, p, f, h2, h3, h4⟩
    · omega
    · obtain rfl : k = j := by omega
      have := h4 i al[i] hij (List.getElem?_eq_getElem hi)
      rw [(ndE_iff _ _).2 e] at this; cases this
  · intro h i p hp
    refine .inr ⟨i, p, rfl, hp, (ndE_iff _ _).2 rfl, fun j q hj hq => ?_⟩
    rcases Bool.eq_false_or_eq_true (ndE q.1 p.1) with e | e
    · rw [List.Nodup, List.pairwise_iff_getElem] at h
      obtain ⟨h1, rfl⟩ := List.getElem?_eq_some_iff.1 hp
      obtain ⟨h2, rfl⟩ := List.getElem?_eq_some_iff.1 hq
      exact absurd ((ndE_iff _ _).1 e) (by have := h j i (by simpa using h2) (by simpa using h1) hj; simpa using this)
    · exact e
theorem eql_ndT (a b : Nd) (W : World) : (binOp .eql 105 (.agg #[.bool a.net, .int .i64 a.id]) (.agg #[.bool b.net, .int .i64 b.id])).run Try.prog W = .ok (.bool (ndE a b)) W := by
  obtain ⟨n1, i1⟩ := a
  obtain ⟨n2, i2⟩ := b
  cases n1 <;> cases n2 <;> by_cases h2 : i1 = i2 <;> simp [go_sem, ndE, h2]

theorem l7Sane_any (c : Int) (w : World) :
    Calls Try.prog 144 #[.int .i64 c] w fun e w' => e = .returned (.bool (saneC c)) ∧ w' = w := by
  have HS : Hid (saneC c = allIn 0 1000000000 [c]) := Lib.hid (by simp [saneC, allIn])
  rw [HS.out]
  go_enter Try.func144, Try.ntmps144
  go_wp2_with fail
  refine (l1In_any c 0 1000000000 _).mono ?_
  rintro e _ ⟨rfl, rfl⟩
  go_wp2
  go_ret
  exact ⟨rfl, rfl⟩

section
attribute [local go_sem high] eql_ndT

set_option maxRecDepth 100000 in
set_option maxHeartbeats 3200000 in
theorem l7Find_any (zs : List RtV) (nd : Nd) (A : Option Addr) (n c : Nat) (v : Int) (w : World) (hz : InF 4 rvcell w A n zs) (hn : n ≤ 1048577) (hv : AtI (alOf zs) nd v) :
    Calls Try.prog 145 #[.slice A n c, .agg #[.bool nd.net, .int .i64 nd.id]] w fun e w' => e = .returned (.int .i64 v) ∧ Below w.heap.size w w' := by
  have HV := Lib.hid hv
  have hzl := hz.1
  obtain ⟨V, hV⟩ : ∃ V : World, V = w.alloc (.cells #[.bool nd.net, .int .i64 nd.id] 105) := ⟨_, rfl⟩
  have hbV : Below w.heap.size w V := by rw [hV]; exact (Below.refl _ _).alloc (Nat.le_refl _) _
  have HB := Lib.hid hbV
  have HX := Lib.hid (show Box V w.heap.size 105 #[.bool nd.net, .int .i64 nd.id] by rw [hV]; exact Box.made _ _ _)
  have HZ := Lib.hid (hz.below hbV)
  clear hz hv hbV
  go_enter Try.func145, Try.ntmps145
  go_wp2
  rw [← hV]
  clear hV
  go_loopw [5] (fun t5 wr => ∃ k : Nat, k ≤ n ∧ t5 = .int .i64 k ∧ Hid (∀ (i : Nat) p, i < k → (alOf zs)[i]? = some p → ndE p.1 nd = false) ∧ ∃ d, wr = V.drewN d) (fun t5 _ => n - (intOf t5).toNat)
  case atStart => exact ⟨0, Nat.zero_le _, rfl, Lib.hid (fun i p h => absurd h (by omega)), 0, rfl⟩
  case round =>
    obtain ⟨k, hk, rfl, HN, d, rfl⟩ := hrel
    by_cases hlt : k < n
    · obtain ⟨b, o, x, rfl, hx, a0, a1, a2⟩ := HZ.out.rv_at hlt
      have hlt' : (k : Int) < n := by omega
      have HXA := Lib.hid (alOf_at hx)
      have y0 := HX.out.look 0
      have y1 := HX.out.look 1
      have yl := HX.out.lt
      clear hx
      cases he : ndE x.1.dst nd with
      | true =>
        have HF : Hid (v = k) := Lib.hid (HV.out.uniq (.inr ⟨k, _, rfl, HXA.out, he, HN.out⟩))
        go_wp2
        go_quiet (fail)
        go_wp2
        go_ret
        exact ⟨by rw [HF.out]; rfl, below_drewN (below_drewN HB.out _) _⟩
      | false =>
        have HE := Lib.hid he
        go_wp2
        go_quiet (fail)
        go_wp2
        go_roundw
        case rel => exact ⟨k + 1, by omega, by go_num, Lib.hid (fun i p hi hp => by
          rcases Nat.lt_succ_iff_lt_or_eq.1 hi with h | rfl
          · exact HN.out i p h hp
          · rw [HXA.out] at hp; injection hp with hp; subst hp; exact HE.out), _, rfl⟩
        case measure => simp [intOf]; omega
    · have HF : Hid (v = -1) := Lib.hid (HV.out.uniq (.inl ⟨rfl, fun i p hp => HN.out i p (by have := (List.getElem?_eq_some_iff.1 hp).1; simp [alOf] at this; omega) hp⟩))
      go_wp2
      go_ret
      exact ⟨by rw [HF.out]; rfl, below_drewN HB.out _⟩
end

end Go.Proofs.Ytooogjfnnmacjaa

namespace Go.Proofs.Ytooogjfnnmacjaa
open Go.RowKit Go.Shelf
set_option linter.unusedVariables false

/-- append of items that are told by their cells, whatever the slice that they stand in: nil, empty, or not. -/
theorem run_appBig {α : Type} {size bytes : Nat} {f : α → List Value} (hf : ∀ a, (f a).length = size) (hone : ∀ a, ∀ u ∈ f a, u.oneCell' = true) {ts t ty : TypeId} {z : Value} (hu : Try.prog.underlying ts = some (.slice t))
    (hinfo : (Try.prog.info? t).map (fun i => (i.zero, i.size, i.bytes)) = some (some z, size, bytes)) (hzc : z.cells.size = size) (hsz : 0 < size) (hby : bytes ≤ 1048576) {w : World}
    {B : Nat} {A : Option Addr} {n c : Nat} {zs : List α} (hown : OwnF t size f w B A n c zs)
    {E : Option Addr} {m d : Nat} {ys : List α} (hE : InF size f w E m ys) (hl : n + m ≤ 2097152) (hB : B ≤ w.heap.size) :
    ∃ A' c' w', (Builtin.append_ #[ts, ts] ty #[.slice A n c, .slice E m d]).run Try.prog w = .ok (.slice A' (n + m) c') w' ∧ OwnF t size f w' B A' (n + m) c' (zs ++ ys) ∧ w.grownBy w' (A.map (·.block)) := by
  obtain ⟨i0, hi, hz0, hz1, hz2⟩ := info_parts hinfo
  have hrow : (Value.slice A n c).ownBlock = A.map (·.block) := by cases A <;> rfl
  cases E with
  | none =>
    have hm : m = 0 := by
      rcases Nat.eq_zero_or_pos m with h0 | h0
      · exact h0
      · obtain ⟨b, o, h, _⟩ := hE.2 h0; cases h
    subst hm
    have hy : ys = [] := List.eq_nil_of_length_eq_zero hE.1
    subst hy
    exact ⟨A, c, w, run_app_nil w B ts ty t i0 size hu hi _ n _ hown.2 d, by simpa using hown, World.grownBy.refl w _⟩
  | some ad =>
    have hnews : ∀ j u, (ys.flatMap f)[j]? = some u → w.cell? (ad.add j) = some u := fun j u hj => by
      rcases Nat.eq_zero_or_pos m with h0 | h0
      · have hy : ys = [] := List.eq_nil_of_length_eq_zero (by rw [hE.1]; exact h0)
        subst hy; simp at hj
      · obtain ⟨b, off, he, hc⟩ := hE.2 h0
        obtain rfl := Option.some.inj he
        have ea : Addr.add ⟨b, off, none⟩ j = ⟨b, off + j, none⟩ := by unfold Addr.add; split <;> simp_all
        rw [ea]; exact hc j u hj
    have hbytes : (n + m) * bytes ≤ 140737488355328 := Nat.le_trans (Nat.mul_le_mul hl hby) (by decide)
    obtain ⟨v', w', hrun, h2, h3, _⟩ := run_append_own (P := Try.prog) w B ts ty t i0 z size bytes hu hi hz0 hz1 hz2 hzc hsz (.slice A n c) n (zs.flatMap f) hown.2 ad m d (ys.flatMap f) (by rw [flat_len hf, hE.1]) hnews (fun u hu => by
      obtain ⟨a, _, h2⟩ := List.mem_flatMap.1 hu
      exact hone a u h2) (by unfold maxLen; omega) hbytes hB
    obtain ⟨A', c', rfl⟩ := own_form_any h2
    exact ⟨A', c', w', hrun, ⟨by rw [List.length_append, hown.1, hE.1], by rw [List.flatMap_append]; exact h2⟩, by rw [← hrow]; exact h3⟩

section
variable {α : Type} {size bytes : Nat} {f : α → List Value} {ts t : TypeId} {z : Value} {ops : Array Oper} {o : Oper} {a : Act} {Q : Exit → Act → World → Prop} {w : World} {B : Nat} {A E : Option Addr} {n c m d : Nat} {zs ys : List α}
theorem wp_appBig (hf : ∀ a, (f a).length = size) (hone : ∀ a, ∀ u ∈ f a, u.oneCell' = true) (hu : Try.prog.underlying ts = some (.slice t))
    (hinfo : (Try.prog.info? t).map (fun i => (i.zero, i.size, i.bytes)) = some (some z, size, bytes)) (hzc : z.cells.size = size) (hsz : 0 < size) (hby : bytes ≤ 1048576)
    {K : Act → World → Prop} (s x : Operand) (ho : o.op = .call { callee := .builtin .append, args := #[s, x], argTypes := #[ts, ts] })
    (hs : a.eval s = .slice A n c) (hown : OwnF t size f w B A n c zs) (hx : a.eval x = .slice E m d) (hE : InF size f w E m ys) (hl : n + m ≤ 2097152) (hB : B ≤ w.heap.size)
    (h : ∀ A' c' w', OwnF t size f w' B A' (n + m) c' (zs ++ ys) → w.grownBy w' (A.map (·.block)) → K (a.put o.dst (.slice A' (n + m) c')) w') : o.wp Try.prog a w K Q := by
  obtain ⟨A', c', w', hr, h2, h3⟩ := run_appBig (ty := o.type) (d := d) hf hone hu hinfo hzc hsz hby hown hE hl hB
  unfold Oper.wp execOp
  simp only [ho, resolve, invoke, builtin, Sem.run_bind, Sem.run_pure, Result.andThen_ok, List.map_toArray, List.map_cons, List.map_nil, hs, hx, hr]
  exact h A' c' w' h2 h3
theorem wpList_appBig (hf : ∀ a, (f a).length = size) (hone : ∀ a, ∀ u ∈ f a, u.oneCell' = true) (hu : Try.prog.underlying ts = some (.slice t))
    (hinfo : (Try.prog.info? t).map (fun i => (i.zero, i.size, i.bytes)) = some (some z, size, bytes)) (hzc : z.cells.size = size) (hsz : 0 < size) (hby : bytes ≤ 1048576)
    {rest : List Oper} (hgd : o.guard = none) (s x : Operand) (ho : o.op = .call { callee := .builtin .append, args := #[s, x], argTypes := #[ts, ts] })
    (hs : a.eval s = .slice A n c) (hown : OwnF t size f w B A n c zs) (hx : a.eval x = .slice E m d) (hE : InF size f w E m ys) (hl : n + m ≤ 2097152) (hB : B ≤ w.heap.size)
    (h : ∀ A' c' w', OwnF t size f w' B A' (n + m) c' (zs ++ ys) → w.grownBy w' (A.map (·.block)) → wpList Try.prog ops Q rest (a.put o.dst (.slice A' (n + m) c')) w') : wpList Try.prog ops Q (o :: rest) a w :=
  wpList_plain hgd fun _ hK => wp_appBig hf hone hu hinfo hzc hsz hby s x ho hs hown hx hE hl hB fun A' c' w' h2 h3 => hK _ _ (h A' c' w' h2 h3)
end

theorem OwnF.of_box1 {α : Type} {t : TypeId} {size : Nat} {f : α → List Value} {w : World} {g : Nat} {cs : Array Value} {a : α} (h : Box w g t cs) (hc : cs.toList = f a) (hs : (f a).length = size) : OwnF t size f w g (some ⟨g, 0, none⟩) 1 1 [a] := by
  have hsz : cs.size = 1 * size := by rw [Nat.one_mul, ← hs, ← hc]; simp
  exact ⟨rfl, by simp [hs], .inr ⟨g, 1, cs, rfl, Nat.le_refl _, h, Nat.le_refl _, by unfold maxLen; omega, hsz, by rw [List.take_of_length_le (by rw [Array.length_toList, hsz]; exact Nat.le_refl _), hc]; simp⟩⟩
theorem boolInfo : (Try.prog.info? 4).map (fun i => (i.zero, i.size, i.bytes)) = some (some (.bool false), 1, 1) := by kernel_rfl
/-- Truths of the call's own. -/
def OwnB (w : World) (B g N : Nat) (ms : List Bool) : Prop := w.ownsRow B 4 1 (.slice (some ⟨g, 0, none⟩) N N) N (ms.map Value.bool)
theorem OwnB.len {w : World} {B g N : Nat} {ms : List Bool} (h : OwnB w B g N ms) : ms.length = N := by have := h.1; simpa using this
theorem OwnB.set {w : World} {B g N : Nat} {ms : List Bool} (h : OwnB w B g N ms) (j : Nat) (b : Bool) : OwnB (w.setCell ⟨g, j, none⟩ (.bool b)) B g N (ms.set j b) ∧ w.grownBy (w.setCell ⟨g, j, none⟩ (.bool b)) (some g) := by
  obtain ⟨h1, h2⟩ := World.ownsRow.stored h j (.bool b)
  exact ⟨by unfold OwnB; rw [List.map_set]; exact h1, h2⟩
theorem OwnB.cell {w : World} {B g N : Nat} {ms : List Bool} (h : OwnB w B g N ms) {j : Nat} {b : Bool} (hj : ms[j]? = some b) : w.cell? ⟨g, j, none⟩ = some (.bool b) := by
  have hl := h.len
  have hjl := (List.getElem?_eq_some_iff.1 hj).1
  rw [World.ownsRow.cellAt h j (by omega), List.getElem?_map, hj]; rfl
theorem OwnB.free {w : World} {B g N : Nat} {ms : List Bool} (h : OwnB w B g N ms) (j : Nat) : w.frozen? ⟨g, j, none⟩ = false := World.ownsRow.frozenAt h j
theorem OwnB.below {w w' : World} {B g N : Nat} {ms : List Bool} (h : OwnB w B g N ms) (hb : Below w.heap.size w w') : OwnB w' B g N ms := World.ownsRow.kept h (grownBy_of_below hb none) (by simp [Value.ownBlock])
theorem OwnB.lt {w : World} {B g N : Nat} {ms : List Bool} (h : OwnB w B g N ms) : B ≤ g ∧ g < w.heap.size := World.ownsRow.lt h g rfl
theorem OwnB.made {w : World} {B g N : Nat} (h : w.ownsRow B 4 1 (.slice (some ⟨g, 0, none⟩) N N) N (madeCells (Value.bool false).cells (N * 1)).toList) : OwnB w B g N (List.replicate N false) := by
  unfold OwnB
  have e : (madeCells (Value.bool false).cells (N * 1)).toList = (List.replicate N false).map Value.bool := by
    rw [List.map_replicate, Nat.mul_one]; exact toList_madeCells_one _ _
  rw [← e]; exact h
/-- What is met by then: the root, and what edges tell. -/
def MetP (al : List (Nd × Int)) (es : List Eg) (ms : List Bool) : Prop := ∀ (i : Nat) b, ms[i]? = some b → (b = true ↔ i = 0 ∨ ∃ e ∈ es, edgeT al e ∧ AtI al e.dst i)
theorem MetP.no {al : List (Nd × Int)} {es : List Eg} {k : Nat} {e : Eg} {ms : List Bool} (h : MetP al (es.take k) ms) (he : es[k]? = some e) (ht : ¬ edgeT al e) : MetP al (es.take (k + 1)) ms := fun i b hb => by
  rw [h i b hb]
  constructor
  · rintro (h | ⟨x, hx, h⟩)
    · exact .inl h
    · exact .inr ⟨x, by rw [List.take_add_one]; exact List.mem_append_left _ hx, h⟩
  · rintro (h | ⟨x, hx, h1, h2⟩)
    · exact .inl h
    · rw [List.take_add_one, he] at hx
      rcases List.mem_append.1 hx with hx | hx
      · exact .inr ⟨x, hx, h1, h2⟩
      · simp at hx; subst hx; exact absurd h1 ht
theorem MetP.yes {al : List (Nd × Int)} {es : List Eg} {k j : Nat} {e : Eg} {ms : List Bool} (h : MetP al (es.take k) ms) (he : es[k]? = some e) (ht : edgeT al e) (hj : AtI al e.dst j) : MetP al (es.take (k + 1)) (ms.set j true) := fun i b hb => by
  have hm : ∀ x, x ∈ es.take (k + 1) ↔ x ∈ es.take k ∨ x = e := fun x => by rw [List.take_add_one, he, List.mem_append]; simp
  rw [List.getElem?_set] at hb
  by_cases hji : j = i
  · subst hji
    rw [if_pos rfl] at hb
    split at hb
    · injection hb with hb
      subst hb
      exact ⟨fun _ => .inr ⟨e, (hm e).2 (.inr rfl), ht, hj⟩, fun _ => rfl⟩
    · cases hb
  · rw [if_neg hji] at hb
    rw [h i b hb]
    constructor
    · rintro (h | ⟨x, hx, h⟩)
      · exact .inl h
      · exact .inr ⟨x, (hm x).2 (.inl hx), h⟩
    · rintro (h | ⟨x, hx, h1, h2⟩)
      · exact .inl h
      · rcases (hm x).1 hx with hx | rfl
        · exact .inr ⟨x, hx, h1, h2⟩
        · exact absurd (by have := hj.uniq h2; omega) hji
theorem MetP.full {root : Nd} {rs : List Rt} {es : List Eg} {ms : List Bool} (h : MetP (allC root rs) es ms) (hl : ms.length = (allC root rs).length) (hd : ((allC root rs).map (·.1)).Nodup) :
    (∀ (i : Nat) b, ms[i]? = some b → b = true) ↔ ∀ n ∈ (allC root rs).map (·.1), n = root ∨ ∃ e ∈ es, edgeT (allC root rs) e ∧ e.dst = n := by
  have hat := (nodup_at (allC root rs)).2 hd
  constructor
  · intro ha n hn
    obtain ⟨p, hp, rfl⟩ := List.mem_map.1 hn
    obtain ⟨i, hi, rfl⟩ := List.getElem_of_mem hp
    have hb := ha i ms[i] (List.getElem?_eq_getElem (by omega))
    rcases (h i ms[i] (List.getElem?_eq_getElem (by omega))).1 hb with h0 | ⟨e, he, h1, h2⟩
    · subst h0; left; rfl
    · right
      refine ⟨e, he, h1, ?_⟩
      rcases h2 with ⟨f, _⟩ | ⟨k, p, f, h3, h4, _⟩
      · omega
      · obtain rfl : i = k := by omega
        rw [List.getElem?_eq_getElem hi] at h3
        injection h3 with h3
        rw [h3]; exact ((ndE_iff _ _).1 h4).symm
  · intro ha i b hb
    have hil := (List.getElem?_eq_some_iff.1 hb).1
    rw [h i b hb]
    have hp := List.getElem?_eq_getElem (show i < (allC root rs).length by omega)
    rcases ha ((allC root rs)[i]'(by omega)).1 (List.mem_map.2 ⟨_, List.getElem_mem _, rfl⟩) with h1 | ⟨e, he, h1, h2⟩
    · left
      have h0 := hat 0 (root, 0) rfl
      have hi := hat i _ hp
      rw [h1] at hi
      have := h0.uniq hi
      omega
    · right
      exact ⟨e, he, h1, by rw [h2]; exact hat i _ hp⟩

set_option maxRecDepth 100000 in
set_option maxHeartbeats 12800000 in
theorem specTight_any (es : List Eg) (rs : List Rt) (root : Nd) (q1 : Bool) (lo1 hi1 : Nat) (A : Option Addr) (n c : Nat) (q2 : Bool) (lo2 hi2 : Nat) (Bb : Option Addr) (m d : Nat) (r : Bool) (w : World) (ha : Rep.edge.Sl q1 lo1 hi1 w A n es) (hh1 : hi1 ≤ w.heap.size) (hn : n ≤ 1048576) (hb : Rep.route.Sl q2 lo2 hi2 w Bb m rs) (hh2 : hi2 ≤ w.heap.size) (hm : m ≤ 1048576) (hr : r = true ↔ TightP root es rs) :
    Calls Try.prog 70 #[.slice A n c, .slice Bb m d, .agg #[.bool root.net, .int .i64 root.id]] w fun e w' => e = .returned (.bool r) ∧ Below w.heap.size w w' := by
  have HA := Rep.Sl.kept ha hh1
  have HR := Lib.hid hr
  have hl := ha.1
  obtain ⟨zs, hzs, hzi⟩ := Rep.route_inF hb
  have hzl := hzi.1
  have HB2 : Hid (Below w.heap.size w ((w.alloc (.cells #[.bool root.net, .int .i64 root.id] 105)).alloc (.cells #[.bool root.net, .int .i64 root.id, .int .i64 0, .slice none 0 0] 201))) := Lib.hid (((Below.refl _ _).alloc (Nat.le_refl _) _).alloc (by simp) _)
  have HLI : Hid (OwnF 201 4 rvcell ((w.alloc (.cells #[.bool root.net, .int .i64 root.id] 105)).alloc (.cells #[.bool root.net, .int .i64 root.id, .int .i64 0, .slice none 0 0] 201)) (w.heap.size + 1) (some ⟨w.heap.size + 1, 0, none⟩) 1 1 [((⟨root, 0, []⟩, none, 0, 0) : RtV)]) := Lib.hid (OwnF.of_box1 (Box.made_at _ _ _ (by simp)) rfl rfl)
  have HSR : Hid (InF 4 rvcell ((w.alloc (.cells #[.bool root.net, .int .i64 root.id] 105)).alloc (.cells #[.bool root.net, .int .i64 root.id, .int .i64 0, .slice none 0 0] 201)) Bb m zs) := Lib.hid (hzi.below HB2.out)
  have HAL : Hid (alOf ([((⟨root, 0, []⟩, none, 0, 0) : RtV)] ++ zs) = allC root rs) := Lib.hid (by rw [← hzs]; simp [alOf, allC])
  clear ha hb hr hzi hzs
  go_enter Try.func70, Try.ntmps70
  go_wp2_with (at_builtin; refine wpList_appBig rvcell_len rvcell_one Try.underlying103 routeInfo rfl (by decide) (by decide) rfl (.tmp 18) (.tmp 19) rfl (B := w.heap.size + 1) rfl HLI.out rfl HSR.out (by omega) (by simp) ?_; intro F b1 V ho hg)
  obtain ⟨xs, hxs⟩ : ∃ xs, [((⟨root, 0, []⟩, none, 0, 0) : RtV)] ++ zs = xs := ⟨_, rfl⟩
  rw [hxs] at ho HAL
  obtain ⟨al, hal⟩ : ∃ al, allC root rs = al := ⟨_, rfl⟩
  rw [hal] at HAL
  have HALL := Lib.hid hal
  have HZ := Lib.hid (ho.inF rvcell_len)
  have HBV : Hid (Below w.heap.size w V) := Lib.hid (HB2.out.grown hg HB2.out.size (fun q e => by injection e with e; simp at e; omega))
  have hll : al.length = 1 + m := by rw [← HAL.out]; have := ho.1; simpa [alOf] using this
  clear ho hg HLI HSR HB2 hxs hal
  obtain ⟨N, hN⟩ : ∃ N, 1 + m = N := ⟨_, rfl⟩
  rw [hN] at HZ hll ⊢
  have hN1 : 1 ≤ N := by omega
  have hN2 : N ≤ 1048577 := by omega
  clear hN hm hzl
  go_wp2
  go_loop [8] (fun t8 => ∃ k : Nat, k ≤ N ∧ t8 = .int .i64 k ∧ Hid (∀ (i : Nat) p, i < k → al[i]? = some p → saneC p.2 = true)) (fun t8 => N - (intOf t8).toNat)
  case atStart => exact ⟨0, Nat.zero_le _, rfl, Lib.hid (fun i p h => absurd h (by omega))⟩
  case round =>
    obtain ⟨k, hk, rfl, HS⟩ := hrel
    by_cases hlt : k < N
    · obtain ⟨b, o, x, rfl, hx, a0, a1, a2⟩ := HZ.out.rv_at hlt
      have hlt' : (k : Int) < N := by omega
      have HXA : Hid (al[k]? = some (x.1.dst, x.1.cost)) := Lib.hid (by rw [← HAL.out]; exact alOf_at hx)
      clear hx
      go_wp2_with fail
      refine (l7Sane_any x.1.cost _).mono ?_
      obtain ⟨s, hs⟩ : ∃ s, saneC x.1.cost = s := ⟨_, rfl⟩
      have HSS := Lib.hid hs
      rw [hs]
      clear hs
      rintro e _ ⟨rfl, rfl⟩
      cases s with
      | false =>
        have HF : Hid (r = false) := Lib.hid (bool_of HR.out (fun h => by
          have h1 := h.good.sane (x.1.dst, x.1.cost) (by rw [HALL.out]; exact List.mem_of_getElem? HXA.out)
          simp only [] at h1
          rw [HSS.out] at h1; cases h1))
        go_wp2
        go_ret
        exact ⟨by rw [HF.out]; rfl, HBV.out⟩
      | true =>
        go_wp2
        go_round
        case rel => exact ⟨k + 1, by omega, by go_num, Lib.hid (fun i p hi hp => by
          rcases Nat.lt_succ_iff_lt_or_eq.1 hi with h | rfl
          · exact HS.out i p h hp
          · rw [HXA.out] at hp; injection hp with hp; subst hp; exact HSS.out)⟩
        case measure => simp [intOf]; omega
    · obtain rfl : k = N := by omega
      have HSA : Hid (∀ p ∈ al, saneC p.2 = true) := Lib.hid (fun p hp => by
        obtain ⟨i, hi, rfl⟩ := List.getElem_of_mem hp
        exact HS.out i _ (by omega) (List.getElem?_eq_getElem hi))
      clear HS
      go_wp2
      go_loop [9] (fun t9 => ∃ j : Nat, j ≤ n ∧ t9 = .int .i64 j ∧ Hid (∀ (i : Nat) e, i < j → es[i]? = some e → saneC e.cost = true)) (fun t9 => n - (intOf t9).toNat)
      case atStart => exact ⟨0, Nat.zero_le _, rfl, Lib.hid (fun i p h => absurd h (by omega))⟩
      case round =>
        obtain ⟨j, hj, rfl, HS⟩ := hrel
        by_cases hlt : j < n
        · obtain ⟨b, o, x, rfl, hx, a0, a1, a2, a3, a4⟩ := Rep.edge_at (HA.below HBV.out).sl hlt
          have hlt' : (j : Int) < n := by omega
          have HXA := Lib.hid hx
          clear hx
          go_wp2_with fail
          refine (l7Sane_any x.cost _).mono ?_
          obtain ⟨s, hs⟩ : ∃ s, saneC x.cost = s := ⟨_, rfl⟩
          have HSS := Lib.hid hs
          rw [hs]
          clear hs
          rintro e _ ⟨rfl, rfl⟩
          cases s with
          | false =>
            have HF : Hid (r = false) := Lib.hid (bool_of HR.out (fun h => by
              have h1 := h.2.1 x (List.mem_of_getElem? HXA.out)
              rw [HSS.out] at h1; cases h1))
            go_wp2
            go_ret
            exact ⟨by rw [HF.out]; rfl, HBV.out⟩
          | true =>
            go_wp2
            go_round
            case rel => exact ⟨j + 1, by omega, by go_num, Lib.hid (fun i p hi hp => by
              rcases Nat.lt_succ_iff_lt_or_eq.1 hi with h | rfl
              · exact HS.out i p h hp
              · rw [HXA.out] at hp; injection hp with hp; subst hp; exact HSS.out)⟩
            case measure => simp [intOf]; omega
        · obtain rfl : j = n := by omega
          have HSE : Hid (∀ e ∈ es, saneC e.cost = true) := Lib.hid (fun p hp => by
            obtain ⟨i, hi, rfl⟩ := List.getElem_of_mem hp
            exact HS.out i _ (by omega) (List.getElem?_eq_getElem hi))
          clear HS
          go_wp2
          go_loopw [10] (fun t10 wr => ∃ i : Nat, i ≤ k ∧ t10 = .int .i64 i ∧ Hid (∀ (t : Nat) p, t < i → al[t]? = some p → AtI al p.1 t) ∧ Hid (Below V.heap.size V wr)) (fun t10 _ => k - (intOf t10).toNat)
          case atStart => exact ⟨0, Nat.zero_le _, rfl, Lib.hid (fun i p h => absurd h (by omega)), Lib.hid (Below.refl _ _)⟩
          case round =>
            obtain ⟨i, hi, rfl, HD, HBW⟩ := hrel
            have HZW := Lib.hid (HZ.out.below HBW.out)
            by_cases hlt : i < k
            · obtain ⟨b, o, x, rfl, hx, a0, a1, a2⟩ := HZW.out.rv_at hlt
              have hlt' : (i : Int) < k := by omega
              have HXA : Hid (al[i]? = some (x.1.dst, x.1.cost)) := Lib.hid (by rw [← HAL.out]; exact alOf_at hx)
              obtain ⟨v, hv⟩ := AtI.exists al x.1.dst
              have HV := Lib.hid hv
              clear hx hv
              go_wp2_with fail
              refine (l7Find_any xs x.1.dst _ k _ v _ HZW.out (by omega) (by rw [HAL.out]; exact HV.out)).mono ?_
              rintro e w2 ⟨rfl, hb2⟩
              have HB2 := Lib.hid (below_step HBW.out hb2)
              clear hb2 a0 a1 a2
              by_cases hvi : v = i
              · subst hvi
                go_wp2
                go_roundw
                case rel => exact ⟨i + 1, by omega, by go_num, Lib.hid (fun t p ht hp => by
                  rcases Nat.lt_succ_iff_lt_or_eq.1 ht with h | rfl
                  · exact HD.out t p h hp
                  · rw [HXA.out] at hp; injection hp with hp; subst hp; exact HV.out), HB2⟩
                case measure => simp [intOf]; omega
              · have HF : Hid (r = false) := Lib.hid (bool_of HR.out (fun h => hvi (by
                  have h1 := h.2.2.1
                  rw [HALL.out] at h1
                  have h2 := (nodup_at al).2 h1 i _ HXA.out
                  exact HV.out.uniq h2)))
                have hne : (v != (i : Int)) = true := by simpa using hvi
                go_wp2
                go_ret
                exact ⟨by rw [HF.out]; rfl, below_step HBV.out HB2.out⟩
            · obtain rfl : i = k := by omega
              have HND : Hid ((al.map (·.1)).Nodup) := Lib.hid ((nodup_at al).1 (fun t p hp => HD.out t p (by have := (List.getElem?_eq_some_iff.1 hp).1; omega) hp))
              clear HD
              obtain ⟨i0, hi0, hz0, hz1, hz2⟩ := info_parts boolInfo
              go_wp2_with (at_make; refine wpList_make_full _ rfl _ _ 203 rfl wr.heap.size 4 i0 _ 1 Try.underlying203 hi0 hz0 hz1 .i64 .i64 _ _ i rfl rfl rfl rfl (by rw [hz2]; omega) (by unfold maxLen; omega) (Nat.le_refl _) ?_; intro w1 hown1 hg1; have hlt0 : (0 : Int) < i := (by omega); have hom := OwnB.made hown1; have hfr := hom.free 0; have hcl := hom.cell (j := 0) (b := false) (by rw [List.getElem?_replicate, if_pos (by omega)]); have hsl := hom.lt.2)
              have HBM := Lib.hid (below_step HBW.out (below_of_grown hg1))
              obtain ⟨hos, hgs⟩ := hom.set 0 true
              have HOS := Lib.hid hos
              have HBX : Hid (Below V.heap.size V (w1.setCell ⟨wr.heap.size, 0, none⟩ (.bool true))) := Lib.hid (HBM.out.grown hgs HBM.out.size (fun q e => by injection e with e; rw [← e]; exact HBW.out.size))
              have HMT : Hid (MetP al (es.take 0) ((List.replicate i false).set 0 true)) := Lib.hid (fun t b hb => by
                rw [List.getElem?_set] at hb
                by_cases h0 : 0 = t
                · subst h0
                  rw [if_pos rfl] at hb
                  split at hb
                  · injection hb with hb; subst hb; simp
                  · cases hb
                · rw [if_neg h0, List.getElem?_replicate] at hb
                  split at hb
                  · injection hb with hb
                    subst hb
                    simp
                    omega
                  · cases hb)
              obtain ⟨g, hgw⟩ : ∃ g, wr.heap.size = g := ⟨_, rfl⟩
              have HGV : Hid (V.heap.size ≤ g) := Lib.hid (by rw [← hgw]; exact HBW.out.size)
              rw [hgw] at HOS HBX ⊢
              obtain ⟨u, hu⟩ : ∃ u : World, w1.setCell ⟨g, 0, none⟩ (.bool true) = u := ⟨_, rfl⟩
              rw [hu] at HOS HBX ⊢
              clear hu hos hgs hom hfr hcl hsl hgw hi0 hz0 hz1 hz2 hown1 hg1 HBM HZW HBW
              go_wp2
              go_loopw [12] (fun t12 wr => ∃ (k : Nat) (ms : List Bool), k ≤ j ∧ t12 = .int .i64 k ∧ Hid (OwnB wr g g i ms) ∧ Hid (MetP al (es.take k) ms) ∧ Hid (∀ e ∈ es.take k, edgeOK al e) ∧ Hid (Below V.heap.size V wr)) (fun t12 _ => j - (intOf t12).toNat)
              case atStart => exact ⟨0, _, Nat.zero_le _, rfl, HOS, HMT, Lib.hid (fun e he => by simp at he), HBX⟩
              case round =>
                clear HOS HMT HBX
                obtain ⟨k, ms, hk, rfl, HO, HMT, HOK, HBW⟩ := hrel
                by_cases hlt : k < j
                · obtain ⟨b, o, x, rfl, hx, a0, a1, a2, a3, a4⟩ := Rep.edge_at (HA.below (below_step HBV.out HBW.out)).sl hlt
                  have hlt' : (k : Int) < j := by omega
                  have HXA := Lib.hid hx
                  have hsc := (saneC_iff _).1 (HSE.out x (List.mem_of_getElem? hx))
                  have hnext : edgeOK al x → ∀ e ∈ es.take (k + 1), edgeOK al e := fun ho e he => by
                    rw [List.take_add_one, hx] at he
                    rcases List.mem_append.1 he with he | he
                    · exact HOK.out e he
                    · simp at he; rw [he]; exact ho
                  have HNX := Lib.hid hnext
                  obtain ⟨v1, hv1⟩ := AtI.exists al x.frm
                  have HV1 := Lib.hid hv1
                  have HZW := Lib.hid (HZ.out.below HBW.out)
                  clear hx hv1 hnext
                  go_wp2_with fail
                  refine (l7Find_any xs x.frm _ i _ v1 _ HZW.out (by omega) (by rw [HAL.out]; exact HV1.out)).mono ?_
                  rintro e w2 ⟨rfl, hb2⟩
                  have HB2 := Lib.hid (below_step HBW.out hb2)
                  have HO2 := Lib.hid (HO.out.below hb2)
                  replace a0 := (hb2.cell (World.block_lt_of_cell? wr _ a0)).trans a0
                  replace a1 := (hb2.cell (World.block_lt_of_cell? wr _ a1)).trans a1
                  replace a2 := (hb2.cell (World.block_lt_of_cell? wr _ a2)).trans a2
                  replace a3 := (hb2.cell (World.block_lt_of_cell? wr _ a3)).trans a3
                  replace a4 := (hb2.cell (World.block_lt_of_cell? wr _ a4)).trans a4
                  clear hb2 HBW HO HZW
                  rcases HV1.out.look with ⟨hv1, hl1⟩ | ⟨k1, p1, hv1, hp1, hf1, hl1⟩
                  · subst hv1
                    have HT : Hid (¬ edgeT al x) := Lib.hid (fun ⟨cf, h, _⟩ => by rw [hl1] at h; cases h)
                    have HE : Hid (edgeOK al x) := Lib.hid (fun cf h => by rw [hl1] at h; cases h)
                    clear hl1 a0 a1 a2 a3 a4
                    go_wp2
                    go_roundw
                    case rel => exact ⟨k + 1, ms, by omega, by go_num, HO2, Lib.hid (HMT.out.no HXA.out HT.out), Lib.hid (HNX.out HE.out), HB2⟩
                    case measure => simp [intOf]; omega
                  · subst hv1
                    have HL1 := Lib.hid hl1
                    have HP1 := Lib.hid hp1
                    have hk1 : k1 < i := by have := (List.getElem?_eq_some_iff.1 hp1).1; omega
                    have hk1' : (k1 : Int) < i := by omega
                    have hk10 : ¬ ((k1 : Int) < 0) := by omega
                    have hs1 := (saneC_iff _).1 (HSA.out p1 (List.mem_of_getElem? hp1))
                    obtain ⟨v2, hv2⟩ := AtI.exists al x.dst
                    have HV2 := Lib.hid hv2
                    have HZ2 := Lib.hid (HZ.out.below HB2.out)
                    clear hp1 hl1 hv2 hf1
                    go_wp2_with fail
                    refine (l7Find_any xs x.dst _ i _ v2 _ HZ2.out (by omega) (by rw [HAL.out]; exact HV2.out)).mono ?_
                    rintro e w3 ⟨rfl, hb3⟩
                    have HB3 := Lib.hid (below_step HB2.out hb3)
                    have HO3 := Lib.hid (HO2.out.below hb3)
                    replace a4 := (hb3.cell (World.block_lt_of_cell? w2 _ a4)).trans a4
                    clear hb3 HB2 HO2 HZ2 a0 a1 a2 a3
                    rcases HV2.out.look with ⟨hv2, hl2⟩ | ⟨k2, p2, hv2, hp2, hf2, hl2⟩
                    · subst hv2
                      have HF : Hid (r = false) := Lib.hid (bool_of HR.out (fun h => by
                        have h1 := h.2.2.2.1 x (List.mem_of_getElem? HXA.out) p1.2 (by rw [HALL.out]; exact HL1.out)
                        obtain ⟨ct, h2, _⟩ := h1
                        rw [HALL.out, hl2] at h2; cases h2))
                      clear hl2
                      go_wp2
                      go_quiet (fail)
                      go_wp2
                      go_ret
                      exact ⟨by rw [HF.out]; rfl, below_drewN (below_step HBV.out HB3.out) _⟩
                    · subst hv2
                      have HL2 := Lib.hid hl2
                      have HP2 := Lib.hid hp2
                      have hk2 : k2 < i := by have := (List.getElem?_eq_some_iff.1 hp2).1; omega
                      have hk2' : (k2 : Int) < i := by omega
                      have hk20 : ¬ ((k2 : Int) < 0) := by omega
                      have hs2 := (saneC_iff _).1 (HSA.out p2 (List.mem_of_getElem? hp2))
                      have HZ3 := Lib.hid (HZ.out.below HB3.out)
                      obtain ⟨b', o', x1, hF, hx1, c10, c11, c12⟩ := HZ3.out.rv_at hk1
                      subst hF
                      obtain ⟨b2, o2, x2, hF2, hx2, c20, c21, c22⟩ := HZ3.out.rv_at hk2
                      injection hF2 with hF2
                      injection hF2 with e1 e2 _
                      subst e1 e2
                      have he1 : x1.1.cost = p1.2 := by have h := alOf_at hx1; rw [HAL.out, HP1.out] at h; injection h with h; rw [h]
                      have he2 : x2.1.cost = p2.2 := by have h := alOf_at hx2; rw [HAL.out, HP2.out] at h; injection h with h; rw [h]
                      rw [he1] at c12
                      rw [he2] at c22
                      have hwr : IntKind.i64.wrap (p1.2 + x.cost) = p1.2 + x.cost := IntWalk.i64_in _ (by omega)
                      obtain ⟨bm, hbm⟩ : ∃ bm, ms[k2]? = some bm := ⟨_, List.getElem?_eq_getElem (by have := HO3.out.len; omega)⟩
                      have hmc := HO3.out.cell hbm
                      have hmf := HO3.out.free k2
                      have hml := HO3.out.lt.2
                      have hba := World.block_lt_of_cell? w3 _ a4
                      have hbb := World.block_lt_of_cell? w3 _ c12
                      clear hp2 hl2 hf2 hx1 hx2 he1 he2 c10 c11 c20 c21 hbm
                      by_cases hgt : p2.2 > p1.2 + x.cost
                      · have HF : Hid (r = false) := Lib.hid (bool_of HR.out (fun h => by
                          have h1 := h.2.2.2.1 x (List.mem_of_getElem? HXA.out) p1.2 (by rw [HALL.out]; exact HL1.out)
                          obtain ⟨ct, h2, h3⟩ := h1
                          rw [HALL.out, HL2.out] at h2; injection h2 with h2; omega))
                        have hgt1 : decide (p2.2 > p1.2 + x.cost) = true := by simpa using hgt
                        go_wp2
                        go_quiet (fail)
                        go_wp2
                        go_ret
                        exact ⟨by rw [HF.out]; rfl, below_drewN (below_step HBV.out HB3.out) _⟩
                      · have HE : Hid (edgeOK al x) := Lib.hid (fun cf h => by rw [HL1.out] at h; injection h with h; subst h; exact ⟨p2.2, HL2.out, by omega⟩)
                        have hgt1 : decide (p2.2 > p1.2 + x.cost) = false := by simpa using hgt
                        by_cases heq : p2.2 = p1.2 + x.cost
                        · have HT : Hid (edgeT al x) := Lib.hid ⟨p1.2, HL1.out, by rw [HL2.out, heq]⟩
                          have hee : (p2.2 == p1.2 + x.cost) = true := by simpa using heq
                          have HW : ∀ q, Hid (OwnB ((w3.drewN q).setCell ⟨g, k2, none⟩ (.bool true)) g g i (ms.set k2 true) ∧ Below V.heap.size V ((w3.drewN q).setCell ⟨g, k2, none⟩ (.bool true))) := fun q => Lib.hid (by
                            obtain ⟨h1, h2⟩ := (show OwnB (w3.drewN q) g g i ms from HO3.out).set k2 true
                            exact ⟨h1, Below.grown (below_drewN HB3.out _) h2 (below_drewN HB3.out q).size (fun t e => by injection e with e; rw [← e]; exact HGV.out)⟩)
                          go_wp2
                          go_quiet (fail)
                          go_wp2
                          go_quiet (fail)
                          go_wp2
                          go_roundw
                          case rel => exact ⟨k + 1, ms.set k2 true, by omega, by go_num, Lib.hid (HW _).out.1, Lib.hid (HMT.out.yes HXA.out HT.out HV2.out), Lib.hid (HNX.out HE.out), Lib.hid (HW _).out.2⟩
                          case measure => simp [intOf]; omega
                        · have HT : Hid (¬ edgeT al x) := Lib.hid (fun ⟨cf, h1, h2⟩ => by rw [HL1.out] at h1; injection h1 with h1; subst h1; rw [HL2.out] at h2; injection h2 with h2; exact heq h2)
                          have hee : (p2.2 == p1.2 + x.cost) = false := by simpa using heq
                          go_wp2
                          go_quiet (fail)
                          go_wp2
                          go_quiet (fail)
                          go_wp2
                          go_roundw
                          case rel => exact ⟨k + 1, ms, by omega, by go_num, Lib.hid (show OwnB _ g g i ms from HO3.out), Lib.hid (HMT.out.no HXA.out HT.out), Lib.hid (HNX.out HE.out), Lib.hid (below_drewN HB3.out _)⟩
                          case measure => simp [intOf]; omega
                · obtain rfl : k = j := by omega
                  have hmt := HMT.out
                  have hok := HOK.out
                  rw [List.take_of_length_le (by omega)] at hmt hok
                  have HFU : Hid ((∀ (t : Nat) b, ms[t]? = some b → b = true) ↔ r = true) := Lib.hid (by
                    have h1 := MetP.full (root := root) (rs := rs) (es := es) (ms := ms) (by rw [HALL.out]; exact hmt) (by rw [HALL.out]; have := HO.out.len; omega) (by rw [HALL.out]; exact HND.out)
                    rw [h1, HR.out]
                    unfold TightP
                    rw [HALL.out]
                    refine ⟨fun h => ⟨fun q hq => ?_, HSE.out, HND.out, hok, h⟩, fun h => h.2.2.2.2⟩
                    exact HSA.out (q.dst, q.cost) (by rw [← HALL.out]; unfold allC; exact List.mem_cons_of_mem _ (List.mem_map.2 ⟨q, hq, rfl⟩)))
                  clear hmt hok HMT HOK
                  go_wp2
                  go_loop [15] (fun t15 => ∃ t : Nat, t ≤ i ∧ t15 = .int .i64 t ∧ Hid (∀ (q : Nat) b, q < t → ms[q]? = some b → b = true)) (fun t15 => i - (intOf t15).toNat)
                  case atStart => exact ⟨0, Nat.zero_le _, rfl, Lib.hid (fun q b h => absurd h (by omega))⟩
                  case round =>
                    obtain ⟨t, ht, rfl, HQ⟩ := hrel
                    by_cases hlt : t < i
                    · obtain ⟨bm, hbm⟩ : ∃ bm, ms[t]? = some bm := ⟨_, List.getElem?_eq_getElem (by have := HO.out.len; omega)⟩
                      have hmc := HO.out.cell hbm
                      have hlt' : (t : Int) < i := by omega
                      have HBM := Lib.hid hbm
                      clear hbm
                      cases bm with
                      | false =>
                        have HF : Hid (r = false) := Lib.hid (bool_of (Iff.refl (r = true)) (fun h => by
                          have := HFU.out.2 h t _ HBM.out
                          cases this))
                        go_wp2
                        go_ret
                        exact ⟨by rw [HF.out]; rfl, below_step HBV.out HBW.out⟩
                      | true =>
                        go_wp2
                        go_round
                        case rel => exact ⟨t + 1, by omega, by go_num, Lib.hid (fun q b hq hb => by
                          rcases Nat.lt_succ_iff_lt_or_eq.1 hq with h | rfl
                          · exact HQ.out q b h hb
                          · rw [HBM.out] at hb; injection hb with hb; exact hb.symm)⟩
                        case measure => simp [intOf]; omega
                    · have HF : Hid (r = true) := Lib.hid (HFU.out.1 (fun q b hb => HQ.out q b (by have := (List.getElem?_eq_some_iff.1 hb).1; have := HO.out.len; omega) hb))
                      go_wp2
                      go_ret
                      exact ⟨by rw [HF.out]; rfl, below_step HBV.out HBW.out⟩

end Go.Proofs.Ytooogjfnnmacjaa

namespace Go.Proofs.Ytooogjfnnmacjaa
open Go.RowKit
set_option linter.unusedVariables false

set_option maxRecDepth 100000 in
set_option maxHeartbeats 3200000 in
theorem law_IsTight (ys0 : List Eg) (q0 : Bool) (lo0 hi0 : Nat) (A0 : Option Addr) (n0 c0 : Nat) (ys1 : List Rt) (q1 : Bool) (lo1 hi1 : Nat) (A1 : Option Addr) (n1 c1 : Nat) (nd2 : Nd) (w : World) (ha0 : Rep.edge.Sl q0 lo0 hi0 w A0 n0 ys0) (hh0 : hi0 ≤ w.heap.size) (hn0 : n0 ≤ maxLen) (ha1 : Rep.route.Sl q1 lo1 hi1 w A1 n1 ys1) (hh1 : hi1 ≤ w.heap.size) (hn1 : n1 ≤ maxLen) (hm1 : ∀ y ∈ ys1, y.hops.length ≤ maxLen) :
    Calls Try.prog 8 #[.slice A0 n0 c0, .slice A1 n1 c1, .agg #[.bool nd2.net, .int .i64 nd2.id]] w fun e w' => e = .returned (.bool true) ∧ Below w.heap.size w w' := by
  by_cases hbig0 : (1048576 : Int) - (n0 : Int) < 0
  · have HB := Lib.hid (Below.refl w.heap.size w)
    have HA0 := Rep.Sl.kept ha0 hh0
    clear ha0
    have HA1 := Rep.Sl.kept ha1 hh1
    have HMX1 := Lib.hid hm1
    clear ha1 hm1
    have HR0 : Hid ((if (1048576 : Int) - (n0 : Int) < 0 then -1 else (1048576 : Int) - (n0 : Int)) = -1) := Lib.hid (if_pos hbig0)
    clear hbig0
    go_enter Try.func8, Try.ntmps8
    go_wp2_with fail
    refine Calls.name ?_
    intro U1 hU1
    have hb : Below w.heap.size w U1 := by rw [hU1]; exact ((Below.refl _ _).alloc (Nat.le_refl _) _)
    have zz : Hid (w.heap.size + 1 = U1.heap.size) := Lib.hid (by rw [hU1]; simp)
    have HX1 : Kept w.heap.size (w.heap.size + 1) (BoxK w.heap.size 98 #[.bool nd2.net, .int .i64 nd2.id]) U1 := by rw [hU1]; exact Kept.box (Box.made_at _ _ _ rfl)
    replace HA0 := HA0.below hb
    replace HA1 := HA1.below hb
    replace HB := Lib.hid (below_step HB.out hb)
    clear hb
    have Z1 := zz; clear zz
    clear hU1
    refine (szEdgeS_any A0 n0 c0 (1048576) _ (by omega) (by omega) hn0).mono ?_
    rw [HR0.out]
    rintro e w2 ⟨rfl, rfl⟩
    have l2_0 := HX1.bx.lt
    go_wp2
    clear l2_0
    go_ret
    exact ⟨rfl, HB.out⟩
  obtain ⟨r0, hr0⟩ : ∃ r, (1048576 : Int) - (n0 : Int) = r := ⟨_, rfl⟩
  have HR0 : Hid ((if (1048576 : Int) - (n0 : Int) < 0 then -1 else (1048576 : Int) - (n0 : Int)) = r0) := Lib.hid (by rw [if_neg hbig0]; exact hr0)
  have hz0 : 0 ≤ r0 := by omega
  have hle0 : r0 ≤ 1048576 := by omega
  have hN0 : n0 ≤ 1048576 := by omega
  clear hr0 hbig0
  have hle1 := szSS_bd (rtRows ys1) r0 (by omega)
  by_cases hbig1 : szSS r0 (rtRows ys1) < 0
  · have HB := Lib.hid (Below.refl w.heap.size w)
    have HA0 := Rep.Sl.kept ha0 hh0
    clear ha0
    have HA1 := Rep.Sl.kept ha1 hh1
    have HMX1 := Lib.hid hm1
    clear ha1 hm1
    have HR1 := Lib.hid (szSS_neg (rtRows ys1) r0 hbig1)
    clear hbig1 hle1
    go_enter Try.func8, Try.ntmps8
    go_wp2_with fail
    refine Calls.name ?_
    intro U1 hU1
    have hb : Below w.heap.size w U1 := by rw [hU1]; exact ((Below.refl _ _).alloc (Nat.le_refl _) _)
    have zz : Hid (w.heap.size + 1 = U1.heap.size) := Lib.hid (by rw [hU1]; simp)
    have HX1 : Kept w.heap.size (w.heap.size + 1) (BoxK w.heap.size 98 #[.bool nd2.net, .int .i64 nd2.id]) U1 := by rw [hU1]; exact Kept.box (Box.made_at _ _ _ rfl)
    replace HA0 := HA0.below hb
    replace HA1 := HA1.below hb
    replace HB := Lib.hid (below_step HB.out hb)
    clear hb
    have Z1 := zz; clear zz
    clear hU1
    refine (szEdgeS_any A0 n0 c0 (1048576) _ (by omega) (by omega) hn0).mono ?_
    rw [HR0.out]
    rintro e w2 ⟨rfl, rfl⟩
    have l2_0 := HX1.bx.lt
    go_wp2_with fail
    clear l2_0
    refine (szRouteS_any q1 lo1 hi1 A1 n1 c1 ys1 (r0) _ HA1.sl HA1.le hn1 HMX1.out (by omega) (by omega)).mono ?_
    rw [HR1.out]
    rintro e w3 ⟨rfl, hb⟩
    have Z2 := Lib.hid hb.size
    replace HA0 := HA0.below hb
    replace HA1 := HA1.below hb
    replace HX1 := HX1.below hb
    replace HB := Lib.hid (below_step HB.out hb)
    clear hb
    have l3_0 := HX1.bx.lt
    go_wp2
    clear l3_0
    go_ret
    exact ⟨rfl, HB.out⟩
  have hsz1 := szSS_nonneg (show (0 : Int) ≤ r0 by omega) (show 0 ≤ szSS r0 (rtRows ys1) by omega)
  obtain ⟨r1, hr1⟩ : ∃ r, szSS r0 (rtRows ys1) = r := ⟨_, rfl⟩
  rw [hr1] at hle1 hbig1 hsz1
  have HR1 := Lib.hid hr1
  have hln1 := ha1.1
  rw [rtRows_len, hln1] at hsz1
  have hN1 : n1 ≤ 1048576 := by omega
  have HM1 : Hid (∀ y ∈ ys1, y.hops.length ≤ 1048576) := Lib.hid (fun y hy => by obtain ⟨i, hi, rfl⟩ := List.getElem_of_mem hy; have := tot_rt (List.getElem?_eq_getElem hi); omega)
  have HT1 : Hid (tot (rtRows ys1) ≤ 1048576) := Lib.hid (by omega)
  have hz1 : 0 ≤ r1 := by omega
  clear hr1 hln1 hsz1 hbig1
  have HB := Lib.hid (Below.refl w.heap.size w)
  have HA0 := Rep.Sl.kept ha0 hh0
  clear ha0
  have HA1 := Rep.Sl.kept ha1 hh1
  have HMX1 := Lib.hid hm1
  clear ha1 hm1
  obtain ⟨r, hr⟩ := is_of (TightP nd2 ys0 ys1)
  have HRR := Lib.hid hr
  clear hr
  go_enter Try.func8, Try.ntmps8
  go_wp2_with fail
  refine Calls.name ?_
  intro U1 hU1
  have hb : Below w.heap.size w U1 := by rw [hU1]; exact ((Below.refl _ _).alloc (Nat.le_refl _) _)
  have zz : Hid (w.heap.size + 1 = U1.heap.size) := Lib.hid (by rw [hU1]; simp)
  have HX1 : Kept w.heap.size (w.heap.size + 1) (BoxK w.heap.size 98 #[.bool nd2.net, .int .i64 nd2.id]) U1 := by rw [hU1]; exact Kept.box (Box.made_at _ _ _ rfl)
  replace HA0 := HA0.below hb
  replace HA1 := HA1.below hb
  replace HB := Lib.hid (below_step HB.out hb)
  clear hb
  have Z1 := zz; clear zz
  clear hU1
  refine (szEdgeS_any A0 n0 c0 (1048576) _ (by omega) (by omega) hn0).mono ?_
  rw [HR0.out]
  rintro e w2 ⟨rfl, rfl⟩
  have l2_0 := HX1.bx.lt
  go_wp2_with fail
  clear l2_0
  refine (szRouteS_any q1 lo1 hi1 A1 n1 c1 ys1 (r0) _ HA1.sl HA1.le hn1 HMX1.out (by omega) (by omega)).mono ?_
  rw [HR1.out]
  rintro e w3 ⟨rfl, hb⟩
  have Z2 := Lib.hid hb.size
  replace HA0 := HA0.below hb
  replace HA1 := HA1.below hb
  replace HX1 := HX1.below hb
  replace HB := Lib.hid (below_step HB.out hb)
  clear hb
  have l3_0 := HX1.bx.lt
  go_wp2_with fail
  clear l3_0
  have SB : Hid (∀ W, Hid (Below w3.heap.size w3 W) → (fun W => W.cell? ⟨w.heap.size, 0, none⟩ = some (.bool nd2.net) ∧ W.cell? ⟨w.heap.size, 1, none⟩ = some (.int .i64 nd2.id)) W) := fun W h => ⟨(HX1.below h.out).look 0, (HX1.below h.out).look 1⟩
  have V0 : Hid (Below w3.heap.size w3 w3.drew) := (Below.refl _ _).drew
  go_region_held3 (fun W => W.cell? ⟨w.heap.size, 0, none⟩ = some (.bool nd2.net) ∧ W.cell? ⟨w.heap.size, 1, none⟩ = some (.int .i64 nd2.id)) (exact SB.out _ (by assumption))
    (first | (go_at_call 71; ((with_reducible refine (toEdgeS_any q0 lo0 hi0 A0 n0 c0 ys0 _ (HA0.below V0.out).sl (HA0.below V0.out).le hN0).mono ?_); rintro e u1_0 ⟨rfl, hs, hlt, hb⟩; have V1 := Lib.hid (below_step V0.out hb); clear hb; have HS0 : Kept w3.heap.size (w3.heap.size + 1) (SlK Rep.edge true w3.heap.size (w3.heap.size + 1) (some ⟨w3.heap.size, 0, none⟩) n0 ys0) u1_0 := (Rep.Sl.kept hs hlt); clear hs hlt)) | (go_at_call 72; ((with_reducible refine (toRouteS_any q1 lo1 hi1 A1 n1 c1 ys1 _ (HA1.below V1.out).sl (HA1.below V1.out).le hN1 HM1.out).mono ?_); rintro e u1_1 ⟨rfl, hk, hb⟩; have V2 := Lib.hid (below_step V1.out hb); (try replace HS0 := HS0.below hb); (try replace HS1 := HS1.below hb); clear hb; have HS1 := FRepK.kept hk (Nat.le_refl _); clear hk)) | (go_at_call 73; ((with_reducible refine (toNode_any nd2.net nd2.id _).mono ?_); rintro e u1_2 ⟨rfl, hb⟩; have V3 := Lib.hid (below_step V2.out hb); (try replace HS0 := HS0.below hb); (try replace HS1 := HS1.below hb); clear hb)) | (go_at_call 70; ((with_reducible refine (specTight_any ys0 ys1 nd2 true _ _ _ n0 n0 true _ _ _ n1 n1 r _ HS0.sl HS0.le hN0 HS1.routes HS1.le hN1 HRR.out).mono ?_); rintro e u1_3 ⟨rfl, hb⟩; have V4 := Lib.hid (below_step V3.out hb); (try replace HS0 := HS0.below hb); (try replace HS1 := HS1.below hb); clear hb)))
  have hb := V4.out
  clear SB V0 V1 V2 V3 V4
  have Z3 := Lib.hid hb.size
  replace HA0 := HA0.below hb
  replace HA1 := HA1.below hb
  replace HX1 := HX1.below hb
  replace HB := Lib.hid (below_step HB.out hb)
  clear hb
  clear HS0 HS1
  have l4_0 := HX1.bx.lt
  go_wp2_with fail
  clear l4_0
  refine (toEdgeS_any q0 lo0 hi0 A0 n0 c0 ys0 _ HA0.sl HA0.le hN0).mono ?_
  rintro e w4 ⟨rfl, hs, hlt, hb⟩
  have Z4 := Lib.hid hb.size
  replace HA0 := HA0.below hb
  replace HA1 := HA1.below hb
  replace HX1 := HX1.below hb
  replace HB := Lib.hid (below_step HB.out hb)
  clear hb
  have Z5 := Lib.hid hlt
  have HG0 := Rep.Sl.kept hs hlt; clear hs hlt
  have l5_0 := HX1.bx.lt
  go_wp2_with fail
  clear l5_0
  refine (toRouteS_any q1 lo1 hi1 A1 n1 c1 ys1 _ HA1.sl HA1.le hN1 HM1.out).mono ?_
  rintro e w5 ⟨rfl, hk, hb⟩
  have Z6 := Lib.hid hb.size
  replace HA0 := HA0.below hb
  replace HA1 := HA1.below hb
  replace HX1 := HX1.below hb
  replace HG0 := HG0.below hb
  replace HB := Lib.hid (below_step HB.out hb)
  clear hb
  have HG1 := FRepK.kept hk (Nat.le_refl _); clear hk
  have c6_0 := HX1.look 0
  have c6_1 := HX1.look 1
  have l6_0 := HX1.bx.lt
  go_wp2_with fail
  clear c6_0 c6_1 l6_0
  refine (toNode_any nd2.net nd2.id _).mono ?_
  rintro e w6 ⟨rfl, hb⟩
  have Z7 := Lib.hid hb.size
  replace HA0 := HA0.below hb
  replace HA1 := HA1.below hb
  replace HX1 := HX1.below hb
  replace HG0 := HG0.below hb
  replace HG1 := HG1.below hb
  replace HB := Lib.hid (below_step HB.out hb)
  clear hb
  have l7_0 := HX1.bx.lt
  go_wp2_with fail
  clear l7_0
  refine (isTight_any ys0 ys1 nd2 true _ _ (some ⟨u1_3.heap.size, 0, none⟩) n0 n0 true _ _ (some ⟨w4.heap.size, 0, none⟩) n1 n1 r _ HG0.sl HG0.le hN0 HG1.routes HG1.le hN1 HRR.out).mono ?_
  rintro e w7 ⟨rfl, hb⟩
  have Z8 := Lib.hid hb.size
  replace HA0 := HA0.below hb
  replace HA1 := HA1.below hb
  replace HX1 := HX1.below hb
  replace HG0 := HG0.below hb
  replace HG1 := HG1.below hb
  replace HB := Lib.hid (below_step HB.out hb)
  clear hb
  have l8_0 := HX1.bx.lt
  go_wp2_with fail
  clear l8_0
  refine (toEdgeS_any q0 lo0 hi0 A0 n0 c0 ys0 _ HA0.sl HA0.le hN0).mono ?_
  rintro e w8 ⟨rfl, hs, hlt, hb⟩
  have Z9 := Lib.hid hb.size
  replace HA0 := HA0.below hb
  replace HA1 := HA1.below hb
  replace HX1 := HX1.below hb
  replace HG0 := HG0.below hb
  replace HG1 := HG1.below hb
  replace HB := Lib.hid (below_step HB.out hb)
  clear hb
  have Z10 := Lib.hid hlt
  have HZ0 := Rep.Sl.kept hs hlt; clear hs hlt
  have l9_0 := HX1.bx.lt
  go_wp2_with fail
  clear l9_0
  refine (eqEdgeS_yes true true _ _ _ _ (some ⟨u1_3.heap.size, 0, none⟩) (some ⟨w7.heap.size, 0, none⟩) n0 n0 n0 ys0 _ HG0.sl HZ0.sl HG0.le HZ0.le hN0).mono ?_
  rintro e w9 ⟨rfl, hb⟩
  have Z11 := Lib.hid hb.size
  replace HA0 := HA0.below hb
  replace HA1 := HA1.below hb
  replace HX1 := HX1.below hb
  replace HG0 := HG0.below hb
  replace HG1 := HG1.below hb
  replace HZ0 := HZ0.below hb
  replace HB := Lib.hid (below_step HB.out hb)
  clear hb
  clear HZ0
  have l10_0 := HX1.bx.lt
  go_wp2_with fail
  clear l10_0
  refine (toRouteS_any q1 lo1 hi1 A1 n1 c1 ys1 _ HA1.sl HA1.le hN1 HM1.out).mono ?_
  rintro e w10 ⟨rfl, hk, hb⟩
  have Z12 := Lib.hid hb.size
  replace HA0 := HA0.below hb
  replace HA1 := HA1.below hb
  replace HX1 := HX1.below hb
  replace HG0 := HG0.below hb
  replace HG1 := HG1.below hb
  replace HB := Lib.hid (below_step HB.out hb)
  clear hb
  have HZ1 := FRepK.kept hk (Nat.le_refl _); clear hk
  have l11_0 := HX1.bx.lt
  go_wp2_with fail
  clear l11_0
  refine (eqRouteS_yes true true _ _ _ _ (some ⟨w4.heap.size, 0, none⟩) (some ⟨w9.heap.size, 0, none⟩) n1 n1 n1 ys1 _ HG1.routes HZ1.routes HG1.le HZ1.le hN1 HM1.out).mono ?_
  rintro e w11 ⟨rfl, hb⟩
  have Z13 := Lib.hid hb.size
  replace HA0 := HA0.below hb
  replace HA1 := HA1.below hb
  replace HX1 := HX1.below hb
  replace HG0 := HG0.below hb
  replace HG1 := HG1.below hb
  replace HZ1 := HZ1.below hb
  replace HB := Lib.hid (below_step HB.out hb)
  clear hb
  clear HZ1
  have l12_0 := HX1.bx.lt
  go_wp2
  clear l12_0
  go_ret
  exact ⟨rfl, HB.out⟩

end Go.Proofs.Ytooogjfnnmacjaa

namespace Go.Proofs.Ytooogjfnnmacjaa.fnExactIsTight
open Go.ChangeShapes Go.WideShapes Go.ChangeAt Go.RowKit
open Go.ChangeMaps (open_string shut_string)
set_option linter.unusedVariables false

theorem own : ownKnob Try.prog.godebug = none := by kernel_rfl
theorem laidOut : laidOutB Try.prog = true := by kernel_rfl

theorem walk (A0 : Option Addr) (n0 c0 : Nat) (ys0 : List Eg) (A1 : Option Addr) (n1 c1 : Nat) (ys1 : List Rt) (nd2 : Nd) (w : World) (hl0 : Rep.edge.Sl false 0 w.heap.size w A0 n0 ys0) (hn0 : n0 ≤ maxLen) (hl1 : Rep.route.Sl false 0 w.heap.size w A1 n1 ys1) (hn1 : n1 ≤ maxLen) (hm1 : ∀ y ∈ ys1, y.hops.length ≤ maxLen)  :
    Calls Try.prog 8 #[.slice A0 n0 c0, .slice A1 n1 c1, .agg (#[.bool nd2.net, .int .i64 nd2.id])] w fun e w' => e = .returned (.bool true) ∧ Below w.heap.size w w' := by
  exact law_IsTight ys0 false 0 w.heap.size A0 n0 c0 ys1 false 0 w.heap.size A1 n1 c1 nd2 w hl0 (Nat.le_refl _) hn0 hl1 (Nat.le_refl _) hn1 hm1

set_option maxRecDepth 100000 in
theorem lifted (os : Os) (started : os.Started) (H : Type) (enc : TypeId × Value → H) :
    ReturnsInHanded {} Try.checked os 8 .any (Rows.fnExactIsTightSpec.pre6 enc Try.prog Try.f8 Rows.fnExactIsTightRow.domain false) (Rows.fnExactIsTightSpec.post enc Try.prog Try.f8 false true false false) := by
  refine returnsInHanded_of_change (C := Try.checked) own started (by kernel_rfl) Try.func8
    (ChangeSpec.witness6 (enc := enc) (C := Try.checked) false ⟨#[], #[.slice none 0 0, .slice none 0 0, .agg #[.bool false, .int .i64 0]], []⟩ 8 (by kernel_rfl) (by kernel_rfl) (by kernel_rfl) (by kernel_rfl)) ?_
  intro W base args ds gs before hval0 hW hcnd _
  have hval : ∀ (j : Nat) t v, Try.f8.params[j]? = some t → args[j]? = some v → Value.okWide Try.prog W .any base t v := hval0
  have hW' := hW
  obtain ⟨p, q, hA0, hV, rfl, hfz, hnd⟩ := hW
  have hA : DataW.TrodAll enc Try.prog W 0 (fun _ => true) true Try.f8.params.toList args.toList ds p := hA0
  rw [Try.params8] at hA hval
  obtain ⟨v0, vs0, d0, ds0, p0, q0, hargs, rfl, rfl, h0, r0⟩ := trodAll_cons hA
  obtain ⟨v1, vs1, d1, ds1, p1, q1, rfl, rfl, rfl, h1, r1⟩ := trodAll_cons r0
  obtain ⟨v2, vs2, d2, ds2, p2, q2, rfl, rfl, rfl, h2, r2⟩ := trodAll_cons r1
  obtain ⟨rfl, rfl, rfl⟩ := trodAll_nil r2
  obtain rfl : args = #[v0, v1, v2] := by cases args; simp_all
  obtain ⟨rfl, rfl⟩ := trodVars_none hV
  obtain ⟨A0, n0, c0, rfl⟩ := okWide_slice Try.underlying95 (hval 0 95 v0 rfl rfl)
  have k0 := h0
  have lt0 : ∀ x ∈ p0, x.block < W.heap.size := by obtain ⟨m, hm⟩ := k0; exact DataW.trod_lt m _ _ _ hm
  obtain ⟨fuel0, hf0⟩ := h0
  obtain ⟨ys0, hl0, hn0⟩ := open_edges (by simpa [Value.cells] using hf0)
  obtain ⟨A1, n1, c1, rfl⟩ := okWide_slice Try.underlying96 (hval 1 96 v1 rfl rfl)
  have k1 := h1
  have lt1 : ∀ x ∈ p1, x.block < W.heap.size := by obtain ⟨m, hm⟩ := k1; exact DataW.trod_lt m _ _ _ hm
  obtain ⟨fuel1, hf1⟩ := h1
  obtain ⟨ys1, hl1, hn1, hm1⟩ := open_routes (by simpa [Value.cells] using hf1)
  obtain ⟨cs2, rfl, hsz2⟩ := okWide_struct Try.underlying98 (hval 2 98 v2 rfl rfl)
  have k2 := h2
  have lt2 : ∀ x ∈ p2, x.block < W.heap.size := by obtain ⟨m, hm⟩ := k2; exact DataW.trod_lt m _ _ _ hm
  obtain ⟨fuel2, hf2⟩ := h2
  obtain ⟨nd2, he2⟩ := open_node hf2
  obtain rfl : cs2 = #[.bool nd2.net, .int .i64 nd2.id] := by cases cs2; simp [Value.cells] at he2; simp [he2]
  clear hA0 hval0
  refine (walk A0 n0 c0 ys0 A1 n1 c1 ys1 nd2 W hl0 hn0 hl1 hn1 hm1 ).mono fun e W' ⟨he, bel⟩ => ?_
  subst he
  exact ⟨_, rfl, _, _, _, [], _, [], hW', trodAll_mk1 (shut_bool Try.underlying4 _), (trodAll_cons_mk (Below.trod laidOut (by kernel_rfl) (of_decide_eq_true (by kernel_rfl)) k0 bel lt0) (trodAll_cons_mk (Below.trod laidOut (by kernel_rfl) (of_decide_eq_true (by kernel_rfl)) k1 bel lt1) (trodAll_cons_mk (Below.trod laidOut (by kernel_rfl) (of_decide_eq_true (by kernel_rfl)) k2 bel lt2) trodAll_mk0))), rfl, bel.frame _, fun h => by cases h⟩

theorem over : Rows.fnExactIsTightRow.holds Try.pinned (OpenSpec.ofChange Rows.fnExactIsTightSpec) :=
  OpenClaim.holds_of_wide 8 Try.f8 rfl rfl rfl rfl rfl rfl rfl ⟨rfl, rfl, rfl, rfl, rfl⟩ rfl rfl rfl rfl rfl (by kernel_rfl) Try.func8 (by kernel_rfl)
    (of_decide_eq_true (by kernel_rfl)) (by unfold Func.isWrapper; first | (rw [if_pos (by decide +kernel)]; kernel_rfl) | (rw [if_neg (by decide +kernel)]; exact ⟨rfl, rfl⟩))
    (fun os started H enc _ => lifted os started H enc)

theorem proved : Rows.FnExactIsTightSaid := over
#print axioms proved
end Go.Proofs.Ytooogjfnnmacjaa.fnExactIsTight
