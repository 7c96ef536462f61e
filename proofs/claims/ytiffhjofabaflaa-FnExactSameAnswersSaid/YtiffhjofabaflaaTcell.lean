/-
  Items of four numbers (timers, items of queues): their cells, their Keys, the place of a Key. No statement is proved here.
-/
import Derived.Test.YtiffhjofabaflaaTimer
import Derived.Test.YtiffhjofabaflaaFoot
import Derived.Test.YtiffhjofabaflaaClone
namespace Go.Proofs.Ytiffhjofabaflaa
open Go.RowKit
set_option linter.unusedVariables false

/-- A timer's cells. -/
def tcell (a : Tmr) : List Value := [.int .i64 a.typ, .int .i64 a.id, .int .i64 a.adv, .int .i64 a.due]
theorem tcell_len (a : Tmr) : (tcell a).length = 4 := rfl
theorem tcell_one : ∀ a : Tmr, ∀ u ∈ tcell a, u.oneCell' = true := by
  intro a u hu
  simp only [tcell, List.mem_cons, List.not_mem_nil, or_false] at hu
  rcases hu with rfl | rfl | rfl | rfl <;> rfl
theorem Rep.timer_inF {q : Bool} {lo hi : Nat} {w : World} {A : Option Addr} {n : Nat} {ys : List Tmr} (h : Rep.timer.Sl q lo hi w A n ys) : InF 4 tcell w A n ys := Rep.Sl.inF (r := Rep.timer) tcell_len (fun _ _ _ _ _ _ h => h) h
theorem OwnF.ne_box {α : Type} {t : TypeId} {size : Nat} {f : α → List Value} {w : World} {B : Nat} {A : Option Addr} {n c : Nat} {ys : List α} {g : Nat} {t' : TypeId} {cs : Array Value} (h : OwnF t size f w B A n c ys) (hb : Box w g t' cs) (ht : t' ≠ t) : A.map (·.block) ≠ some g := by
  intro e
  rcases h.2.2 with ⟨h', _⟩ | ⟨g', cap, cur, h', _, hg, _⟩
  · simp only [Value.slice.injEq] at h'
    rw [h'.1] at e
    cases e
  · simp only [Value.slice.injEq] at h'
    rw [h'.1] at e
    simp only [Option.map_some, Option.some.injEq] at e
    subst e
    unfold Box at hb
    rw [hb] at hg
    simp only [Option.some.injEq, Obj.cells.injEq] at hg
    exact ht hg.2.1
/-- Do two timers bear the same Key. -/
def keyT (a b : Tmr) : Bool := decide (a.typ = b.typ) && (decide (a.id = b.id) && decide (a.adv = b.adv))
abbrev keyV (a : Tmr) : Value := .agg #[.int .i64 a.typ, .int .i64 a.id, .int .i64 a.adv]
theorem equal_keyT (a b : Tmr) (W : World) : (Op.equal 34 (keyV a) (keyV b)).run Try.prog W = .ok (keyT a b) W := by
  by_cases h1 : a.typ = b.typ <;> by_cases h2 : a.id = b.id <;> by_cases h3 : a.adv = b.adv <;> simp [Op.equal, Op.maxDepth, go_sem, keyT, keyV, h1, h2, h3]
/-- What l4Find answers. -/
def findV (ts : List Tmr) (k : Tmr) : Int := if ts.any (fun t => keyT t k) = true then ((ts.findIdx fun t => keyT t k : Nat) : Int) else -1
theorem findIdx_at {ts : List Tmr} {k : Tmr} {j : Nat} {t : Tmr} (ht : ts[j]? = some t) (hk : keyT t k = true) (hn : ∀ i u, i < j → ts[i]? = some u → keyT u k = false) : findV ts k = j := by
  have hj := (List.getElem?_eq_some_iff.1 ht).1
  have he := (List.getElem?_eq_some_iff.1 ht).2
  have hany : ts.any (fun t => keyT t k) = true := List.any_eq_true.2 ⟨t, List.mem_of_getElem? ht, hk⟩
  unfold findV
  rw [if_pos hany]
  congr 1
  refine (List.findIdx_eq hj).2 ⟨by rw [he]; exact hk, fun i hi => ?_⟩
  have := hn i ts[i] hi (List.getElem?_eq_getElem (by omega))
  simpa using this
theorem find_none {ts : List Tmr} {k : Tmr} (hn : ∀ (i : Nat) u, ts[i]? = some u → keyT u k = false) : findV ts k = -1 := by
  unfold findV
  rw [if_neg]
  intro h
  obtain ⟨t, ht, hk⟩ := List.any_eq_true.1 h
  obtain ⟨i, hi, rfl⟩ := List.getElem_of_mem ht
  rw [hn i _ (List.getElem?_eq_getElem hi)] at hk
  cases hk

/-- The place of a key: the first one's, or -1. -/
theorem findV_neg {ts : List Tmr} {k : Tmr} : findV ts k < 0 ↔ ts.any (fun t => keyT t k) = false := by
  unfold findV
  cases h : ts.any (fun t => keyT t k) with
  | true => rw [if_pos rfl]; constructor <;> intro h' <;> first | omega | cases h'
  | false => rw [if_neg (by simp)]; constructor <;> intro _ <;> first | rfl | omega

theorem eql_keyT (a b : Tmr) (W : World) : (binOp .eql 34 (.agg #[.int .i64 a.typ, .int .i64 a.id, .int .i64 a.adv]) (.agg #[.int .i64 b.typ, .int .i64 b.id, .int .i64 b.adv])).run Try.prog W = .ok (.bool (keyT a b)) W := by
  by_cases h1 : a.typ = b.typ <;> by_cases h2 : a.id = b.id <;> by_cases h3 : a.adv = b.adv <;> simp [go_sem, keyT, h1, h2, h3]
theorem neq_keyT (a b : Tmr) (W : World) : (binOp .neq 34 (.agg #[.int .i64 a.typ, .int .i64 a.id, .int .i64 a.adv]) (.agg #[.int .i64 b.typ, .int .i64 b.id, .int .i64 b.adv])).run Try.prog W = .ok (.bool (!keyT a b)) W := by
  by_cases h1 : a.typ = b.typ <;> by_cases h2 : a.id = b.id <;> by_cases h3 : a.adv = b.adv <;> simp [go_sem, keyT, h1, h2, h3]

end Go.Proofs.Ytiffhjofabaflaa
