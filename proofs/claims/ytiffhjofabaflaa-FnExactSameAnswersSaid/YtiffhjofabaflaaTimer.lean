/-
  What the laws' helpers do with timers: toTimer, toTimerS copy; eqTimer, eqTimerS find like ones alike. No statement is proved here.
-/
import Derived.Test.YtiffhjofabaflaaLinks
import Derived.Test.YtiffhjofabaflaaWalk
namespace Go.Proofs.Ytiffhjofabaflaa
open Go.RowKit
set_option linter.unusedVariables false

theorem timerInfo : (Try.prog.info? 36).map (fun i => (i.zero, i.size, i.bytes)) = some (some (.agg #[.int .i64 0, .int .i64 0, .int .i64 0, .int .i64 0]), 4, 32) := by kernel_rfl

/-- A timer, as its four numbers. -/
structure Tmr where
  typ : Int
  id : Int
  adv : Int
  due : Int
def Rep.timer : Rep Tmr where
  size := 4
  rel _ _ _ _ cs a := cs = [.int .i64 a.typ, .int .i64 a.id, .int .i64 a.adv, .int .i64 a.due]
  len h := by rw [h]; rfl
  keep h _ := h
  mono h _ _ := h

theorem Rep.timer_at {q : Bool} {lo hi : Nat} {w : World} {A : Option Addr} {n : Nat} {ys : List Tmr} (h : Rep.timer.Sl q lo hi w A n ys) {k : Nat} (hk : k < n) :
    ∃ b o a, A = some ⟨b, o, none⟩ ∧ ys[k]? = some a ∧ w.cell? ⟨b, o + k * 4, none⟩ = some (.int .i64 a.typ) ∧ w.cell? ⟨b, o + k * 4 + 1, none⟩ = some (.int .i64 a.id) ∧
      w.cell? ⟨b, o + k * 4 + 2, none⟩ = some (.int .i64 a.adv) ∧ w.cell? ⟨b, o + k * 4 + 3, none⟩ = some (.int .i64 a.due) := by
  obtain ⟨b, o, a, cs, e, ha, hr, hc⟩ := h.at_ hk
  have hr : cs = [.int .i64 a.typ, .int .i64 a.id, .int .i64 a.adv, .int .i64 a.due] := hr
  subst hr
  exact ⟨b, o, a, e, ha, hc 0 _ rfl, hc 1 _ rfl, hc 2 _ rfl, hc 3 _ rfl⟩

/-- The cells of links. -/
def timerCells (ys : List Tmr) : List Value := ys.flatMap fun a => [.int .i64 a.typ, .int .i64 a.id, .int .i64 a.adv, .int .i64 a.due]

end Go.Proofs.Ytiffhjofabaflaa
