/-
  An answer with a wheel, stored into its variable. No statement is proved here.
-/
import Derived.Test.YtakplomopbnekaaWheelFault
import Derived.Test.YtakplomopbnekaaWheelOut
namespace Go.Proofs.Ytakplomopbnekaa
open Go.RowKit Go.Shelf
set_option linter.unusedVariables false

theorem RowsO.mono {w : World} {B B' : Nat} {vs : List SlV} {ys : List (List Tmr)} (h : RowsO w B vs ys) (hB : B' ≤ B) : RowsO w B' vs ys :=
  ⟨h.len, fun i v y h1 h2 => (h.row i v y h1 h2).mono hB, h.apart⟩

theorem res_stored {w u : World} {g B : Nat} {c0 c1 c2 c3 : Value} {A E : Option Addr} {n m : Nat} {ys : List (List Tmr)} {zs : List Tmr} (hR : Box u g 31 #[c0, c1, c2, c3]) (hg : w.heap.size ≤ g) (hgB : g < B) (hB : Below w.heap.size w u) (hK : Kept B u.heap.size (ResK Rep.timer B u.heap.size A n ys E m zs) u) (code now : Int) (c d : Nat) :
    Box ((((u.setCell ⟨g, 0, none⟩ (.int .i64 code)).setCell ⟨g, 1, none⟩ (.int .i64 now)).setCell ⟨g, 2, none⟩ (.slice A n c)).setCell ⟨g, 3, none⟩ (.slice E m d)) g 31 #[.int .i64 code, .int .i64 now, .slice A n c, .slice E m d] ∧
    WOut w code now ys zs (.returned (.agg #[.int .i64 code, .int .i64 now, .slice A n c, .slice E m d])) ((((u.setCell ⟨g, 0, none⟩ (.int .i64 code)).setCell ⟨g, 1, none⟩ (.int .i64 now)).setCell ⟨g, 2, none⟩ (.slice A n c)).setCell ⟨g, 3, none⟩ (.slice E m d)) := by
  obtain ⟨U, hU⟩ : ∃ W : World, W = ((((u.setCell ⟨g, 0, none⟩ (.int .i64 code)).setCell ⟨g, 1, none⟩ (.int .i64 now)).setCell ⟨g, 2, none⟩ (.slice A n c)).setCell ⟨g, 3, none⟩ (.slice E m d)) := ⟨_, rfl⟩
  have ho : Only g (g + 1) u U := by rw [hU]; exact (((((Only.refl _ _ _).set (p := ⟨g, 0, none⟩) (Nat.le_refl _) (Nat.lt_succ_self _) _).set (p := ⟨g, 1, none⟩) (Nat.le_refl _) (Nat.lt_succ_self _) _).set (p := ⟨g, 2, none⟩) (Nat.le_refl _) (Nat.lt_succ_self _) _).set (p := ⟨g, 3, none⟩) (Nat.le_refl _) (Nat.lt_succ_self _) _)
  have hsz : U.heap.size = u.heap.size := by rw [hU]; simp [World.setCell]
  have hb : Box U g 31 #[.int .i64 code, .int .i64 now, .slice A n c, .slice E m d] := by
    rw [hU]
    exact (((hR.puts 0 (.int .i64 code) (cs' := #[.int .i64 code, c1, c2, c3]) rfl).puts 1 (.int .i64 now) (cs' := #[.int .i64 code, .int .i64 now, c2, c3]) rfl).puts 2 (.slice A n c) (cs' := #[.int .i64 code, .int .i64 now, .slice A n c, c3]) rfl).puts 3 (.slice E m d) (cs' := #[.int .i64 code, .int .i64 now, .slice A n c, .slice E m d]) rfl
  rw [← hU]
  have hK' := hK.only ho (by omega)
  refine ⟨hb, A, n, c, E, m, d, rfl, ?_, Below.only hB ho hg hB.size⟩
  obtain ⟨bs, cs, h1, h2, h3, h4⟩ := hK'.out
  exact ResK.kept ⟨bs, cs, h1, h2, h3, fun b hb => by have := h4 b hb; omega⟩ (Nat.le_refl _)

theorem fault_ok {now : Int} {ys : List (List Tmr)} (h : faultW now ys = 0) : nwOk now ∧ ys.length = 24 ∧ tot ys ≤ 60 := by
  unfold faultW at h
  split at h
  · omega
  · rename_i h1
    split at h
    · omega
    · rename_i h2
      exact ⟨Decidable.not_not.1 h1, by omega, by omega⟩

/-- A dial is loaded, in a region that draws. -/
theorem exec_load_dial {o : Oper} {ev : Operand → Value} {W : World} {g : Nat} {t : TypeId} {now : Int} {s : Nat → Value} (x : Operand) (ho : o.op = .load 112 x) (hx : ev x = .pointer (some ⟨g, 0, none⟩)) (h : Box W g t (dialCells now s)) : (execOp ev o).run Try.prog W = .ok (Next.value (.agg (dialCells now s))) W := by
  have hl := loadAt_dial h
  simp only [execOp, ho, hx, Sem.run_bind, hl, Result.andThen_ok, Sem.run_pure]

/-- What TimersIn answers. -/
def tiN (now : Int) (ys : List (List Tmr)) : Int := if faultW now ys = 0 then now else 0
def tiR (now : Int) (ys : List (List Tmr)) : List (List Tmr) := if faultW now ys = 0 then ys else []
def tiD (now : Int) (ys : List (List Tmr)) : List Tmr := if faultW now ys = 0 then ys.flatten else []

theorem ti_bd (now : Int) (ys : List (List Tmr)) : (tiR now ys).length ≤ 1048576 ∧ (∀ y ∈ tiR now ys, y.length ≤ 1048576) ∧ tot (tiR now ys) ≤ 1048576 ∧ (tiD now ys).length ≤ 1048576 := by
  unfold tiR tiD
  by_cases h : faultW now ys = 0
  · obtain ⟨_, h1, h2⟩ := fault_ok h
    rw [if_pos h, if_pos h]
    refine ⟨by omega, fun y hy => ?_, by omega, by rw [show ys.flatten.length = tot ys by simp [tot]]; omega⟩
    obtain ⟨i, hi, rfl⟩ := List.getElem_of_mem hy
    have := tot_at ys i _ (List.getElem?_eq_getElem hi)
    omega
  · rw [if_neg h, if_neg h]
    exact ⟨by simp, fun y hy => (by cases hy), by simp [tot], by simp⟩

end Go.Proofs.Ytakplomopbnekaa
