/-
  What the model's l2Read reads. No statement is proved here.
-/
import Derived.Test.YtiffhjofabaflaaDecBody
import Derived.Test.YtiffhjofabaflaaStep
import Derived.Deep.RegionHeld3
namespace Go.Proofs.Ytiffhjofabaflaa
open Go.RowKit
set_option linter.unusedVariables false

theorem rval_read {n : Nat} {xs : List Int} {a s : Nat} (h : rOK n (a : Int) (s : Int)) : rval n xs (a : Int) (s : Int) = readN ((xs.drop a).take s) := by unfold rval; rw [if_pos h]; simp
theorem rval_drop {n : Nat} {xs : List Int} {a s : Int} (hl : 20 ≤ n) (h0 : 0 ≤ a) : rval (n - 20) (xs.drop 20) a s = rval n xs (20 + a) s := by
  obtain ⟨a, rfl⟩ := Int.eq_ofNat_of_zero_le h0
  unfold rval
  have e : rOK (n - 20) (a : Int) s ↔ rOK n (20 + (a : Int)) s := by unfold rOK; omega
  by_cases h : rOK (n - 20) (a : Int) s
  · rw [if_pos h, if_pos (e.1 h), List.drop_drop, show (20 + (a : Int)).toNat = 20 + (a : Int).toNat by omega]
  · rw [if_neg h, if_neg (fun h' => h (e.2 h'))]

theorem rval_one {n : Nat} {xs : List Int} {a : Nat} (hl : xs.length = n) (h : a < n) : rval n xs (a : Int) 1 = xs.getD a 0 := by
  have hk : rOK n (a : Int) ((1 : Nat) : Int) := by unfold rOK; omega
  have := rval_read (xs := xs) hk
  rw [show ((1 : Nat) : Int) = 1 from rfl] at this
  rw [this]
  have e : (xs.drop a).take 1 = [xs.getD a 0] := by
    have ha : a < xs.length := by omega
    rw [List.drop_eq_getElem_cons ha, List.take_succ_cons, List.take_zero]
    simp [List.getD, ha]
  rw [e]
  simp [readN]

/-- A head in a variable of the model's own, data beside it. -/
abbrev hCells (l : LsaM) (E F : Option Addr) (k d m g : Nat) : Array Value := lsaCells l E F k d m g

end Go.Proofs.Ytiffhjofabaflaa
