/-
  Walks of the model's l2Id, l2Form, l2Parts and LsaFault. No statement is proved here.
-/
import Derived.Test.YtiffhjofabaflaaAt
import Derived.Test.YtiffhjofabaflaaIn
namespace Go.Proofs.Ytiffhjofabaflaa
open Go.RowKit

def idIn (n : Int) : Bool := allIn 0 4294967295 [n]

theorem l2Id_any (v : Int) (w : World) :
    Calls Try.prog 208 #[.int .i64 v] w fun e w' => e = .returned (.bool (idIn v)) ∧ w' = w := by
  go_enter Try.func208, Try.ntmps208
  go_wp2_with fail
  refine (l1In_any _ _ _ _).mono ?_
  rintro e w1 ⟨rfl, rfl⟩
  go_wp2
  go_ret
  exact ⟨rfl, rfl⟩

/-- The form that an advertisement of its type has. -/
def formOf (typ : Int) (n m : Nat) (mask cost : Int) : Bool :=
  if typ = 1 then m = 0 && mask = 0 && cost = 0 else if typ = 2 then n = 0 && cost = 0 else if typ = 3 then n = 0 && m = 0 else false


def linkOk (a : Lnk) : Bool := allIn 1 2 [a.kind] && idIn a.to_ && idIn a.own && allIn 0 65535 [a.cost]
def ups (zs : List Int) : Prop := ∀ i, i < zs.length - 1 → zs.getD i 0 < zs.getD (i + 1) 0
instance (zs : List Int) : Decidable (ups zs) := by unfold ups; exact inferInstance
/-- The code of an advertisement's parts. -/
def partsOf (l : LsaM) : Int :=
  if l.links.all linkOk = false then 3 else if l.routers.all idIn = false then 3 else if ¬ ups l.routers then 1 else if l.typ = 1 ∧ l.id ≠ l.adv then 1 else 0

theorem all_no {α : Type} {p : α → Bool} {ys : List α} {k : Nat} {a : α} (h : ys[k]? = some a) (ha : p a = false) : ys.all p = false := by
  rw [List.all_eq_false]
  exact ⟨a, List.mem_of_getElem? h, by simp [ha]⟩
theorem all_yes {α : Type} {p : α → Bool} {ys : List α} {n : Nat} (hl : ys.length = n) (h : ∀ j a, j < n → ys[j]? = some a → p a = true) : ys.all p = true := by
  rw [List.all_eq_true]
  intro a ha
  obtain ⟨i, hi, rfl⟩ := List.getElem_of_mem ha
  exact h i _ (by omega) (List.getElem?_eq_getElem hi)

/-- The code of an advertisement. -/
def faultOf (l : LsaM) : Int :=
  if formOf l.typ l.links.length l.routers.length l.mask l.cost = false then 1
  else if (allIn 0 3600 [l.age] && allIn 0 255 [l.options] && idIn l.id && idIn l.adv && allIn (-2147483647) 2147483647 [l.seq] && idIn l.mask && allIn 0 16777215 [l.cost]) = false then 3
  else if 8 < l.links.length ∨ 8 < l.routers.length ∨ l.typ = 2 ∧ l.routers.length = 0 then 2
  else partsOf l

end Go.Proofs.Ytiffhjofabaflaa
