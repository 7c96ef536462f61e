/-
  The program's SameLsas and the model's tell whether two advertisements are the same. No statement is proved here.
-/
import Derived.Test.YtomkgohhfllpgaaLsa
namespace Go.Proofs.Ytomkgohhfllpgaa
open Go.RowKit

instance : DecidableEq Lnk := fun a b => decidable_of_iff (a.kind = b.kind ∧ a.to_ = b.to_ ∧ a.own = b.own ∧ a.cost = b.cost) (by cases a; cases b; simp)

theorem getD_ne {xs ys : List Int} {k : Nat} (h : xs.getD k 0 ≠ ys.getD k 0) : xs ≠ ys := fun e => h (by rw [e])

theorem lnk_eq {a b : Lnk} (h1 : a.kind = b.kind) (h2 : a.to_ = b.to_) (h3 : a.own = b.own) (h4 : a.cost = b.cost) : a = b := by cases a; cases b; simp_all

theorem links_eq {xs ys : List Lnk} {n : Nat} (hx : xs.length = n) (hy : ys.length = n) (h : ∀ j a b, j < n → xs[j]? = some a → ys[j]? = some b → a = b) : xs = ys := by
  apply List.ext_getElem (by omega)
  intro i h1 h2
  exact h i _ _ (by omega) (List.getElem?_eq_getElem h1) (List.getElem?_eq_getElem h2)

instance : DecidableEq LsaM := fun a b => decidable_of_iff (a.age = b.age ∧ a.options = b.options ∧ (a.typ = b.typ ∧ a.id = b.id ∧ a.adv = b.adv) ∧ a.seq = b.seq ∧ a.links = b.links ∧ a.routers = b.routers ∧ a.mask = b.mask ∧ a.cost = b.cost) (by cases a; cases b; simp [and_assoc])

abbrev lsaV (a : LsaM) (A B : Option Addr) (n c m d : Nat) : Value :=
  .agg #[.int .i64 a.age, .int .i64 a.options, .int .i64 a.typ, .int .i64 a.id, .int .i64 a.adv, .int .i64 a.seq, .slice A n c, .slice B m d, .int .i64 a.mask, .int .i64 a.cost]

theorem lsa_ne {x y : LsaM} (f : LsaM → Int) (h : ¬ f x = f y) : ¬ x = y := fun e => h (by rw [e])

end Go.Proofs.Ytomkgohhfllpgaa
