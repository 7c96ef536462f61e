/-
  Advertisements that lie in blocks which are there: the facts that the walks of the laws carry from world to world. No statement is proved here.
-/
import Derived.Test.YtiffhjofabaflaaLsaEq
import Derived.Deep.RegionHeld3
namespace Go.Proofs.Ytiffhjofabaflaa
open Go.RowKit

abbrev lsaCells (l : LsaM) (A B : Option Addr) (n c m d : Nat) : Array Value :=
  #[.int .i64 l.age, .int .i64 l.options, .int .i64 l.typ, .int .i64 l.id, .int .i64 l.adv, .int .i64 l.seq, .slice A n c, .slice B m d, .int .i64 l.mask, .int .i64 l.cost]

structure LsaAt (q : Bool) (lo hi : Nat) (w : World) (A : Option Addr) (n : Nat) (B : Option Addr) (m : Nat) (l : LsaM) : Prop where
  in_ : LsaIn q lo hi w A n B m l
  le : hi ≤ w.heap.size

section
variable {q : Bool} {lo hi : Nat} {w w' : World} {A B : Option Addr} {n m : Nat} {l : LsaM}
theorem LsaAt.below (h : LsaAt q lo hi w A n B m l) (hb : Below w.heap.size w w') : LsaAt q lo hi w' A n B m l := ⟨h.in_.below hb h.le, Nat.le_trans h.le hb.size⟩
theorem LsaAt.drewN (h : LsaAt q lo hi w A n B m l) (k : Nat) : LsaAt q lo hi (w.drewN k) A n B m l := ⟨h.in_.keep fun _ _ _ => rfl, h.le⟩
end

theorem toLsa_at (l : LsaM) (q : Bool) (lo hi : Nat) (A B : Option Addr) (n c m d : Nat) (w : World) (ha : LsaAt q lo hi w A n B m l) (hn : n ≤ 1048576) (hm : m ≤ 1048576) :
    Calls Try.prog 161 #[.agg (lsaCells l A B n c m d)] w fun e w' => ∃ A' B', e = .returned (.agg (lsaCells l A' B' n n m m)) ∧ LsaAt true w.heap.size w'.heap.size w' A' n B' m l ∧ Below w.heap.size w w' :=
  (toLsa_any l q lo hi A B n c m d w ha.in_ ha.le hn hm).mono fun _ _ ⟨A', B', h1, h2, h3⟩ => ⟨A', B', h1, ⟨h2, Nat.le_refl _⟩, h3⟩

theorem eqLsa_at (l : LsaM) (q q' : Bool) (lo hi lo' hi' : Nat) (A B A' B' : Option Addr) (n c m d c' d' : Nat) (w : World) (ha : LsaAt q lo hi w A n B m l) (hc : LsaAt q' lo' hi' w A' n B' m l) (hn : n ≤ 1048576) (hm : m ≤ 1048576) :
    Calls Try.prog 166 #[.agg (lsaCells l A B n c m d), .agg (lsaCells l A' B' n c' m d')] w fun e w' => e = .returned (.bool true) ∧ Below w.heap.size w w' :=
  eqLsa_yes l q q' lo hi lo' hi' A B A' B' n c m d c' d' w ha.in_ hc.in_ ha.le hc.le hn hm

end Go.Proofs.Ytiffhjofabaflaa
