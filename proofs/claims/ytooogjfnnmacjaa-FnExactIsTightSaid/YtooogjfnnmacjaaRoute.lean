/-
  Routes (a node, a cost, a list of nodes) in cells. No statement is proved here.
-/
import Derived.Test.YtooogjfnnmacjaaNodeRow
import Derived.Test.YtooogjfnnmacjaaEntSz
namespace Go.Proofs.Ytooogjfnnmacjaa
open Go.RowKit
set_option linter.unusedVariables false

/-- A route. -/
structure Rt where
  dst : Nd
  cost : Int
  hops : List Nd
instance : DecidableEq Rt := fun a b => decidable_of_iff (a.dst = b.dst ∧ a.cost = b.cost ∧ a.hops = b.hops) (by cases a; cases b; simp)
abbrev rtCells (e : Rt) (A : Option Addr) (n c : Nat) : Array Value := #[.bool e.dst.net, .int .i64 e.dst.id, .int .i64 e.cost, .slice A n c]
theorem routeInfo : (Try.prog.info? 201).map (fun i => (i.zero, i.size, i.bytes)) = some (some (.agg #[.bool false, .int .i64 0, .int .i64 0, .slice none 0 0]), 4, 48) := by kernel_rfl
def Rep.route : Rep Rt where
  size := 4
  rel q lo hi w cs e := ∃ A n c, cs = (rtCells e A n c).toList ∧ Rep.node.Sl q lo hi w A n e.hops
  len h := by obtain ⟨A, n, c, rfl, _⟩ := h; rfl
  keep h k := by obtain ⟨A, n, c, e, h⟩ := h; exact ⟨A, n, c, e, h.keep k⟩
  mono h l u := by obtain ⟨A, n, c, e, h⟩ := h; exact ⟨A, n, c, e, h.mono l u⟩
theorem Rep.route_at {q : Bool} {lo hi : Nat} {w : World} {A : Option Addr} {n : Nat} {ys : List Rt} (h : Rep.route.Sl q lo hi w A n ys) {k : Nat} (hk : k < n) :
    ∃ b o e E m c, A = some ⟨b, o, none⟩ ∧ ys[k]? = some e ∧ Rep.node.Sl q lo hi w E m e.hops ∧
      w.cell? ⟨b, o + k * 4, none⟩ = some (.bool e.dst.net) ∧ w.cell? ⟨b, o + k * 4 + 1, none⟩ = some (.int .i64 e.dst.id) ∧ w.cell? ⟨b, o + k * 4 + 2, none⟩ = some (.int .i64 e.cost) ∧ w.cell? ⟨b, o + k * 4 + 3, none⟩ = some (.slice E m c) := by
  obtain ⟨b, o, e, cs, e1, he, hr, hc⟩ := h.at_ hk
  obtain ⟨E, m, c, rfl, hl⟩ := hr
  exact ⟨b, o, e, E, m, c, e1, he, hl, hc 0 _ rfl, hc 1 _ rfl, hc 2 _ rfl, hc 3 _ rfl⟩
/-- A route with the block of its list. -/
def FRep.route : FRep Rt where
  rep := Rep.route
  rel w cs e bs := ∃ A n c, cs = (rtCells e A n c).toList ∧ Rep.node.FSl w A n e.hops bs
  len h := by obtain ⟨A, n, c, rfl, _⟩ := h; rfl
  keep h k := by obtain ⟨A, n, c, e, h1⟩ := h; exact ⟨A, n, c, e, h1.keep k⟩
  plain h hb := by obtain ⟨A, n, c, e, h1⟩ := h; exact ⟨A, n, c, e, h1.sl hb⟩
theorem Kept.routes {lo hi : Nat} {A : Option Addr} {n : Nat} {ys : List Rt} {w : World} (h : Kept lo hi (FRepK FRep.route lo hi A n ys) w) : Rep.route.Sl true lo hi w A n ys := h.out.sl
/-- As many as a route's list has, as a row. -/
def rtRow (e : Rt) : List Unit := List.replicate e.hops.length ()
def rtRows (es : List Rt) : List (List Unit) := es.map rtRow
theorem rtRow_len (e : Rt) : (rtRow e).length = e.hops.length := by simp [rtRow]
theorem rtRows_len (es : List Rt) : (rtRows es).length = es.length := by simp [rtRows]
theorem rtRows_at {es : List Rt} {k : Nat} {e : Rt} (h : es[k]? = some e) : (rtRows es)[k]? = some (rtRow e) := by simp [rtRows, h]
theorem tot_rt {es : List Rt} {k : Nat} {e : Rt} (h : es[k]? = some e) : e.hops.length ≤ tot (rtRows es) := by
  have := tot_at (rtRows es) k _ (rtRows_at h)
  rw [rtRow_len] at this; omega


end Go.Proofs.Ytooogjfnnmacjaa
