/-
  What an advertisement has beside its head: bodyOf, headOf, withBody. No statement is proved here.
-/
import Derived.Test.YtooogjfnnmacjaaAt
import Derived.Deep.RegionHeld3
namespace Go.Proofs.Ytooogjfnnmacjaa
open Go.RowKit

theorem as_R_R (v : Value) (W : World) : (Instr.typeAssert (.iface 284 v) 271 284 true).run Try.prog W = .ok (.tuple #[v, .bool true]) W := by kernel_rfl
theorem as_R_N (v : Value) (W : World) : (Instr.typeAssert (.iface 284 v) 271 286 true).run Try.prog W = .ok (.tuple #[.agg #[.int .i64 0, .slice none 0 0], .bool false]) W := by kernel_rfl
theorem as_R_S (v : Value) (W : World) : (Instr.typeAssert (.iface 284 v) 271 288 true).run Try.prog W = .ok (.tuple #[.agg #[.int .i64 0, .int .i64 0], .bool false]) W := by kernel_rfl
theorem as_N_R (v : Value) (W : World) : (Instr.typeAssert (.iface 286 v) 271 284 true).run Try.prog W = .ok (.tuple #[.agg #[.slice none 0 0], .bool false]) W := by kernel_rfl
theorem as_N_N (v : Value) (W : World) : (Instr.typeAssert (.iface 286 v) 271 286 true).run Try.prog W = .ok (.tuple #[v, .bool true]) W := by kernel_rfl
theorem as_N_S (v : Value) (W : World) : (Instr.typeAssert (.iface 286 v) 271 288 true).run Try.prog W = .ok (.tuple #[.agg #[.int .i64 0, .int .i64 0], .bool false]) W := by kernel_rfl
theorem as_S_R (v : Value) (W : World) : (Instr.typeAssert (.iface 288 v) 271 284 true).run Try.prog W = .ok (.tuple #[.agg #[.slice none 0 0], .bool false]) W := by kernel_rfl
theorem as_S_N (v : Value) (W : World) : (Instr.typeAssert (.iface 288 v) 271 286 true).run Try.prog W = .ok (.tuple #[.agg #[.int .i64 0, .slice none 0 0], .bool false]) W := by kernel_rfl
theorem as_S_S (v : Value) (W : World) : (Instr.typeAssert (.iface 288 v) 271 288 true).run Try.prog W = .ok (.tuple #[v, .bool true]) W := by kernel_rfl
theorem as_nil_R (W : World) : (Instr.typeAssert .nilIface 271 284 true).run Try.prog W = .ok (.tuple #[.agg #[.slice none 0 0], .bool false]) W := by kernel_rfl
theorem as_nil_N (W : World) : (Instr.typeAssert .nilIface 271 286 true).run Try.prog W = .ok (.tuple #[.agg #[.int .i64 0, .slice none 0 0], .bool false]) W := by kernel_rfl
theorem as_nil_S (W : World) : (Instr.typeAssert .nilIface 271 288 true).run Try.prog W = .ok (.tuple #[.agg #[.int .i64 0, .int .i64 0], .bool false]) W := by kernel_rfl
attribute [local go_sem] as_R_R as_R_N as_R_S as_N_R as_N_N as_N_S as_S_R as_S_N as_S_S as_nil_R as_nil_N as_nil_S

theorem bodyOf_1 (l : LsaM) (A B : Option Addr) (n c m d : Nat) (w : World) (h : l.typ = 1) :
    Calls Try.prog 198 #[.agg (lsaCells l A B n c m d)] w fun e w' => e = .returned (.iface 284 (.agg #[.slice A n c])) ∧ Below w.heap.size w w' := by
  go_enter Try.func198, Try.ntmps198
  go_wp2
  go_ret
  exact ⟨rfl, (Below.refl _ _).alloc (Nat.le_refl _) _⟩

theorem bodyOf_2 (l : LsaM) (A B : Option Addr) (n c m d : Nat) (w : World) (h : l.typ = 2) :
    Calls Try.prog 198 #[.agg (lsaCells l A B n c m d)] w fun e w' => e = .returned (.iface 286 (.agg #[.int .i64 l.mask, .slice B m d])) ∧ Below w.heap.size w w' := by
  go_enter Try.func198, Try.ntmps198
  go_wp2
  go_ret
  exact ⟨rfl, (Below.refl _ _).alloc (Nat.le_refl _) _⟩

theorem bodyOf_3 (l : LsaM) (A B : Option Addr) (n c m d : Nat) (w : World) (h : l.typ = 3) :
    Calls Try.prog 198 #[.agg (lsaCells l A B n c m d)] w fun e w' => e = .returned (.iface 288 (.agg #[.int .i64 l.mask, .int .i64 l.cost])) ∧ Below w.heap.size w w' := by
  go_enter Try.func198, Try.ntmps198
  go_wp2
  go_ret
  exact ⟨rfl, (Below.refl _ _).alloc (Nat.le_refl _) _⟩

theorem bodyOf_0 (l : LsaM) (A B : Option Addr) (n c m d : Nat) (w : World) (h1 : ¬ l.typ = 1) (h2 : ¬ l.typ = 2) (h3 : ¬ l.typ = 3) :
    Calls Try.prog 198 #[.agg (lsaCells l A B n c m d)] w fun e w' => e = .returned .nilIface ∧ Below w.heap.size w w' := by
  go_enter Try.func198, Try.ntmps198
  go_wp2
  go_ret
  exact ⟨rfl, (Below.refl _ _).alloc (Nat.le_refl _) _⟩

/-- The head alone. -/
def headM (l : LsaM) : LsaM := { l with links := [], routers := [], mask := 0, cost := 0 }

theorem headOf_any (l : LsaM) (A B : Option Addr) (n c m d : Nat) (w : World) :
    Calls Try.prog 201 #[.agg (lsaCells l A B n c m d)] w fun e w' => e = .returned (.agg (lsaCells (headM l) none none 0 0 0 0)) ∧ Below w.heap.size w w' := by
  go_enter Try.func201, Try.ntmps201
  go_wp2
  refine bodyPost_ret (v := .agg (lsaCells (headM l) none none 0 0 0 0)) (by simp [results, Try.results201, go_sem, headM]) rfl ⟨rfl, ?_⟩
  exact ((Below.refl _ _).alloc (Nat.le_refl _) _).alloc (by simp) _

set_option maxRecDepth 100000 in
theorem withBody_1 (l : LsaM) (A B : Option Addr) (n c m d : Nat) (E : Option Addr) (k j : Nat) (w : World) :
    Calls Try.prog 200 #[.agg (lsaCells l A B n c m d), .iface 284 (.agg #[.slice E k j])] w fun e w' => e = .returned (.agg (lsaCells l E B k j m d)) ∧ Below w.heap.size w w' := by
  go_enter Try.func200, Try.ntmps200
  go_wp2
  refine bodyPost_ret (v := .agg (lsaCells l E B k j m d)) (by simp [results, Try.results200, go_sem]) rfl ⟨rfl, ?_⟩
  exact (((Below.refl _ _).alloc (Nat.le_refl _) _).alloc (by simp) _).alloc (by simp; omega) _

set_option maxRecDepth 100000 in
set_option maxHeartbeats 1600000 in
theorem withBody_2 (l : LsaM) (A B : Option Addr) (n c m d : Nat) (x : Int) (E : Option Addr) (k j : Nat) (w : World) :
    Calls Try.prog 200 #[.agg (lsaCells l A B n c m d), .iface 286 (.agg #[.int .i64 x, .slice E k j])] w fun e w' => e = .returned (.agg (lsaCells { l with mask := x } A E n c k j)) ∧ Below w.heap.size w w' := by
  go_enter Try.func200, Try.ntmps200
  go_wp2
  go_region
  all_goals
    go_wp2
    refine bodyPost_ret (v := .agg (lsaCells { l with mask := x } A E n c k j)) (by simp [results, Try.results200, go_sem]) rfl ⟨rfl, ?_⟩
    exact ((((Below.refl _ _).alloc (Nat.le_refl _) _).alloc (by simp) _).alloc (by simp; omega) _).drew

set_option maxRecDepth 100000 in
set_option maxHeartbeats 1600000 in
theorem withBody_3 (l : LsaM) (A B : Option Addr) (n c m d : Nat) (x y : Int) (w : World) :
    Calls Try.prog 200 #[.agg (lsaCells l A B n c m d), .iface 288 (.agg #[.int .i64 x, .int .i64 y])] w fun e w' => e = .returned (.agg (lsaCells { l with mask := x, cost := y } A B n c m d)) ∧ Below w.heap.size w w' := by
  go_enter Try.func200, Try.ntmps200
  go_wp2
  go_region
  all_goals
    go_wp2
    refine bodyPost_ret (v := .agg (lsaCells { l with mask := x, cost := y } A B n c m d)) (by simp [results, Try.results200, go_sem]) rfl ⟨rfl, ?_⟩
    exact ((((Below.refl _ _).alloc (Nat.le_refl _) _).alloc (by simp) _).alloc (by simp; omega) _).drew

set_option maxRecDepth 100000 in
theorem withBody_0 (l : LsaM) (A B : Option Addr) (n c m d : Nat) (w : World) :
    Calls Try.prog 200 #[.agg (lsaCells l A B n c m d), .nilIface] w fun e w' => e = .returned (.agg (lsaCells l A B n c m d)) ∧ Below w.heap.size w w' := by
  go_enter Try.func200, Try.ntmps200
  go_wp2
  refine bodyPost_ret (v := .agg (lsaCells l A B n c m d)) (by simp [results, Try.results200, go_sem]) rfl ⟨rfl, ?_⟩
  exact ((Below.refl _ _).alloc (Nat.le_refl _) _).alloc (by simp) _

end Go.Proofs.Ytooogjfnnmacjaa
