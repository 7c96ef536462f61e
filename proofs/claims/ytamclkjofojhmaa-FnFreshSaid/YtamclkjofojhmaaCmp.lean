/-
  What CompareLsas and IsNewer answer. No statement is proved here.
-/
import Derived.Test.YtamclkjofojhmaaAgeLsa
namespace Go.Proofs.Ytamclkjofojhmaa
open Go.RowKit
set_option linter.unusedVariables false

/-- Do two keys tell the same. -/
def keyB (a b c x y z : Int) : Bool := decide (a = x) && (decide (b = y) && decide (c = z))
theorem neq_key (a b c x y z : Int) (W : World) : (binOp .neq 25 (.agg #[.int .i64 a, .int .i64 b, .int .i64 c]) (.agg #[.int .i64 x, .int .i64 y, .int .i64 z])).run Try.prog W = .ok (.bool (!keyB a b c x y z)) W := by
  by_cases h1 : a = x <;> by_cases h2 : b = y <;> by_cases h3 : c = z <;> simp [go_sem, keyB, h1, h2, h3]
theorem eql_key (a b c x y z : Int) (W : World) : (binOp .eql 25 (.agg #[.int .i64 a, .int .i64 b, .int .i64 c]) (.agg #[.int .i64 x, .int .i64 y, .int .i64 z])).run Try.prog W = .ok (.bool (keyB a b c x y z)) W := by
  by_cases h1 : a = x <;> by_cases h2 : b = y <;> by_cases h3 : c = z <;> simp [go_sem, keyB, h1, h2, h3]
attribute [local go_sem high] neq_key eql_key

/-- Which of two numbers is the greater one. -/
def cmpI (x y : Int) : Int := if x < y then -1 else if y < x then 1 else 0
def pairC (a b : LsaM) : Int := if faultOf a ≠ 0 then faultOf a else if faultOf b ≠ 0 then faultOf b else if keyB a.typ a.id a.adv b.typ b.id b.adv = false then 8 else 0
def oldB (a : LsaM) : Bool := decide (a.age = 3600)
def ordV (a b : LsaM) : Int :=
  if pairC a b ≠ 0 then 0 else if cmpI a.seq b.seq ≠ 0 then cmpI a.seq b.seq else if cmpI (sumV a) (sumV b) ≠ 0 then cmpI (sumV a) (sumV b)
  else if oldB a ≠ oldB b then cmpI a.age b.age else if allIn (-900) 900 [a.age - b.age] = false then cmpI b.age a.age else 0
theorem pairC_1 {a b : LsaM} (h : ¬ faultOf a = 0) : pairC a b = faultOf a := by unfold pairC; rw [if_pos h]
theorem pairC_2 {a b : LsaM} (h : faultOf a = 0) (h2 : ¬ faultOf b = 0) : pairC a b = faultOf b := by unfold pairC; rw [if_neg (by omega), if_pos h2]
theorem pairC_3 {a b : LsaM} (h : faultOf a = 0) (h2 : faultOf b = 0) (h3 : keyB a.typ a.id a.adv b.typ b.id b.adv = false) : pairC a b = 8 := by unfold pairC; rw [if_neg (by omega), if_neg (by omega), if_pos h3]
theorem pairC_4 {a b : LsaM} (h : faultOf a = 0) (h2 : faultOf b = 0) (h3 : ¬ keyB a.typ a.id a.adv b.typ b.id b.adv = false) : pairC a b = 0 := by unfold pairC; rw [if_neg (by omega), if_neg (by omega), if_neg h3]
theorem pairC_sound {a b : LsaM} (h : pairC a b = 0) : faultOf a = 0 ∧ faultOf b = 0 ∧ keyB a.typ a.id a.adv b.typ b.id b.adv = true := by
  by_cases h1 : faultOf a = 0
  · by_cases h2 : faultOf b = 0
    · by_cases h3 : keyB a.typ a.id a.adv b.typ b.id b.adv = false
      · rw [pairC_3 h1 h2 h3] at h; exact absurd h (by decide)
      · exact ⟨h1, h2, by simpa using h3⟩
    · rw [pairC_2 h1 h2] at h; exact absurd h h2
  · rw [pairC_1 h1] at h; exact absurd h h1
theorem ordV_0 {a b : LsaM} (h : ¬ pairC a b = 0) : ordV a b = 0 := by unfold ordV; rw [if_pos h]
theorem ordV_1 {a b : LsaM} (h : pairC a b = 0) (h1 : ¬ cmpI a.seq b.seq = 0) : ordV a b = cmpI a.seq b.seq := by unfold ordV; rw [if_neg (by omega), if_pos h1]
theorem ordV_2 {a b : LsaM} (h : pairC a b = 0) (h1 : cmpI a.seq b.seq = 0) (h2 : ¬ cmpI (sumV a) (sumV b) = 0) : ordV a b = cmpI (sumV a) (sumV b) := by unfold ordV; rw [if_neg (by omega), if_neg (by omega), if_pos h2]
theorem ordV_3 {a b : LsaM} (h : pairC a b = 0) (h1 : cmpI a.seq b.seq = 0) (h2 : cmpI (sumV a) (sumV b) = 0) (h3 : ¬ oldB a = oldB b) : ordV a b = cmpI a.age b.age := by unfold ordV; rw [if_neg (by omega), if_neg (by omega), if_neg (by omega), if_pos h3]
theorem ordV_4 {a b : LsaM} (h : pairC a b = 0) (h1 : cmpI a.seq b.seq = 0) (h2 : cmpI (sumV a) (sumV b) = 0) (h3 : oldB a = oldB b) (h4 : allIn (-900) 900 [a.age - b.age] = false) : ordV a b = cmpI b.age a.age := by unfold ordV; rw [if_neg (by omega), if_neg (by omega), if_neg (by omega), if_neg (fun h => h h3), if_pos h4]
theorem ordV_5 {a b : LsaM} (h : pairC a b = 0) (h1 : cmpI a.seq b.seq = 0) (h2 : cmpI (sumV a) (sumV b) = 0) (h3 : oldB a = oldB b) (h4 : ¬ allIn (-900) 900 [a.age - b.age] = false) : ordV a b = 0 := by unfold ordV; rw [if_neg (by omega), if_neg (by omega), if_neg (by omega), if_neg (fun h => h h3), if_neg h4]
theorem cmpI_lt {x y : Int} (h : x < y) : cmpI x y = -1 := by unfold cmpI; rw [if_pos h]
theorem cmpI_gt {x y : Int} (h : y < x) : cmpI x y = 1 := by unfold cmpI; rw [if_neg (by omega), if_pos h]
theorem cmpI_eq {x y : Int} : cmpI x y = 0 ↔ x = y := by
  unfold cmpI
  by_cases h : x < y
  · rw [if_pos h]; omega
  · rw [if_neg h]
    by_cases h2 : y < x
    · rw [if_pos h2]; omega
    · rw [if_neg h2]; omega

theorem isNaN_any (x : Int) (w : World) : Calls Try.prog 125 #[.int .i64 x] w fun e w' => e = .returned (.bool false) ∧ w' = w := by
  go_enter Try.func125, Try.ntmps125
  go_wp2
  go_ret
  exact ⟨ret_bool (by simp), rfl⟩
theorem compare_any (x y : Int) (w : World) : Calls Try.prog 89 #[.int .i64 x, .int .i64 y] w fun e w' => e = .returned (.int .i64 (cmpI x y)) ∧ w' = w := by
  by_cases h : x < y
  · rw [cmpI_lt h]
    go_enter Try.func89, Try.ntmps89
    go_wp2_with (go_at_call 125; refine (isNaN_any _ _).mono ?_; rintro e w' ⟨rfl, rfl⟩)
    go_ret
    exact ⟨rfl, rfl⟩
  · by_cases h2 : y < x
    · rw [cmpI_gt h2]
      go_enter Try.func89, Try.ntmps89
      go_wp2_with (go_at_call 125; refine (isNaN_any _ _).mono ?_; rintro e w' ⟨rfl, rfl⟩)
      go_ret
      exact ⟨rfl, rfl⟩
    · have e0 : cmpI x y = 0 := cmpI_eq.2 (by omega)
      rw [e0]
      clear e0
      go_enter Try.func89, Try.ntmps89
      go_wp2_with (go_at_call 125; refine (isNaN_any _ _).mono ?_; rintro e w' ⟨rfl, rfl⟩)
      go_ret
      exact ⟨rfl, rfl⟩
theorem l3Sign_any (x : Int) (w : World) : Calls Try.prog 126 #[.int .i64 x] w fun e w' => e = .returned (.int .i64 (if 0 < x then 1 else -1)) ∧ w' = w := by
  by_cases h : 0 < x
  · rw [if_pos h]
    go_enter Try.func126, Try.ntmps126
    go_wp2
    go_ret
    exact ⟨rfl, rfl⟩
  · rw [if_neg h]
    go_enter Try.func126, Try.ntmps126
    go_wp2
    go_ret
    exact ⟨rfl, rfl⟩
theorem sign_cmp (x y : Int) (h : ¬ x = y) : (if 0 < x - y then 1 else -1) = cmpI x y := by
  unfold cmpI
  by_cases h2 : x < y
  · rw [if_pos h2, if_neg (by omega)]
  · rw [if_neg h2, if_pos (by omega), if_pos (by omega)]
theorem l3Sign_cmp (x y : Int) (w : World) (h : ¬ x = y) : Calls Try.prog 126 #[.int .i64 (x - y)] w fun e w' => e = .returned (.int .i64 (cmpI x y)) ∧ w' = w := by
  rw [← sign_cmp x y h]; exact l3Sign_any _ w

set_option maxRecDepth 100000 in
set_option maxHeartbeats 400000 in
theorem isOldest_any (l : LsaM) (q : Bool) (lo hi : Nat) (A B : Option Addr) (n c m d : Nat) (w : World)  :
    Calls Try.prog 90 #[.agg (lsaCells l A B n c m d)] w fun e w' => e = .returned (.bool (oldB l)) ∧ Below w.heap.size w w' := by
  have HB := Lib.hid (show Below w.heap.size w (w.alloc (.cells (lsaCells l A B n c m d) 29)) from (Below.refl _ _).alloc (Nat.le_refl _) _)
  go_enter Try.func90, Try.ntmps90
  go_wp2
  go_ret
  exact ⟨ret_bool (by unfold oldB; rfl), HB.out⟩


end Go.Proofs.Ytamclkjofojhmaa
