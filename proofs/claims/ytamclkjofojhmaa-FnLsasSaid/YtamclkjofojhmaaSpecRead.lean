/-
  What the model's l2Read reads. No statement is proved here.
-/
import Derived.Test.YtamclkjofojhmaaDecBody
import Derived.Test.YtamclkjofojhmaaStep
import Derived.Deep.RegionHeld3
namespace Go.Proofs.Ytamclkjofojhmaa
open Go.RowKit
set_option linter.unusedVariables false

theorem rval_read {n : Nat} {xs : List Int} {a s : Nat} (h : rOK n (a : Int) (s : Int)) : rval n xs (a : Int) (s : Int) = readN ((xs.drop a).take s) := by unfold rval; rw [if_pos h]; simp
theorem l1ReadI (A : Option Addr) (n c : Nat) (xs : List Int) (a s : Int) (w : World) (ha : BIn w A n xs) (hb : Bytes xs) (hn : n ≤ 1048576) (hs : 1 ≤ s ∧ s ≤ 6) (h0 : 0 ≤ a) (hr : a + s ≤ n) :
    Calls Try.prog 75 #[.slice A n c, .int .i64 a, .int .i64 s] w fun e w' => e = .returned (.int .i64 (rval n xs a s)) ∧ w' = w := by
  obtain ⟨a, rfl⟩ := Int.eq_ofNat_of_zero_le h0
  obtain ⟨s, rfl⟩ := Int.eq_ofNat_of_zero_le (show 0 ≤ s by omega)
  have hk : rOK n (a : Int) (s : Int) := by unfold rOK; omega
  rw [rval_read hk]
  exact l1Read_any A n c xs a s w ha hb hn (by omega) (by omega)

theorem rval_drop {n : Nat} {xs : List Int} {a s : Int} (hl : 20 ≤ n) (h0 : 0 ≤ a) : rval (n - 20) (xs.drop 20) a s = rval n xs (20 + a) s := by
  obtain ⟨a, rfl⟩ := Int.eq_ofNat_of_zero_le h0
  unfold rval
  have e : rOK (n - 20) (a : Int) s ↔ rOK n (20 + (a : Int)) s := by unfold rOK; omega
  by_cases h : rOK (n - 20) (a : Int) s
  · rw [if_pos h, if_pos (e.1 h), List.drop_drop, show (20 + (a : Int)).toNat = 20 + (a : Int).toNat by omega]
  · rw [if_neg h, if_neg (fun h' => h (e.2 h'))]

theorem rval_one {n : Nat} {xs : List Int} {a : Nat} (hl : xs.length = n) (h : a < n) : rval n xs (a : Int) 1 = xs.getD a 0 := by
  have hk : rOK n (a : Int) ((1 : Nat) : Int) := by unfold rOK; omega
  have := rval_read (xs := xs) hk
  rw [show ((1 : Nat) : Int) = 1 from rfl] at this
  rw [this]
  have e : (xs.drop a).take 1 = [xs.getD a 0] := by
    have ha : a < xs.length := by omega
    rw [List.drop_eq_getElem_cons ha, List.take_succ_cons, List.take_zero]
    simp [List.getD, ha]
  rw [e]
  simp [readN]

/-- A head in a variable of the model's own, data beside it. -/
abbrev hCells (l : LsaM) (E F : Option Addr) (k d m g : Nat) : Array Value := lsaCells l E F k d m g

set_option maxRecDepth 100000 in
set_option maxHeartbeats 1600000 in
theorem l2Read_short (l : LsaM) (g : Nat) (A : Option Addr) (n c : Nat) (w : World) (hn : n < 4) :
    Calls Try.prog 122 #[.pointer (some ⟨g, 0, none⟩), .slice A n c] w fun e w' => e = .returned (.bool false) ∧ w' = w := by
  have h1 : (n : Int) < 4 := by omega
  go_enter Try.func122, Try.ntmps122
  go_wp2
  go_ret
  exact ⟨rfl, rfl⟩

set_option maxRecDepth 100000 in
set_option maxHeartbeats 1600000 in
theorem l2Read_none (l : LsaM) (g : Nat) (A : Option Addr) (n c : Nat) (w : World) (hx : Box w g 29 (lsaCells l none none 0 0 0 0)) (hn : 4 ≤ n) (h1 : ¬ l.typ = 1) (h2 : ¬ l.typ = 2) (h3 : ¬ l.typ = 3) :
    Calls Try.prog 122 #[.pointer (some ⟨g, 0, none⟩), .slice A n c] w fun e w' => e = .returned (.bool true) ∧ w' = w := by
  have h0 : ¬ (n : Int) < 4 := by omega
  have x2 := hx.look 2
  clear hx
  go_enter Try.func122, Try.ntmps122
  go_wp2
  go_ret
  exact ⟨rfl, rfl⟩

set_option maxRecDepth 100000 in
set_option maxHeartbeats 1600000 in
theorem l2Read_3no (l : LsaM) (g : Nat) (A : Option Addr) (n c : Nat) (w : World) (hx : Box w g 29 (lsaCells l none none 0 0 0 0)) (hn : 4 ≤ n) (ht : l.typ = 3) (h8 : ¬ n = 8) :
    Calls Try.prog 122 #[.pointer (some ⟨g, 0, none⟩), .slice A n c] w fun e w' => e = .returned (.bool false) ∧ w' = w := by
  have h0 : ¬ (n : Int) < 4 := by omega
  have h8' : ((n : Int) != 8) = true := by rw [bne_iff_ne]; omega
  have x2 := hx.look 2
  rw [show (lsaCells l none none 0 0 0 0)[2]? = some (.int .i64 l.typ) from rfl, ht] at x2
  clear hx ht
  go_enter Try.func122, Try.ntmps122
  go_wp2
  go_ret
  exact ⟨rfl, rfl⟩

set_option maxRecDepth 100000 in
set_option maxHeartbeats 1600000 in
theorem l2Read_3yes (l : LsaM) (g : Nat) (A : Option Addr) (c : Nat) (zs : List Int) (w : World) (hx : Box w g 29 (lsaCells l none none 0 0 0 0)) (ha : BIn w A 8 zs) (hb : Bytes zs) (ht : l.typ = 3) (hne : ∀ r, A.map (·.block) = some r → r ≠ g) :
    Calls Try.prog 122 #[.pointer (some ⟨g, 0, none⟩), .slice A 8 c] w fun e w' => e = .returned (.bool true) ∧ Box w' g 29 (lsaCells { l with mask := rval 8 zs 0 4, cost := rval 8 zs 5 3 } none none 0 0 0 0) ∧ w.grownBy w' (some g) := by
  have HX := Lib.hid hx
  have HA := Lib.hid ha
  have HBY := Lib.hid hb
  have x2 := hx.look 2
  rw [show (lsaCells l none none 0 0 0 0)[2]? = some (.int .i64 l.typ) from rfl, ht] at x2
  have y8 := hx.look 8
  have f8 := hx.free 8
  obtain ⟨z0, hz0⟩ : ∃ z, rval 8 zs 0 4 = z := ⟨_, rfl⟩
  obtain ⟨z1, hz1⟩ : ∃ z, rval 8 zs 5 3 = z := ⟨_, rfl⟩
  rw [hz0, hz1]
  have HZ0 := Lib.hid hz0
  have HZ1 := Lib.hid hz1
  clear hx ha hb ht hz0 hz1
  go_enter Try.func122, Try.ntmps122
  go_wp2_with fail
  refine (l1ReadI A 8 c zs 0 4 _ HA.out HBY.out (by omega) (by omega) (by omega) (by omega)).mono ?_
  rw [HZ0.out]
  rintro e w1 ⟨rfl, rfl⟩
  go_wp2_with fail
  have hg1 := setCell_grown w1 ⟨g, 8, none⟩ (.int .i64 z0)
  have HA1 := Lib.hid (HA.out.grown hg1 (fun _ => by
    cases hA : A.map (·.block) with
    | none => exact .inl rfl
    | some r => exact .inr (fun e => hne r hA (by injection e))))
  have HX1 := Lib.hid (HX.out.put 8 (.int .i64 z0))
  have HG1 := Lib.hid hg1
  clear x2 y8 f8 hg1 HX HA
  refine (l1ReadI A 8 c zs 5 3 _ HA1.out HBY.out (by omega) (by omega) (by omega) (by omega)).mono ?_
  rw [HZ1.out]
  rintro e w2 ⟨rfl, rfl⟩
  have y9 := HX1.out.look 9
  have f9 := HX1.out.free 9
  go_wp2
  go_ret
  have hX2 := HX1.out.put 9 (.int .i64 z1)
  exact ⟨rfl, by simpa using hX2, grown_trans HG1.out (setCell_grown _ ⟨g, 9, none⟩ _)⟩

end Go.Proofs.Ytamclkjofojhmaa
