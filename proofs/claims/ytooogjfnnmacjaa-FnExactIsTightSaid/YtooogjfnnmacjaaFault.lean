/-
  Walks of the model's l2Id, l2Form, l2Parts and LsaFault. No statement is proved here.
-/
import Derived.Test.YtooogjfnnmacjaaAt
import Derived.Test.YtooogjfnnmacjaaIn
namespace Go.Proofs.Ytooogjfnnmacjaa
open Go.RowKit

def idIn (n : Int) : Bool := allIn 0 4294967295 [n]

theorem l2Id_any (v : Int) (w : World) :
    Calls Try.prog 186 #[.int .i64 v] w fun e w' => e = .returned (.bool (idIn v)) ∧ w' = w := by
  go_enter Try.func186, Try.ntmps186
  go_wp2_with fail
  refine (l1In_any _ _ _ _).mono ?_
  rintro e w1 ⟨rfl, rfl⟩
  go_wp2
  go_ret
  exact ⟨rfl, rfl⟩

/-- The form that an advertisement of its type has. -/
def formOf (typ : Int) (n m : Nat) (mask cost : Int) : Bool :=
  if typ = 1 then m = 0 && mask = 0 && cost = 0 else if typ = 2 then n = 0 && cost = 0 else if typ = 3 then n = 0 && m = 0 else false


set_option maxHeartbeats 1600000 in
theorem l2Form_any (l : LsaM) (A B : Option Addr) (n c m d g : Nat) (w : World) (hx : Box w g 182 (lsaCells l A B n c m d)) :
    Calls Try.prog 185 #[.pointer (some ⟨g, 0, none⟩)] w fun e w' => e = .returned (.bool (formOf l.typ n m l.mask l.cost)) ∧ w' = w := by
  have x2 := hx.look 2
  have x6 := hx.look 6
  have x7 := hx.look 7
  have x8 := hx.look 8
  have x9 := hx.look 9
  clear hx
  by_cases h1 : l.typ = 1
  · by_cases h2 : m = 0
    · by_cases h3 : l.mask = 0
      · have HF : Hid ((l.cost == 0) = formOf l.typ n m l.mask l.cost) := Lib.hid (by simp [formOf, h1, h2, h3]; rw [Bool.eq_iff_iff]; simp)
        go_enter Try.func185, Try.ntmps185
        go_wp2
        go_ret
        exact ⟨ret_bool HF.out, rfl⟩
      · have HF : Hid (false = formOf l.typ n m l.mask l.cost) := Lib.hid (by simp [formOf, h1, h2, h3])
        go_enter Try.func185, Try.ntmps185
        go_wp2
        go_ret
        exact ⟨ret_bool HF.out, rfl⟩
    · have HF : Hid (false = formOf l.typ n m l.mask l.cost) := Lib.hid (by simp [formOf, h1, h2])
      go_enter Try.func185, Try.ntmps185
      go_wp2
      go_ret
      exact ⟨ret_bool HF.out, rfl⟩
  · by_cases h2 : l.typ = 2
    · by_cases h3 : n = 0
      · have HF : Hid ((l.cost == 0) = formOf l.typ n m l.mask l.cost) := Lib.hid (by simp [formOf, h2, h3]; rw [Bool.eq_iff_iff]; simp)
        go_enter Try.func185, Try.ntmps185
        go_wp2
        go_ret
        exact ⟨ret_bool HF.out, rfl⟩
      · have HF : Hid (false = formOf l.typ n m l.mask l.cost) := Lib.hid (by simp [formOf, h2, h3])
        go_enter Try.func185, Try.ntmps185
        go_wp2
        go_ret
        exact ⟨ret_bool HF.out, rfl⟩
    · by_cases h3 : l.typ = 3
      · by_cases h4 : n = 0
        · have HF : Hid ((((m : Int)) == 0) = formOf l.typ n m l.mask l.cost) := Lib.hid (by simp [formOf, h3, h4]; try (rw [Bool.eq_iff_iff]; simp))
          go_enter Try.func185, Try.ntmps185
          go_wp2
          go_ret
          exact ⟨ret_bool HF.out, rfl⟩
        · have HF : Hid (false = formOf l.typ n m l.mask l.cost) := Lib.hid (by simp [formOf, h3, h4])
          go_enter Try.func185, Try.ntmps185
          go_wp2
          go_ret
          exact ⟨ret_bool HF.out, rfl⟩
      · have HF : Hid (false = formOf l.typ n m l.mask l.cost) := Lib.hid (by simp [formOf, h1, h2, h3])
        go_enter Try.func185, Try.ntmps185
        go_wp2
        go_ret
        exact ⟨ret_bool HF.out, rfl⟩

def linkOk (a : Lnk) : Bool := allIn 1 2 [a.kind] && idIn a.to_ && idIn a.own && allIn 0 65535 [a.cost]
def ups (zs : List Int) : Prop := ∀ i, i < zs.length - 1 → zs.getD i 0 < zs.getD (i + 1) 0
instance (zs : List Int) : Decidable (ups zs) := by unfold ups; exact inferInstance
/-- The code of an advertisement's parts. -/
def partsOf (l : LsaM) : Int :=
  if l.links.all linkOk = false then 3 else if l.routers.all idIn = false then 3 else if ¬ ups l.routers then 1 else if l.typ = 1 ∧ l.id ≠ l.adv then 1 else 0

theorem all_no {α : Type} {p : α → Bool} {ys : List α} {k : Nat} {a : α} (h : ys[k]? = some a) (ha : p a = false) : ys.all p = false := by
  rw [List.all_eq_false]
  exact ⟨a, List.mem_of_getElem? h, by simp [ha]⟩
theorem all_yes {α : Type} {p : α → Bool} {ys : List α} {n : Nat} (hl : ys.length = n) (h : ∀ j a, j < n → ys[j]? = some a → p a = true) : ys.all p = true := by
  rw [List.all_eq_true]
  intro a ha
  obtain ⟨i, hi, rfl⟩ := List.getElem_of_mem ha
  exact h i _ (by omega) (List.getElem?_eq_getElem hi)

set_option maxHeartbeats 3200000 in
theorem l2Parts_any (l : LsaM) (q : Bool) (lo hi : Nat) (A B : Option Addr) (n c m d g : Nat) (w : World) (hx : Box w g 182 (lsaCells l A B n c m d)) (hl : LsaIn q lo hi w A n B m l) (hn : n ≤ 1048576) (hm : m ≤ 1048576) :
    Calls Try.prog 187 #[.pointer (some ⟨g, 0, none⟩)] w fun e w' => e = .returned (.int .i64 (partsOf l)) ∧ ∃ q, w' = w.drewN q := by
  have x2 := hx.look 2
  have x3 := hx.look 3
  have x4 := hx.look 4
  have x6 := hx.look 6
  have x7 := hx.look 7
  clear hx
  have HL := Lib.hid hl
  clear hl
  go_enter Try.func187, Try.ntmps187
  go_wp2
  go_loopw [3] (fun i wr => ∃ k : Nat, k ≤ n ∧ i = .int .i64 k ∧ (∃ q, wr = w.drewN q) ∧ Hid (∀ j a, j < k → l.links[j]? = some a → linkOk a = true)) (fun i _ => n - (intOf i).toNat)
  case atStart => exact ⟨0, Nat.zero_le _, rfl, ⟨0, rfl⟩, fun j a h => absurd h (by omega)⟩
  case round =>
    obtain ⟨k, hk, rfl, ⟨q, rfl⟩, HI⟩ := hrel
    by_cases hlt : k < n
    · obtain ⟨b, o, a, rfl, hya, a0, a1, a2, a3⟩ := Rep.link_at HL.out.links hlt
      have hlt' : (k : Int) < n := by omega
      have HYA := Lib.hid hya
      clear hya
      have HP : Hid (linkOk a = false → partsOf l = 3) := Lib.hid (fun h => by unfold partsOf; rw [if_pos (all_no HYA.out h)])
      by_cases hK : allIn 1 2 [a.kind] = true
      · by_cases hT : idIn a.to_ = true
        · by_cases hO : idIn a.own = true
          · by_cases hC : allIn 0 65535 [a.cost] = true
            · have HOK : Hid (linkOk a = true) := Lib.hid (by simp [linkOk, hK, hT, hO, hC])
              go_wp2_with fail
              refine (l1In_any _ _ _ _).mono ?_
              rintro e w1 ⟨rfl, rfl⟩
              rw [hK]
              go_wp2_with fail
              refine (l2Id_any _ _).mono ?_
              rintro e w1 ⟨rfl, rfl⟩
              rw [hT]
              go_wp2_with fail
              refine (l2Id_any _ _).mono ?_
              rintro e w1 ⟨rfl, rfl⟩
              rw [hO]
              go_wp2_with fail
              refine (l1In_any _ _ _ _).mono ?_
              rintro e w1 ⟨rfl, rfl⟩
              rw [hC]
              go_wp2
              go_roundw
              case rel => exact ⟨k + 1, by omega, by go_num, ⟨_, rfl⟩, Lib.hid (fun j a' hj ha => by
                rcases Nat.lt_succ_iff_lt_or_eq.1 hj with h | rfl
                · exact HI.out j a' h ha
                · obtain rfl : a' = a := by have := HYA.out; rw [this] at ha; injection ha with e; exact e.symm
                  exact HOK.out)⟩
              case measure => simp [intOf]; omega
            · have hC : allIn 0 65535 [a.cost] = false := by simpa using hC
              have HN := HP.out (by simp [linkOk, hK, hT, hO, hC])
              clear HP
              go_wp2_with fail
              refine (l1In_any _ _ _ _).mono ?_
              rintro e w1 ⟨rfl, rfl⟩
              rw [hK]
              go_wp2_with fail
              refine (l2Id_any _ _).mono ?_
              rintro e w1 ⟨rfl, rfl⟩
              rw [hT]
              go_wp2_with fail
              refine (l2Id_any _ _).mono ?_
              rintro e w1 ⟨rfl, rfl⟩
              rw [hO]
              go_wp2_with fail
              refine (l1In_any _ _ _ _).mono ?_
              rintro e w1 ⟨rfl, rfl⟩
              rw [hC]
              go_wp2
              go_ret
              exact ⟨by rw [HN]; rfl, _, rfl⟩
          · have hO : idIn a.own = false := by simpa using hO
            have HN := HP.out (by simp [linkOk, hK, hT, hO])
            clear HP
            go_wp2_with fail
            refine (l1In_any _ _ _ _).mono ?_
            rintro e w1 ⟨rfl, rfl⟩
            rw [hK]
            go_wp2_with fail
            refine (l2Id_any _ _).mono ?_
            rintro e w1 ⟨rfl, rfl⟩
            rw [hT]
            go_wp2_with fail
            refine (l2Id_any _ _).mono ?_
            rintro e w1 ⟨rfl, rfl⟩
            rw [hO]
            go_wp2
            go_ret
            exact ⟨by rw [HN]; rfl, _, rfl⟩
        · have hT : idIn a.to_ = false := by simpa using hT
          have HN := HP.out (by simp [linkOk, hK, hT])
          clear HP
          go_wp2_with fail
          refine (l1In_any _ _ _ _).mono ?_
          rintro e w1 ⟨rfl, rfl⟩
          rw [hK]
          go_wp2_with fail
          refine (l2Id_any _ _).mono ?_
          rintro e w1 ⟨rfl, rfl⟩
          rw [hT]
          go_wp2
          go_ret
          exact ⟨by rw [HN]; rfl, _, rfl⟩
      · have hK : allIn 1 2 [a.kind] = false := by simpa using hK
        have HN := HP.out (by simp [linkOk, hK])
        clear HP
        go_wp2_with fail
        refine (l1In_any _ _ _ _).mono ?_
        rintro e w1 ⟨rfl, rfl⟩
        rw [hK]
        go_wp2
        go_ret
        exact ⟨by rw [HN]; rfl, _, rfl⟩
    · have HY1 : Hid (l.links.all linkOk = true) := Lib.hid (all_yes HL.out.links.1 (fun j a' hj ha => HI.out j a' (by omega) ha))
      clear HI
      go_wp2
      go_loopw [5] (fun i wr => ∃ k : Nat, k ≤ m ∧ i = .int .i64 k ∧ (∃ q, wr = w.drewN q) ∧ Hid (∀ j a, j < k → l.routers[j]? = some a → idIn a = true)) (fun i _ => m - (intOf i).toNat)
      case atStart => exact ⟨0, Nat.zero_le _, rfl, ⟨_, rfl⟩, fun j a h => absurd h (by omega)⟩
      case round =>
        obtain ⟨k2, hk2, rfl, ⟨q2, rfl⟩, HI⟩ := hrel
        by_cases hlt2 : k2 < m
        · obtain ⟨b, o, rfl, a0⟩ := Rep.int_at HL.out.routers hlt2
          have hlt' : (k2 : Int) < m := by omega
          have HYA : Hid (l.routers[k2]? = some (l.routers.getD k2 0)) := Lib.hid (by
            have := HL.out.routers.1
            simp [List.getD, List.getElem?_eq_getElem (show k2 < l.routers.length by omega)])
          obtain ⟨y, hy⟩ : ∃ y, l.routers.getD k2 0 = y := ⟨_, rfl⟩
          rw [hy] at HYA a0
          clear hy
          by_cases hT : idIn y = true
          · have HOK := Lib.hid hT
            go_wp2_with fail
            refine (l2Id_any _ _).mono ?_
            rintro e w1 ⟨rfl, rfl⟩
            rw [hT]
            go_wp2
            go_roundw
            case rel => exact ⟨k2 + 1, by omega, by go_num, ⟨_, rfl⟩, Lib.hid (fun j a' hj ha => by
              rcases Nat.lt_succ_iff_lt_or_eq.1 hj with h | rfl
              · exact HI.out j a' h ha
              · obtain rfl : a' = y := by have := HYA.out; rw [this] at ha; injection ha with e; exact e.symm
                exact HOK.out)⟩
            case measure => simp [intOf]; omega
          · have hT : idIn y = false := by simpa using hT
            have HN : Hid (partsOf l = 3) := Lib.hid (by unfold partsOf; rw [if_neg (by simp [HY1.out]), if_pos (all_no HYA.out hT)])
            go_wp2_with fail
            refine (l2Id_any _ _).mono ?_
            rintro e w1 ⟨rfl, rfl⟩
            rw [hT]
            go_wp2
            go_ret
            exact ⟨by rw [HN.out]; rfl, _, rfl⟩
        · have HY2 : Hid (l.routers.all idIn = true) := Lib.hid (all_yes HL.out.routers.1 (fun j a' hj ha => HI.out j a' (by omega) ha))
          clear HI
          go_wp2
          go_loopw [6] (fun i wr => ∃ k : Nat, (k ≤ m - 1) ∧ i = .int .i64 ((k : Int) + 1) ∧ (∃ q, wr = w.drewN q) ∧ Hid (∀ j, j < k → l.routers.getD j 0 < l.routers.getD (j + 1) 0)) (fun i _ => m - (intOf i).toNat)
          case atStart => exact ⟨0, Nat.zero_le _, rfl, ⟨_, rfl⟩, fun j h => absurd h (by omega)⟩
          case round =>
            obtain ⟨k3, hk3, rfl, ⟨q3, rfl⟩, HI⟩ := hrel
            by_cases hlt3 : k3 < m - 1
            · obtain ⟨b, o, rfl, a0⟩ := Rep.int_at HL.out.routers (show k3 < m by omega)
              obtain ⟨b', o', e, a1⟩ := Rep.int_at HL.out.routers (show k3 + 1 < m by omega)
              injection e with e
              injection e with e1 e2 _
              subst e1 e2
              have hlt' : (k3 : Int) + 1 < m := by omega
              obtain ⟨y0, hy0⟩ : ∃ y, l.routers.getD k3 0 = y := ⟨_, rfl⟩
              obtain ⟨y1, hy1⟩ : ∃ y, l.routers.getD (k3 + 1) 0 = y := ⟨_, rfl⟩
              rw [hy0] at a0
              rw [hy1] at a1
              have HY0 := Lib.hid hy0
              have HY1' := Lib.hid hy1
              clear hy0 hy1
              by_cases hle : y0 < y1
              · have HUP := Lib.hid hle
                go_wp2
                go_quiet (fail)
                go_wp2
                go_roundw
                case rel => exact ⟨k3 + 1, by omega, by go_num, ⟨_, rfl⟩, Lib.hid (fun j hj => by
                  rcases Nat.lt_succ_iff_lt_or_eq.1 hj with h | rfl
                  · exact HI.out j h
                  · rw [HY0.out, HY1'.out]; exact HUP.out)⟩
                case measure => simp [intOf]; omega
              · have HN : Hid (partsOf l = 1) := Lib.hid (by
                  unfold partsOf
                  rw [if_neg (by simp [HY1.out]), if_neg (by simp [HY2.out]), if_pos (fun h => hle (by have := h k3 (by have := HL.out.routers.1; omega); rw [HY0.out, HY1'.out] at this; exact this))])
                go_wp2
                go_quiet (fail)
                go_wp2
                go_ret
                exact ⟨by rw [HN.out]; rfl, _, World.drewN_drewN _ _ _⟩
            · have HY3 : Hid (ups l.routers) := Lib.hid (fun i hi => HI.out i (by have := HL.out.routers.1; omega))
              clear HI
              by_cases ht : l.typ = 1
              · by_cases hid : l.id = l.adv
                · have HN : Hid (partsOf l = 0) := Lib.hid (by unfold partsOf; rw [if_neg (by simp [HY1.out]), if_neg (by simp [HY2.out]), if_neg (by simp [HY3.out]), if_neg (by simp [hid])])
                  go_wp2
                  go_quiet (fail)
                  go_wp2
                  go_ret
                  exact ⟨by rw [HN.out]; rfl, _, World.drewN_drewN _ _ _⟩
                · have HN : Hid (partsOf l = 1) := Lib.hid (by unfold partsOf; rw [if_neg (by simp [HY1.out]), if_neg (by simp [HY2.out]), if_neg (by simp [HY3.out]), if_pos ⟨ht, hid⟩])
                  go_wp2
                  go_quiet (fail)
                  go_wp2
                  go_ret
                  exact ⟨by rw [HN.out]; rfl, _, World.drewN_drewN _ _ _⟩
              · have HN : Hid (partsOf l = 0) := Lib.hid (by unfold partsOf; rw [if_neg (by simp [HY1.out]), if_neg (by simp [HY2.out]), if_neg (by simp [HY3.out]), if_neg (by simp [ht])])
                go_wp2
                go_quiet (fail)
                go_wp2
                go_ret
                exact ⟨by rw [HN.out]; rfl, _, World.drewN_drewN _ _ _⟩

/-- The code of an advertisement. -/
def faultOf (l : LsaM) : Int :=
  if formOf l.typ l.links.length l.routers.length l.mask l.cost = false then 1
  else if (allIn 0 3600 [l.age] && allIn 0 255 [l.options] && idIn l.id && idIn l.adv && allIn (-2147483647) 2147483647 [l.seq] && idIn l.mask && allIn 0 16777215 [l.cost]) = false then 3
  else if 8 < l.links.length ∨ 8 < l.routers.length ∨ l.typ = 2 ∧ l.routers.length = 0 then 2
  else partsOf l

set_option maxHeartbeats 3200000 in
theorem specFault_any (l : LsaM) (q : Bool) (lo hi : Nat) (A B : Option Addr) (n c m d : Nat) (w : World) (hl : LsaIn q lo hi w A n B m l) (hh : hi ≤ w.heap.size) (hn : n ≤ 1048576) (hm : m ≤ 1048576) :
    Calls Try.prog 166 #[.agg (lsaCells l A B n c m d)] w fun e w' => e = .returned (.int .i64 (faultOf l)) ∧ Below w.heap.size w w' := by
  have hV : Below w.heap.size w (w.alloc (.cells (lsaCells l A B n c m d) 182)) := (Below.refl _ _).alloc (Nat.le_refl _) _
  have HL0 := Lib.hid (hl.below hV hh)
  have HB0 := Lib.hid hV
  have HQ : Hid (l.links.length = n ∧ l.routers.length = m) := Lib.hid ⟨hl.links.1, hl.routers.1⟩
  clear hl hV
  go_enter Try.func166, Try.ntmps166
  go_wp2_with fail
  obtain ⟨V0, hV0⟩ : ∃ W : World, W = w.alloc (.cells (lsaCells l A B n c m d) 182) := ⟨_, rfl⟩
  have HX0 : Hid (Box V0 w.heap.size 182 (lsaCells l A B n c m d)) := by rw [hV0]; exact Lib.hid (Box.made _ _ _)
  rw [← hV0] at HL0 HB0 ⊢
  clear hV0
  refine (l2Form_any _ _ _ _ _ _ _ _ _ HX0.out).mono ?_
  rintro e w1 ⟨rfl, rfl⟩
  by_cases hF : formOf l.typ n m l.mask l.cost = true
  · rw [hF]
    have HF := Lib.hid hF
    clear hF
    have x0 := HX0.out.look 0
    have x1 := HX0.out.look 1
    have x2 := HX0.out.look 2
    have x3 := HX0.out.look 3
    have x4 := HX0.out.look 4
    have x5 := HX0.out.look 5
    have x6 := HX0.out.look 6
    have x7 := HX0.out.look 7
    have x8 := HX0.out.look 8
    have x9 := HX0.out.look 9
    have HR : Hid ((allIn 0 3600 [l.age] && allIn 0 255 [l.options] && idIn l.id && idIn l.adv && allIn (-2147483647) 2147483647 [l.seq] && idIn l.mask && allIn 0 16777215 [l.cost]) = false → faultOf l = 3) := Lib.hid (fun h => by
      unfold faultOf
      rw [HQ.out.1, HQ.out.2, if_neg (by simp [HF.out]), if_pos h])
    go_wp2_with fail
    refine (l1In_any _ _ _ _).mono ?_
    rintro e w1 ⟨rfl, rfl⟩
    by_cases hA : allIn 0 3600 [l.age] = true
    rotate_left
    · have hA : allIn 0 3600 [l.age] = false := by simpa using hA
      have HN := Lib.hid (HR.out (by simp [hA]))
      rw [hA]
      go_wp2
      go_ret
      exact ⟨by rw [HN.out]; rfl, HB0.out⟩
    rw [hA]
    have HA := Lib.hid hA
    clear hA
    go_wp2_with fail
    refine (l1In_any _ _ _ _).mono ?_
    rintro e w1 ⟨rfl, rfl⟩
    by_cases hO : allIn 0 255 [l.options] = true
    rotate_left
    · have hO : allIn 0 255 [l.options] = false := by simpa using hO
      have HN := Lib.hid (HR.out (by simp [hO]))
      rw [hO]
      go_wp2
      go_ret
      exact ⟨by rw [HN.out]; rfl, HB0.out⟩
    rw [hO]
    have HO := Lib.hid hO
    clear hO
    go_wp2_with fail
    refine (l2Id_any _ _).mono ?_
    rintro e w1 ⟨rfl, rfl⟩
    by_cases hI : idIn l.id = true
    rotate_left
    · have hI : idIn l.id = false := by simpa using hI
      have HN := Lib.hid (HR.out (by simp [hI]))
      rw [hI]
      go_wp2
      go_ret
      exact ⟨by rw [HN.out]; rfl, HB0.out⟩
    rw [hI]
    have HI := Lib.hid hI
    clear hI
    go_wp2_with fail
    refine (l2Id_any _ _).mono ?_
    rintro e w1 ⟨rfl, rfl⟩
    by_cases hV : idIn l.adv = true
    rotate_left
    · have hV : idIn l.adv = false := by simpa using hV
      have HN := Lib.hid (HR.out (by simp [hV]))
      rw [hV]
      go_wp2
      go_ret
      exact ⟨by rw [HN.out]; rfl, HB0.out⟩
    rw [hV]
    have HV := Lib.hid hV
    clear hV
    go_wp2_with fail
    refine (l1In_any _ _ _ _).mono ?_
    rintro e w1 ⟨rfl, rfl⟩
    by_cases hS : allIn (-2147483647) 2147483647 [l.seq] = true
    rotate_left
    · have hS : allIn (-2147483647) 2147483647 [l.seq] = false := by simpa using hS
      have HN := Lib.hid (HR.out (by simp [hS]))
      rw [hS]
      go_wp2
      go_ret
      exact ⟨by rw [HN.out]; rfl, HB0.out⟩
    rw [hS]
    have HS := Lib.hid hS
    clear hS
    go_wp2_with fail
    refine (l2Id_any _ _).mono ?_
    rintro e w1 ⟨rfl, rfl⟩
    by_cases hM : idIn l.mask = true
    rotate_left
    · have hM : idIn l.mask = false := by simpa using hM
      have HN := Lib.hid (HR.out (by simp [hM]))
      rw [hM]
      go_wp2
      go_ret
      exact ⟨by rw [HN.out]; rfl, HB0.out⟩
    rw [hM]
    have HM := Lib.hid hM
    clear hM
    go_wp2_with fail
    refine (l1In_any _ _ _ _).mono ?_
    rintro e w1 ⟨rfl, rfl⟩
    by_cases hC : allIn 0 16777215 [l.cost] = true
    rotate_left
    · have hC : allIn 0 16777215 [l.cost] = false := by simpa using hC
      have HN := Lib.hid (HR.out (by simp [hC]))
      rw [hC]
      go_wp2
      go_ret
      exact ⟨by rw [HN.out]; rfl, HB0.out⟩
    rw [hC]
    have HC := Lib.hid hC
    clear hC
    have HG : Hid (faultOf l = (if 8 < n ∨ 8 < m ∨ l.typ = 2 ∧ m = 0 then (2 : Int) else partsOf l)) := Lib.hid (by
      unfold faultOf
      rw [HQ.out.1, HQ.out.2]
      exact (if_neg (by simp [HF.out])).trans (if_neg (by simp [HA.out, HO.out, HI.out, HV.out, HS.out, HM.out, HC.out])))
    clear HR HF HA HO HI HV HS HM HC
    by_cases h8 : 8 < n
    · have HN : Hid (faultOf l = 2) := by rw [HG.out, if_pos (.inl h8)]; exact Lib.hid rfl
      go_wp2
      go_ret
      exact ⟨by rw [HN.out]; rfl, HB0.out⟩
    · by_cases h9 : 8 < m
      · have HN : Hid (faultOf l = 2) := by rw [HG.out, if_pos (.inr (.inl h9))]; exact Lib.hid rfl
        go_wp2
        go_ret
        exact ⟨by rw [HN.out]; rfl, HB0.out⟩
      · by_cases ht : l.typ = 2
        · by_cases h0 : m = 0
          · have HN : Hid (faultOf l = 2) := by rw [HG.out, if_pos (.inr (.inr ⟨ht, h0⟩))]; exact Lib.hid rfl
            go_wp2
            go_ret
            exact ⟨by rw [HN.out]; rfl, HB0.out⟩
          · have h0' : ((m : Int) == 0) = false := by simpa using h0
            have HN : Hid (faultOf l = partsOf l) := by rw [HG.out, if_neg (by omega)]; exact Lib.hid rfl
            clear HG
            go_wp2_with fail
            refine (l2Parts_any l q lo hi _ _ _ _ _ _ _ _ HX0.out HL0.out hn hm).mono ?_
            rintro e w1 ⟨rfl, q1, rfl⟩
            go_wp2
            go_ret
            exact ⟨by rw [HN.out]; rfl, below_drewN HB0.out _⟩
        · have HN : Hid (faultOf l = partsOf l) := by rw [HG.out, if_neg (by omega)]; exact Lib.hid rfl
          clear HG
          go_wp2_with fail
          refine (l2Parts_any l q lo hi _ _ _ _ _ _ _ _ HX0.out HL0.out hn hm).mono ?_
          rintro e w1 ⟨rfl, q1, rfl⟩
          go_wp2
          go_ret
          exact ⟨by rw [HN.out]; rfl, below_drewN HB0.out _⟩
  · have hF : formOf l.typ n m l.mask l.cost = false := by simpa using hF
    have HN : Hid (faultOf l = 1) := Lib.hid (by unfold faultOf; rw [HQ.out.1, HQ.out.2, if_pos hF])
    rw [hF]
    go_wp2
    go_ret
    exact ⟨by rw [HN.out]; rfl, HB0.out⟩

end Go.Proofs.Ytooogjfnnmacjaa
