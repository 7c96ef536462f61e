/-
  The program's BaseFault. No statement is proved here.
-/
import Derived.Test.YtooogjfnnmacjaaKeyOrd
import Derived.Test.YtooogjfnnmacjaaSameWheel
import Derived.Test.YtooogjfnnmacjaaSound
import Derived.IntWalk
namespace Go.Proofs.Ytooogjfnnmacjaa
open Go.RowKit
set_option linter.unusedVariables false

def ageE (now : Int) (l : LsaM) (t : Int) : Int := l.age + now - t
/-- The code of an entry. -/
def entC (now : Int) (e : Ent) : Int := if faultOf e.l = 0 then (if 0 ≤ e.at_ ∧ e.at_ ≤ now ∧ ageE now e.l e.at_ < 3600 then 0 else 3) else faultOf e.l
def firstC (now : Int) : List Ent → Int
  | [] => 0
  | e :: t => if entC now e = 0 then firstC now t else entC now e
def Rising (ys : List Ent) : Prop := ∀ k a b, ys[k]? = some a → ys[k + 1]? = some b → ltE a.l b.l = true
open Classical in
noncomputable def faultB (now : Int) (ys : List Ent) : Int :=
  if 0 ≤ now ∧ now ≤ 1000000 then (if 40 < ys.length then 2 else if firstC now ys = 0 then (if Rising ys then 0 else 1) else firstC now ys) else 3
theorem faultB_1 {now : Int} {ys : List Ent} (h : ¬ (0 ≤ now ∧ now ≤ 1000000)) : faultB now ys = 3 := by unfold faultB; rw [if_neg h]
theorem faultB_2 {now : Int} {ys : List Ent} (h : 0 ≤ now ∧ now ≤ 1000000) (h2 : 40 < ys.length) : faultB now ys = 2 := by unfold faultB; rw [if_pos h, if_pos h2]
theorem faultB_3 {now : Int} {ys : List Ent} (h : 0 ≤ now ∧ now ≤ 1000000) (h2 : ¬ 40 < ys.length) (h3 : ¬ firstC now ys = 0) : faultB now ys = firstC now ys := by unfold faultB; rw [if_pos h, if_neg h2, if_neg h3]
theorem faultB_4 {now : Int} {ys : List Ent} (h : 0 ≤ now ∧ now ≤ 1000000) (h2 : ¬ 40 < ys.length) (h3 : firstC now ys = 0) (h4 : Rising ys) : faultB now ys = 0 := by unfold faultB; rw [if_pos h, if_neg h2, if_pos h3, if_pos h4]
theorem faultB_5 {now : Int} {ys : List Ent} (h : 0 ≤ now ∧ now ≤ 1000000) (h2 : ¬ 40 < ys.length) (h3 : firstC now ys = 0) (h4 : ¬ Rising ys) : faultB now ys = 1 := by unfold faultB; rw [if_pos h, if_neg h2, if_pos h3, if_neg h4]
theorem firstC_drop {now : Int} {ys : List Ent} {k : Nat} {e : Ent} (h : ys[k]? = some e) : firstC now (ys.drop k) = if entC now e = 0 then firstC now (ys.drop (k + 1)) else entC now e := by
  have hk := (List.getElem?_eq_some_iff.1 h).1
  rw [List.drop_eq_getElem_cons hk, (List.getElem?_eq_some_iff.1 h).2]
  rfl

theorem ageOf_any (l : LsaM) (t now : Int) (A B : Option Addr) (n c m d : Nat) (w : World) (h0 : 0 ≤ l.age) (h1 : l.age ≤ 3600) (h2 : 0 ≤ now) (h3 : now ≤ 1000000) (h4 : 0 ≤ t) (h5 : t ≤ now) :
    Calls Try.prog 190 #[.agg (entCells l t A B n c m d), .int .i64 now] w fun e w' => e = .returned (.int .i64 (ageE now l t)) ∧ Below w.heap.size w w' := by
  have HR := Lib.hid (show ageE now l t = l.age + now - t from rfl)
  go_enter Try.func190, Try.ntmps190
  go_wp2
  go_ret
  exact ⟨by rw [HR.out]; rfl, (Below.refl _ _).alloc (Nat.le_refl _) _⟩

set_option maxRecDepth 100000 in
set_option maxHeartbeats 1600000 in
theorem entryFault_any (l : LsaM) (q : Bool) (lo hi : Nat) (A B : Option Addr) (n c m d : Nat) (t now : Int) (w : World) (hl : LsaAt q lo hi w A n B m l) (hn : n ≤ 1048576) (hm : m ≤ 1048576) (hw0 : 0 ≤ now) (hw1 : now ≤ 1000000) :
    Calls Try.prog 171 #[.agg (entCells l t A B n c m d), .int .i64 now] w fun e w' => e = .returned (.int .i64 (entC now ⟨l, t⟩)) ∧ Below w.heap.size w w' := by
  obtain ⟨V, hV⟩ : ∃ V : World, V = w.alloc (.cells (entCells l t A B n c m d) 184) := ⟨_, rfl⟩
  have hbV : Below w.heap.size w V := by rw [hV]; exact (Below.refl _ _).alloc (Nat.le_refl _) _
  have HX := Lib.hid (show Box V w.heap.size 184 (entCells l t A B n c m d) by rw [hV]; exact Box.made _ _ _)
  have HL := Lib.hid (hl.below hbV)
  have HB := Lib.hid hbV
  clear hl hbV
  by_cases hf : faultOf l = 0
  · have hS := sound_of l hf
    have ha := hS.age
    have HC : Hid (entC now ⟨l, t⟩ = if 0 ≤ t ∧ t ≤ now ∧ ageE now l t < 3600 then 0 else 3) := Lib.hid (by unfold entC; rw [if_pos hf])
    have HF := Lib.hid hf
    obtain ⟨ha0, ha1⟩ := ha
    clear hf hS
    go_enter Try.func171, Try.ntmps171
    go_wp2_with fail
    rw [← hV]
    clear hV
    refine (lsaFault_any l q lo hi A B n c m d _ HL.out hn hm).mono ?_
    rw [HF.out]
    rintro e w1 ⟨rfl, hb⟩
    have HX1 := Lib.hid (HX.out.below hb)
    have HB1 := Lib.hid (below_step HB.out hb)
    clear hb HX HB HL
    have x0 := HX1.out.look 0
    have x1 := HX1.out.look 1
    have x2 := HX1.out.look 2
    have x3 := HX1.out.look 3
    have x4 := HX1.out.look 4
    have x5 := HX1.out.look 5
    have x6 := HX1.out.look 6
    have x7 := HX1.out.look 7
    have x8 := HX1.out.look 8
    have x9 := HX1.out.look 9
    have x10 := HX1.out.look 10
    have xl := HX1.out.lt
    by_cases ht : 0 ≤ t ∧ t ≤ now
    · have HA := Lib.hid (allIn_one_yes ht.1 ht.2)
      obtain ⟨ht0, ht1⟩ := ht
      go_wp2_with fail
      clear x0 x1 x2 x3 x4 x5 x6 x7 x8 x9 x10 xl
      have hbu := (Below.refl w1.heap.size w1).alloc (Nat.le_refl _) (.cells #[.int .i64 t] 2)
      have HX2 := Lib.hid (HX1.out.below hbu)
      have HB2 := Lib.hid (below_step HB1.out hbu)
      clear hbu
      refine (allWithin_one 0 now _ t _ ((Box.made w1 2 #[.int .i64 t]).look 0)).mono ?_
      rw [HA.out]
      rintro e w2 ⟨rfl, rfl⟩
      have x0 := HX2.out.look 0
      have x1 := HX2.out.look 1
      have x2 := HX2.out.look 2
      have x3 := HX2.out.look 3
      have x4 := HX2.out.look 4
      have x5 := HX2.out.look 5
      have x6 := HX2.out.look 6
      have x7 := HX2.out.look 7
      have x8 := HX2.out.look 8
      have x9 := HX2.out.look 9
      have x10 := HX2.out.look 10
      go_wp2_with fail
      clear x0 x1 x2 x3 x4 x5 x6 x7 x8 x9 x10
      refine (ageOf_any l t now A B n c m d _ ha0 ha1 hw0 hw1 ht0 ht1).mono ?_
      rintro e w3 ⟨rfl, hb⟩
      have HB3 := Lib.hid (below_step HB2.out hb)
      clear hb HX2
      obtain ⟨g, hg⟩ : ∃ g, ageE now l t = g := ⟨_, rfl⟩
      have HG := Lib.hid hg
      have hg0 : 0 ≤ g := by rw [← hg]; unfold ageE; omega
      rw [hg]
      clear hg
      by_cases h3 : g < 3600
      · have HA2 := Lib.hid (allIn_one_yes hg0 (show g ≤ 3599 by omega))
        have HR : Hid (entC now ⟨l, t⟩ = 0) := Lib.hid (by rw [HC.out, if_pos ⟨ht0, ht1, by rw [HG.out]; exact h3⟩])
        clear hg0 h3
        go_wp2_with fail
        have HB4 := Lib.hid (below_step HB3.out ((Below.refl w3.heap.size w3).alloc (Nat.le_refl _) (.cells #[.int .i64 g] 2)))
        refine (allWithin_one 0 3599 _ g _ ((Box.made w3 2 #[.int .i64 g]).look 0)).mono ?_
        rw [HA2.out]
        rintro e w5 ⟨rfl, rfl⟩
        go_wp2
        go_ret
        exact ⟨by rw [HR.out]; rfl, HB4.out⟩
      · have HA2 := Lib.hid (allIn_one_no (show ¬ (0 ≤ g ∧ g ≤ 3599) by omega))
        have HR : Hid (entC now ⟨l, t⟩ = 3) := Lib.hid (by rw [HC.out, if_neg (by rw [HG.out]; omega)])
        clear hg0 h3
        go_wp2_with fail
        have HB4 := Lib.hid (below_step HB3.out ((Below.refl w3.heap.size w3).alloc (Nat.le_refl _) (.cells #[.int .i64 g] 2)))
        refine (allWithin_one 0 3599 _ g _ ((Box.made w3 2 #[.int .i64 g]).look 0)).mono ?_
        rw [HA2.out]
        rintro e w5 ⟨rfl, rfl⟩
        go_wp2
        go_ret
        exact ⟨by rw [HR.out]; rfl, HB4.out⟩
    · have HA := Lib.hid (allIn_one_no ht)
      have HR : Hid (entC now ⟨l, t⟩ = 3) := Lib.hid (by rw [HC.out, if_neg (fun h => ht ⟨h.1, h.2.1⟩)])
      clear ht
      go_wp2_with fail
      clear x0 x1 x2 x3 x4 x5 x6 x7 x8 x9 x10 xl
      have HB2 := Lib.hid (below_step HB1.out ((Below.refl w1.heap.size w1).alloc (Nat.le_refl _) (.cells #[.int .i64 t] 2)))
      refine (allWithin_one 0 now _ t _ ((Box.made w1 2 #[.int .i64 t]).look 0)).mono ?_
      rw [HA.out]
      rintro e w2 ⟨rfl, rfl⟩
      go_wp2
      go_ret
      exact ⟨by rw [HR.out]; rfl, HB2.out⟩
  · have HR : Hid (entC now ⟨l, t⟩ = faultOf l) := Lib.hid (by unfold entC; rw [if_neg hf])
    obtain ⟨f, hfe⟩ : ∃ f, faultOf l = f := ⟨_, rfl⟩
    rw [hfe] at hf
    have HF := Lib.hid hfe
    have hne : (f != 0) = true := by rw [bne_iff_ne]; exact hf
    clear hfe hf
    go_enter Try.func171, Try.ntmps171
    go_wp2_with fail
    rw [← hV]
    clear hV
    refine (lsaFault_any l q lo hi A B n c m d _ HL.out hn hm).mono ?_
    rw [HF.out]
    rintro e w1 ⟨rfl, hb⟩
    have HB1 := Lib.hid (below_step HB.out hb)
    clear hb
    go_wp2
    go_ret
    exact ⟨by rw [HR.out, HF.out]; rfl, HB1.out⟩

set_option maxRecDepth 100000 in
set_option maxHeartbeats 3200000 in
theorem keysRise_any (q : Bool) (lo hi : Nat) (A : Option Addr) (n c : Nat) (ys : List Ent) (r : Bool) (w : World) (ha : Rep.ent.Sl q lo hi w A n ys) (hh : hi ≤ w.heap.size) (hn : n ≤ 1048576) (hr : r = true ↔ Rising ys) :
    Calls Try.prog 172 #[.slice A n c] w fun e w' => e = .returned (.bool r) ∧ Below w.heap.size w w' := by
  have hl1 := ha.1
  have HA := Rep.Sl.kept ha hh
  have HRR := Lib.hid hr
  clear hr ha
  go_enter Try.func172, Try.ntmps172
  go_wp2
  go_loopw [3] (fun i wr => ∃ j : Nat, 1 ≤ j ∧ j ≤ n + 1 ∧ i = .int .i64 j ∧ Hid (∀ t a b, t + 1 < j → ys[t]? = some a → ys[t + 1]? = some b → ltE a.l b.l = true) ∧ Hid (Below w.heap.size w wr)) (fun i _ => n - (intOf i).toNat)
  case atStart => exact ⟨1, Nat.le_refl _, by omega, rfl, fun t a b hj => absurd hj (by omega), Below.refl _ _⟩
  case round =>
    obtain ⟨j, hj0, hj1, rfl, HS, HB⟩ := hrel
    by_cases hlt : j < n
    · obtain ⟨p, hp⟩ : ∃ p, p + 1 = j := ⟨j - 1, by omega⟩
      have hw : IntKind.i64.wrap ((j : Int) - 1) = (p : Int) := by rw [IntWalk.i64_in _ (by omega)]; omega
      have hpn : (p : Int) < n := by omega
      have HP := Lib.hid hp
      clear hp
      obtain ⟨b, o, ⟨l, t⟩, E, F, m1, c1, m1', d1, e, hya, hyl, a0, a1, a2, a3, a4, a5, a6, a7, a8, a9, a10⟩ := Rep.ent_at (HA.below HB.out).sl (show p < n by have := HP.out; omega)
      obtain ⟨b2, o2, ⟨l2, t2⟩, E2, F2, m2, c2, m2', d2, rfl, hza, hzl, e0, e1, e2, e3, e4, e5, e6, e7, e8, e9, e10⟩ := Rep.ent_at (HA.below HB.out).sl hlt
      injection e with e
      injection e with eb eo
      subst eb eo
      have hlt' : (j : Int) < n := by omega
      have HYA := Lib.hid hya
      have HZA := Lib.hid hza
      have SB : Hid (∀ W, Hid (Below wr.heap.size wr W) → (fun W : World => W.cell? ⟨b2, o2 + p * 11, none⟩ = some (.int .i64 l.age) ∧ W.cell? ⟨b2, o2 + p * 11 + 1, none⟩ = some (.int .i64 l.options) ∧ W.cell? ⟨b2, o2 + p * 11 + 2, none⟩ = some (.int .i64 l.typ) ∧ W.cell? ⟨b2, o2 + p * 11 + 3, none⟩ = some (.int .i64 l.id) ∧ W.cell? ⟨b2, o2 + p * 11 + 4, none⟩ = some (.int .i64 l.adv) ∧ W.cell? ⟨b2, o2 + p * 11 + 5, none⟩ = some (.int .i64 l.seq) ∧ W.cell? ⟨b2, o2 + p * 11 + 6, none⟩ = some (.slice E m1 c1) ∧ W.cell? ⟨b2, o2 + p * 11 + 7, none⟩ = some (.slice F m1' d1) ∧ W.cell? ⟨b2, o2 + p * 11 + 8, none⟩ = some (.int .i64 l.mask) ∧ W.cell? ⟨b2, o2 + p * 11 + 9, none⟩ = some (.int .i64 l.cost) ∧ W.cell? ⟨b2, o2 + p * 11 + 10, none⟩ = some (.int .i64 t) ∧ W.cell? ⟨b2, o2 + j * 11, none⟩ = some (.int .i64 l2.age) ∧ W.cell? ⟨b2, o2 + j * 11 + 1, none⟩ = some (.int .i64 l2.options) ∧ W.cell? ⟨b2, o2 + j * 11 + 2, none⟩ = some (.int .i64 l2.typ) ∧ W.cell? ⟨b2, o2 + j * 11 + 3, none⟩ = some (.int .i64 l2.id) ∧ W.cell? ⟨b2, o2 + j * 11 + 4, none⟩ = some (.int .i64 l2.adv) ∧ W.cell? ⟨b2, o2 + j * 11 + 5, none⟩ = some (.int .i64 l2.seq) ∧ W.cell? ⟨b2, o2 + j * 11 + 6, none⟩ = some (.slice E2 m2 c2) ∧ W.cell? ⟨b2, o2 + j * 11 + 7, none⟩ = some (.slice F2 m2' d2) ∧ W.cell? ⟨b2, o2 + j * 11 + 8, none⟩ = some (.int .i64 l2.mask) ∧ W.cell? ⟨b2, o2 + j * 11 + 9, none⟩ = some (.int .i64 l2.cost) ∧ W.cell? ⟨b2, o2 + j * 11 + 10, none⟩ = some (.int .i64 t2)) W) := fun W h => ⟨(h.out.cell (World.block_lt_of_cell? wr _ a0)).trans a0, (h.out.cell (World.block_lt_of_cell? wr _ a1)).trans a1, (h.out.cell (World.block_lt_of_cell? wr _ a2)).trans a2, (h.out.cell (World.block_lt_of_cell? wr _ a3)).trans a3, (h.out.cell (World.block_lt_of_cell? wr _ a4)).trans a4, (h.out.cell (World.block_lt_of_cell? wr _ a5)).trans a5, (h.out.cell (World.block_lt_of_cell? wr _ a6)).trans a6, (h.out.cell (World.block_lt_of_cell? wr _ a7)).trans a7, (h.out.cell (World.block_lt_of_cell? wr _ a8)).trans a8, (h.out.cell (World.block_lt_of_cell? wr _ a9)).trans a9, (h.out.cell (World.block_lt_of_cell? wr _ a10)).trans a10, (h.out.cell (World.block_lt_of_cell? wr _ e0)).trans e0, (h.out.cell (World.block_lt_of_cell? wr _ e1)).trans e1, (h.out.cell (World.block_lt_of_cell? wr _ e2)).trans e2, (h.out.cell (World.block_lt_of_cell? wr _ e3)).trans e3, (h.out.cell (World.block_lt_of_cell? wr _ e4)).trans e4, (h.out.cell (World.block_lt_of_cell? wr _ e5)).trans e5, (h.out.cell (World.block_lt_of_cell? wr _ e6)).trans e6, (h.out.cell (World.block_lt_of_cell? wr _ e7)).trans e7, (h.out.cell (World.block_lt_of_cell? wr _ e8)).trans e8, (h.out.cell (World.block_lt_of_cell? wr _ e9)).trans e9, (h.out.cell (World.block_lt_of_cell? wr _ e10)).trans e10⟩
      have V0 : Hid (Below wr.heap.size wr wr.drew) := (Below.refl _ _).drew
      obtain ⟨z, hz⟩ : ∃ z, cmpE l l2 = z := ⟨_, rfl⟩
      have HZ := Lib.hid hz
      clear hya hza hyl hzl hz a0 a1 a2 a3 a4 a5 a6 a7 a8 a9 a10 e0 e1 e2 e3 e4 e5 e6 e7 e8 e9 e10
      go_wp2
      go_region_held3 (fun W : World => W.cell? ⟨b2, o2 + p * 11, none⟩ = some (.int .i64 l.age) ∧ W.cell? ⟨b2, o2 + p * 11 + 1, none⟩ = some (.int .i64 l.options) ∧ W.cell? ⟨b2, o2 + p * 11 + 2, none⟩ = some (.int .i64 l.typ) ∧ W.cell? ⟨b2, o2 + p * 11 + 3, none⟩ = some (.int .i64 l.id) ∧ W.cell? ⟨b2, o2 + p * 11 + 4, none⟩ = some (.int .i64 l.adv) ∧ W.cell? ⟨b2, o2 + p * 11 + 5, none⟩ = some (.int .i64 l.seq) ∧ W.cell? ⟨b2, o2 + p * 11 + 6, none⟩ = some (.slice E m1 c1) ∧ W.cell? ⟨b2, o2 + p * 11 + 7, none⟩ = some (.slice F m1' d1) ∧ W.cell? ⟨b2, o2 + p * 11 + 8, none⟩ = some (.int .i64 l.mask) ∧ W.cell? ⟨b2, o2 + p * 11 + 9, none⟩ = some (.int .i64 l.cost) ∧ W.cell? ⟨b2, o2 + p * 11 + 10, none⟩ = some (.int .i64 t) ∧ W.cell? ⟨b2, o2 + j * 11, none⟩ = some (.int .i64 l2.age) ∧ W.cell? ⟨b2, o2 + j * 11 + 1, none⟩ = some (.int .i64 l2.options) ∧ W.cell? ⟨b2, o2 + j * 11 + 2, none⟩ = some (.int .i64 l2.typ) ∧ W.cell? ⟨b2, o2 + j * 11 + 3, none⟩ = some (.int .i64 l2.id) ∧ W.cell? ⟨b2, o2 + j * 11 + 4, none⟩ = some (.int .i64 l2.adv) ∧ W.cell? ⟨b2, o2 + j * 11 + 5, none⟩ = some (.int .i64 l2.seq) ∧ W.cell? ⟨b2, o2 + j * 11 + 6, none⟩ = some (.slice E2 m2 c2) ∧ W.cell? ⟨b2, o2 + j * 11 + 7, none⟩ = some (.slice F2 m2' d2) ∧ W.cell? ⟨b2, o2 + j * 11 + 8, none⟩ = some (.int .i64 l2.mask) ∧ W.cell? ⟨b2, o2 + j * 11 + 9, none⟩ = some (.int .i64 l2.cost) ∧ W.cell? ⟨b2, o2 + j * 11 + 10, none⟩ = some (.int .i64 t2)) (exact SB.out _ (by assumption))
        (first | (go_at_call 191; refine (compareEntries_any l l2 t t2 E F E2 F2 m1 c1 m1' d1 m2 c2 m2' d2 _).mono ?_; rw [HZ.out]; rintro e u ⟨rfl, hbu⟩; have U0 := Lib.hid (below_step V0.out hbu); clear hbu))
      have HU := Lib.hid (below_step HB.out U0.out)
      clear SB V0 U0 HB
      by_cases hz0 : z < 0
      · have HLT : Hid (ltE l l2 = true) := Lib.hid ((cmpE_lt _ _).1 (by rw [HZ.out]; exact hz0))
        go_wp2
        go_roundw
        case rel => exact ⟨j + 1, by omega, by omega, by go_num, Lib.hid (fun t x y hj hx hy => by
          by_cases h : t + 1 < j
          · exact HS.out t x y h hx hy
          · obtain rfl : t = p := by have := HP.out; omega
            rw [HP.out] at hy
            rw [HYA.out] at hx; rw [HZA.out] at hy; injection hx with hx; injection hy with hy; subst hx hy; exact HLT.out), HU⟩
        case measure => simp [intOf]; omega
      · have HR := Lib.hid (bool_of HRR.out (fun h => hz0 (by rw [← HZ.out]; exact (cmpE_lt _ _).2 (h p _ _ HYA.out (by rw [HP.out]; exact HZA.out)))))
        have hz1 : 0 ≤ z := by omega
        clear hz0
        go_wp2
        go_ret
        exact ⟨by rw [HR.out]; rfl, HU.out⟩
    · have HR := Lib.hid (HRR.out.2 (fun t a b hj hb => HS.out t a b (by have := (List.getElem?_eq_some_iff.1 hb).1; omega) hj hb))
      go_wp2
      go_ret
      exact ⟨by rw [HR.out]; rfl, HB.out⟩

set_option maxRecDepth 100000 in
set_option maxHeartbeats 3200000 in
theorem baseFault_any (now : Int) (q : Bool) (lo hi : Nat) (A : Option Addr) (n c : Nat) (ys : List Ent) (w : World) (ha : Rep.ent.Sl q lo hi w A n ys) (hh : hi ≤ w.heap.size) (hn : n ≤ 1048576) (hm : ∀ y ∈ ys, y.l.links.length ≤ 1048576 ∧ y.l.routers.length ≤ 1048576) :
    Calls Try.prog 134 #[.agg #[.int .i64 now, .slice A n c]] w fun e w' => e = .returned (.int .i64 (faultB now ys)) ∧ Below w.heap.size w w' := by
  have hl1 := ha.1
  obtain ⟨V, hV⟩ : ∃ V : World, V = (w.alloc (.cells #[.int .i64 now, .slice A n c] 88)).alloc (.cells #[.int .i64 now] 2) := ⟨_, rfl⟩
  have hbV : Below w.heap.size w V := by rw [hV]; exact ((Below.refl _ _).alloc (Nat.le_refl _) _).alloc (by simp) _
  have HX := Lib.hid (show Box V w.heap.size 88 #[.int .i64 now, .slice A n c] by rw [hV]; exact (Box.made _ _ _).over _)
  have HO := Lib.hid (show Box V (w.heap.size + 1) 2 #[.int .i64 now] by rw [hV]; exact Box.made_at _ _ _ (by simp))
  have HB := Lib.hid hbV
  have HA := (Rep.Sl.kept ha hh).below hbV
  have HM := Lib.hid hm
  clear ha hm hbV
  by_cases h1 : 0 ≤ now ∧ now ≤ 1000000
  · have HW := Lib.hid (allIn_one_yes h1.1 h1.2)
    have H1 := Lib.hid h1
    obtain ⟨hw0, hw1⟩ := h1
    go_enter Try.func134, Try.ntmps134
    go_wp2_with fail
    rw [← hV]
    clear hV
    refine (allWithin_one 0 1000000 _ now _ (HO.out.look 0)).mono ?_
    rw [HW.out]
    rintro e w1 ⟨rfl, rfl⟩
    have x0 := HX.out.look 0
    have x1 := HX.out.look 1
    have xl := HX.out.lt
    by_cases h2 : 40 < n
    · have HR := Lib.hid (faultB_2 H1.out (show 40 < ys.length by omega))
      go_wp2
      go_ret
      exact ⟨by rw [HR.out]; rfl, HB.out⟩
    · have H2 := Lib.hid (show ¬ 40 < ys.length by omega)
      go_wp2
      clear x0 x1 xl
      go_loopw [18] (fun i wr => ∃ k : Nat, k ≤ n ∧ i = .int .i64 k ∧ Hid (firstC now ys = firstC now (ys.drop k)) ∧ Hid (Below w1.heap.size w1 wr)) (fun i _ => n - (intOf i).toNat)
      case atStart => exact ⟨0, Nat.zero_le _, rfl, rfl, Below.refl _ _⟩
      case round =>
        obtain ⟨k, hk, rfl, HS, HBW⟩ := hrel
        have HXW := Lib.hid (HX.out.below HBW.out)
        have x0 := HXW.out.look 0
        have x1 := HXW.out.look 1
        have xl := HXW.out.lt
        by_cases hlt : k < n
        · obtain ⟨b, o, ⟨l, t⟩, E, F, m1, c1, m1', d1, rfl, hya, hyl, a0, a1, a2, a3, a4, a5, a6, a7, a8, a9, a10⟩ := Rep.ent_at (HA.below HBW.out).sl hlt
          have hlt' : (k : Int) < n := by omega
          have hym := HM.out _ (List.mem_of_getElem? hya)
          simp only [] at hym hyl a0 a1 a2 a3 a4 a5 a6 a7 a8 a9 a10
          rw [show l.links.length = m1 from hyl.links.1, show l.routers.length = m1' from hyl.routers.1] at hym
          have HL := (show LsaAt q lo hi wr E m1 F m1' l from ⟨hyl, (HA.below HBW.out).le⟩).kept
          have hd := firstC_drop (now := now) hya
          have hbl := World.block_lt_of_cell? wr _ a0
          simp only [] at hbl
          obtain ⟨z, hz⟩ : ∃ z, entC now ⟨l, t⟩ = z := ⟨_, rfl⟩
          rw [hz] at hd
          have HZ := Lib.hid hz
          clear hya hyl hz
          by_cases hz0 : z = 0
          · rw [if_pos hz0] at hd
            have HD := Lib.hid hd
            subst hz0
            clear hd
            go_wp2_with fail
            clear x0 x1 xl hbl a0 a1 a2 a3 a4 a5 a6 a7 a8 a9 a10
            have hbu : Below wr.heap.size wr (wr.alloc (.cells (entCells l t E F m1 c1 m1' d1) 184)) := (Below.refl _ _).alloc (Nat.le_refl _) _
            have HBU := Lib.hid hbu
            clear hbu
            refine (entryFault_any l q lo hi E F m1 c1 m1' d1 t now _ (HL.below HBU.out).lsa hym.1 hym.2 hw0 hw1).mono ?_
            rw [HZ.out]
            rintro e w2 ⟨rfl, hb⟩
            have HB2 := Lib.hid (below_step (below_step HBW.out HBU.out) hb)
            clear hb
            go_wp2
            go_roundw
            case rel => exact ⟨k + 1, by omega, by go_num, Lib.hid (HS.out.trans HD.out), HB2⟩
            case measure => simp [intOf]; omega
          · rw [if_neg hz0] at hd
            have HR : Hid (faultB now ys = z) := Lib.hid (by rw [faultB_3 H1.out H2.out (by rw [HS.out, hd]; exact hz0), HS.out, hd])
            have hne : (z != 0) = true := by rw [bne_iff_ne]; exact hz0
            clear hd hz0
            go_wp2_with fail
            clear x0 x1 xl hbl a0 a1 a2 a3 a4 a5 a6 a7 a8 a9 a10
            have hbu : Below wr.heap.size wr (wr.alloc (.cells (entCells l t E F m1 c1 m1' d1) 184)) := (Below.refl _ _).alloc (Nat.le_refl _) _
            have HBU := Lib.hid hbu
            clear hbu
            refine (entryFault_any l q lo hi E F m1 c1 m1' d1 t now _ (HL.below HBU.out).lsa hym.1 hym.2 hw0 hw1).mono ?_
            rw [HZ.out]
            rintro e w2 ⟨rfl, hb⟩
            have HB2 := Lib.hid (below_step HB.out (below_step (below_step HBW.out HBU.out) hb))
            clear hb
            go_wp2
            go_ret
            exact ⟨by rw [HR.out]; rfl, HB2.out⟩
        · have HE : Hid (firstC now ys = 0) := Lib.hid (by rw [HS.out, List.drop_eq_nil_of_le (by omega)]; rfl)
          obtain ⟨r, hr⟩ := is_of (Rising ys)
          have HRR := Lib.hid hr
          clear hr
          go_wp2_with fail
          clear x0 x1 xl
          refine (keysRise_any q lo hi A n c ys r _ (HA.below HBW.out).sl (HA.below HBW.out).le hn HRR.out).mono ?_
          rintro e w2 ⟨rfl, hb⟩
          have HB2 := Lib.hid (below_step HB.out (below_step HBW.out hb))
          clear hb
          cases r with
          | true =>
            have HR := Lib.hid (faultB_4 H1.out H2.out HE.out (HRR.out.1 rfl))
            go_wp2
            go_ret
            exact ⟨by rw [HR.out]; rfl, HB2.out⟩
          | false =>
            have HR := Lib.hid (faultB_5 H1.out H2.out HE.out (fun h => by have := HRR.out.2 h; cases this))
            go_wp2
            go_ret
            exact ⟨by rw [HR.out]; rfl, HB2.out⟩
  · have HW := Lib.hid (allIn_one_no h1)
    have HR := Lib.hid (faultB_1 (ys := ys) h1)
    clear h1
    go_enter Try.func134, Try.ntmps134
    go_wp2_with fail
    rw [← hV]
    clear hV
    refine (allWithin_one 0 1000000 _ now _ (HO.out.look 0)).mono ?_
    rw [HW.out]
    rintro e w1 ⟨rfl, rfl⟩
    go_wp2
    go_ret
    exact ⟨by rw [HR.out]; rfl, HB.out⟩

end Go.Proofs.Ytooogjfnnmacjaa
