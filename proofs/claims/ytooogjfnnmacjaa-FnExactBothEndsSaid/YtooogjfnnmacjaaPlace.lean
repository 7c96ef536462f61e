/-
  Where a timer's place is: levelOf, l4Place, both PlaceOf. No statement is proved here.
-/
import Derived.Test.YtooogjfnnmacjaaSum
import Derived.Test.YtooogjfnnmacjaaIn
import Derived.Test.YtooogjfnnmacjaaWalk
namespace Go.Proofs.Ytooogjfnnmacjaa
open Go.RowKit
set_option linter.unusedVariables false

/-- The level of what is due, and how many ticks one of its slots spans. -/
def levV (now due : Int) : Int := if now / 8 = due / 8 then 0 else if now / 64 = due / 64 then 1 else 2
def spanV (now due : Int) : Int := if now / 8 = due / 8 then 1 else if now / 64 = due / 64 then 8 else 64
/-- The place. -/
def placeV (now due : Int) : Int := 8 * levV now due + due / spanV now due % 8
theorem placeV_bd (now due : Int) : 0 ≤ placeV now due ∧ placeV now due < 24 := by
  unfold placeV levV spanV
  split
  · omega
  · split <;> omega

set_option maxHeartbeats 800000 in
theorem levelOf_any (now due : Int) (w : World) (h0 : 0 ≤ now) (h1 : 0 ≤ due) (h2 : now ≤ 1000000000) (h3 : due ≤ 1000000000) :
    Calls Try.prog 109 #[.int .i64 now, .int .i64 due] w fun e w' => e = .returned (.tuple #[.int .i64 (levV now due), .int .i64 (spanV now due)]) ∧ Below w.heap.size w w' := by
  go_enter Try.func109, Try.ntmps109
  go_wp2
  go_loopw [6, 7] (fun i s wr => (∃ q, wr = w.drewN q) ∧ ((i = .int .i64 0 ∧ s = .int .i64 1) ∨ (i = .int .i64 1 ∧ s = .int .i64 8 ∧ ¬ now / 8 = due / 8) ∨ (i = .int .i64 2 ∧ s = .int .i64 64 ∧ ¬ now / 8 = due / 8 ∧ ¬ now / 64 = due / 64)))
    (fun i _ _ => 2 - (intOf i).toNat)
  case atStart => exact ⟨⟨0, rfl⟩, .inl ⟨rfl, rfl⟩⟩
  case round =>
    obtain ⟨⟨q, rfl⟩, (⟨rfl, rfl⟩ | ⟨rfl, rfl, d1⟩ | ⟨rfl, rfl, d1, d2⟩)⟩ := hrel
    · by_cases d1 : now / 8 = due / 8
      · have HA : Hid (levV now due = 0 ∧ spanV now due = 1) := Lib.hid (by simp [levV, spanV, d1])
        go_wp2
        go_quiet (fail)
        go_wp2
        exact bodyPost_ret (v := .tuple #[.int .i64 (levV now due), .int .i64 (spanV now due)]) (by rw [HA.out.1, HA.out.2]; simp [results, Try.results109, go_sem]) rfl ⟨rfl, below_drewN (below_drewN (Below.refl _ _) _) _⟩
      · go_wp2
        go_quiet (fail)
        go_wp2
        go_roundw
        case rel => exact ⟨⟨_, rfl⟩, .inr (.inl ⟨rfl, rfl, d1⟩)⟩
        case measure => simp [intOf]
    · by_cases d2 : now / 64 = due / 64
      · have HA : Hid (levV now due = 1 ∧ spanV now due = 8) := Lib.hid (by simp [levV, spanV, d1, d2])
        clear d1
        go_wp2
        go_quiet (fail)
        go_wp2
        exact bodyPost_ret (v := .tuple #[.int .i64 (levV now due), .int .i64 (spanV now due)]) (by rw [HA.out.1, HA.out.2]; simp [results, Try.results109, go_sem]) rfl ⟨rfl, below_drewN (below_drewN (Below.refl _ _) _) _⟩
      · have D1 := Lib.hid d1
        clear d1
        go_wp2
        go_quiet (fail)
        go_wp2
        go_roundw
        case rel => exact ⟨⟨_, rfl⟩, .inr (.inr ⟨rfl, rfl, D1.out, d2⟩)⟩
        case measure => simp [intOf]
    · have HA : Hid (levV now due = 2 ∧ spanV now due = 64) := Lib.hid (by simp [levV, spanV, d1, d2])
      clear d1 d2
      go_wp2
      go_quiet (fail)
      go_wp2
      exact bodyPost_ret (v := .tuple #[.int .i64 (levV now due), .int .i64 (spanV now due)]) (by rw [HA.out.1, HA.out.2]; simp [results, Try.results109, go_sem]) rfl ⟨rfl, below_drewN (below_drewN (Below.refl _ _) _) _⟩

set_option maxHeartbeats 800000 in
theorem l4Place_any (now due : Int) (w : World) (h0 : 0 ≤ now) (h1 : 0 ≤ due) (h2 : now ≤ 1000000000) (h3 : due ≤ 1000000000) :
    Calls Try.prog 110 #[.int .i64 now, .int .i64 due] w fun e w' => e = .returned (.int .i64 (placeV now due)) ∧ Below w.heap.size w w' := by
  go_enter Try.func110, Try.ntmps110
  go_wp2
  go_loopw [6, 5] (fun i s wr => (∃ q, wr = w.drewN q) ∧ ((i = .int .i64 0 ∧ s = .int .i64 1) ∨ (i = .int .i64 1 ∧ s = .int .i64 8 ∧ ¬ now / 8 = due / 8) ∨ (i = .int .i64 2 ∧ s = .int .i64 64 ∧ ¬ now / 8 = due / 8 ∧ ¬ now / 64 = due / 64)))
    (fun i _ _ => 2 - (intOf i).toNat)
  case atStart => exact ⟨⟨0, rfl⟩, .inl ⟨rfl, rfl⟩⟩
  case round =>
    obtain ⟨⟨q, rfl⟩, (⟨rfl, rfl⟩ | ⟨rfl, rfl, d1⟩ | ⟨rfl, rfl, d1, d2⟩)⟩ := hrel
    · by_cases d1 : now / 8 = due / 8
      · have HA : Hid (placeV now due = due % 8) := Lib.hid (by simp [placeV, levV, spanV, d1])
        go_wp2
        go_quiet (fail)
        go_wp2
        go_ret
        exact ⟨by rw [HA.out]; rfl, below_drewN (Below.refl _ _) _⟩
      · have D1 := Lib.hid d1
        replace d1 : (now / 8 == due / 8) = false := by simpa using d1
        go_wp2
        go_quiet (fail)
        go_wp2
        go_roundw
        case rel => exact ⟨⟨_, rfl⟩, .inr (.inl ⟨rfl, rfl, D1.out⟩)⟩
        case measure => simp [intOf]
    · by_cases d2 : now / 64 = due / 64
      · have HA : Hid (placeV now due = 8 + due / 8 % 8) := Lib.hid (by simp [placeV, levV, spanV, d1, d2])
        clear d1
        go_wp2
        go_quiet (fail)
        go_wp2
        go_ret
        exact ⟨by rw [HA.out]; rfl, below_drewN (Below.refl _ _) _⟩
      · have D1 := Lib.hid d1
        have D2 := Lib.hid d2
        clear d1
        replace d2 : (now / 64 == due / 64) = false := by simpa using d2
        go_wp2
        go_quiet (fail)
        go_wp2
        go_roundw
        case rel => exact ⟨⟨_, rfl⟩, .inr (.inr ⟨rfl, rfl, D1.out, D2.out⟩)⟩
        case measure => simp [intOf]
    · have HA : Hid (placeV now due = 16 + due / 64 % 8) := Lib.hid (by simp [placeV, levV, spanV, d1, d2])
      clear d1 d2
      by_cases d3 : now / 512 = due / 512
      · go_wp2
        go_quiet (fail)
        go_wp2
        go_ret
        exact ⟨by rw [HA.out]; rfl, below_drewN (Below.refl _ _) _⟩
      · replace d3 : (now / 512 == due / 512) = false := by simpa using d3
        go_wp2
        go_quiet (fail)
        go_wp2
        go_ret
        exact ⟨by rw [HA.out]; rfl, below_drewN (Below.refl _ _) _⟩

theorem l4Time_any (v : Int) (w : World) :
    Calls Try.prog 104 #[.int .i64 v] w fun e w' => e = .returned (.bool (allIn 0 1000000 [v])) ∧ w' = w := by
  go_enter Try.func104, Try.ntmps104
  go_wp2_with fail
  refine (l1In_any _ _ _ _).mono ?_
  rintro e w1 ⟨rfl, rfl⟩
  go_wp2
  go_ret
  exact ⟨rfl, rfl⟩

--PLACEOF
/-- What PlaceOf tells. -/
def poOk (now due : Int) : Prop := 0 ≤ now ∧ now ≤ 1000000 ∧ now + 1 ≤ due ∧ due ≤ now + 511
instance (now due : Int) : Decidable (poOk now due) := by unfold poOk; infer_instance
def poC (now due : Int) : Int := if poOk now due then 0 else 3
def poV (now due : Int) : Int := if poOk now due then placeV now due else 0
theorem spanV_pos (now due : Int) : 0 < spanV now due := by
  unfold spanV
  split
  · omega
  · split <;> omega
theorem levV_bd (now due : Int) : 0 ≤ levV now due ∧ levV now due ≤ 2 := by
  unfold levV
  split
  · omega
  · split <;> omega

set_option maxRecDepth 100000 in
set_option maxHeartbeats 1600000 in
theorem specPlaceOf_any (now due : Int) (w : World) :
    Calls Try.prog 35 #[.int .i64 now, .int .i64 due] w fun e w' => e = .returned (.agg #[.int .i64 (poC now due), .int .i64 (poV now due)]) ∧ Below w.heap.size w w' := by
  by_cases h : 0 ≤ now ∧ now ≤ 1000000
  · by_cases h' : now + 1 ≤ due ∧ due ≤ now + 511
    · have HB := Lib.hid (Below.refl w.heap.size w)
      have HA := Lib.hid (allIn_one_yes h.1 h.2)
      have HD := Lib.hid (allIn_one_yes h'.1 h'.2)
      have HR : Hid (poC now due = 0 ∧ poV now due = placeV now due) := Lib.hid (by constructor <;> (first | (unfold poC; rw [if_pos ⟨h.1, h.2, h'⟩]) | (unfold poV; rw [if_pos ⟨h.1, h.2, h'⟩])))
      have HS := Lib.hid (spanV_pos now due)
      have HL2 := Lib.hid (levV_bd now due)
      obtain ⟨a1, a2⟩ := h
      obtain ⟨a3, a4⟩ := h'
      go_enter Try.func35, Try.ntmps35
      go_wp2_with fail
      refine Calls.name ?_
      intro U1 hU1
      have hb : Below w.heap.size w U1 := by rw [hU1]; exact ((Below.refl _ _).alloc (Nat.le_refl _) _)
      have zz : Hid (w.heap.size + 1 = U1.heap.size) := Lib.hid (by rw [hU1]; simp)
      have HX1 : Kept w.heap.size (w.heap.size + 1) (BoxK w.heap.size 52 #[.int .i64 0, .int .i64 0]) U1 := by rw [hU1]; exact Kept.box (Box.made_at _ _ _ rfl)
      replace HB := Lib.hid (below_step HB.out hb)
      clear hb
      have Z1 := zz; clear zz
      clear hU1
      refine (l4Time_any _ _).mono ?_
      rw [HA.out]
      rintro e w2 ⟨rfl, rfl⟩
      have l2_0 := HX1.bx.lt
      go_wp2_with fail
      clear l2_0
      refine (l1In_any _ _ _ _).mono ?_
      rw [HD.out]
      rintro e w3 ⟨rfl, rfl⟩
      have l3_0 := HX1.bx.lt
      go_wp2_with fail
      clear l3_0
      refine (l4Place_any _ _ _ a1 (by omega) (by omega) (by omega)).mono ?_
      rintro e w4 ⟨rfl, hb⟩
      have Z2 := Lib.hid hb.size
      replace HX1 := HX1.below hb
      replace HB := Lib.hid (below_step HB.out hb)
      clear hb
      have c4_0 := HX1.look 0
      have c4_1 := HX1.look 1
      have f4_0 := HX1.free 0
      have f4_1 := HX1.free 1
      have l4_0 := HX1.bx.lt
      go_wp2
      clear c4_0 c4_1 f4_0 f4_1 l4_0
      obtain ⟨U5, hU5⟩ : ∃ W : World, W = ((w4.setCell ⟨w.heap.size, 0, none⟩ (.int .i64 0)).setCell ⟨w.heap.size, 1, none⟩ (.int .i64 (placeV now due))) := ⟨_, rfl⟩
      have ho : Only w.heap.size (w.heap.size + 1) w4 U5 := by rw [hU5]; exact (((Only.refl _ _ _).set (p := ⟨w.heap.size, 0, none⟩) (Nat.le_refl _) (Nat.lt_succ_self _) _).set (p := ⟨w.heap.size, 1, none⟩) (Nat.le_refl _) (Nat.lt_succ_self _) _)
      replace HX1 : Kept w.heap.size (w.heap.size + 1) (BoxK w.heap.size 52 #[.int .i64 0, .int .i64 (placeV now due)]) U5 := by rw [hU5]; exact Kept.box ((HX1.bx.puts 0 (.int .i64 0) (cs' := #[.int .i64 0, .int .i64 0]) rfl).puts 1 (.int .i64 (placeV now due)) (cs' := #[.int .i64 0, .int .i64 (placeV now due)]) rfl)
      replace HB := Lib.hid (Below.only HB.out ho (by have := Z1.out; have := Z2.out; omega) HB.out.size)
      have Z3 : Hid (U5.heap.size = w4.heap.size) := Lib.hid (by rw [hU5]; simp [World.setCell]); clear ho
      have q_0 := HX1.look 0
      have q_1 := HX1.look 1
      subst hU5
      exact bodyPost_ret (v := .agg #[.int .i64 0, .int .i64 (placeV now due)]) (by simp [results, Try.results35, go_sem, q_0, q_1]) rfl ⟨by rw [HR.out.1, HR.out.2], HB.out⟩
    · have HB := Lib.hid (Below.refl w.heap.size w)
      have HA := Lib.hid (allIn_one_yes h.1 h.2)
      have HD := Lib.hid (allIn_one_no h')
      have HR : Hid (poC now due = 3 ∧ poV now due = 0) := Lib.hid (by constructor <;> (first | exact if_neg (fun (hh : poOk now due) => by unfold poOk at hh; omega) | skip))
      obtain ⟨a1, a2⟩ := h
      clear h'
      go_enter Try.func35, Try.ntmps35
      go_wp2_with fail
      refine Calls.name ?_
      intro U1 hU1
      have hb : Below w.heap.size w U1 := by rw [hU1]; exact ((Below.refl _ _).alloc (Nat.le_refl _) _)
      have zz : Hid (w.heap.size + 1 = U1.heap.size) := Lib.hid (by rw [hU1]; simp)
      have HX1 : Kept w.heap.size (w.heap.size + 1) (BoxK w.heap.size 52 #[.int .i64 0, .int .i64 0]) U1 := by rw [hU1]; exact Kept.box (Box.made_at _ _ _ rfl)
      replace HB := Lib.hid (below_step HB.out hb)
      clear hb
      have Z1 := zz; clear zz
      clear hU1
      refine (l4Time_any _ _).mono ?_
      rw [HA.out]
      rintro e w2 ⟨rfl, rfl⟩
      have l2_0 := HX1.bx.lt
      go_wp2_with fail
      clear l2_0
      refine (l1In_any _ _ _ _).mono ?_
      rw [HD.out]
      rintro e w3 ⟨rfl, rfl⟩
      have c3_0 := HX1.look 0
      have c3_1 := HX1.look 1
      have f3_0 := HX1.free 0
      have f3_1 := HX1.free 1
      have l3_0 := HX1.bx.lt
      go_wp2
      clear c3_0 c3_1 f3_0 f3_1 l3_0
      obtain ⟨U4, hU4⟩ : ∃ W : World, W = ((w3.setCell ⟨w.heap.size, 0, none⟩ (.int .i64 3)).setCell ⟨w.heap.size, 1, none⟩ (.int .i64 0)) := ⟨_, rfl⟩
      have ho : Only w.heap.size (w.heap.size + 1) w3 U4 := by rw [hU4]; exact (((Only.refl _ _ _).set (p := ⟨w.heap.size, 0, none⟩) (Nat.le_refl _) (Nat.lt_succ_self _) _).set (p := ⟨w.heap.size, 1, none⟩) (Nat.le_refl _) (Nat.lt_succ_self _) _)
      replace HX1 : Kept w.heap.size (w.heap.size + 1) (BoxK w.heap.size 52 #[.int .i64 3, .int .i64 0]) U4 := by rw [hU4]; exact Kept.box ((HX1.bx.puts 0 (.int .i64 3) (cs' := #[.int .i64 3, .int .i64 0]) rfl).puts 1 (.int .i64 0) (cs' := #[.int .i64 3, .int .i64 0]) rfl)
      replace HB := Lib.hid (Below.only HB.out ho (by have := Z1.out; omega) HB.out.size)
      have Z2 : Hid (U4.heap.size = w3.heap.size) := Lib.hid (by rw [hU4]; simp [World.setCell]); clear ho
      have q_0 := HX1.look 0
      have q_1 := HX1.look 1
      subst hU4
      exact bodyPost_ret (v := .agg #[.int .i64 3, .int .i64 0]) (by simp [results, Try.results35, go_sem, q_0, q_1]) rfl ⟨by rw [HR.out.1, HR.out.2], HB.out⟩
  · have HB := Lib.hid (Below.refl w.heap.size w)
    have HA := Lib.hid (allIn_one_no h)
    have HR : Hid (poC now due = 3 ∧ poV now due = 0) := Lib.hid (by constructor <;> (first | exact if_neg (fun (hh : poOk now due) => by unfold poOk at hh; omega) | skip))
    clear h
    go_enter Try.func35, Try.ntmps35
    go_wp2_with fail
    refine Calls.name ?_
    intro U1 hU1
    have hb : Below w.heap.size w U1 := by rw [hU1]; exact ((Below.refl _ _).alloc (Nat.le_refl _) _)
    have zz : Hid (w.heap.size + 1 = U1.heap.size) := Lib.hid (by rw [hU1]; simp)
    have HX1 : Kept w.heap.size (w.heap.size + 1) (BoxK w.heap.size 52 #[.int .i64 0, .int .i64 0]) U1 := by rw [hU1]; exact Kept.box (Box.made_at _ _ _ rfl)
    replace HB := Lib.hid (below_step HB.out hb)
    clear hb
    have Z1 := zz; clear zz
    clear hU1
    refine (l4Time_any _ _).mono ?_
    rw [HA.out]
    rintro e w2 ⟨rfl, rfl⟩
    have c2_0 := HX1.look 0
    have c2_1 := HX1.look 1
    have f2_0 := HX1.free 0
    have f2_1 := HX1.free 1
    have l2_0 := HX1.bx.lt
    go_wp2
    clear c2_0 c2_1 f2_0 f2_1 l2_0
    obtain ⟨U3, hU3⟩ : ∃ W : World, W = ((w2.setCell ⟨w.heap.size, 0, none⟩ (.int .i64 3)).setCell ⟨w.heap.size, 1, none⟩ (.int .i64 0)) := ⟨_, rfl⟩
    have ho : Only w.heap.size (w.heap.size + 1) w2 U3 := by rw [hU3]; exact (((Only.refl _ _ _).set (p := ⟨w.heap.size, 0, none⟩) (Nat.le_refl _) (Nat.lt_succ_self _) _).set (p := ⟨w.heap.size, 1, none⟩) (Nat.le_refl _) (Nat.lt_succ_self _) _)
    replace HX1 : Kept w.heap.size (w.heap.size + 1) (BoxK w.heap.size 52 #[.int .i64 3, .int .i64 0]) U3 := by rw [hU3]; exact Kept.box ((HX1.bx.puts 0 (.int .i64 3) (cs' := #[.int .i64 3, .int .i64 0]) rfl).puts 1 (.int .i64 0) (cs' := #[.int .i64 3, .int .i64 0]) rfl)
    replace HB := Lib.hid (Below.only HB.out ho (by have := Z1.out; omega) HB.out.size)
    have Z2 : Hid (U3.heap.size = w2.heap.size) := Lib.hid (by rw [hU3]; simp [World.setCell]); clear ho
    have q_0 := HX1.look 0
    have q_1 := HX1.look 1
    subst hU3
    exact bodyPost_ret (v := .agg #[.int .i64 3, .int .i64 0]) (by simp [results, Try.results35, go_sem, q_0, q_1]) rfl ⟨by rw [HR.out.1, HR.out.2], HB.out⟩

set_option maxRecDepth 100000 in
set_option maxHeartbeats 1600000 in
theorem placeOf_any (now due : Int) (w : World) :
    Calls Try.prog 29 #[.int .i64 now, .int .i64 due] w fun e w' => e = .returned (.agg #[.int .i64 (poC now due), .int .i64 (poV now due)]) ∧ Below w.heap.size w w' := by
  by_cases h : 0 ≤ now ∧ now ≤ 1000000
  · by_cases h' : now + 1 ≤ due ∧ due ≤ now + 511
    · have HB := Lib.hid (Below.refl w.heap.size w)
      have HA := Lib.hid (allIn_one_yes h.1 h.2)
      have HD := Lib.hid (allIn_one_yes h'.1 h'.2)
      have HR : Hid (poC now due = 0 ∧ poV now due = placeV now due) := Lib.hid (by constructor <;> (first | (unfold poC; rw [if_pos ⟨h.1, h.2, h'⟩]) | (unfold poV; rw [if_pos ⟨h.1, h.2, h'⟩])))
      have HS := Lib.hid (spanV_pos now due)
      have HL2 := Lib.hid (levV_bd now due)
      obtain ⟨a1, a2⟩ := h
      obtain ⟨a3, a4⟩ := h'
      go_enter Try.func29, Try.ntmps29
      go_wp2_with fail
      refine Calls.name ?_
      intro U1 hU1
      have hb : Below w.heap.size w U1 := by rw [hU1]; exact (((Below.refl _ _).alloc (Nat.le_refl _) _).alloc (by simp <;> omega) _)
      have zz : Hid (w.heap.size + 2 = U1.heap.size) := Lib.hid (by rw [hU1]; simp)
      have HX1 : Kept w.heap.size (w.heap.size + 1) (BoxK w.heap.size 52 #[.int .i64 0, .int .i64 0]) U1 := by rw [hU1]; exact Kept.box ((Box.made_at _ _ _ rfl).over _)
      have HX2 : Kept (w.heap.size + 1) (w.heap.size + 1 + 1) (BoxK (w.heap.size + 1) 2 #[.int .i64 now]) U1 := by rw [hU1]; exact Kept.box (Box.made_at _ _ _ (by simp <;> omega))
      replace HB := Lib.hid (below_step HB.out hb)
      clear hb
      have Z1 := zz; clear zz
      clear hU1
      have HL := Lib.hid (HX2.look 0)
      refine (allWithin_one _ _ _ now _ HL.out).mono ?_
      rw [HA.out]
      rintro e w2 ⟨rfl, rfl⟩
      clear HL
      have l2_0 := HX1.bx.lt
      have l2_1 := HX2.bx.lt
      go_wp2_with fail
      clear l2_0 l2_1
      refine Calls.name ?_
      intro U3 hU3
      have hb : Below w2.heap.size w2 U3 := by rw [hU3]; exact ((Below.refl _ _).alloc (Nat.le_refl _) _)
      have zz : Hid (w2.heap.size + 1 = U3.heap.size) := Lib.hid (by rw [hU3]; simp)
      have HX3 : Kept w2.heap.size (w2.heap.size + 1) (BoxK w2.heap.size 2 #[.int .i64 due]) U3 := by rw [hU3]; exact Kept.box (Box.made_at _ _ _ rfl)
      replace HX1 := HX1.below hb
      replace HX2 := HX2.below hb
      replace HB := Lib.hid (below_step HB.out hb)
      clear hb
      have Z2 := zz; clear zz
      clear hU3
      have HL := Lib.hid (HX3.look 0)
      refine (allWithin_one _ _ _ due _ HL.out).mono ?_
      rw [HD.out]
      rintro e w4 ⟨rfl, rfl⟩
      clear HL
      have l3_0 := HX1.bx.lt
      have l3_1 := HX2.bx.lt
      have l3_2 := HX3.bx.lt
      go_wp2_with fail
      clear l3_0 l3_1 l3_2
      refine (levelOf_any _ _ _ a1 (by omega) (by omega) (by omega)).mono ?_
      rintro e w5 ⟨rfl, hb⟩
      have Z3 := Lib.hid hb.size
      replace HX1 := HX1.below hb
      replace HX2 := HX2.below hb
      replace HX3 := HX3.below hb
      replace HB := Lib.hid (below_step HB.out hb)
      clear hb
      have hs0 : 0 < spanV now due := HS.out
      have hl0 : 0 ≤ levV now due ∧ levV now due ≤ 2 := HL2.out
      have hs1 : (spanV now due == 0) = false := by simp; omega
      have hz0 : 0 ≤ due / spanV now due := Int.ediv_nonneg (by omega) (by omega)
      have hz1 : due / spanV now due ≤ due := Int.ediv_le_self _ (by omega)
      obtain ⟨z, hz⟩ : ∃ z, due / spanV now due = z := ⟨_, rfl⟩
      rw [hz] at hz0 hz1
      have HZ : Hid (placeV now due = 8 * levV now due + z % 8) := Lib.hid (by unfold placeV; rw [hz])
      have c4_0 := HX1.look 0
      have c4_1 := HX1.look 1
      have f4_0 := HX1.free 0
      have f4_1 := HX1.free 1
      have l4_0 := HX1.bx.lt
      have l4_1 := HX2.bx.lt
      have l4_2 := HX3.bx.lt
      go_wp2
      clear c4_0 c4_1 f4_0 f4_1 l4_0 l4_1 l4_2
      obtain ⟨U6, hU6⟩ : ∃ W : World, W = ((w5.setCell ⟨w.heap.size, 0, none⟩ (.int .i64 0)).setCell ⟨w.heap.size, 1, none⟩ (.int .i64 ((8 * (levV now due)) + (z % 8)))) := ⟨_, rfl⟩
      have ho : Only w.heap.size (w.heap.size + 1) w5 U6 := by rw [hU6]; exact (((Only.refl _ _ _).set (p := ⟨w.heap.size, 0, none⟩) (Nat.le_refl _) (Nat.lt_succ_self _) _).set (p := ⟨w.heap.size, 1, none⟩) (Nat.le_refl _) (Nat.lt_succ_self _) _)
      replace HX1 : Kept w.heap.size (w.heap.size + 1) (BoxK w.heap.size 52 #[.int .i64 0, .int .i64 ((8 * (levV now due)) + (z % 8))]) U6 := by rw [hU6]; exact Kept.box ((HX1.bx.puts 0 (.int .i64 0) (cs' := #[.int .i64 0, .int .i64 0]) rfl).puts 1 (.int .i64 ((8 * (levV now due)) + (z % 8))) (cs' := #[.int .i64 0, .int .i64 ((8 * (levV now due)) + (z % 8))]) rfl)
      replace HX2 := HX2.only ho (by have := Z1.out; have := Z2.out; have := Z3.out; omega)
      replace HX3 := HX3.only ho (by have := Z1.out; have := Z2.out; have := Z3.out; omega)
      replace HB := Lib.hid (Below.only HB.out ho (by have := Z1.out; have := Z2.out; have := Z3.out; omega) HB.out.size)
      have Z4 : Hid (U6.heap.size = w5.heap.size) := Lib.hid (by rw [hU6]; simp [World.setCell]); clear ho
      have q_0 := HX1.look 0
      have q_1 := HX1.look 1
      subst hU6
      have hp := HZ.out; rw [hp] at HR; exact bodyPost_ret (v := .agg #[.int .i64 0, .int .i64 (8 * levV now due + z % 8)]) (by simp [results, Try.results29, go_sem, q_0, q_1]) rfl ⟨by rw [HR.out.1, HR.out.2], HB.out⟩
    · have HB := Lib.hid (Below.refl w.heap.size w)
      have HA := Lib.hid (allIn_one_yes h.1 h.2)
      have HD := Lib.hid (allIn_one_no h')
      have HR : Hid (poC now due = 3 ∧ poV now due = 0) := Lib.hid (by constructor <;> (first | exact if_neg (fun (hh : poOk now due) => by unfold poOk at hh; omega) | skip))
      obtain ⟨a1, a2⟩ := h
      clear h'
      go_enter Try.func29, Try.ntmps29
      go_wp2_with fail
      refine Calls.name ?_
      intro U1 hU1
      have hb : Below w.heap.size w U1 := by rw [hU1]; exact (((Below.refl _ _).alloc (Nat.le_refl _) _).alloc (by simp <;> omega) _)
      have zz : Hid (w.heap.size + 2 = U1.heap.size) := Lib.hid (by rw [hU1]; simp)
      have HX1 : Kept w.heap.size (w.heap.size + 1) (BoxK w.heap.size 52 #[.int .i64 0, .int .i64 0]) U1 := by rw [hU1]; exact Kept.box ((Box.made_at _ _ _ rfl).over _)
      have HX2 : Kept (w.heap.size + 1) (w.heap.size + 1 + 1) (BoxK (w.heap.size + 1) 2 #[.int .i64 now]) U1 := by rw [hU1]; exact Kept.box (Box.made_at _ _ _ (by simp <;> omega))
      replace HB := Lib.hid (below_step HB.out hb)
      clear hb
      have Z1 := zz; clear zz
      clear hU1
      have HL := Lib.hid (HX2.look 0)
      refine (allWithin_one _ _ _ now _ HL.out).mono ?_
      rw [HA.out]
      rintro e w2 ⟨rfl, rfl⟩
      clear HL
      have l2_0 := HX1.bx.lt
      have l2_1 := HX2.bx.lt
      go_wp2_with fail
      clear l2_0 l2_1
      refine Calls.name ?_
      intro U3 hU3
      have hb : Below w2.heap.size w2 U3 := by rw [hU3]; exact ((Below.refl _ _).alloc (Nat.le_refl _) _)
      have zz : Hid (w2.heap.size + 1 = U3.heap.size) := Lib.hid (by rw [hU3]; simp)
      have HX3 : Kept w2.heap.size (w2.heap.size + 1) (BoxK w2.heap.size 2 #[.int .i64 due]) U3 := by rw [hU3]; exact Kept.box (Box.made_at _ _ _ rfl)
      replace HX1 := HX1.below hb
      replace HX2 := HX2.below hb
      replace HB := Lib.hid (below_step HB.out hb)
      clear hb
      have Z2 := zz; clear zz
      clear hU3
      have HL := Lib.hid (HX3.look 0)
      refine (allWithin_one _ _ _ due _ HL.out).mono ?_
      rw [HD.out]
      rintro e w4 ⟨rfl, rfl⟩
      clear HL
      have c3_0 := HX1.look 0
      have c3_1 := HX1.look 1
      have f3_0 := HX1.free 0
      have f3_1 := HX1.free 1
      have l3_0 := HX1.bx.lt
      have l3_1 := HX2.bx.lt
      have l3_2 := HX3.bx.lt
      go_wp2
      clear c3_0 c3_1 f3_0 f3_1 l3_0 l3_1 l3_2
      obtain ⟨U5, hU5⟩ : ∃ W : World, W = ((w4.setCell ⟨w.heap.size, 0, none⟩ (.int .i64 3)).setCell ⟨w.heap.size, 1, none⟩ (.int .i64 0)) := ⟨_, rfl⟩
      have ho : Only w.heap.size (w.heap.size + 1) w4 U5 := by rw [hU5]; exact (((Only.refl _ _ _).set (p := ⟨w.heap.size, 0, none⟩) (Nat.le_refl _) (Nat.lt_succ_self _) _).set (p := ⟨w.heap.size, 1, none⟩) (Nat.le_refl _) (Nat.lt_succ_self _) _)
      replace HX1 : Kept w.heap.size (w.heap.size + 1) (BoxK w.heap.size 52 #[.int .i64 3, .int .i64 0]) U5 := by rw [hU5]; exact Kept.box ((HX1.bx.puts 0 (.int .i64 3) (cs' := #[.int .i64 3, .int .i64 0]) rfl).puts 1 (.int .i64 0) (cs' := #[.int .i64 3, .int .i64 0]) rfl)
      replace HX2 := HX2.only ho (by have := Z1.out; have := Z2.out; omega)
      replace HX3 := HX3.only ho (by have := Z1.out; have := Z2.out; omega)
      replace HB := Lib.hid (Below.only HB.out ho (by have := Z1.out; have := Z2.out; omega) HB.out.size)
      have Z3 : Hid (U5.heap.size = w4.heap.size) := Lib.hid (by rw [hU5]; simp [World.setCell]); clear ho
      have q_0 := HX1.look 0
      have q_1 := HX1.look 1
      subst hU5
      exact bodyPost_ret (v := .agg #[.int .i64 3, .int .i64 0]) (by simp [results, Try.results29, go_sem, q_0, q_1]) rfl ⟨by rw [HR.out.1, HR.out.2], HB.out⟩
  · have HB := Lib.hid (Below.refl w.heap.size w)
    have HA := Lib.hid (allIn_one_no h)
    have HR : Hid (poC now due = 3 ∧ poV now due = 0) := Lib.hid (by constructor <;> (first | exact if_neg (fun (hh : poOk now due) => by unfold poOk at hh; omega) | skip))
    clear h
    go_enter Try.func29, Try.ntmps29
    go_wp2_with fail
    refine Calls.name ?_
    intro U1 hU1
    have hb : Below w.heap.size w U1 := by rw [hU1]; exact (((Below.refl _ _).alloc (Nat.le_refl _) _).alloc (by simp <;> omega) _)
    have zz : Hid (w.heap.size + 2 = U1.heap.size) := Lib.hid (by rw [hU1]; simp)
    have HX1 : Kept w.heap.size (w.heap.size + 1) (BoxK w.heap.size 52 #[.int .i64 0, .int .i64 0]) U1 := by rw [hU1]; exact Kept.box ((Box.made_at _ _ _ rfl).over _)
    have HX2 : Kept (w.heap.size + 1) (w.heap.size + 1 + 1) (BoxK (w.heap.size + 1) 2 #[.int .i64 now]) U1 := by rw [hU1]; exact Kept.box (Box.made_at _ _ _ (by simp <;> omega))
    replace HB := Lib.hid (below_step HB.out hb)
    clear hb
    have Z1 := zz; clear zz
    clear hU1
    have HL := Lib.hid (HX2.look 0)
    refine (allWithin_one _ _ _ now _ HL.out).mono ?_
    rw [HA.out]
    rintro e w2 ⟨rfl, rfl⟩
    clear HL
    have c2_0 := HX1.look 0
    have c2_1 := HX1.look 1
    have f2_0 := HX1.free 0
    have f2_1 := HX1.free 1
    have l2_0 := HX1.bx.lt
    have l2_1 := HX2.bx.lt
    go_wp2
    clear c2_0 c2_1 f2_0 f2_1 l2_0 l2_1
    obtain ⟨U3, hU3⟩ : ∃ W : World, W = ((w2.setCell ⟨w.heap.size, 0, none⟩ (.int .i64 3)).setCell ⟨w.heap.size, 1, none⟩ (.int .i64 0)) := ⟨_, rfl⟩
    have ho : Only w.heap.size (w.heap.size + 1) w2 U3 := by rw [hU3]; exact (((Only.refl _ _ _).set (p := ⟨w.heap.size, 0, none⟩) (Nat.le_refl _) (Nat.lt_succ_self _) _).set (p := ⟨w.heap.size, 1, none⟩) (Nat.le_refl _) (Nat.lt_succ_self _) _)
    replace HX1 : Kept w.heap.size (w.heap.size + 1) (BoxK w.heap.size 52 #[.int .i64 3, .int .i64 0]) U3 := by rw [hU3]; exact Kept.box ((HX1.bx.puts 0 (.int .i64 3) (cs' := #[.int .i64 3, .int .i64 0]) rfl).puts 1 (.int .i64 0) (cs' := #[.int .i64 3, .int .i64 0]) rfl)
    replace HX2 := HX2.only ho (by have := Z1.out; omega)
    replace HB := Lib.hid (Below.only HB.out ho (by have := Z1.out; omega) HB.out.size)
    have Z2 : Hid (U3.heap.size = w2.heap.size) := Lib.hid (by rw [hU3]; simp [World.setCell]); clear ho
    have q_0 := HX1.look 0
    have q_1 := HX1.look 1
    subst hU3
    exact bodyPost_ret (v := .agg #[.int .i64 3, .int .i64 0]) (by simp [results, Try.results29, go_sem, q_0, q_1]) rfl ⟨by rw [HR.out.1, HR.out.2], HB.out⟩

end Go.Proofs.Ytooogjfnnmacjaa
