/-
  What is answered with a wheel, in new memory; the model's new wheel. No statement is proved here.
-/
import Derived.Test.YtakplomopbnekaaDialWheel
import Derived.Test.YtakplomopbnekaaPlace
namespace Go.Proofs.Ytakplomopbnekaa
open Go.RowKit Go.Shelf
set_option linter.unusedVariables false

/-- An answer that is a code, a wheel and a list, in new memory, all apart. -/
def WOut (w : World) (code now : Int) (ys : List (List Tmr)) (zs : List Tmr) (e : Ending) (w' : World) : Prop :=
  ∃ A n c E m d, e = .returned (.agg #[.int .i64 code, .int .i64 now, .slice A n c, .slice E m d]) ∧ Kept w.heap.size w'.heap.size (ResK Rep.timer w.heap.size w'.heap.size A n ys E m zs) w' ∧ Below w.heap.size w w'

theorem WOut.zero {w w' : World} {code : Int} (hb : Below w.heap.size w w') : WOut w code 0 [] [] (.returned (.agg #[.int .i64 code, .int .i64 0, .slice none 0 0, .slice none 0 0])) w' :=
  ⟨none, 0, 0, none, 0, 0, rfl, ResK.kept ⟨[], [], ⟨rfl, .inl ⟨rfl, rfl⟩⟩, .inl ⟨rfl, rfl, rfl⟩, List.nodup_nil, fun b hb => by cases hb⟩ (Nat.le_refl _), hb⟩
/-- Rows of the call's own, and no list beside them. -/
theorem RowsO.resK {w : World} {B : Nat} {vs : List SlV} {ys : List (List Tmr)} (h : RowsO w B vs ys) {A : Option Addr} {n c : Nat} (ho : OwnF 29 1 scell w B A n c vs) : ResK Rep.timer B w.heap.size A n ys none 0 [] w := by
  obtain ⟨bs, h1, h2, h3⟩ := h.frows ho
  exact ⟨bs, [], h1, .inl ⟨rfl, rfl, rfl⟩, by simpa using h2, fun b hb => by have := h3 b (by simpa using hb); exact ⟨this.1, this.2.1⟩⟩
/-- Rows of the call's own, and a list of its own beside them. -/
theorem RowsO.resK2 {w : World} {B : Nat} {vs : List SlV} {ys : List (List Tmr)} (h : RowsO w B vs ys) {A : Option Addr} {n c : Nat} (ho : OwnF 29 1 scell w B A n c vs) {E : Option Addr} {m d : Nat} {zs : List Tmr} (he : OwnF 36 4 tcell w B E m d zs) (hd : ∀ v ∈ vs, ∀ r, v.blk = some r → E.map (·.block) ≠ some r) : ResK Rep.timer B w.heap.size A n ys E m zs w := by
  obtain ⟨bs, h1, h2, h3⟩ := h.frows ho
  obtain ⟨cs, g1, g2, g3⟩ := timers_of_own he
  refine ⟨bs, cs, h1, g1, List.nodup_append.2 ⟨h2, g2, fun x hx y hy e => ?_⟩, fun b hb => ?_⟩
  · subst e
    rcases (h3 x hx).2.2 with h | ⟨v, hv, h⟩
    · obtain ⟨c1, e1⟩ := ho.typ h
      obtain ⟨c2, e2⟩ := he.typ (g3 x hy)
      rw [e1] at e2
      simp at e2
    · exact hd v hv x h (g3 x hy)
  · rcases List.mem_append.1 hb with h | h
    · have := h3 b h; exact ⟨this.1, this.2.1⟩
    · exact he.block b (g3 b h)

/-- The model's new wheel: 24 rows with nothing in them. -/
theorem rowsNew {w : World} {B : Nat} : RowsO w B (List.replicate 24 ((none, 0, 0) : SlV)) (List.replicate 24 []) := by
  refine ⟨by simp, fun i v y hv hy => ?_, fun i j u v _ hu _ r hr => ?_⟩
  · have h1 := List.mem_replicate.1 (List.mem_of_getElem? hv)
    have h2 := List.mem_replicate.1 (List.mem_of_getElem? hy)
    obtain ⟨_, rfl⟩ := h1
    obtain ⟨_, rfl⟩ := h2
    exact OwnF.nil_ _ _ _ _ _
  · have h1 := List.mem_replicate.1 (List.mem_of_getElem? hu)
    obtain ⟨_, rfl⟩ := h1
    cases hr

theorem l4New_any (now : Int) (w : World) :
    Calls Try.prog 99 #[.int .i64 now] w fun e w' => ∃ A c, e = .returned (.agg #[.int .i64 now, .slice A 24 c]) ∧ OwnF 29 1 scell w' w.heap.size A 24 c (List.replicate 24 ((none, 0, 0) : SlV)) ∧ Below w.heap.size w w' := by
  obtain ⟨i0, hi0, hz0, hz1, hz2⟩ := info_parts rowsInfo
  have hX : Box (w.alloc (.cells #[.int .i64 0, .slice none 0 0] 26)) w.heap.size 26 #[.int .i64 0, .slice none 0 0] := Box.made _ _ _
  go_enter Try.func99, Try.ntmps99
  go_wp2_with (at_make; refine wpList_make_full _ rfl _ _ 24 rfl w.heap.size 29 i0 _ 1 Try.underlying24 hi0 hz0 hz1 .i64 .i64 _ _ 24 rfl rfl rfl rfl (by rw [hz2]; omega) (by unfold maxLen; omega) (by simp) ?_; intro w1 hown1 hg1; have hX1 := hX.grown hg1 (by simp); have q0 := hX1.look 0; have q1 := hX1.look 1; have f0 := hX1.free 0; have f1 := hX1.free 1)
  have ho : OwnF 29 1 scell w1 w.heap.size (some ⟨w.heap.size + 1, 0, none⟩) 24 24 (List.replicate 24 ((none, 0, 0) : SlV)) := ⟨rfl, by
    rw [show (List.replicate 24 ((none, 0, 0) : SlV)).flatMap scell = (madeCells (Value.slice none 0 0).cells (24 * 1)).toList by kernel_rfl]
    simpa using hown1⟩
  have hX2 := (hX1.puts 0 (.int .i64 now) (cs' := #[.int .i64 now, .slice none 0 0]) rfl).puts 1 (.slice (some ⟨w.heap.size + 1, 0, none⟩) 24 24) (cs' := #[.int .i64 now, .slice (some ⟨w.heap.size + 1, 0, none⟩) 24 24]) rfl
  have z0 := hX2.look 0
  have z1 := hX2.look 1
  refine bodyPost_ret (v := .agg #[.int .i64 now, .slice (some ⟨w.heap.size + 1, 0, none⟩) 24 24]) (by simp [results, Try.results99, go_sem, z0, z1]) rfl ⟨_, _, rfl, ?_, ?_⟩
  · exact (ho.grown (setCell_grown _ _ _) (.inr (by simp))).grown (setCell_grown _ _ _) (.inr (by simp))
  · exact ((((Below.refl _ _).alloc (Nat.le_refl _) _).grown hg1 (by simp) (by simp)).setCell (by simp) _).setCell (by simp) _

/-- What NewWheel tells. -/
def nwOk (now : Int) : Prop := 0 ≤ now ∧ now ≤ 1000000
instance (now : Int) : Decidable (nwOk now) := by unfold nwOk; infer_instance
def nwC (now : Int) : Int := if nwOk now then 0 else 3
def nwN (now : Int) : Int := if nwOk now then now else 0
def nwR (now : Int) : List (List Tmr) := if nwOk now then List.replicate 24 [] else []

theorem tot_nil (n : Nat) : tot (List.replicate n ([] : List Tmr)) = 0 := by
  induction n with
  | zero => rfl
  | succ n ih => simp [tot, List.replicate_succ]
theorem nwR_bd (now : Int) : (nwR now).length ≤ 1048576 ∧ (∀ y ∈ nwR now, y.length ≤ 1048576) ∧ tot (nwR now) ≤ 1048576 := by
  unfold nwR
  split
  · exact ⟨by simp, fun y hy => by rw [(List.mem_replicate.1 hy).2]; simp, by rw [tot_nil]; omega⟩
  · exact ⟨by simp, ⟨fun y hy => (by cases hy), by simp [tot]⟩⟩
theorem Rep.Sl.unq {lo hi : Nat} {w : World} {A : Option Addr} {n : Nat} {ys : List Tmr} (h : Rep.timer.Sl true lo hi w A n ys) : Rep.timer.Sl false lo hi w A n ys :=
  ⟨h.1, fun hn => by
    obtain ⟨b, o, e, l, u, _, hr⟩ := h.2 hn
    exact ⟨b, o, e, l, u, fun hf => (by cases hf), fun i a ha => by obtain ⟨cs, h1, h2⟩ := hr i a ha; exact ⟨cs, h1, h2⟩⟩⟩

set_option maxHeartbeats 800000 in
theorem specNewWheel_any (now : Int) (w : World) :
    Calls Try.prog 38 #[.int .i64 now] w (WOut w (nwC now) (nwN now) (nwR now) []) := by
  by_cases h : 0 ≤ now ∧ now ≤ 1000000
  · have HB := Lib.hid (Below.refl w.heap.size w)
    have HA := Lib.hid (allIn_one_yes h.1 h.2)
    have HR : Hid (nwC now = 0 ∧ nwN now = now ∧ nwR now = List.replicate 24 []) := Lib.hid ⟨if_pos h, if_pos h, if_pos h⟩
    clear h
    go_enter Try.func38, Try.ntmps38
    go_wp2_with fail
    refine Calls.name ?_
    intro U1 hU1
    have hb : Below w.heap.size w U1 := by rw [hU1]; exact ((Below.refl _ _).alloc (Nat.le_refl _) _)
    have zz : Hid (w.heap.size + 1 = U1.heap.size) := Lib.hid (by rw [hU1]; simp)
    have HX1 : Kept w.heap.size (w.heap.size + 1) (BoxK w.heap.size 31 #[.int .i64 0, .int .i64 0, .slice none 0 0, .slice none 0 0]) U1 := by rw [hU1]; exact Kept.box (Box.made_at _ _ _ rfl)
    replace HB := Lib.hid (below_step HB.out hb)
    clear hb
    have Z1 := zz; clear zz
    clear hU1
    refine (l4Time_any _ _).mono ?_
    rw [HA.out]
    rintro e w2 ⟨rfl, rfl⟩
    have l2_0 := HX1.bx.lt
    go_wp2_with fail
    clear l2_0
    refine (l4New_any now _).mono ?_
    rintro e w3 ⟨A, c, rfl, ho, hb⟩
    have Z2 := Lib.hid hb.size
    replace HX1 := HX1.below hb
    replace HB := Lib.hid (below_step HB.out hb)
    clear hb
    have hro := @rowsNew w3 w2.heap.size
    have HK := RowsO.resK hro ho
    have HRS := ResK.kept HK (Nat.le_refl _); clear HK hro ho
    have c3_0 := HX1.look 0
    have c3_1 := HX1.look 1
    have c3_2 := HX1.look 2
    have c3_3 := HX1.look 3
    have f3_0 := HX1.free 0
    have f3_1 := HX1.free 1
    have f3_2 := HX1.free 2
    have f3_3 := HX1.free 3
    have l3_0 := HX1.bx.lt
    go_wp2
    clear c3_0 c3_1 c3_2 c3_3 f3_0 f3_1 f3_2 f3_3 l3_0
    obtain ⟨U4, hU4⟩ : ∃ W : World, W = ((((w3.setCell ⟨w.heap.size, 0, none⟩ (.int .i64 0)).setCell ⟨w.heap.size, 1, none⟩ (.int .i64 now)).setCell ⟨w.heap.size, 2, none⟩ (.slice A 24 c)).setCell ⟨w.heap.size, 3, none⟩ (.slice none 0 0)) := ⟨_, rfl⟩
    have ho : Only w.heap.size (w.heap.size + 1) w3 U4 := by rw [hU4]; exact (((((Only.refl _ _ _).set (p := ⟨w.heap.size, 0, none⟩) (Nat.le_refl _) (Nat.lt_succ_self _) _).set (p := ⟨w.heap.size, 1, none⟩) (Nat.le_refl _) (Nat.lt_succ_self _) _).set (p := ⟨w.heap.size, 2, none⟩) (Nat.le_refl _) (Nat.lt_succ_self _) _).set (p := ⟨w.heap.size, 3, none⟩) (Nat.le_refl _) (Nat.lt_succ_self _) _)
    replace HX1 : Kept w.heap.size (w.heap.size + 1) (BoxK w.heap.size 31 #[.int .i64 0, .int .i64 now, .slice A 24 c, .slice none 0 0]) U4 := by rw [hU4]; exact Kept.box ((((HX1.bx.puts 0 (.int .i64 0) (cs' := #[.int .i64 0, .int .i64 0, .slice none 0 0, .slice none 0 0]) rfl).puts 1 (.int .i64 now) (cs' := #[.int .i64 0, .int .i64 now, .slice none 0 0, .slice none 0 0]) rfl).puts 2 (.slice A 24 c) (cs' := #[.int .i64 0, .int .i64 now, .slice A 24 c, .slice none 0 0]) rfl).puts 3 (.slice none 0 0) (cs' := #[.int .i64 0, .int .i64 now, .slice A 24 c, .slice none 0 0]) rfl)
    replace HRS := HRS.only ho (by have := Z1.out; have := Z2.out; omega)
    replace HB := Lib.hid (Below.only HB.out ho (by have := Z1.out; have := Z2.out; omega) HB.out.size)
    have Z3 : Hid (U4.heap.size = w3.heap.size) := Lib.hid (by rw [hU4]; simp [World.setCell]); clear ho
    have q_0 := HX1.look 0
    have q_1 := HX1.look 1
    have q_2 := HX1.look 2
    have q_3 := HX1.look 3
    subst hU4
    exact bodyPost_ret (v := .agg #[.int .i64 0, .int .i64 now, .slice A 24 c, .slice none 0 0]) (by simp [results, Try.results38, go_sem, q_0, q_1, q_2, q_3]) rfl ⟨A, 24, c, none, 0, 0, by rw [HR.out.1, HR.out.2.1], by rw [HR.out.2.2]; exact ResK.kept (by obtain ⟨bs, cs, h1, h2, h3, h4⟩ := HRS.out; exact ⟨bs, cs, h1, h2, h3, fun b hb => by have := h4 b hb; have := HRS.le; have := HB.out.size; have := Z1.out; have := Z2.out; omega⟩) (Nat.le_refl _), HB.out⟩
  · have HB := Lib.hid (Below.refl w.heap.size w)
    have HA := Lib.hid (allIn_one_no h)
    have HR : Hid (nwC now = 3 ∧ nwN now = 0 ∧ nwR now = []) := Lib.hid ⟨if_neg h, if_neg h, if_neg h⟩
    clear h
    go_enter Try.func38, Try.ntmps38
    go_wp2_with fail
    refine Calls.name ?_
    intro U1 hU1
    have hb : Below w.heap.size w U1 := by rw [hU1]; exact ((Below.refl _ _).alloc (Nat.le_refl _) _)
    have zz : Hid (w.heap.size + 1 = U1.heap.size) := Lib.hid (by rw [hU1]; simp)
    have HX1 : Kept w.heap.size (w.heap.size + 1) (BoxK w.heap.size 31 #[.int .i64 0, .int .i64 0, .slice none 0 0, .slice none 0 0]) U1 := by rw [hU1]; exact Kept.box (Box.made_at _ _ _ rfl)
    replace HB := Lib.hid (below_step HB.out hb)
    clear hb
    have Z1 := zz; clear zz
    clear hU1
    refine (l4Time_any _ _).mono ?_
    rw [HA.out]
    rintro e w2 ⟨rfl, rfl⟩
    have c2_0 := HX1.look 0
    have c2_1 := HX1.look 1
    have c2_2 := HX1.look 2
    have c2_3 := HX1.look 3
    have f2_0 := HX1.free 0
    have f2_1 := HX1.free 1
    have f2_2 := HX1.free 2
    have f2_3 := HX1.free 3
    have l2_0 := HX1.bx.lt
    go_wp2
    clear c2_0 c2_1 c2_2 c2_3 f2_0 f2_1 f2_2 f2_3 l2_0
    obtain ⟨U3, hU3⟩ : ∃ W : World, W = ((((w2.setCell ⟨w.heap.size, 0, none⟩ (.int .i64 3)).setCell ⟨w.heap.size, 1, none⟩ (.int .i64 0)).setCell ⟨w.heap.size, 2, none⟩ (.slice none 0 0)).setCell ⟨w.heap.size, 3, none⟩ (.slice none 0 0)) := ⟨_, rfl⟩
    have ho : Only w.heap.size (w.heap.size + 1) w2 U3 := by rw [hU3]; exact (((((Only.refl _ _ _).set (p := ⟨w.heap.size, 0, none⟩) (Nat.le_refl _) (Nat.lt_succ_self _) _).set (p := ⟨w.heap.size, 1, none⟩) (Nat.le_refl _) (Nat.lt_succ_self _) _).set (p := ⟨w.heap.size, 2, none⟩) (Nat.le_refl _) (Nat.lt_succ_self _) _).set (p := ⟨w.heap.size, 3, none⟩) (Nat.le_refl _) (Nat.lt_succ_self _) _)
    replace HX1 : Kept w.heap.size (w.heap.size + 1) (BoxK w.heap.size 31 #[.int .i64 3, .int .i64 0, .slice none 0 0, .slice none 0 0]) U3 := by rw [hU3]; exact Kept.box ((((HX1.bx.puts 0 (.int .i64 3) (cs' := #[.int .i64 3, .int .i64 0, .slice none 0 0, .slice none 0 0]) rfl).puts 1 (.int .i64 0) (cs' := #[.int .i64 3, .int .i64 0, .slice none 0 0, .slice none 0 0]) rfl).puts 2 (.slice none 0 0) (cs' := #[.int .i64 3, .int .i64 0, .slice none 0 0, .slice none 0 0]) rfl).puts 3 (.slice none 0 0) (cs' := #[.int .i64 3, .int .i64 0, .slice none 0 0, .slice none 0 0]) rfl)
    replace HB := Lib.hid (Below.only HB.out ho (by have := Z1.out; omega) HB.out.size)
    have Z2 : Hid (U3.heap.size = w2.heap.size) := Lib.hid (by rw [hU3]; simp [World.setCell]); clear ho
    have q_0 := HX1.look 0
    have q_1 := HX1.look 1
    have q_2 := HX1.look 2
    have q_3 := HX1.look 3
    subst hU3
    exact bodyPost_ret (v := .agg #[.int .i64 3, .int .i64 0, .slice none 0 0, .slice none 0 0]) (by simp [results, Try.results38, go_sem, q_0, q_1, q_2, q_3]) rfl (by rw [HR.out.1, HR.out.2.1, HR.out.2.2]; exact WOut.zero HB.out)

set_option maxHeartbeats 800000 in
theorem newWheel_any (now : Int) (w : World) :
    Calls Try.prog 33 #[.int .i64 now] w (WOut w (nwC now) (nwN now) (nwR now) []) := by
  by_cases h : 0 ≤ now ∧ now ≤ 1000000
  · have HB := Lib.hid (Below.refl w.heap.size w)
    have HA := Lib.hid (allIn_one_yes h.1 h.2)
    have HR : Hid (nwC now = 0 ∧ nwN now = now ∧ nwR now = List.replicate 24 []) := Lib.hid ⟨if_pos h, if_pos h, if_pos h⟩
    clear h
    go_enter Try.func33, Try.ntmps33
    go_wp2_with fail
    refine Calls.name ?_
    intro U1 hU1
    have hb : Below w.heap.size w U1 := by rw [hU1]; exact (((Below.refl _ _).alloc (Nat.le_refl _) _).alloc (by simp <;> omega) _)
    have zz : Hid (w.heap.size + 2 = U1.heap.size) := Lib.hid (by rw [hU1]; simp)
    have HX1 : Kept w.heap.size (w.heap.size + 1) (BoxK w.heap.size 31 #[.int .i64 0, .int .i64 0, .slice none 0 0, .slice none 0 0]) U1 := by rw [hU1]; exact Kept.box ((Box.made_at _ _ _ rfl).over _)
    have HX2 : Kept (w.heap.size + 1) (w.heap.size + 1 + 1) (BoxK (w.heap.size + 1) 2 #[.int .i64 now]) U1 := by rw [hU1]; exact Kept.box (Box.made_at _ _ _ (by simp <;> omega))
    replace HB := Lib.hid (below_step HB.out hb)
    clear hb
    have Z1 := zz; clear zz
    clear hU1
    have HL := Lib.hid (HX2.look 0)
    refine (allWithin_one _ _ _ now _ HL.out).mono ?_
    rw [HA.out]
    rintro e w2 ⟨rfl, rfl⟩
    clear HL
    have l2_0 := HX1.bx.lt
    have l2_1 := HX2.bx.lt
    go_wp2_with fail
    clear l2_0 l2_1
    refine (wheel_any now (fun _ => .slice none 0 0) (fun _ => []) 0 0 _ (fun k hk => ⟨none, 0, rfl, Rep.Sl_nil _ _ _ _ _ _⟩) (by omega) (fun k hk => by simp)).mono ?_
    rintro e w3 ⟨A, c, vs, rfl, ho, hro, hb⟩
    have Z2 := Lib.hid hb.size
    replace HX1 := HX1.below hb
    replace HX2 := HX2.below hb
    replace HB := Lib.hid (below_step HB.out hb)
    clear hb
    rw [show ((upto 24).map fun x => ([] : List Tmr)) = List.replicate 24 [] by rfl] at hro
    have HK := RowsO.resK hro ho
    have HRS := ResK.kept HK (Nat.le_refl _); clear HK hro ho
    have c3_0 := HX1.look 0
    have c3_1 := HX1.look 1
    have c3_2 := HX1.look 2
    have c3_3 := HX1.look 3
    have f3_0 := HX1.free 0
    have f3_1 := HX1.free 1
    have f3_2 := HX1.free 2
    have f3_3 := HX1.free 3
    have l3_0 := HX1.bx.lt
    have l3_1 := HX2.bx.lt
    go_wp2
    clear c3_0 c3_1 c3_2 c3_3 f3_0 f3_1 f3_2 f3_3 l3_0 l3_1
    obtain ⟨U4, hU4⟩ : ∃ W : World, W = ((((w3.setCell ⟨w.heap.size, 0, none⟩ (.int .i64 0)).setCell ⟨w.heap.size, 1, none⟩ (.int .i64 now)).setCell ⟨w.heap.size, 2, none⟩ (.slice A 24 c)).setCell ⟨w.heap.size, 3, none⟩ (.slice none 0 0)) := ⟨_, rfl⟩
    have ho : Only w.heap.size (w.heap.size + 1) w3 U4 := by rw [hU4]; exact (((((Only.refl _ _ _).set (p := ⟨w.heap.size, 0, none⟩) (Nat.le_refl _) (Nat.lt_succ_self _) _).set (p := ⟨w.heap.size, 1, none⟩) (Nat.le_refl _) (Nat.lt_succ_self _) _).set (p := ⟨w.heap.size, 2, none⟩) (Nat.le_refl _) (Nat.lt_succ_self _) _).set (p := ⟨w.heap.size, 3, none⟩) (Nat.le_refl _) (Nat.lt_succ_self _) _)
    replace HX1 : Kept w.heap.size (w.heap.size + 1) (BoxK w.heap.size 31 #[.int .i64 0, .int .i64 now, .slice A 24 c, .slice none 0 0]) U4 := by rw [hU4]; exact Kept.box ((((HX1.bx.puts 0 (.int .i64 0) (cs' := #[.int .i64 0, .int .i64 0, .slice none 0 0, .slice none 0 0]) rfl).puts 1 (.int .i64 now) (cs' := #[.int .i64 0, .int .i64 now, .slice none 0 0, .slice none 0 0]) rfl).puts 2 (.slice A 24 c) (cs' := #[.int .i64 0, .int .i64 now, .slice A 24 c, .slice none 0 0]) rfl).puts 3 (.slice none 0 0) (cs' := #[.int .i64 0, .int .i64 now, .slice A 24 c, .slice none 0 0]) rfl)
    replace HX2 := HX2.only ho (by have := Z1.out; have := Z2.out; omega)
    replace HRS := HRS.only ho (by have := Z1.out; have := Z2.out; omega)
    replace HB := Lib.hid (Below.only HB.out ho (by have := Z1.out; have := Z2.out; omega) HB.out.size)
    have Z3 : Hid (U4.heap.size = w3.heap.size) := Lib.hid (by rw [hU4]; simp [World.setCell]); clear ho
    have q_0 := HX1.look 0
    have q_1 := HX1.look 1
    have q_2 := HX1.look 2
    have q_3 := HX1.look 3
    subst hU4
    exact bodyPost_ret (v := .agg #[.int .i64 0, .int .i64 now, .slice A 24 c, .slice none 0 0]) (by simp [results, Try.results33, go_sem, q_0, q_1, q_2, q_3]) rfl ⟨A, 24, c, none, 0, 0, by rw [HR.out.1, HR.out.2.1], by rw [HR.out.2.2]; exact ResK.kept (by obtain ⟨bs, cs, h1, h2, h3, h4⟩ := HRS.out; exact ⟨bs, cs, h1, h2, h3, fun b hb => by have := h4 b hb; have := HRS.le; have := HB.out.size; have := Z1.out; have := Z2.out; omega⟩) (Nat.le_refl _), HB.out⟩
  · have HB := Lib.hid (Below.refl w.heap.size w)
    have HA := Lib.hid (allIn_one_no h)
    have HR : Hid (nwC now = 3 ∧ nwN now = 0 ∧ nwR now = []) := Lib.hid ⟨if_neg h, if_neg h, if_neg h⟩
    clear h
    go_enter Try.func33, Try.ntmps33
    go_wp2_with fail
    refine Calls.name ?_
    intro U1 hU1
    have hb : Below w.heap.size w U1 := by rw [hU1]; exact (((Below.refl _ _).alloc (Nat.le_refl _) _).alloc (by simp <;> omega) _)
    have zz : Hid (w.heap.size + 2 = U1.heap.size) := Lib.hid (by rw [hU1]; simp)
    have HX1 : Kept w.heap.size (w.heap.size + 1) (BoxK w.heap.size 31 #[.int .i64 0, .int .i64 0, .slice none 0 0, .slice none 0 0]) U1 := by rw [hU1]; exact Kept.box ((Box.made_at _ _ _ rfl).over _)
    have HX2 : Kept (w.heap.size + 1) (w.heap.size + 1 + 1) (BoxK (w.heap.size + 1) 2 #[.int .i64 now]) U1 := by rw [hU1]; exact Kept.box (Box.made_at _ _ _ (by simp <;> omega))
    replace HB := Lib.hid (below_step HB.out hb)
    clear hb
    have Z1 := zz; clear zz
    clear hU1
    have HL := Lib.hid (HX2.look 0)
    refine (allWithin_one _ _ _ now _ HL.out).mono ?_
    rw [HA.out]
    rintro e w2 ⟨rfl, rfl⟩
    clear HL
    have c2_0 := HX1.look 0
    have c2_1 := HX1.look 1
    have c2_2 := HX1.look 2
    have c2_3 := HX1.look 3
    have f2_0 := HX1.free 0
    have f2_1 := HX1.free 1
    have f2_2 := HX1.free 2
    have f2_3 := HX1.free 3
    have l2_0 := HX1.bx.lt
    have l2_1 := HX2.bx.lt
    go_wp2
    clear c2_0 c2_1 c2_2 c2_3 f2_0 f2_1 f2_2 f2_3 l2_0 l2_1
    obtain ⟨U3, hU3⟩ : ∃ W : World, W = ((((w2.setCell ⟨w.heap.size, 0, none⟩ (.int .i64 3)).setCell ⟨w.heap.size, 1, none⟩ (.int .i64 0)).setCell ⟨w.heap.size, 2, none⟩ (.slice none 0 0)).setCell ⟨w.heap.size, 3, none⟩ (.slice none 0 0)) := ⟨_, rfl⟩
    have ho : Only w.heap.size (w.heap.size + 1) w2 U3 := by rw [hU3]; exact (((((Only.refl _ _ _).set (p := ⟨w.heap.size, 0, none⟩) (Nat.le_refl _) (Nat.lt_succ_self _) _).set (p := ⟨w.heap.size, 1, none⟩) (Nat.le_refl _) (Nat.lt_succ_self _) _).set (p := ⟨w.heap.size, 2, none⟩) (Nat.le_refl _) (Nat.lt_succ_self _) _).set (p := ⟨w.heap.size, 3, none⟩) (Nat.le_refl _) (Nat.lt_succ_self _) _)
    replace HX1 : Kept w.heap.size (w.heap.size + 1) (BoxK w.heap.size 31 #[.int .i64 3, .int .i64 0, .slice none 0 0, .slice none 0 0]) U3 := by rw [hU3]; exact Kept.box ((((HX1.bx.puts 0 (.int .i64 3) (cs' := #[.int .i64 3, .int .i64 0, .slice none 0 0, .slice none 0 0]) rfl).puts 1 (.int .i64 0) (cs' := #[.int .i64 3, .int .i64 0, .slice none 0 0, .slice none 0 0]) rfl).puts 2 (.slice none 0 0) (cs' := #[.int .i64 3, .int .i64 0, .slice none 0 0, .slice none 0 0]) rfl).puts 3 (.slice none 0 0) (cs' := #[.int .i64 3, .int .i64 0, .slice none 0 0, .slice none 0 0]) rfl)
    replace HX2 := HX2.only ho (by have := Z1.out; omega)
    replace HB := Lib.hid (Below.only HB.out ho (by have := Z1.out; omega) HB.out.size)
    have Z2 : Hid (U3.heap.size = w2.heap.size) := Lib.hid (by rw [hU3]; simp [World.setCell]); clear ho
    have q_0 := HX1.look 0
    have q_1 := HX1.look 1
    have q_2 := HX1.look 2
    have q_3 := HX1.look 3
    subst hU3
    exact bodyPost_ret (v := .agg #[.int .i64 3, .int .i64 0, .slice none 0 0, .slice none 0 0]) (by simp [results, Try.results33, go_sem, q_0, q_1, q_2, q_3]) rfl (by rw [HR.out.1, HR.out.2.1, HR.out.2.2]; exact WOut.zero HB.out)

end Go.Proofs.Ytakplomopbnekaa
