/-
  What the laws' helpers do with queues and QueueResults. No statement is proved here.
-/
import Derived.Test.YtomkgohhfllpgaaItem
import Derived.Deep.Cut
namespace Go.Proofs.Ytomkgohhfllpgaa
open Go.RowKit
set_option linter.unusedVariables false

/-- An answer's two lists, apart from each other. -/
def QK (lo hi : Nat) (A : Option Addr) (n : Nat) (us : List Tmr) (E : Option Addr) (m : Nat) (zs : List Tmr) : World → Prop := fun w =>
  ∃ bs cs, Rep.timer.FSl w A n us bs ∧ Rep.timer.FSl w E m zs cs ∧ (bs ++ cs).Nodup ∧ ∀ b ∈ bs ++ cs, lo ≤ b ∧ b < hi
section
variable {lo hi : Nat} {A E : Option Addr} {n m : Nat} {us zs : List Tmr} {w : World}
theorem QK.kept (h : QK lo hi A n us E m zs w) (hs : hi ≤ w.heap.size) : Kept lo hi (QK lo hi A n us E m zs) w := by
  obtain ⟨bs, cs, h1, h2, h3, h4⟩ := h
  exact ⟨hs, fun w2 k => ⟨bs, cs, h1.keep fun b hb => k b (h4 b (by simp [hb])).1 (h4 b (by simp [hb])).2, h2.keep fun b hb => k b (h4 b (by simp [hb])).1 (h4 b (by simp [hb])).2, h3, h4⟩⟩
theorem Kept.q_list (h : Kept lo hi (QK lo hi A n us E m zs) w) : Rep.timer.Sl true lo hi w A n us := by
  obtain ⟨bs, cs, h1, h2, h3, h4⟩ := h.out
  exact h1.sl fun b hb => h4 b (by simp [hb])
theorem Kept.q_items (h : Kept lo hi (QK lo hi A n us E m zs) w) : Rep.timer.Sl true lo hi w E m zs := by
  obtain ⟨bs, cs, h1, h2, h3, h4⟩ := h.out
  exact h2.sl fun b hb => h4 b (by simp [hb])
theorem QK.nil (lo hi : Nat) (A E : Option Addr) (w : World) : QK lo hi A 0 [] E 0 [] w := ⟨[], [], .inl ⟨rfl, rfl, rfl⟩, .inl ⟨rfl, rfl, rfl⟩, List.nodup_nil, fun b hb => by cases hb⟩
end
/-- Items of the call's own, with the block that they take. -/
theorem items_of_own {t : TypeId} {w : World} {B n c : Nat} {A : Option Addr} {ys : List Tmr} (h : OwnF t 4 tcell w B A n c ys) : ∃ bs, Rep.timer.FSl w A n ys bs ∧ bs.Nodup ∧ ∀ x ∈ bs, A.map (·.block) = some x := by
  rcases Nat.eq_zero_or_pos n with h0 | h0
  · subst h0
    exact ⟨[], .inl ⟨rfl, List.eq_nil_of_length_eq_zero h.1, rfl⟩, List.nodup_nil, fun x hx => by cases hx⟩
  · obtain ⟨g, rfl, hBg, hgs⟩ := h.form h0
    refine ⟨[g], .inr ⟨h0, g, rfl, h.1, fun _ => ⟨g, 0, rfl, Nat.le_refl _, Nat.lt_succ_self _, fun _ i => World.ownsRow.frozenAt h.2 i, fun i a ha => ⟨tcell a, rfl, fun j u hj => ?_⟩⟩⟩, by simp, fun x hx => by simp at hx; rw [hx]; rfl⟩
    have hj4 : j < 4 := by have := (List.getElem?_eq_some_iff.1 hj).1; simpa [tcell] using this
    have hil := (List.getElem?_eq_some_iff.1 ha).1
    have := World.ownsRow.cellAt h.2 (i * 4 + j) (by have := h.1; omega)
    show w.cell? ⟨g, 0 + i * 4 + j, none⟩ = some u
    rw [Nat.zero_add, this, flat_get tcell_len ys i a ha j hj4, hj]
theorem own_items {t : TypeId} {w : World} {B n c : Nat} {A : Option Addr} {ys : List Tmr} (h : OwnF t 4 tcell w B A n c ys) : Rep.timer.Sl true B w.heap.size w A n ys := by
  obtain ⟨bs, h1, _, h3⟩ := items_of_own h
  exact h1.sl fun b hb => h.block b (h3 b hb)
/-- Two lists of the call's own that lie apart make an answer. -/
theorem QK.of_own {t : TypeId} {w : World} {B n c m d : Nat} {A E : Option Addr} {us zs : List Tmr} (h1 : OwnF t 4 tcell w B A n c us) (h2 : OwnF t 4 tcell w B E m d zs) (hd : ∀ r, A.map (·.block) = some r → E.map (·.block) ≠ some r) : QK B w.heap.size A n us E m zs w := by
  obtain ⟨bs, f1, n1, k1⟩ := items_of_own h1
  obtain ⟨cs, f2, n2, k2⟩ := items_of_own h2
  refine ⟨bs, cs, f1, f2, List.nodup_append.2 ⟨n1, n2, fun a ha b hb e => ?_⟩, fun b hb => ?_⟩
  · subst e; exact hd a (k1 a ha) (k2 a hb)
  · rcases List.mem_append.1 hb with hb | hb
    · exact h1.block b (k1 b hb)
    · exact h2.block b (k2 b hb)
theorem OnlyB.monoB {bs cs : List Nat} {w w' : World} (h : OnlyB bs w w') (k : ∀ b ∈ bs, b ∈ cs) : OnlyB cs w w' := ⟨h.os, h.tape, h.output, h.size, fun b hb hn => h.block b hb fun hx => hn (k b hx)⟩
theorem OnlyB.below_ {bs : List Nat} {w w' : World} (h : Below w.heap.size w w') : OnlyB bs w w' := ⟨h.os, h.tape, h.output, h.size, fun b hb _ => h.block b hb⟩
theorem SameB.of_onlyB_ {bs cs : List Nat} {w w' : World} (h : OnlyB bs w w') (hd : ∀ b ∈ cs, b ∉ bs) (hl : ∀ b ∈ cs, b < w.heap.size) : SameB cs w w' := fun b hb => h.block b (hl b hb) (hd b hb)
theorem SameB.below_ {bs : List Nat} {w w' : World} (h : Below w.heap.size w w') (hl : ∀ b ∈ bs, b < w.heap.size) : SameB bs w w' := fun b hb => h.block b (hl b hb)

set_option maxRecDepth 100000 in
set_option maxHeartbeats 1600000 in
theorem szQueue_any (cap : Int) (mk : Bool) (A : Option Addr) (n c : Nat) (left : Int) (w : World) (hn : n ≤ maxLen) (h0 : 0 ≤ left) (h1 : left ≤ 1048576) :
    Calls Try.prog 34 #[.agg #[.int .i64 cap, .bool mk, .slice A n c], .int .i64 left] w fun e w' => e = .returned (.int .i64 (if left - n < 0 then -1 else left - n)) ∧ Below w.heap.size w w' := by
  by_cases h : left - n < 0
  · have HB := Lib.hid (Below.refl w.heap.size w)
    have HR : Hid ((if left - (n : Int) < 0 then -1 else left - n) = -1) := Lib.hid (if_pos h)
    go_enter Try.func34, Try.ntmps34
    go_wp2_with fail
    refine Calls.name ?_
    intro U1 hU1
    have hb : Below w.heap.size w U1 := by rw [hU1]; exact ((Below.refl _ _).alloc (Nat.le_refl _) _)
    have zz : Hid (w.heap.size + 1 = U1.heap.size) := Lib.hid (by rw [hU1]; simp)
    have HX1 : Kept w.heap.size (w.heap.size + 1) (BoxK w.heap.size 50 #[.int .i64 cap, .bool mk, .slice A n c]) U1 := by rw [hU1]; exact Kept.box (Box.made_at _ _ _ rfl)
    replace HB := Lib.hid (below_step HB.out hb)
    clear hb
    have Z1 := zz; clear zz
    clear hU1
    refine (szItemS_any A n c left _ h0 h1 hn).mono ?_
    rw [HR.out]
    rintro e w2 ⟨rfl, rfl⟩
    have l2_0 := HX1.bx.lt
    go_wp2
    clear l2_0
    go_ret
    exact ⟨rfl, HB.out⟩
  · have HB := Lib.hid (Below.refl w.heap.size w)
    have HR : Hid ((if left - (n : Int) < 0 then -1 else left - n) = left - n) := Lib.hid (if_neg h)
    go_enter Try.func34, Try.ntmps34
    go_wp2_with fail
    refine Calls.name ?_
    intro U1 hU1
    have hb : Below w.heap.size w U1 := by rw [hU1]; exact ((Below.refl _ _).alloc (Nat.le_refl _) _)
    have zz : Hid (w.heap.size + 1 = U1.heap.size) := Lib.hid (by rw [hU1]; simp)
    have HX1 : Kept w.heap.size (w.heap.size + 1) (BoxK w.heap.size 50 #[.int .i64 cap, .bool mk, .slice A n c]) U1 := by rw [hU1]; exact Kept.box (Box.made_at _ _ _ rfl)
    replace HB := Lib.hid (below_step HB.out hb)
    clear hb
    have Z1 := zz; clear zz
    clear hU1
    refine (szItemS_any A n c left _ h0 h1 hn).mono ?_
    rw [HR.out]
    rintro e w2 ⟨rfl, rfl⟩
    have l2_0 := HX1.bx.lt
    go_wp2
    clear l2_0
    go_ret
    exact ⟨rfl, HB.out⟩

set_option maxRecDepth 100000 in
set_option maxHeartbeats 1600000 in
theorem toQueue_any (q : Bool) (lo hi : Nat) (cap : Int) (mk : Bool) (A : Option Addr) (n c : Nat) (ys : List Tmr) (w : World) (ha : Rep.timer.Sl q lo hi w A n ys) (hh : hi ≤ w.heap.size) (hn : n ≤ 1048576) :
    Calls Try.prog 35 #[.agg #[.int .i64 cap, .bool mk, .slice A n c]] w fun e w' => ∃ P, e = .returned (.agg #[.int .i64 cap, .bool mk, .slice P n n]) ∧ Kept w.heap.size w'.heap.size (SlK Rep.timer true w.heap.size w'.heap.size P n ys) w' ∧ Below w.heap.size w w' := by
  have HB := Lib.hid (Below.refl w.heap.size w)
  have HA := Rep.Sl.kept ha hh
  clear ha
  go_enter Try.func35, Try.ntmps35
  go_wp2_with fail
  refine Calls.name ?_
  intro U1 hU1
  have hb : Below w.heap.size w U1 := by rw [hU1]; exact ((((Below.refl _ _).alloc (Nat.le_refl _) _).alloc (by simp <;> omega) _).alloc (by simp <;> omega) _)
  have zz : Hid (w.heap.size + 3 = U1.heap.size) := Lib.hid (by rw [hU1]; simp)
  have HX1 : Kept w.heap.size (w.heap.size + 1) (BoxK w.heap.size 50 #[.int .i64 cap, .bool mk, .slice A n c]) U1 := by rw [hU1]; exact Kept.box (((Box.made_at _ _ _ rfl).over _).over _)
  have HX2 : Kept (w.heap.size + 1) (w.heap.size + 1 + 1) (BoxK (w.heap.size + 1) 26 #[.int .i64 0, .bool false, .slice none 0 0]) U1 := by rw [hU1]; exact Kept.box ((Box.made_at _ _ _ (by simp <;> omega)).over _)
  have HX3 : Kept (w.heap.size + 1 + 1) (w.heap.size + 1 + 1 + 1) (BoxK (w.heap.size + 1 + 1) 26 #[.int .i64 cap, .bool mk, .slice none 0 0]) U1 := by rw [hU1]; exact Kept.box (Box.made_at _ _ _ (by simp <;> omega))
  replace HA := HA.below hb
  replace HB := Lib.hid (below_step HB.out hb)
  clear hb
  have Z1 := zz; clear zz
  clear hU1
  refine (toItemS_any q lo hi A n c ys _ HA.sl HA.le hn).mono ?_
  rintro e w2 ⟨rfl, hs, hlt, hb⟩
  have Z2 := Lib.hid hb.size
  replace HA := HA.below hb
  replace HX1 := HX1.below hb
  replace HX2 := HX2.below hb
  replace HX3 := HX3.below hb
  replace HB := Lib.hid (below_step HB.out hb)
  clear hb
  have HS := Rep.Sl.kept hs hlt; clear hs hlt
  have c2_0 := HX2.look 0
  have c2_1 := HX2.look 1
  have c2_2 := HX2.look 2
  have c2_3 := HX3.look 0
  have c2_4 := HX3.look 1
  have c2_5 := HX3.look 2
  have f2_0 := HX2.free 0
  have f2_1 := HX2.free 1
  have f2_2 := HX2.free 2
  have f2_3 := HX3.free 2
  have l2_0 := HX1.bx.lt
  have l2_1 := HX2.bx.lt
  have l2_2 := HX3.bx.lt
  have n2_0_1 : ¬ (w.heap.size + 1) = (w.heap.size + 1 + 1) := (by have := Z1.out; have := Z2.out; omega)
  have m2_0_1 : ¬ (w.heap.size + 1 + 1) = (w.heap.size + 1) := (by have := Z1.out; have := Z2.out; omega)
  go_wp2
  clear c2_0 c2_1 c2_2 c2_3 c2_4 c2_5 f2_0 f2_1 f2_2 f2_3 l2_0 l2_1 l2_2 n2_0_1 m2_0_1
  obtain ⟨U3, hU3⟩ : ∃ W : World, W = (w2.setCell ⟨w.heap.size + 1 + 1, 2, none⟩ (.slice (some ⟨U1.heap.size, 0, none⟩) n n)) := ⟨_, rfl⟩
  have ho : Only (w.heap.size + 1 + 1) (w.heap.size + 1 + 1 + 1) w2 U3 := by rw [hU3]; exact ((Only.refl _ _ _).set (p := ⟨w.heap.size + 1 + 1, 2, none⟩) (Nat.le_refl _) (Nat.lt_succ_self _) _)
  replace HX3 : Kept (w.heap.size + 1 + 1) (w.heap.size + 1 + 1 + 1) (BoxK (w.heap.size + 1 + 1) 26 #[.int .i64 cap, .bool mk, .slice (some ⟨U1.heap.size, 0, none⟩) n n]) U3 := by rw [hU3]; exact Kept.box (HX3.bx.puts 2 (.slice (some ⟨U1.heap.size, 0, none⟩) n n) (cs' := #[.int .i64 cap, .bool mk, .slice (some ⟨U1.heap.size, 0, none⟩) n n]) rfl)
  replace HA := HA.only ho (by have := Z1.out; have := Z2.out; omega)
  replace HX1 := HX1.only ho (by have := Z1.out; have := Z2.out; omega)
  replace HX2 := HX2.only ho (by have := Z1.out; have := Z2.out; omega)
  replace HS := HS.only ho (by have := Z1.out; have := Z2.out; omega)
  replace HB := Lib.hid (Below.only HB.out ho (by have := Z1.out; have := Z2.out; omega) HB.out.size)
  have Z3 : Hid (U3.heap.size = w2.heap.size) := Lib.hid (by rw [hU3]; simp [World.setCell]); clear ho
  obtain ⟨U4, hU4⟩ : ∃ W : World, W = (((U3.setCell ⟨w.heap.size + 1, 0, none⟩ (.int .i64 cap)).setCell ⟨w.heap.size + 1, 1, none⟩ (.bool mk)).setCell ⟨w.heap.size + 1, 2, none⟩ (.slice (some ⟨U1.heap.size, 0, none⟩) n n)) := ⟨_, rfl⟩
  have ho : Only (w.heap.size + 1) (w.heap.size + 1 + 1) U3 U4 := by rw [hU4]; exact ((((Only.refl _ _ _).set (p := ⟨w.heap.size + 1, 0, none⟩) (Nat.le_refl _) (Nat.lt_succ_self _) _).set (p := ⟨w.heap.size + 1, 1, none⟩) (Nat.le_refl _) (Nat.lt_succ_self _) _).set (p := ⟨w.heap.size + 1, 2, none⟩) (Nat.le_refl _) (Nat.lt_succ_self _) _)
  replace HX2 : Kept (w.heap.size + 1) (w.heap.size + 1 + 1) (BoxK (w.heap.size + 1) 26 #[.int .i64 cap, .bool mk, .slice (some ⟨U1.heap.size, 0, none⟩) n n]) U4 := by rw [hU4]; exact Kept.box (((HX2.bx.puts 0 (.int .i64 cap) (cs' := #[.int .i64 cap, .bool false, .slice none 0 0]) rfl).puts 1 (.bool mk) (cs' := #[.int .i64 cap, .bool mk, .slice none 0 0]) rfl).puts 2 (.slice (some ⟨U1.heap.size, 0, none⟩) n n) (cs' := #[.int .i64 cap, .bool mk, .slice (some ⟨U1.heap.size, 0, none⟩) n n]) rfl)
  replace HA := HA.only ho (by have := Z1.out; have := Z2.out; have := Z3.out; omega)
  replace HX1 := HX1.only ho (by have := Z1.out; have := Z2.out; have := Z3.out; omega)
  replace HX3 := HX3.only ho (by have := Z1.out; have := Z2.out; have := Z3.out; omega)
  replace HS := HS.only ho (by have := Z1.out; have := Z2.out; have := Z3.out; omega)
  replace HB := Lib.hid (Below.only HB.out ho (by have := Z1.out; have := Z2.out; have := Z3.out; omega) HB.out.size)
  have Z4 : Hid (U4.heap.size = U3.heap.size) := Lib.hid (by rw [hU4]; simp [World.setCell]); clear ho
  have q_0 := HX2.look 0
  have q_1 := HX2.look 1
  have q_2 := HX2.look 2
  subst hU4 hU3
  exact bodyPost_ret (v := .agg #[.int .i64 cap, .bool mk, .slice (some ⟨U1.heap.size, 0, none⟩) n n]) (by simp [results, Try.results35, go_sem, q_0, q_1, q_2]) rfl ⟨_, rfl, Rep.Sl.kept (HS.sl.mono (by have := Z1.out; have := Z2.out; omega) (by have := HS.le; omega)) (Nat.le_refl _), HB.out⟩

set_option maxRecDepth 100000 in
set_option maxHeartbeats 1600000 in
theorem eqQueue_yes (cap : Int) (mk : Bool) (q1 q2 : Bool) (l1 h1 l2 h2 : Nat) (A B : Option Addr) (n c d : Nat) (ys : List Tmr) (w : World) (ha : Rep.timer.Sl q1 l1 h1 w A n ys) (hb : Rep.timer.Sl q2 l2 h2 w B n ys) (hh1 : h1 ≤ w.heap.size) (hh2 : h2 ≤ w.heap.size) (hn : n ≤ 1048576) :
    Calls Try.prog 36 #[.agg #[.int .i64 cap, .bool mk, .slice A n c], .agg #[.int .i64 cap, .bool mk, .slice B n d]] w fun e w' => e = .returned (.bool true) ∧ Below w.heap.size w w' := by
  have HB := Lib.hid (Below.refl w.heap.size w)
  have HA := Rep.Sl.kept ha hh1
  have HC := Rep.Sl.kept hb hh2
  clear ha hb
  go_enter Try.func36, Try.ntmps36
  go_wp2_with fail
  refine Calls.name ?_
  intro U1 hU1
  have hb : Below w.heap.size w U1 := by rw [hU1]; exact (((Below.refl _ _).alloc (Nat.le_refl _) _).alloc (by simp <;> omega) _)
  have zz : Hid (w.heap.size + 2 = U1.heap.size) := Lib.hid (by rw [hU1]; simp)
  have HX1 : Kept w.heap.size (w.heap.size + 1) (BoxK w.heap.size 26 #[.int .i64 cap, .bool mk, .slice A n c]) U1 := by rw [hU1]; exact Kept.box ((Box.made_at _ _ _ rfl).over _)
  have HX2 : Kept (w.heap.size + 1) (w.heap.size + 1 + 1) (BoxK (w.heap.size + 1) 26 #[.int .i64 cap, .bool mk, .slice B n d]) U1 := by rw [hU1]; exact Kept.box (Box.made_at _ _ _ (by simp <;> omega))
  replace HA := HA.below hb
  replace HC := HC.below hb
  replace HB := Lib.hid (below_step HB.out hb)
  clear hb
  have Z1 := zz; clear zz
  clear hU1
  refine (eqItemS_yes q1 q2 l1 h1 l2 h2 A B n c d ys _ HA.sl HC.sl HA.le HC.le hn).mono ?_
  rintro e w2 ⟨rfl, hb⟩
  have Z2 := Lib.hid hb.size
  replace HA := HA.below hb
  replace HC := HC.below hb
  replace HX1 := HX1.below hb
  replace HX2 := HX2.below hb
  replace HB := Lib.hid (below_step HB.out hb)
  clear hb
  have l2_0 := HX1.bx.lt
  have l2_1 := HX2.bx.lt
  go_wp2
  clear l2_0 l2_1
  go_ret
  exact ⟨rfl, HB.out⟩

set_option maxRecDepth 100000 in
set_option maxHeartbeats 1600000 in
theorem eqQueueResult_yes (code cap : Int) (mk mk2 : Bool) (q1 q2 : Bool) (l1 h1 l2 h2 : Nat) (A B : Option Addr) (n c d : Nat) (ys : List Tmr) (k1 g1 k2 g2 : Nat) (E F : Option Addr) (m e f : Nat) (zs : List Tmr) (w : World) (ha : Rep.timer.Sl q1 l1 h1 w A n ys) (hb : Rep.timer.Sl q2 l2 h2 w B n ys) (hh1 : h1 ≤ w.heap.size) (hh2 : h2 ≤ w.heap.size) (hn : n ≤ 1048576) (he : Rep.timer.Sl q1 k1 g1 w E m zs) (hf : Rep.timer.Sl q2 k2 g2 w F m zs) (hg1 : g1 ≤ w.heap.size) (hg2 : g2 ≤ w.heap.size) (hk : m ≤ 1048576) :
    Calls Try.prog 37 #[.agg #[.int .i64 code, .int .i64 cap, .bool mk, .slice A n c, .bool mk2, .slice E m e], .agg #[.int .i64 code, .int .i64 cap, .bool mk, .slice B n d, .bool mk2, .slice F m f]] w fun e w' => e = .returned (.bool true) ∧ Below w.heap.size w w' := by
  have HB := Lib.hid (Below.refl w.heap.size w)
  have HA := Rep.Sl.kept ha hh1
  have HC := Rep.Sl.kept hb hh2
  have HE := Rep.Sl.kept he hg1
  have HF := Rep.Sl.kept hf hg2
  clear ha hb he hf
  go_enter Try.func37, Try.ntmps37
  go_wp2_with fail
  refine Calls.name ?_
  intro U1 hU1
  have hb : Below w.heap.size w U1 := by rw [hU1]; exact (((Below.refl _ _).alloc (Nat.le_refl _) _).alloc (by simp <;> omega) _)
  have zz : Hid (w.heap.size + 2 = U1.heap.size) := Lib.hid (by rw [hU1]; simp)
  have HX1 : Kept w.heap.size (w.heap.size + 1) (BoxK w.heap.size 30 #[.int .i64 code, .int .i64 cap, .bool mk, .slice A n c, .bool mk2, .slice E m e]) U1 := by rw [hU1]; exact Kept.box ((Box.made_at _ _ _ rfl).over _)
  have HX2 : Kept (w.heap.size + 1) (w.heap.size + 1 + 1) (BoxK (w.heap.size + 1) 30 #[.int .i64 code, .int .i64 cap, .bool mk, .slice B n d, .bool mk2, .slice F m f]) U1 := by rw [hU1]; exact Kept.box (Box.made_at _ _ _ (by simp <;> omega))
  replace HA := HA.below hb
  replace HC := HC.below hb
  replace HE := HE.below hb
  replace HF := HF.below hb
  replace HB := Lib.hid (below_step HB.out hb)
  clear hb
  have Z1 := zz; clear zz
  clear hU1
  refine (eqQueue_yes cap mk q1 q2 l1 h1 l2 h2 A B n c d ys _ HA.sl HC.sl HA.le HC.le hn).mono ?_
  rintro e w2 ⟨rfl, hb⟩
  have Z2 := Lib.hid hb.size
  replace HA := HA.below hb
  replace HC := HC.below hb
  replace HE := HE.below hb
  replace HF := HF.below hb
  replace HX1 := HX1.below hb
  replace HX2 := HX2.below hb
  replace HB := Lib.hid (below_step HB.out hb)
  clear hb
  have c2_0 := HX1.look 4
  have c2_1 := HX1.look 5
  have c2_2 := HX2.look 4
  have c2_3 := HX2.look 5
  have l2_0 := HX1.bx.lt
  have l2_1 := HX2.bx.lt
  go_wp2_with fail
  clear c2_0 c2_1 c2_2 c2_3 l2_0 l2_1
  refine (eqItemS_yes q1 q2 k1 g1 k2 g2 E F m e f zs _ HE.sl HF.sl HE.le HF.le hk).mono ?_
  rintro e w3 ⟨rfl, hb⟩
  have Z3 := Lib.hid hb.size
  replace HA := HA.below hb
  replace HC := HC.below hb
  replace HE := HE.below hb
  replace HF := HF.below hb
  replace HX1 := HX1.below hb
  replace HX2 := HX2.below hb
  replace HB := Lib.hid (below_step HB.out hb)
  clear hb
  have l3_0 := HX1.bx.lt
  have l3_1 := HX2.bx.lt
  go_wp2
  clear l3_0 l3_1
  go_ret
  exact ⟨rfl, HB.out⟩

set_option maxHeartbeats 800000 in
theorem markQueue_F (cap : Int) (mk : Bool) (A : Option Addr) (n c : Nat) (ys : List Tmr) (bs : List Nat) (k0 : Int) (w : World) (ha : Rep.timer.FSl w A n ys bs) (hin : ∀ b ∈ bs, b < w.heap.size) (hn : n ≤ 1048576) (h0 : 0 ≤ k0) (h1 : k0 ≤ 8388608) :
    Calls Try.prog 41 #[.agg #[.int .i64 cap, .bool mk, .slice A n c], .int .i64 k0] w fun e w' => e = .returned (.int .i64 (k0 + 4 * n)) ∧ Rep.timer.FSl w' A n (mTimers k0 n) bs ∧ OnlyB bs w w' := by
  have hb0 : Below w.heap.size w (w.alloc (.cells #[.int .i64 cap, .bool mk, .slice A n c] 26)) := (Below.refl _ _).alloc (Nat.le_refl _) _
  have HA := Lib.hid (ha.keep (SameB.below_ hb0 hin))
  have HB := Lib.hid hb0
  clear ha hb0
  go_enter Try.func41, Try.ntmps41
  go_wp2_with fail
  refine (markItemS_F A n c ys bs k0 _ HA.out hn h0 (by omega)).mono ?_
  rintro e w2 ⟨rfl, hs, ho⟩
  have HS := Lib.hid hs
  have HO := Lib.hid ((OnlyB.below_ HB.out).trans ho)
  clear hs ho
  go_wp2
  go_ret
  exact ⟨rfl, HS.out, HO.out⟩

set_option maxHeartbeats 800000 in
theorem markQueue_any (lo hi : Nat) (cap : Int) (mk : Bool) (A : Option Addr) (n c : Nat) (ys : List Tmr) (k0 : Int) (w : World) (ha : Rep.timer.Sl true lo hi w A n ys) (hh : hi ≤ w.heap.size) (hn : n ≤ 1048576) (h0 : 0 ≤ k0) (h1 : k0 ≤ 8388608) :
    Calls Try.prog 41 #[.agg #[.int .i64 cap, .bool mk, .slice A n c], .int .i64 k0] w fun e w' => e = .returned (.int .i64 (k0 + 4 * n)) ∧ Only lo hi w w' := by
  have hb0 : Below w.heap.size w (w.alloc (.cells #[.int .i64 cap, .bool mk, .slice A n c] 26)) := (Below.refl _ _).alloc (Nat.le_refl _) _
  have HA := Lib.hid (ha.below hb0 hh)
  have HB := Lib.hid hb0
  clear ha hb0
  go_enter Try.func41, Try.ntmps41
  go_wp2_with fail
  refine (markItemS_any lo hi A n c ys k0 _ HA.out hn h0 (by omega)).mono ?_
  rintro e w2 ⟨rfl, _, ho, _⟩
  have HO := Lib.hid ((Only.of_below HB.out lo hi).trans ho)
  clear ho
  go_wp2
  go_ret
  exact ⟨rfl, HO.out⟩

set_option maxHeartbeats 800000 in
theorem markQueueResult_F (code cap : Int) (mk mk2 : Bool) (A : Option Addr) (n c : Nat) (us : List Tmr) (E : Option Addr) (m d : Nat) (zs : List Tmr) (bs cs : List Nat) (k0 : Int) (w : World) (ha : Rep.timer.FSl w A n us bs) (he : Rep.timer.FSl w E m zs cs) (hd : (bs ++ cs).Nodup) (hin : ∀ b ∈ bs ++ cs, b < w.heap.size) (hn : n ≤ 1048576) (hm : m ≤ 1048576) (h0 : 0 ≤ k0) (h1 : k0 ≤ 1048576) :
    Calls Try.prog 38 #[.agg #[.int .i64 code, .int .i64 cap, .bool mk, .slice A n c, .bool mk2, .slice E m d], .int .i64 k0] w fun e w' => e = .returned (.int .i64 (k0 + 4 * n + 4 * m)) ∧ Rep.timer.FSl w' A n (mTimers k0 n) bs ∧ Rep.timer.FSl w' E m (mTimers (k0 + 4 * n) m) cs ∧ OnlyB (bs ++ cs) w w' := by
  obtain ⟨V, hV⟩ : ∃ V : World, V = w.alloc (.cells #[.int .i64 code, .int .i64 cap, .bool mk, .slice A n c, .bool mk2, .slice E m d] 30) := ⟨_, rfl⟩
  have hb0 : Below w.heap.size w V := by rw [hV]; exact (Below.refl _ _).alloc (Nat.le_refl _) _
  have HX : Hid (Box V w.heap.size 30 #[.int .i64 code, .int .i64 cap, .bool mk, .slice A n c, .bool mk2, .slice E m d]) := Lib.hid (by rw [hV]; exact Box.made _ _ _)
  have hdd := List.nodup_append.1 hd
  have HD : Hid (∀ a ∈ bs, ∀ b ∈ cs, a ≠ b) := Lib.hid hdd.2.2
  have HIN := Lib.hid hin
  have HA := Lib.hid (ha.keep (SameB.below_ hb0 (fun b hb => hin b (List.mem_append_left _ hb))))
  have HE := Lib.hid (he.keep (SameB.below_ hb0 (fun b hb => hin b (List.mem_append_right _ hb))))
  have HB := Lib.hid hb0
  have HIV : Hid (∀ b ∈ bs ++ cs, b < V.heap.size) := Lib.hid (fun b hb => Nat.lt_of_lt_of_le (hin b hb) hb0.size)
  clear ha he hd hin hdd hb0
  go_enter Try.func38, Try.ntmps38
  go_upto_region 1 with (fail)
  rw [← hV]
  clear hV
  have x0 := HX.out.look 1
  have x1 := HX.out.look 2
  have x2 := HX.out.look 3
  go_wp2_with fail
  clear x0 x1 x2
  refine (markQueue_F cap mk A n c us bs k0 _ HA.out (fun b hb => HIV.out b (List.mem_append_left _ hb)) hn h0 (by omega)).mono ?_
  rintro e w1 ⟨rfl, hs, ho⟩
  have HS := Lib.hid hs
  have HE1 := Lib.hid (HE.out.keep (SameB.of_onlyB_ ho (fun b hb hx => HD.out b hx b hb rfl) (fun b hb => HIV.out b (List.mem_append_right _ hb))))
  have HX1 : Hid (Box w1 w.heap.size 30 #[.int .i64 code, .int .i64 cap, .bool mk, .slice A n c, .bool mk2, .slice E m d]) := Lib.hid ((ho.block _ HX.out.lt (fun hx => by have := HIN.out _ (List.mem_append_left cs hx); omega)).trans HX.out)
  have HO := Lib.hid ((OnlyB.below_ (bs := bs ++ cs) HB.out).trans (ho.monoB (fun b hb => List.mem_append_left _ hb)))
  have HSZ := Lib.hid ho.size
  clear hs ho
  have x5 := HX1.out.look 5
  go_wp2_with fail
  clear x5
  refine (markItemS_F E m d zs cs (k0 + 4 * (n : Int)) _ HE1.out hm (by omega) (by omega)).mono ?_
  rintro e w2 ⟨rfl, hs, ho⟩
  have HS2 := Lib.hid hs
  have HS1 := Lib.hid (HS.out.keep (SameB.of_onlyB_ ho (fun b hb hx => HD.out b hb b hx rfl) (fun b hb => Nat.lt_of_lt_of_le (HIV.out b (List.mem_append_left _ hb)) HSZ.out)))
  have HO2 := Lib.hid (HO.out.trans (ho.monoB (fun b hb => List.mem_append_right _ hb)))
  clear hs ho
  go_wp2
  go_ret
  exact ⟨rfl, HS1.out, HS2.out, HO2.out⟩

set_option maxRecDepth 100000 in
set_option maxHeartbeats 1600000 in
theorem heldQueue_yes (q : Bool) (lo hi : Nat) (cap : Int) (mk : Bool) (A : Option Addr) (n c : Nat) (k0 : Int) (w : World) (ha : Rep.timer.Sl q lo hi w A n (mTimers k0 n)) (hh : hi ≤ w.heap.size) (hn : n ≤ 1048576) (h0 : 0 ≤ k0) (h1 : k0 ≤ 1048576) :
    Calls Try.prog 71 #[.agg #[.int .i64 cap, .bool mk, .slice A n c], .int .i64 k0] w fun e w' => e = .returned (.int .i64 (k0 + 4 * n)) ∧ Below w.heap.size w w' := by
  have HB := Lib.hid (Below.refl w.heap.size w)
  have HA := Rep.Sl.kept ha hh
  have hq : ¬ (k0 + 4 * (n : Int) < 0) := by omega
  clear ha
  go_enter Try.func71, Try.ntmps71
  go_wp2_with fail
  refine Calls.name ?_
  intro U1 hU1
  have hb : Below w.heap.size w U1 := by rw [hU1]; exact ((Below.refl _ _).alloc (Nat.le_refl _) _)
  have zz : Hid (w.heap.size + 1 = U1.heap.size) := Lib.hid (by rw [hU1]; simp)
  have HX1 : Kept w.heap.size (w.heap.size + 1) (BoxK w.heap.size 26 #[.int .i64 cap, .bool mk, .slice A n c]) U1 := by rw [hU1]; exact Kept.box (Box.made_at _ _ _ rfl)
  replace HA := HA.below hb
  replace HB := Lib.hid (below_step HB.out hb)
  clear hb
  have Z1 := zz; clear zz
  clear hU1
  refine (heldItemS_yes q lo hi A n c k0 _ HA.sl hn h0 (by omega)).mono ?_
  rintro e w2 ⟨rfl, rfl⟩
  have l2_0 := HX1.bx.lt
  go_wp2
  clear l2_0
  go_ret
  exact ⟨rfl, HB.out⟩

set_option maxRecDepth 100000 in
set_option maxHeartbeats 1600000 in
theorem heldQueueResult_yes (q r : Bool) (lo hi lo2 hi2 : Nat) (code cap : Int) (mk mk2 : Bool) (A : Option Addr) (n c : Nat) (E : Option Addr) (m d : Nat) (k0 : Int) (w : World) (ha : Rep.timer.Sl q lo hi w A n (mTimers k0 n)) (he : Rep.timer.Sl r lo2 hi2 w E m (mTimers (k0 + 4 * n) m)) (hh : hi ≤ w.heap.size) (hh2 : hi2 ≤ w.heap.size) (hn : n ≤ 1048576) (hm : m ≤ 1048576) (h0 : 0 ≤ k0) (h1 : k0 ≤ 1048576) :
    Calls Try.prog 39 #[.agg #[.int .i64 code, .int .i64 cap, .bool mk, .slice A n c, .bool mk2, .slice E m d], .int .i64 k0] w fun e w' => e = .returned (.int .i64 (k0 + 4 * n + 4 * m)) ∧ Below w.heap.size w w' := by
  have HB := Lib.hid (Below.refl w.heap.size w)
  have HA := Rep.Sl.kept ha hh
  have HE := Rep.Sl.kept he hh2
  have hq : ¬ (k0 + 4 * (n : Int) < 0) := by omega
  have hq2 : ¬ (k0 + 4 * (n : Int) + 4 * (m : Int) < 0) := by omega
  clear ha he
  go_enter Try.func39, Try.ntmps39
  go_wp2_with fail
  refine Calls.name ?_
  intro U1 hU1
  have hb : Below w.heap.size w U1 := by rw [hU1]; exact ((Below.refl _ _).alloc (Nat.le_refl _) _)
  have zz : Hid (w.heap.size + 1 = U1.heap.size) := Lib.hid (by rw [hU1]; simp)
  have HX1 : Kept w.heap.size (w.heap.size + 1) (BoxK w.heap.size 30 #[.int .i64 code, .int .i64 cap, .bool mk, .slice A n c, .bool mk2, .slice E m d]) U1 := by rw [hU1]; exact Kept.box (Box.made_at _ _ _ rfl)
  replace HA := HA.below hb
  replace HE := HE.below hb
  replace HB := Lib.hid (below_step HB.out hb)
  clear hb
  have Z1 := zz; clear zz
  clear hU1
  refine (heldQueue_yes q lo hi cap mk A n c k0 _ HA.sl HA.le hn h0 h1).mono ?_
  rintro e w2 ⟨rfl, hb⟩
  have Z2 := Lib.hid hb.size
  replace HA := HA.below hb
  replace HE := HE.below hb
  replace HX1 := HX1.below hb
  replace HB := Lib.hid (below_step HB.out hb)
  clear hb
  have c2_0 := HX1.look 5
  have l2_0 := HX1.bx.lt
  go_wp2_with fail
  clear c2_0 l2_0
  refine (heldItemS_yes r lo2 hi2 E m d (k0 + 4 * (n : Int)) _ HE.sl hm (by omega) (by omega)).mono ?_
  rintro e w3 ⟨rfl, rfl⟩
  have l3_0 := HX1.bx.lt
  go_wp2
  clear l3_0
  go_ret
  exact ⟨rfl, HB.out⟩


end Go.Proofs.Ytomkgohhfllpgaa
