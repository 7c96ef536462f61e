/-
  What the laws' helpers do with queues and QueueResults. No statement is proved here.
-/
import Derived.Test.YtiffhjofabaflaaItem
import Derived.Deep.Cut
namespace Go.Proofs.Ytiffhjofabaflaa
open Go.RowKit
set_option linter.unusedVariables false

/-- An answer's two lists, apart from each other. -/
def QK (lo hi : Nat) (A : Option Addr) (n : Nat) (us : List Tmr) (E : Option Addr) (m : Nat) (zs : List Tmr) : World → Prop := fun w =>
  ∃ bs cs, Rep.timer.FSl w A n us bs ∧ Rep.timer.FSl w E m zs cs ∧ (bs ++ cs).Nodup ∧ ∀ b ∈ bs ++ cs, lo ≤ b ∧ b < hi
section
variable {lo hi : Nat} {A E : Option Addr} {n m : Nat} {us zs : List Tmr} {w : World}
theorem QK.kept (h : QK lo hi A n us E m zs w) (hs : hi ≤ w.heap.size) : Kept lo hi (QK lo hi A n us E m zs) w := by
  obtain ⟨bs, cs, h1, h2, h3, h4⟩ := h
  exact ⟨hs, fun w2 k => ⟨bs, cs, h1.keep fun b hb => k b (h4 b (by simp [hb])).1 (h4 b (by simp [hb])).2, h2.keep fun b hb => k b (h4 b (by simp [hb])).1 (h4 b (by simp [hb])).2, h3, h4⟩⟩
theorem Kept.q_list (h : Kept lo hi (QK lo hi A n us E m zs) w) : Rep.timer.Sl true lo hi w A n us := by
  obtain ⟨bs, cs, h1, h2, h3, h4⟩ := h.out
  exact h1.sl fun b hb => h4 b (by simp [hb])
theorem Kept.q_items (h : Kept lo hi (QK lo hi A n us E m zs) w) : Rep.timer.Sl true lo hi w E m zs := by
  obtain ⟨bs, cs, h1, h2, h3, h4⟩ := h.out
  exact h2.sl fun b hb => h4 b (by simp [hb])
theorem QK.nil (lo hi : Nat) (A E : Option Addr) (w : World) : QK lo hi A 0 [] E 0 [] w := ⟨[], [], .inl ⟨rfl, rfl, rfl⟩, .inl ⟨rfl, rfl, rfl⟩, List.nodup_nil, fun b hb => by cases hb⟩
end
/-- Items of the call's own, with the block that they take. -/
theorem items_of_own {t : TypeId} {w : World} {B n c : Nat} {A : Option Addr} {ys : List Tmr} (h : OwnF t 4 tcell w B A n c ys) : ∃ bs, Rep.timer.FSl w A n ys bs ∧ bs.Nodup ∧ ∀ x ∈ bs, A.map (·.block) = some x := by
  rcases Nat.eq_zero_or_pos n with h0 | h0
  · subst h0
    exact ⟨[], .inl ⟨rfl, List.eq_nil_of_length_eq_zero h.1, rfl⟩, List.nodup_nil, fun x hx => by cases hx⟩
  · obtain ⟨g, rfl, hBg, hgs⟩ := h.form h0
    refine ⟨[g], .inr ⟨h0, g, rfl, h.1, fun _ => ⟨g, 0, rfl, Nat.le_refl _, Nat.lt_succ_self _, fun _ i => World.ownsRow.frozenAt h.2 i, fun i a ha => ⟨tcell a, rfl, fun j u hj => ?_⟩⟩⟩, by simp, fun x hx => by simp at hx; rw [hx]; rfl⟩
    have hj4 : j < 4 := by have := (List.getElem?_eq_some_iff.1 hj).1; simpa [tcell] using this
    have hil := (List.getElem?_eq_some_iff.1 ha).1
    have := World.ownsRow.cellAt h.2 (i * 4 + j) (by have := h.1; omega)
    show w.cell? ⟨g, 0 + i * 4 + j, none⟩ = some u
    rw [Nat.zero_add, this, flat_get tcell_len ys i a ha j hj4, hj]
theorem own_items {t : TypeId} {w : World} {B n c : Nat} {A : Option Addr} {ys : List Tmr} (h : OwnF t 4 tcell w B A n c ys) : Rep.timer.Sl true B w.heap.size w A n ys := by
  obtain ⟨bs, h1, _, h3⟩ := items_of_own h
  exact h1.sl fun b hb => h.block b (h3 b hb)
/-- Two lists of the call's own that lie apart make an answer. -/
theorem QK.of_own {t : TypeId} {w : World} {B n c m d : Nat} {A E : Option Addr} {us zs : List Tmr} (h1 : OwnF t 4 tcell w B A n c us) (h2 : OwnF t 4 tcell w B E m d zs) (hd : ∀ r, A.map (·.block) = some r → E.map (·.block) ≠ some r) : QK B w.heap.size A n us E m zs w := by
  obtain ⟨bs, f1, n1, k1⟩ := items_of_own h1
  obtain ⟨cs, f2, n2, k2⟩ := items_of_own h2
  refine ⟨bs, cs, f1, f2, List.nodup_append.2 ⟨n1, n2, fun a ha b hb e => ?_⟩, fun b hb => ?_⟩
  · subst e; exact hd a (k1 a ha) (k2 a hb)
  · rcases List.mem_append.1 hb with hb | hb
    · exact h1.block b (k1 b hb)
    · exact h2.block b (k2 b hb)
theorem OnlyB.monoB {bs cs : List Nat} {w w' : World} (h : OnlyB bs w w') (k : ∀ b ∈ bs, b ∈ cs) : OnlyB cs w w' := ⟨h.os, h.tape, h.output, h.size, fun b hb hn => h.block b hb fun hx => hn (k b hx)⟩
theorem OnlyB.below_ {bs : List Nat} {w w' : World} (h : Below w.heap.size w w') : OnlyB bs w w' := ⟨h.os, h.tape, h.output, h.size, fun b hb _ => h.block b hb⟩
theorem SameB.of_onlyB_ {bs cs : List Nat} {w w' : World} (h : OnlyB bs w w') (hd : ∀ b ∈ cs, b ∉ bs) (hl : ∀ b ∈ cs, b < w.heap.size) : SameB cs w w' := fun b hb => h.block b (hl b hb) (hd b hb)
theorem SameB.below_ {bs : List Nat} {w w' : World} (h : Below w.heap.size w w') (hl : ∀ b ∈ bs, b < w.heap.size) : SameB bs w w' := fun b hb => h.block b (hl b hb)

set_option maxRecDepth 100000 in
set_option maxHeartbeats 1600000 in
theorem szQueue_any (cap : Int) (mk : Bool) (A : Option Addr) (n c : Nat) (left : Int) (w : World) (hn : n ≤ maxLen) (h0 : 0 ≤ left) (h1 : left ≤ 1048576) :
    Calls Try.prog 221 #[.agg #[.int .i64 cap, .bool mk, .slice A n c], .int .i64 left] w fun e w' => e = .returned (.int .i64 (if left - n < 0 then -1 else left - n)) ∧ Below w.heap.size w w' := by
  by_cases h : left - n < 0
  · have HB := Lib.hid (Below.refl w.heap.size w)
    have HR : Hid ((if left - (n : Int) < 0 then -1 else left - n) = -1) := Lib.hid (if_pos h)
    go_enter Try.func221, Try.ntmps221
    go_wp2_with fail
    refine Calls.name ?_
    intro U1 hU1
    have hb : Below w.heap.size w U1 := by rw [hU1]; exact ((Below.refl _ _).alloc (Nat.le_refl _) _)
    have zz : Hid (w.heap.size + 1 = U1.heap.size) := Lib.hid (by rw [hU1]; simp)
    have HX1 : Kept w.heap.size (w.heap.size + 1) (BoxK w.heap.size 293 #[.int .i64 cap, .bool mk, .slice A n c]) U1 := by rw [hU1]; exact Kept.box (Box.made_at _ _ _ rfl)
    replace HB := Lib.hid (below_step HB.out hb)
    clear hb
    have Z1 := zz; clear zz
    clear hU1
    refine (szItemS_any A n c left _ h0 h1 hn).mono ?_
    rw [HR.out]
    rintro e w2 ⟨rfl, rfl⟩
    have l2_0 := HX1.bx.lt
    go_wp2
    clear l2_0
    go_ret
    exact ⟨rfl, HB.out⟩
  · have HB := Lib.hid (Below.refl w.heap.size w)
    have HR : Hid ((if left - (n : Int) < 0 then -1 else left - n) = left - n) := Lib.hid (if_neg h)
    go_enter Try.func221, Try.ntmps221
    go_wp2_with fail
    refine Calls.name ?_
    intro U1 hU1
    have hb : Below w.heap.size w U1 := by rw [hU1]; exact ((Below.refl _ _).alloc (Nat.le_refl _) _)
    have zz : Hid (w.heap.size + 1 = U1.heap.size) := Lib.hid (by rw [hU1]; simp)
    have HX1 : Kept w.heap.size (w.heap.size + 1) (BoxK w.heap.size 293 #[.int .i64 cap, .bool mk, .slice A n c]) U1 := by rw [hU1]; exact Kept.box (Box.made_at _ _ _ rfl)
    replace HB := Lib.hid (below_step HB.out hb)
    clear hb
    have Z1 := zz; clear zz
    clear hU1
    refine (szItemS_any A n c left _ h0 h1 hn).mono ?_
    rw [HR.out]
    rintro e w2 ⟨rfl, rfl⟩
    have l2_0 := HX1.bx.lt
    go_wp2
    clear l2_0
    go_ret
    exact ⟨rfl, HB.out⟩

set_option maxRecDepth 100000 in
set_option maxHeartbeats 1600000 in
theorem toQueue_any (q : Bool) (lo hi : Nat) (cap : Int) (mk : Bool) (A : Option Addr) (n c : Nat) (ys : List Tmr) (w : World) (ha : Rep.timer.Sl q lo hi w A n ys) (hh : hi ≤ w.heap.size) (hn : n ≤ 1048576) :
    Calls Try.prog 226 #[.agg #[.int .i64 cap, .bool mk, .slice A n c]] w fun e w' => ∃ P, e = .returned (.agg #[.int .i64 cap, .bool mk, .slice P n n]) ∧ Kept w.heap.size w'.heap.size (SlK Rep.timer true w.heap.size w'.heap.size P n ys) w' ∧ Below w.heap.size w w' := by
  have HB := Lib.hid (Below.refl w.heap.size w)
  have HA := Rep.Sl.kept ha hh
  clear ha
  go_enter Try.func226, Try.ntmps226
  go_wp2_with fail
  refine Calls.name ?_
  intro U1 hU1
  have hb : Below w.heap.size w U1 := by rw [hU1]; exact ((((Below.refl _ _).alloc (Nat.le_refl _) _).alloc (by simp <;> omega) _).alloc (by simp <;> omega) _)
  have zz : Hid (w.heap.size + 3 = U1.heap.size) := Lib.hid (by rw [hU1]; simp)
  have HX1 : Kept w.heap.size (w.heap.size + 1) (BoxK w.heap.size 293 #[.int .i64 cap, .bool mk, .slice A n c]) U1 := by rw [hU1]; exact Kept.box (((Box.made_at _ _ _ rfl).over _).over _)
  have HX2 : Kept (w.heap.size + 1) (w.heap.size + 1 + 1) (BoxK (w.heap.size + 1) 59 #[.int .i64 0, .bool false, .slice none 0 0]) U1 := by rw [hU1]; exact Kept.box ((Box.made_at _ _ _ (by simp <;> omega)).over _)
  have HX3 : Kept (w.heap.size + 1 + 1) (w.heap.size + 1 + 1 + 1) (BoxK (w.heap.size + 1 + 1) 59 #[.int .i64 cap, .bool mk, .slice none 0 0]) U1 := by rw [hU1]; exact Kept.box (Box.made_at _ _ _ (by simp <;> omega))
  replace HA := HA.below hb
  replace HB := Lib.hid (below_step HB.out hb)
  clear hb
  have Z1 := zz; clear zz
  clear hU1
  refine (toItemS_any q lo hi A n c ys _ HA.sl HA.le hn).mono ?_
  rintro e w2 ⟨rfl, hs, hlt, hb⟩
  have Z2 := Lib.hid hb.size
  replace HA := HA.below hb
  replace HX1 := HX1.below hb
  replace HX2 := HX2.below hb
  replace HX3 := HX3.below hb
  replace HB := Lib.hid (below_step HB.out hb)
  clear hb
  have HS := Rep.Sl.kept hs hlt; clear hs hlt
  have c2_0 := HX2.look 0
  have c2_1 := HX2.look 1
  have c2_2 := HX2.look 2
  have c2_3 := HX3.look 0
  have c2_4 := HX3.look 1
  have c2_5 := HX3.look 2
  have f2_0 := HX2.free 0
  have f2_1 := HX2.free 1
  have f2_2 := HX2.free 2
  have f2_3 := HX3.free 2
  have l2_0 := HX1.bx.lt
  have l2_1 := HX2.bx.lt
  have l2_2 := HX3.bx.lt
  have n2_0_1 : ¬ (w.heap.size + 1) = (w.heap.size + 1 + 1) := (by have := Z1.out; have := Z2.out; omega)
  have m2_0_1 : ¬ (w.heap.size + 1 + 1) = (w.heap.size + 1) := (by have := Z1.out; have := Z2.out; omega)
  go_wp2
  clear c2_0 c2_1 c2_2 c2_3 c2_4 c2_5 f2_0 f2_1 f2_2 f2_3 l2_0 l2_1 l2_2 n2_0_1 m2_0_1
  obtain ⟨U3, hU3⟩ : ∃ W : World, W = (w2.setCell ⟨w.heap.size + 1 + 1, 2, none⟩ (.slice (some ⟨U1.heap.size, 0, none⟩) n n)) := ⟨_, rfl⟩
  have ho : Only (w.heap.size + 1 + 1) (w.heap.size + 1 + 1 + 1) w2 U3 := by rw [hU3]; exact ((Only.refl _ _ _).set (p := ⟨w.heap.size + 1 + 1, 2, none⟩) (Nat.le_refl _) (Nat.lt_succ_self _) _)
  replace HX3 : Kept (w.heap.size + 1 + 1) (w.heap.size + 1 + 1 + 1) (BoxK (w.heap.size + 1 + 1) 59 #[.int .i64 cap, .bool mk, .slice (some ⟨U1.heap.size, 0, none⟩) n n]) U3 := by rw [hU3]; exact Kept.box (HX3.bx.puts 2 (.slice (some ⟨U1.heap.size, 0, none⟩) n n) (cs' := #[.int .i64 cap, .bool mk, .slice (some ⟨U1.heap.size, 0, none⟩) n n]) rfl)
  replace HA := HA.only ho (by have := Z1.out; have := Z2.out; omega)
  replace HX1 := HX1.only ho (by have := Z1.out; have := Z2.out; omega)
  replace HX2 := HX2.only ho (by have := Z1.out; have := Z2.out; omega)
  replace HS := HS.only ho (by have := Z1.out; have := Z2.out; omega)
  replace HB := Lib.hid (Below.only HB.out ho (by have := Z1.out; have := Z2.out; omega) HB.out.size)
  have Z3 : Hid (U3.heap.size = w2.heap.size) := Lib.hid (by rw [hU3]; simp [World.setCell]); clear ho
  obtain ⟨U4, hU4⟩ : ∃ W : World, W = (((U3.setCell ⟨w.heap.size + 1, 0, none⟩ (.int .i64 cap)).setCell ⟨w.heap.size + 1, 1, none⟩ (.bool mk)).setCell ⟨w.heap.size + 1, 2, none⟩ (.slice (some ⟨U1.heap.size, 0, none⟩) n n)) := ⟨_, rfl⟩
  have ho : Only (w.heap.size + 1) (w.heap.size + 1 + 1) U3 U4 := by rw [hU4]; exact ((((Only.refl _ _ _).set (p := ⟨w.heap.size + 1, 0, none⟩) (Nat.le_refl _) (Nat.lt_succ_self _) _).set (p := ⟨w.heap.size + 1, 1, none⟩) (Nat.le_refl _) (Nat.lt_succ_self _) _).set (p := ⟨w.heap.size + 1, 2, none⟩) (Nat.le_refl _) (Nat.lt_succ_self _) _)
  replace HX2 : Kept (w.heap.size + 1) (w.heap.size + 1 + 1) (BoxK (w.heap.size + 1) 59 #[.int .i64 cap, .bool mk, .slice (some ⟨U1.heap.size, 0, none⟩) n n]) U4 := by rw [hU4]; exact Kept.box (((HX2.bx.puts 0 (.int .i64 cap) (cs' := #[.int .i64 cap, .bool false, .slice none 0 0]) rfl).puts 1 (.bool mk) (cs' := #[.int .i64 cap, .bool mk, .slice none 0 0]) rfl).puts 2 (.slice (some ⟨U1.heap.size, 0, none⟩) n n) (cs' := #[.int .i64 cap, .bool mk, .slice (some ⟨U1.heap.size, 0, none⟩) n n]) rfl)
  replace HA := HA.only ho (by have := Z1.out; have := Z2.out; have := Z3.out; omega)
  replace HX1 := HX1.only ho (by have := Z1.out; have := Z2.out; have := Z3.out; omega)
  replace HX3 := HX3.only ho (by have := Z1.out; have := Z2.out; have := Z3.out; omega)
  replace HS := HS.only ho (by have := Z1.out; have := Z2.out; have := Z3.out; omega)
  replace HB := Lib.hid (Below.only HB.out ho (by have := Z1.out; have := Z2.out; have := Z3.out; omega) HB.out.size)
  have Z4 : Hid (U4.heap.size = U3.heap.size) := Lib.hid (by rw [hU4]; simp [World.setCell]); clear ho
  have q_0 := HX2.look 0
  have q_1 := HX2.look 1
  have q_2 := HX2.look 2
  subst hU4 hU3
  exact bodyPost_ret (v := .agg #[.int .i64 cap, .bool mk, .slice (some ⟨U1.heap.size, 0, none⟩) n n]) (by simp [results, Try.results226, go_sem, q_0, q_1, q_2]) rfl ⟨_, rfl, Rep.Sl.kept (HS.sl.mono (by have := Z1.out; have := Z2.out; omega) (by have := HS.le; omega)) (Nat.le_refl _), HB.out⟩

set_option maxRecDepth 100000 in
set_option maxHeartbeats 1600000 in
theorem eqQueue_yes (cap : Int) (mk : Bool) (q1 q2 : Bool) (l1 h1 l2 h2 : Nat) (A B : Option Addr) (n c d : Nat) (ys : List Tmr) (w : World) (ha : Rep.timer.Sl q1 l1 h1 w A n ys) (hb : Rep.timer.Sl q2 l2 h2 w B n ys) (hh1 : h1 ≤ w.heap.size) (hh2 : h2 ≤ w.heap.size) (hn : n ≤ 1048576) :
    Calls Try.prog 230 #[.agg #[.int .i64 cap, .bool mk, .slice A n c], .agg #[.int .i64 cap, .bool mk, .slice B n d]] w fun e w' => e = .returned (.bool true) ∧ Below w.heap.size w w' := by
  have HB := Lib.hid (Below.refl w.heap.size w)
  have HA := Rep.Sl.kept ha hh1
  have HC := Rep.Sl.kept hb hh2
  clear ha hb
  go_enter Try.func230, Try.ntmps230
  go_wp2_with fail
  refine Calls.name ?_
  intro U1 hU1
  have hb : Below w.heap.size w U1 := by rw [hU1]; exact (((Below.refl _ _).alloc (Nat.le_refl _) _).alloc (by simp <;> omega) _)
  have zz : Hid (w.heap.size + 2 = U1.heap.size) := Lib.hid (by rw [hU1]; simp)
  have HX1 : Kept w.heap.size (w.heap.size + 1) (BoxK w.heap.size 59 #[.int .i64 cap, .bool mk, .slice A n c]) U1 := by rw [hU1]; exact Kept.box ((Box.made_at _ _ _ rfl).over _)
  have HX2 : Kept (w.heap.size + 1) (w.heap.size + 1 + 1) (BoxK (w.heap.size + 1) 59 #[.int .i64 cap, .bool mk, .slice B n d]) U1 := by rw [hU1]; exact Kept.box (Box.made_at _ _ _ (by simp <;> omega))
  replace HA := HA.below hb
  replace HC := HC.below hb
  replace HB := Lib.hid (below_step HB.out hb)
  clear hb
  have Z1 := zz; clear zz
  clear hU1
  refine (eqItemS_yes q1 q2 l1 h1 l2 h2 A B n c d ys _ HA.sl HC.sl HA.le HC.le hn).mono ?_
  rintro e w2 ⟨rfl, hb⟩
  have Z2 := Lib.hid hb.size
  replace HA := HA.below hb
  replace HC := HC.below hb
  replace HX1 := HX1.below hb
  replace HX2 := HX2.below hb
  replace HB := Lib.hid (below_step HB.out hb)
  clear hb
  have l2_0 := HX1.bx.lt
  have l2_1 := HX2.bx.lt
  go_wp2
  clear l2_0 l2_1
  go_ret
  exact ⟨rfl, HB.out⟩

end Go.Proofs.Ytiffhjofabaflaa
