/-
  A timer is put into a dial. No statement is proved here.
-/
import Derived.Test.YtakplomopbnekaaDialHas
import Derived.Test.YtakplomopbnekaaPlace
namespace Go.Proofs.Ytakplomopbnekaa
open Go.RowKit Go.Shelf
set_option linter.unusedVariables false

/-- A dial's rows, with their room. -/
def DialC (lo hi : Nat) (w : World) (s : Nat → Value) (ys : Nat → List Tmr) : Prop := ∀ k, k < 24 → ∃ A c, s k = .slice A (ys k).length c ∧ (ys k).length ≤ c ∧ (A = none → c = 0) ∧ Rep.timer.Sl false lo hi w A (ys k).length (ys k)
theorem DialC.din {lo hi : Nat} {w : World} {s : Nat → Value} {ys : Nat → List Tmr} (h : DialC lo hi w s ys) : DialIn lo hi w s ys := fun k hk => by
  obtain ⟨A, c, h1, _, _, h2⟩ := h k hk
  exact ⟨A, c, h1, h2⟩
theorem DialC.below {lo hi : Nat} {w w' : World} {s : Nat → Value} {ys : Nat → List Tmr} (h : DialC lo hi w s ys) (hb : Below w.heap.size w w') (hh : hi ≤ w.heap.size) : DialC lo hi w' s ys := fun k hk => by
  obtain ⟨A, c, h1, h2, h3, h4⟩ := h k hk
  exact ⟨A, c, h1, h2, h3, h4.below hb hh⟩
theorem DialC.mono {lo hi lo' hi' : Nat} {w : World} {s : Nat → Value} {ys : Nat → List Tmr} (h : DialC lo hi w s ys) (l : lo' ≤ lo) (u : hi ≤ hi') : DialC lo' hi' w s ys := fun k hk => by
  obtain ⟨A, c, h1, h2, h3, h4⟩ := h k hk
  exact ⟨A, c, h1, h2, h3, h4.mono l u⟩
theorem DialC.zero (lo hi : Nat) (w : World) : DialC lo hi w (fun _ => .slice none 0 0) (fun _ => []) := fun k hk => ⟨none, 0, rfl, Nat.le_refl _, fun _ => rfl, Rep.Sl_nil _ _ _ _ _ _⟩

theorem clip_any (A : Option Addr) (n c : Nat) (w : World) (hc : n ≤ c) (hA : A = none → c = 0) :
    Calls Try.prog 134 #[.slice A n c] w fun e w' => e = .returned (.slice A n n) ∧ w' = w := by
  go_enter Try.func134, Try.ntmps134
  cases A with
  | none =>
    obtain rfl := hA rfl
    obtain rfl : n = 0 := by omega
    go_wp2
    go_ret
    exact ⟨rfl, rfl⟩
  | some ad =>
    go_wp2
    go_ret
    exact ⟨by simp, rfl⟩

/-- A timer's place, from its level and its place there. -/
theorem poV_split {now due : Int} (h : poC now due = 0) : ∃ q r : Nat, q < 3 ∧ r < 8 ∧ poV now due = ((8 * q + r : Nat) : Int) := by
  have hb := placeV_bd now due
  have hv : poV now due = placeV now due := by
    unfold poC at h
    by_cases ho : poOk now due
    · exact if_pos ho
    · rw [if_neg ho] at h; omega
  refine ⟨(placeV now due).toNat / 8, (placeV now due).toNat % 8, by omega, by omega, by rw [hv]; omega⟩
def putY (ys : Nat → List Tmr) (p : Nat) (t : Tmr) : Nat → List Tmr := fun k => if k = p then ys k ++ [t] else ys k
def putS (s : Nat → Value) (p : Nat) (v : Value) : Nat → Value := fun k => if k = p then v else s k
theorem dialCells_set (now : Int) (s : Nat → Value) (p : Nat) (v : Value) (h : p < 24) : (dialCells now s).setIfInBounds (1 + p) v = dialCells now (putS s p v) := by
  rcases (show p = 0 ∨ p = 1 ∨ p = 2 ∨ p = 3 ∨ p = 4 ∨ p = 5 ∨ p = 6 ∨ p = 7 ∨ p = 8 ∨ p = 9 ∨ p = 10 ∨ p = 11 ∨ p = 12 ∨ p = 13 ∨ p = 14 ∨ p = 15 ∨ p = 16 ∨ p = 17 ∨ p = 18 ∨ p = 19 ∨ p = 20 ∨ p = 21 ∨ p = 22 ∨ p = 23 by omega) with h | h | h | h | h | h | h | h | h | h | h | h | h | h | h | h | h | h | h | h | h | h | h | h <;> subst h <;> rfl

set_option maxRecDepth 100000 in
/-- A timer is appended to a full slice: a new row, and the old one is let alone. -/
theorem step_growsT {ops : Array Oper} {o : Oper} {a : Act} {Q : Exit → Act → World → Prop} {w : World} {A : Option Addr} {n d : Nat} {zs : List Tmr} {t : Tmr} {ad : Addr} {K : Act → World → Prop} {E' : Prop}
    (hgd : o.guard = none) (s x : Operand) (ho : o.op = .call { callee := .builtin .append, args := #[s, x], argTypes := #[29, 29] })
    (hs : a.eval s = .slice A n n) (hA : InF 4 tcell w A n zs) (hnone : A = none → n = 0) (hx : a.eval x = .slice (some ad) 1 d) (hE : ∀ j u, (tcell t)[j]? = some u → w.cell? (ad.add j) = some u) (hl : n + 1 ≤ 1048576)
    (h : ∀ g c' w', OwnF 36 4 tcell w' w.heap.size (some ⟨g, 0, none⟩) (n + 1) c' (zs ++ [t]) → w.grownBy w' none → n + 1 ≤ c' → K (a.put o.dst (.slice (some ⟨g, 0, none⟩) (n + 1) c')) w') :
    if Region.wanted o (yielded ops a.tmps) = true then Oper.wp Try.prog o a w K Q else E' := by
  rw [if_pos (by simp [Region.wanted, hgd])]
  obtain ⟨i0, hi, hz0, hz1, hz2⟩ := info_parts timerInfo
  have hlo : (zs.flatMap tcell).length = n * 4 := by rw [flat_len tcell_len, hA.1]
  have key : ∃ v' w', (Builtin.append_ #[29, 29] o.type #[.slice A n n, .slice (some ad) 1 d]).run Try.prog w = .ok v' w' ∧ w'.ownsRow w.heap.size 36 4 v' (n + 1) (zs.flatMap tcell ++ tcell t) ∧ w.grownBy w' none := by
    cases A with
    | some b =>
      refine run_append_arg_grows (P := Try.prog) w 29 o.type 36 i0 _ 4 _ Try.underlying29 hi hz0 hz1 hz2 rfl (by omega) b n n _ hlo (fun j u hj => ?_) ad 1 d (tcell t) rfl hE (by omega) (by unfold maxLen; omega) (by omega)
      have hn : 0 < n := by
        rcases Nat.eq_zero_or_pos n with h0 | h0
        · subst h0
          have : zs = [] := List.eq_nil_of_length_eq_zero hA.1
          subst this; simp at hj
        · exact h0
      obtain ⟨b', o', e, h2⟩ := hA.2 hn
      injection e with e
      subst e
      rw [Addr.add_lit]
      exact h2 j u hj
    | none =>
      obtain rfl := hnone rfl
      obtain rfl : zs = [] := List.eq_nil_of_length_eq_zero hA.1
      obtain ⟨v', w', hrun, r1, r2, _⟩ := run_append_own (P := Try.prog) w w.heap.size 29 o.type 36 i0 _ 4 _ Try.underlying29 hi hz0 hz1 hz2 rfl (by omega) (.slice none 0 0) 0 [] (World.ownsRow_nil w _ 36 4) ad 1 d (tcell t) rfl hE (tcell_one t) (by unfold maxLen; omega) (by omega) (Nat.le_refl _)
      exact ⟨v', w', hrun, r1, r2⟩
  obtain ⟨v', w', hrun, r1, r2⟩ := key
  obtain ⟨g, cap, rfl, _, _⟩ := r1.form (by omega)
  have hcap : n + 1 ≤ cap := by
    rcases r1.2 with ⟨h', _⟩ | ⟨g', cap', cur, h', _, _, hnc, _⟩
    · cases h'
    · injection h' with _ _ h3; omega
  unfold Oper.wp execOp
  simp only [ho, resolve, invoke, builtin, Sem.run_bind, Sem.run_pure, Result.andThen_ok, List.map_toArray, List.map_cons, List.map_nil, hs, hx, hrun]
  exact h g cap w' ⟨by simp [hA.1], by rw [List.flatMap_append, List.flatMap_singleton]; exact r1⟩ r2 hcap

theorem ires_val2 (a b : Value) (W : World) : (Instr.field 52 (.agg #[a, b]) 1).run Try.prog W = .ok b W := by kernel_rfl
section
attribute [local go_sem] Oper.semAt_some ires_val2

set_option maxRecDepth 100000 in
set_option maxHeartbeats 4000000 in
theorem with_any2 (now : Int) (s : Nat → Value) (ys : Nat → List Tmr) (lo hi : Nat) (t : Tmr) (w : World) (hs : DialC lo hi w s ys) (hlo : lo ≤ w.heap.size) (hh : hi ≤ w.heap.size) (hp : poC now t.due = 0) (hm : ∀ k, k < 24 → (ys k).length ≤ 40000) :
    Calls Try.prog 77 #[.agg (dialCells now s), .agg #[.int .i64 t.typ, .int .i64 t.id, .int .i64 t.adv, .int .i64 t.due]] w fun e w' => ∃ s', e = .returned (.agg (dialCells now s')) ∧ DialC lo w'.heap.size w' s' (putY ys (poV now t.due).toNat t) ∧ (∃ p g' c', s' = putS s p (.slice (some ⟨g', 0, none⟩) ((ys p).length + 1) c') ∧ w.heap.size ≤ g' ∧ g' < w'.heap.size) ∧ Below w.heap.size w w' := by
  obtain ⟨q, r, hq, hr, hpv⟩ := poV_split hp
  have HS := Lib.hid hs
  have HM := Lib.hid hm
  have HPV := Lib.hid hpv
  have HPC := Lib.hid hp
  clear hs hm hpv hp
  go_enter Try.func77, Try.ntmps77
  go_upto_region 1 with (fail)
  refine Code.wp_name ?_
  intro V hV
  have HX : Hid (Box V w.heap.size 112 (dialCells now s)) := Lib.hid (by rw [hV]; exact ((Box.made _ _ _).over _).over _)
  have HT : Hid (Box V (w.heap.size + 1) 36 #[.int .i64 t.typ, .int .i64 t.id, .int .i64 t.adv, .int .i64 t.due]) := Lib.hid (by rw [hV]; exact (Box.made_at _ _ _ (by simp)).over _)
  have HR : Hid (Box V (w.heap.size + 2) 112 (dialCells 0 fun _ => .slice none 0 0)) := Lib.hid (by rw [hV]; exact Box.made_at _ _ _ (by simp))
  have HB : Hid (Below w.heap.size w V) := Lib.hid (by rw [hV]; exact (((Below.refl _ _).alloc (Nat.le_refl _) _).alloc (by simp) _).alloc (by simp; omega) _)
  have HZ : Hid (w.heap.size + 3 = V.heap.size) := Lib.hid (by rw [hV]; simp)
  clear hV
  have c0 := (HX.out.look 0).trans (show _ = some (Value.int .i64 now) from rfl)
  have d3 := HT.out.look 3
  have hxl := HX.out.lt
  have htl := HT.out.lt
  go_wp2_with fail
  refine (placeOf_any now t.due _).mono ?_
  rw [HPC.out, HPV.out]
  rintro e w1 ⟨rfl, hb1⟩
  have HX1 := Lib.hid (HX.out.below hb1)
  have HT1 := Lib.hid (HT.out.below hb1)
  have HR1 := Lib.hid (HR.out.below hb1)
  have HB1 := Lib.hid (below_step HB.out hb1)
  have HS1 := Lib.hid ((HS.out.below HB.out hh).below hb1 (Nat.le_trans hh HB.out.size))
  have HZ1 : Hid (w.heap.size + 3 ≤ w1.heap.size) := Lib.hid (by have := HZ.out; have := hb1.size; omega)
  clear hb1 HX HT HR HB c0 d3 hxl htl HZ
  have hq8 : Int.tdiv (8 * (q : Int) + (r : Int)) 8 = q := by rw [Int.tdiv_eq_ediv_of_nonneg (by omega)]; omega
  have hr8 : Int.tmod (8 * (q : Int) + (r : Int)) 8 = r := by rw [Int.tmod_eq_emod_of_nonneg (by omega)]; omega
  have hq3 : (q : Int) < 3 := by omega
  have hr3 : (r : Int) < 8 := by omega
  go_upto_region 3 with (fail)
  clear hq8 hr8 hq3 hr3
  have hpl : q * 8 + r < 24 := by omega
  obtain ⟨A, c, hsk, hcm, hcA, hsl⟩ := HS1.out (q * 8 + r) hpl
  have HSK := Lib.hid hsk
  have HML := Lib.hid (HM.out (q * 8 + r) hpl)
  have HH1 : Hid (hi ≤ w1.heap.size) := Lib.hid (Nat.le_trans hh HB1.out.size)
  have HSL := Rep.Sl.kept hsl HH1.out
  clear hsk hsl
  have SB : Hid (∀ W, Hid (Below w1.heap.size w1 W) → (fun W : World => W.cell? ⟨w.heap.size + 1, 0, none⟩ = some (.int .i64 t.typ) ∧ W.cell? ⟨w.heap.size + 1, 1, none⟩ = some (.int .i64 t.id) ∧ W.cell? ⟨w.heap.size + 1, 2, none⟩ = some (.int .i64 t.adv) ∧ W.cell? ⟨w.heap.size + 1, 3, none⟩ = some (.int .i64 t.due)) W) := fun W h =>
    ⟨(HT1.out.below h.out).look 0, (HT1.out.below h.out).look 1, (HT1.out.below h.out).look 2, (HT1.out.below h.out).look 3⟩
  have V0 : Hid (Below w1.heap.size w1 w1.drew) := (Below.refl _ _).drew
  refine wp_region_held_drew (S := (fun W : World => W.cell? ⟨w.heap.size + 1, 0, none⟩ = some (.int .i64 t.typ) ∧ W.cell? ⟨w.heap.size + 1, 1, none⟩ = some (.int .i64 t.id) ∧ W.cell? ⟨w.heap.size + 1, 2, none⟩ = some (.int .i64 t.adv) ∧ W.cell? ⟨w.heap.size + 1, 3, none⟩ = some (.int .i64 t.due))) (by kernel_rfl) ?_ (fun hHeld => ?_)
  · (try dsimp only); exact SB.out _ V0
  refine wpAnyH_take (i := 0) (v := ?va0) rfl (by kernel_rfl) (by kernel_rfl) (by kernel_rfl) (fun _ _ _ h => h) (Or.inl ⟨by rfl, ?hya0⟩) (by assumption) ?resta0
  case hya0 => (intro W hSw; (try dsimp only at hSw); obtain ⟨hS1, hS2, hS3, hS4⟩ := hSw; (go_simp <;> with_reducible rfl))
  (try simp only [List.getElem_toArray, List.getElem_cons_zero, Act.put, List.setIfInBounds_toArray, List.set_cons_zero, List.set_cons_succ])
  refine wpAnyH_take (i := 1) (v := ?va1) rfl (by kernel_rfl) (by kernel_rfl) (by kernel_rfl) (fun _ _ _ h => h) (Or.inl ⟨by rfl, ?hya1⟩) (by assumption) ?resta1
  case hya1 => (intro W hSw; (try dsimp only at hSw); obtain ⟨hS1, hS2, hS3, hS4⟩ := hSw; (go_simp <;> with_reducible rfl))
  (try simp only [List.getElem_toArray, List.getElem_cons_succ, List.getElem_cons_zero, Act.put, List.setIfInBounds_toArray, List.set_cons_zero, List.set_cons_succ])
  refine wpAnyH_take (i := 2) (v := ?va2) rfl (by kernel_rfl) (by kernel_rfl) (by kernel_rfl) (fun _ _ _ h => h) (Or.inl ⟨by rfl, ?hya2⟩) (by assumption) ?resta2
  case hya2 => (intro W hSw; (try dsimp only at hSw); obtain ⟨hS1, hS2, hS3, hS4⟩ := hSw; (go_simp <;> with_reducible rfl))
  (try simp only [List.getElem_toArray, List.getElem_cons_succ, List.getElem_cons_zero, Act.put, List.setIfInBounds_toArray, List.set_cons_zero, List.set_cons_succ])
  refine wpAnyH_take (i := 5) (v := ?va5) rfl (by kernel_rfl) (by kernel_rfl) (by kernel_rfl) (fun _ _ _ h => h) (Or.inl ⟨by rfl, ?hya5⟩) (by assumption) ?resta5
  case hya5 => (intro W hSw; (try dsimp only at hSw); obtain ⟨hS1, hS2, hS3, hS4⟩ := hSw; (go_simp <;> with_reducible rfl))
  (try simp only [List.getElem_toArray, List.getElem_cons_succ, List.getElem_cons_zero, Act.put, List.setIfInBounds_toArray, List.set_cons_zero, List.set_cons_succ])
  have VA : Hid (Below w1.heap.size w1 (w1.drew.alloc (.cells #[.int .i64 t.typ, .int .i64 t.id, .int .i64 t.adv, .int .i64 t.due] 36))) := V0.out.alloc (Nat.le_refl _) _
  have hld := (HX1.out.look (1 + q * 8 + r)).trans (by rw [Nat.add_assoc, dialCells_at _ _ _ hpl, HSK.out])
  have hlx := HX1.out.lt
  refine wpAnyH_ready (rs := [3, 6]) (by kernel_rfl) (by simp) ?_
  refine AllReadyH.cons rfl (fun K hK => ?ld) (AllReadyH.cons rfl (fun K hK => ?lit) AllReadyH.nil)
  case' ld =>
    go_simp
    refine hK.out _ _ ?_ (fun hHeld => ?_)
    · (try dsimp only); exact SB.out _ V0
    clear hK K
    (try simp only [List.getElem_toArray, List.getElem_cons_succ, List.getElem_cons_zero, Act.put, List.setIfInBounds_toArray, List.set_cons_zero, List.set_cons_succ])
    refine wpAnyH_ready (rs := [4, 6]) (by kernel_rfl) (by simp) ?_
    refine AllReadyH.cons rfl (fun K hK => ?clip) (AllReadyH.cons rfl (fun K hK => ?lit2) AllReadyH.nil)
  case' clip =>
    go_simp
    refine (clip_any A (ys (q * 8 + r)).length c _ hcm hcA).mono ?_
    rintro e u ⟨rfl, rfl⟩
    refine hK.out _ _ ?_ (fun hHeld => ?_)
    · (try dsimp only); exact SB.out _ V0
    clear hK K
    (try simp only [List.getElem_toArray, List.getElem_cons_succ, List.getElem_cons_zero, Act.put, List.setIfInBounds_toArray, List.set_cons_zero, List.set_cons_succ])
    refine wpAnyH_ready (rs := [6]) (by kernel_rfl) (by simp) ?_
    refine AllReadyH.cons rfl (fun K hK => ?_) AllReadyH.nil
    go_simp
    refine hK.out _ _ ?_ (fun hHeld => ?_)
    · (try dsimp only); exact SB.out _ VA
    clear hK K
    (try simp only [List.getElem_toArray, List.getElem_cons_succ, List.getElem_cons_zero, Act.put, List.setIfInBounds_toArray, List.set_cons_zero, List.set_cons_succ])
  case' lit2 =>
    go_simp
    refine hK.out _ _ ?_ (fun hHeld => ?_)
    · (try dsimp only); exact SB.out _ VA
    clear hK K
    (try simp only [List.getElem_toArray, List.getElem_cons_succ, List.getElem_cons_zero, Act.put, List.setIfInBounds_toArray, List.set_cons_zero, List.set_cons_succ])
    refine wpAnyH_ready (rs := [4]) (by kernel_rfl) (by simp) ?_
    refine AllReadyH.cons rfl (fun K hK => ?_) AllReadyH.nil
    go_simp
    refine (clip_any A (ys (q * 8 + r)).length c _ hcm hcA).mono ?_
    rintro e u ⟨rfl, rfl⟩
    refine hK.out _ _ ?_ (fun hHeld => ?_)
    · (try dsimp only); exact SB.out _ VA
    clear hK K
    (try simp only [List.getElem_toArray, List.getElem_cons_succ, List.getElem_cons_zero, Act.put, List.setIfInBounds_toArray, List.set_cons_zero, List.set_cons_succ])
  case' lit =>
    go_simp
    refine hK.out _ _ ?_ (fun hHeld => ?_)
    · (try dsimp only); exact SB.out _ VA
    clear hK K
    (try simp only [List.getElem_toArray, List.getElem_cons_succ, List.getElem_cons_zero, Act.put, List.setIfInBounds_toArray, List.set_cons_zero, List.set_cons_succ])
    refine wpAnyH_ready (rs := [3]) (by kernel_rfl) (by simp) ?_
    refine AllReadyH.cons rfl (fun K hK => ?_) AllReadyH.nil
    go_simp
    refine hK.out _ _ ?_ (fun hHeld => ?_)
    · (try dsimp only); exact SB.out _ VA
    clear hK K
    (try simp only [List.getElem_toArray, List.getElem_cons_succ, List.getElem_cons_zero, Act.put, List.setIfInBounds_toArray, List.set_cons_zero, List.set_cons_succ])
    refine wpAnyH_ready (rs := [4]) (by kernel_rfl) (by simp) ?_
    refine AllReadyH.cons rfl (fun K hK => ?_) AllReadyH.nil
    go_simp
    refine (clip_any A (ys (q * 8 + r)).length c _ hcm hcA).mono ?_
    rintro e u ⟨rfl, rfl⟩
    refine hK.out _ _ ?_ (fun hHeld => ?_)
    · (try dsimp only); exact SB.out _ VA
    clear hK K
    (try simp only [List.getElem_toArray, List.getElem_cons_succ, List.getElem_cons_zero, Act.put, List.setIfInBounds_toArray, List.set_cons_zero, List.set_cons_succ])
  all_goals
    have hLit : Box (w1.drew.alloc (.cells #[.int .i64 t.typ, .int .i64 t.id, .int .i64 t.adv, .int .i64 t.due] 36)) w1.heap.size 36 #[.int .i64 t.typ, .int .i64 t.id, .int .i64 t.adv, .int .i64 t.due] := Box.made w1.drew _ _
    have hA0 := HSL.below VA.out
    refine wpAnyH_ready (rs := [7]) (by kernel_rfl) (by simp) ?_
    refine AllReadyH.cons rfl (fun K hK => ?_) AllReadyH.nil
    refine step_growsT rfl (.tmp 24) (.tmp 26) rfl rfl (Rep.timer_inF hA0.sl) (fun h => by have := hcA h; omega) rfl (ad := ⟨w1.heap.size, 0, none⟩) (t := t) (fun j v hj => by rw [Addr.add_lit, Nat.zero_add]; exact (hLit.look j).trans (by simpa [tcell] using hj)) (by have := HML.out; omega) ?_
    intro g' c' u ho2 hg2 hc2
    have V2 : Hid (Below w1.heap.size w1 u) := Lib.hid (Below.grown VA.out hg2 VA.out.size (by simp))
    refine hK.out _ _ ?_ (fun hHeld => ?_)
    · (try dsimp only); exact SB.out _ V2
    clear hK K hA0 hLit hg2
    (try simp only [List.getElem_toArray, List.getElem_cons_succ, List.getElem_cons_zero, Act.put, List.setIfInBounds_toArray, List.set_cons_zero, List.set_cons_succ])
    refine wpAnyH_take (i := 8) (v := .pointer (some ⟨w.heap.size, 1 + q * 8 + r, none⟩)) rfl (by kernel_rfl) (by kernel_rfl) (by kernel_rfl) (fun _ _ _ h => h) (Or.inl ⟨by rfl, fun W hSw => ?_⟩) (by assumption) ?_
    · clear hSw; go_simp
    (try simp only [List.getElem_toArray, List.getElem_cons_succ, List.getElem_cons_zero, Act.put, List.setIfInBounds_toArray, List.set_cons_zero, List.set_cons_succ])
    have hXu := HX1.out.below V2.out
    have hRu := HR1.out.below V2.out
    have hcu := (hXu.look (1 + q * 8 + r)).trans (by rw [Nat.add_assoc, dialCells_at _ _ _ hpl, HSK.out])
    have hcf := hXu.free (1 + q * 8 + r)
    have hul := hXu.lt
    clear hld hlx
    refine wpAnyH_ready (rs := [9]) (by kernel_rfl) (by simp) ?_
    refine AllReadyH.cons rfl (fun K hK => ?_) AllReadyH.nil
    clear hHeld
    go_simp
    refine hK.out _ _ ?_ (fun hHeld => ?_)
    · (try dsimp only)
      have hTu := (HT1.out.below V2.out).aside (p := ⟨w.heap.size, 1 + q * 8 + r, none⟩) (by simp) (.slice (some ⟨g', 0, none⟩) ((ys (q * 8 + r)).length + 1) c')
      exact ⟨hTu.look 0, hTu.look 1, hTu.look 2, hTu.look 3⟩
    clear hK K hHeld hcu hcf hul
    (try simp only [List.getElem_toArray, List.getElem_cons_succ, List.getElem_cons_zero, Act.put, List.setIfInBounds_toArray, List.set_cons_zero, List.set_cons_succ])
    refine wpAnyH_done (by kernel_rfl) ?_ _
    have HXU := Lib.hid (hXu.puts (1 + q * 8 + r) (.slice (some ⟨g', 0, none⟩) ((ys (q * 8 + r)).length + 1) c') (cs' := dialCells now (putS s (q * 8 + r) (.slice (some ⟨g', 0, none⟩) ((ys (q * 8 + r)).length + 1) c'))) (by rw [Nat.add_assoc]; exact dialCells_set _ _ _ _ hpl))
    have HRU := Lib.hid (hRu.aside (p := ⟨w.heap.size, 1 + q * 8 + r, none⟩) (by simp) (.slice (some ⟨g', 0, none⟩) ((ys (q * 8 + r)).length + 1) c'))
    have HBU := Lib.hid ((below_step HB1.out V2.out).setCell (p := ⟨w.heap.size, 1 + q * 8 + r, none⟩) (Nat.le_refl _) (.slice (some ⟨g', 0, none⟩) ((ys (q * 8 + r)).length + 1) c'))
    have hgb := ho2.block g' rfl
    have hws : w.heap.size + 3 ≤ w1.heap.size := HZ1.out
    have HOU := Lib.hid (ho2.grown (setCell_grown u ⟨w.heap.size, 1 + q * 8 + r, none⟩ (.slice (some ⟨g', 0, none⟩) ((ys (q * 8 + r)).length + 1) c')) (.inr (by simp at hgb ⊢; omega)))
    have HSZ : Hid (u.heap.size = (u.setCell ⟨w.heap.size, 1 + q * 8 + r, none⟩ (.slice (some ⟨g', 0, none⟩) ((ys (q * 8 + r)).length + 1) c')).heap.size) := Lib.hid (by simp [World.setCell])
    obtain ⟨U, hU⟩ : ∃ U : World, U = u.setCell ⟨w.heap.size, 1 + q * 8 + r, none⟩ (.slice (some ⟨g', 0, none⟩) ((ys (q * 8 + r)).length + 1) c') := ⟨_, rfl⟩
    rw [← hU] at HXU HRU HBU HOU HSZ ⊢
    clear hU hXu hRu
    have HONE : Hid (∀ k, k < 24 → (putS s (q * 8 + r) (.slice (some ⟨g', 0, none⟩) ((ys (q * 8 + r)).length + 1) c') k).oneCell' = true) := Lib.hid (fun k hk => by
      unfold putS
      split
      · rfl
      · obtain ⟨E, d, e, _⟩ := HS.out k hk; rw [e]; rfl)
    have HHF : Hid (w.heap.size + 2 < g' ∧ g' < U.heap.size) := Lib.hid (by have := HSZ.out; simp at hgb; omega)
    obtain ⟨s', hs'⟩ : ∃ s', putS s (q * 8 + r) (.slice (some ⟨g', 0, none⟩) ((ys (q * 8 + r)).length + 1) c') = s' := ⟨_, rfl⟩
    have HS' := Lib.hid hs'
    rw [hs'] at HXU HONE
    clear hs' V2 VA V0 SB ho2 hgb
    go_wp2_with (first | (refine wpList_load_dial rfl _ rfl rfl HXU.out ?_) | (refine wpList_store_dial (now := 0) (now' := now) (s := fun _ => .slice none 0 0) (s' := s') rfl _ _ rfl rfl rfl HRU.out HONE.out ?_))
    have hR := (HRU.out.setRow (cs' := dialCells now s'))
    have hlv := loadVar_dial hR
    have hbf := HBU.out.grown (setRow_grown U (w.heap.size + 2) (dialCells now s')) HBU.out.size (fun k e => by injection e with e; omega)
    refine bodyPost_ret (v := .agg (dialCells now s')) (by simp [results, Try.results77, hlv, asAddr, Act.put]) rfl ⟨s', rfl, fun k hk => ?_, ⟨q * 8 + r, g', c', HS'.out.symm, by have := HHF.out.1; omega, by have := HHF.out.2; simp [World.setRow]; omega⟩, hbf⟩
    have hpn : (poV now t.due).toNat = q * 8 + r := by rw [HPV.out]; omega
    rw [hpn]
    have hval : ∀ k, s' k = putS s (q * 8 + r) (.slice (some ⟨g', 0, none⟩) ((ys (q * 8 + r)).length + 1) c') k := fun k => by rw [HS'.out]
    unfold putY
    by_cases hkp : k = q * 8 + r
    · subst hkp
      rw [if_pos rfl]
      have ho := HOU.out.grown (setRow_grown U (w.heap.size + 2) (dialCells now s')) (.inr (by have := HHF.out.1; simp; omega))
      have hsl := (Rep.Sl.unq (own_timers ho)).mono (lo' := lo) (by simp; omega) (Nat.le_refl _)
      have hlen : (ys (q * 8 + r) ++ [t]).length = (ys (q * 8 + r)).length + 1 := by simp
      rw [hlen]
      exact ⟨some ⟨g', 0, none⟩, c', (hval _).trans (by unfold putS; rw [if_pos rfl]), hc2, (fun h => by cases h), hsl⟩
    · rw [if_neg hkp]
      obtain ⟨E, d, e, h1, h2, h3⟩ := HS.out k hk
      exact ⟨E, d, (hval k).trans (by unfold putS; rw [if_neg hkp]; exact e), h1, h2, (h3.below hbf hh).mono (Nat.le_refl _) (Nat.le_trans hh hbf.size)⟩

theorem with_any (now : Int) (s : Nat → Value) (ys : Nat → List Tmr) (lo hi : Nat) (t : Tmr) (w : World) (hs : DialC lo hi w s ys) (hlo : lo ≤ w.heap.size) (hh : hi ≤ w.heap.size) (hp : poC now t.due = 0) (hm : ∀ k, k < 24 → (ys k).length ≤ 40000) :
    Calls Try.prog 77 #[.agg (dialCells now s), .agg #[.int .i64 t.typ, .int .i64 t.id, .int .i64 t.adv, .int .i64 t.due]] w fun e w' => ∃ s', e = .returned (.agg (dialCells now s')) ∧ DialC lo w'.heap.size w' s' (putY ys (poV now t.due).toNat t) ∧ Below w.heap.size w w' :=
  (with_any2 now s ys lo hi t w hs hlo hh hp hm).mono fun e w' ⟨s', h1, h2, _, h3⟩ => ⟨s', h1, h2, h3⟩

end
end Go.Proofs.Ytakplomopbnekaa
