/-
  slices.Clone of timers, and the wheel of a dial. No statement is proved here.
-/
import Derived.Test.YtakplomopbnekaaRowsO
import Derived.Test.YtakplomopbnekaaInRound
import Derived.Deep.RegionHeld3
namespace Go.Proofs.Ytakplomopbnekaa
open Go.RowKit Go.Shelf
set_option linter.unusedVariables false

theorem cloneTimers_any (q : Bool) (lo hi : Nat) (A : Option Addr) (n c : Nat) (ys : List Tmr) (w : World) (ha : Rep.timer.Sl q lo hi w A n ys) (hh : hi ≤ w.heap.size) (hn : n ≤ 1048576) :
    Calls Try.prog 131 #[.slice A n c] w fun e w' => ∃ B d, e = .returned (.slice B n d) ∧ OwnF 36 4 tcell w' w.heap.size B n d ys ∧ Below w.heap.size w w' := by
  cases A with
  | none =>
    have hm : n = 0 := by
      rcases Nat.eq_zero_or_pos n with h0 | h0
      · exact h0
      · obtain ⟨b, o, h, _⟩ := ha.2 h0; cases h
    subst hm
    have hy : ys = [] := List.eq_nil_of_length_eq_zero ha.1
    subst hy
    have hnil := fun W => Lib.run_eql_slice_nil (P := Try.prog) W 29 36 none 0 c 0 0 Try.underlying29
    clear ha
    go_enter Try.func131, Try.ntmps131
    go_wp2
    go_ret
    exact ⟨none, 0, rfl, OwnF.nil_ _ _ _ _ _, Below.refl _ _⟩
  | some ad =>
    have hb0 : Below w.heap.size w (w.alloc (.cells #[] 36)) := (Below.refl _ _).alloc (Nat.le_refl _) _
    have HN := Lib.hid (Rep.timer_inF (ha.below hb0 hh))
    have HE := Lib.hid (emptyF 36 4 tcell w)
    have HB := Lib.hid hb0
    have hnil := fun W => Lib.run_eql_slice_nil (P := Try.prog) W 29 36 (some ad) n c 0 0 Try.underlying29
    clear ha hb0
    go_enter Try.func131, Try.ntmps131
    go_wp2_with (at_builtin; refine wpList_appF0 tcell_len tcell_one Try.underlying29 timerInfo rfl (by decide) (by decide) rfl (.tmp 5) (.tmp 6) rfl (B := w.heap.size) rfl HE.out rfl HN.out (by omega) (by simp) ?_; intro A' c' w1 ho hg)
    go_ret
    rw [Nat.zero_add, List.nil_append] at ho
    have hbw := HB.out.grown hg (by simp) (fun k hk => by injection hk with hk; simp at hk; omega)
    exact ⟨A', c', rfl, ho, hbw⟩

theorem step_appF0 {α : Type} {size bytes : Nat} {f : α → List Value} {ts t : TypeId} {z : Value} {ops : Array Oper} {o : Oper} {a : Act} {Q : Exit → Act → World → Prop} {w : World} {B : Nat} {A E : Option Addr} {n c m d : Nat} {zs ys : List α} {K : Act → World → Prop} {E' : Prop} (hf : ∀ a, (f a).length = size) (hone : ∀ a, ∀ u ∈ f a, u.oneCell' = true) (hu : Try.prog.underlying ts = some (.slice t))
    (hinfo : (Try.prog.info? t).map (fun i => (i.zero, i.size, i.bytes)) = some (some z, size, bytes)) (hzc : z.cells.size = size) (hsz : 0 < size) (hby : bytes ≤ 1048576)
    (hgd : o.guard = none) (s x : Operand) (ho : o.op = .call { callee := .builtin .append, args := #[s, x], argTypes := #[ts, ts] })
    (hs : a.eval s = .slice A n c) (hown : OwnF t size f w B A n c zs) (hx : a.eval x = .slice E m d) (hE : InF size f w E m ys) (hl : n + m ≤ 1048576) (hB : B ≤ w.heap.size)
    (h : ∀ A' c' w', OwnF t size f w' B A' (n + m) c' (zs ++ ys) → w.grownBy w' (A.map (·.block)) → K (a.put o.dst (.slice A' (n + m) c')) w') :
    if Region.wanted o (yielded ops a.tmps) = true then Oper.wp Try.prog o a w K Q else E' := by
  rw [if_pos (by simp [Region.wanted, hgd])]
  exact wp_appF0 hf hone hu hinfo hzc hsz hby s x ho hs hown hx hE hl hB h

section
attribute [local go_sem] Oper.semAt_some

set_option maxRecDepth 100000 in
set_option maxHeartbeats 4000000 in
theorem wheel_any (now : Int) (s : Nat → Value) (ys : Nat → List Tmr) (lo hi : Nat) (w : World) (hs : DialIn lo hi w s ys) (hh : hi ≤ w.heap.size) (hm : ∀ k, k < 24 → (ys k).length ≤ 40000) :
    Calls Try.prog 73 #[.agg (dialCells now s)] w fun e w' => ∃ A c vs, e = .returned (.agg #[.int .i64 now, .slice A 24 c]) ∧ OwnF 29 1 scell w' w.heap.size A 24 c vs ∧ RowsO w' w.heap.size vs ((upto 24).map fun x => ys x.1) ∧ Below w.heap.size w w' := by
  have HS := Lib.hid hs
  have HM := Lib.hid hm
  clear hs hm
  have hmix : Try.prog.follows .mixedOrders = true := by kernel_rfl
  refine calls_of_marks Try.func73 rfl ?_
  simp only [Try.ntmps73, List.size_toArray, List.length_cons, List.length_nil, Nat.reduceAdd, Nat.reduceSub, Array.replicate_succ, Array.replicate_zero, List.push_toArray, List.append_toArray, List.nil_append, List.cons_append]
  go_upto_region 1 with (fail)
  refine Code.wp_name ?_
  intro V0 hV0
  have HX0 : Hid (Box V0 w.heap.size 112 (dialCells now s)) := Lib.hid (by rw [hV0]; exact (Box.made _ _ _).over _)
  have HR0 : Hid (Box V0 (w.heap.size + 1) 26 #[.int .i64 0, .slice none 0 0]) := Lib.hid (by rw [hV0]; exact Box.made_at _ _ _ (by simp))
  have HB0 : Hid (Below w.heap.size w V0) := Lib.hid (by rw [hV0]; exact ((Below.refl _ _).alloc (Nat.le_refl _) _).alloc (by simp) _)
  have HZ0 : Hid (w.heap.size + 2 = V0.heap.size) := Lib.hid (by rw [hV0]; simp)
  clear hV0
  have c0 := (HX0.out.look 0).trans (show _ = some (Value.int .i64 now) from rfl)
  go_upto_region 2 with (fail)
  clear c0
  refine Code.wp_name ?_
  intro V hV
  have HX : Hid (Box V w.heap.size 112 (dialCells now s)) := Lib.hid (by rw [hV]; exact HX0.out.over _)
  have HR : Hid (Box V (w.heap.size + 1) 26 #[.int .i64 0, .slice none 0 0]) := Lib.hid (by rw [hV]; exact HR0.out.over _)
  have HW : Hid (Box V V0.heap.size 26 #[.int .i64 now, .slice none 0 0]) := Lib.hid (by rw [hV]; exact Box.made _ _ _)
  have HB : Hid (Below w.heap.size w V) := Lib.hid (by rw [hV]; exact HB0.out.alloc HB0.out.size _)
  have HZ : Hid (V0.heap.size + 1 = V.heap.size) := Lib.hid (by rw [hV]; simp)
  clear hV HX0 HR0 HB0
  go_wp2_with (refine wpList_load_dial rfl _ rfl rfl HX.out ?_)
  refine (slots_any now s _).mono ?_
  rintro e w' ⟨rfl, rfl⟩
  go_wp2
  refine wp_range24 V.heap.size now s rfl (Box.made _ _ _) rfl
    (fun pre W => (∃ A c vs, Box W V0.heap.size 26 #[.int .i64 now, .slice A pre.length c] ∧ OwnF 29 1 scell W w.heap.size A pre.length c vs ∧ RowsO W w.heap.size vs (pre.map fun x => ys x.1)) ∧ Box W V.heap.size 112 (dialCells now s) ∧ Box W (w.heap.size + 1) 26 #[.int .i64 0, .slice none 0 0] ∧ Below w.heap.size w W) (fun _ _ _ => False)
    (fun pre W W' ⟨⟨A, c, vs, h1, h2, h5⟩, h3, h6, h4⟩ k => ⟨⟨A, c, vs, k.box h1, k.ownF h2, h5.calm k⟩, k.box h3, k.box h6, k.below h4 (by have := HZ.out; have := HZ0.out; simp; omega) (Nat.le_refl _)⟩) (fun _ _ _ _ h _ => h)
    ⟨⟨none, 0, [], HW.out.over _, OwnF.nil_ _ _ _ _ _, RowsO.nil _ _⟩, Box.made _ _ _, HR.out.over _, HB.out.alloc HB.out.size _⟩ ?a₁ ?assign ?body ?done ?stop
  case assign =>
    intro l x W K hK
    gi_wp2
    exact hK
  case body =>
    rintro l pre x W ⟨⟨A, c, vs, hb, ho, hro⟩, hX, hR, hB⟩ hlt
    obtain ⟨E, d, hs, hsl⟩ := HS.out x.1 x.2
    have hm := HM.out x.1 x.2
    rw [hs]
    have hE := hsl.below hB hh
    have hhW : hi ≤ W.heap.size := Nat.le_trans hh hB.size
    have hsz := hB.size
    have hlt1 := hb.lt
    have hlt2 := hX.lt
    generalize hmm : (ys x.1).length = m at hs hE hm
    have hc0 := hb.look 0
    have hc1 := hb.look 1
    gi_wp2
    refine wpIn_region_round (by kernel_rfl) (by kernel_rfl) (fun ⟨_, _, h⟩ => h) ?_
    refine wpAny_take (i := 0) (v := ?v0) rfl (by kernel_rfl) (by kernel_rfl) (by kernel_rfl) (fun _ _ _ h => h) (Or.inl ⟨by rfl, ?hy0⟩) ?rest0
    case hy0 => (intro W; (go_simp <;> with_reducible rfl))
    (try simp only [List.getElem_toArray, List.getElem_cons_zero, Act.put, List.setIfInBounds_toArray, List.set_cons_zero, List.set_cons_succ])
    refine wpAny_take (i := 2) (v := ?v2) rfl (by kernel_rfl) (by kernel_rfl) (by kernel_rfl) (fun _ _ _ h => h) (Or.inl ⟨by rfl, ?hy2⟩) ?rest2
    case hy2 => (intro W; (go_simp <;> with_reducible rfl))
    (try simp only [List.getElem_toArray, List.getElem_cons_succ, List.getElem_cons_zero, Act.put, List.setIfInBounds_toArray, List.set_cons_zero, List.set_cons_succ])
    refine wpAny_ready (rs := [1, 3]) (by kernel_rfl) (by simp) ?_
    refine AllReady.cons rfl (fun K hK => ?load) (AllReady.cons rfl (fun K hK => ?call) AllReady.nil)
    case' load =>
      go_simp
      refine hK _ _ ?_
      clear hK K
      (try simp only [List.getElem_toArray, List.getElem_cons_succ, List.getElem_cons_zero, Act.put, List.setIfInBounds_toArray, List.set_cons_zero, List.set_cons_succ])
      refine wpAny_ready (rs := [3]) (by kernel_rfl) (by simp) ?_
      refine AllReady.cons rfl (fun K hK => ?_) AllReady.nil
      go_simp
      refine (cloneTimers_any false lo hi E m d (ys x.1) W.drew (hE.keep fun _ _ _ => rfl) hhW (by omega)).mono ?_
      rintro e w1 ⟨E', d', rfl, ho1, hb1⟩
      have hb2 : Below W.heap.size W w1 := (show Below W.heap.size W W.drew from (Below.refl _ _).drew).trans hb1
      have hcw : w1.cell? ⟨V0.heap.size, 1, none⟩ = some (.slice A pre.length c) := (hb2.cell (p := ⟨V0.heap.size, 1, none⟩) hlt1).trans hc1
      have hcx : (w1.alloc (.cells #[.slice E' m d'] 29)).cell? ⟨V0.heap.size, 1, none⟩ = some (.slice A pre.length c) := (World.cell?_alloc_lt _ _ _ (World.block_lt_of_cell? _ _ hcw)).trans hcw
      go_wp2_with fail
      refine wpAny_ready (rs := [4]) (by kernel_rfl) (by simp) ?_
      refine AllReady.cons rfl (fun K hK => ?_) AllReady.nil
      go_simp
      refine hK _ _ ?_
      clear hK K
      (try simp only [List.getElem_toArray, List.getElem_cons_succ, List.getElem_cons_zero, Act.put, List.setIfInBounds_toArray, List.set_cons_zero, List.set_cons_succ])
    case' call =>
      go_simp
      refine (cloneTimers_any false lo hi E m d (ys x.1) W.drew (hE.keep fun _ _ _ => rfl) hhW (by omega)).mono ?_
      rintro e w1 ⟨E', d', rfl, ho1, hb1⟩
      have hb2 : Below W.heap.size W w1 := (show Below W.heap.size W W.drew from (Below.refl _ _).drew).trans hb1
      have hcw : w1.cell? ⟨V0.heap.size, 1, none⟩ = some (.slice A pre.length c) := (hb2.cell (p := ⟨V0.heap.size, 1, none⟩) hlt1).trans hc1
      have hcx : (w1.alloc (.cells #[.slice E' m d'] 29)).cell? ⟨V0.heap.size, 1, none⟩ = some (.slice A pre.length c) := (World.cell?_alloc_lt _ _ _ (World.block_lt_of_cell? _ _ hcw)).trans hcw
      go_wp2_with fail
      refine wpAny_ready (rs := [1, 4]) (by kernel_rfl) (by simp) ?_
      refine AllReady.cons rfl (fun K hK => ?load2) (AllReady.cons rfl (fun K hK => ?build2) AllReady.nil)
    case' load2 =>
      go_simp
      refine hK _ _ ?_
      clear hK K
      (try simp only [List.getElem_toArray, List.getElem_cons_succ, List.getElem_cons_zero, Act.put, List.setIfInBounds_toArray, List.set_cons_zero, List.set_cons_succ])
      refine wpAny_ready (rs := [4]) (by kernel_rfl) (by simp) ?_
      refine AllReady.cons rfl (fun K hK => ?_) AllReady.nil
      go_simp
      refine hK _ _ ?_
      clear hK K
      (try simp only [List.getElem_toArray, List.getElem_cons_succ, List.getElem_cons_zero, Act.put, List.setIfInBounds_toArray, List.set_cons_zero, List.set_cons_succ])
    case' build2 =>
      go_simp
      refine hK _ _ ?_
      clear hK K
      (try simp only [List.getElem_toArray, List.getElem_cons_succ, List.getElem_cons_zero, Act.put, List.setIfInBounds_toArray, List.set_cons_zero, List.set_cons_succ])
      refine wpAny_ready (rs := [1]) (by kernel_rfl) (by simp) ?_
      refine AllReady.cons rfl (fun K hK => ?_) AllReady.nil
      go_simp
      refine hK _ _ ?_
      clear hK K
      (try simp only [List.getElem_toArray, List.getElem_cons_succ, List.getElem_cons_zero, Act.put, List.setIfInBounds_toArray, List.set_cons_zero, List.set_cons_succ])
    all_goals refine wpAny_ready (rs := [5]) (by kernel_rfl) (by simp) ?_
    all_goals refine AllReady.cons rfl (fun K hK => ?_) AllReady.nil
    all_goals
      have ho2 : OwnF 29 1 scell (w1.alloc (.cells #[.slice E' m d'] 29)) w.heap.size A pre.length c vs := (ho.below hb2).below ((Below.refl _ _).alloc (Nat.le_refl _) _)
      refine step_appF0 (ys := [((E', m, d') : SlV)]) scell_len scell_one Try.underlying24 rowsInfo rfl (by decide) (by decide) rfl (.tmp 14) (.tmp 17) rfl (B := w.heap.size) rfl ho2 rfl (Box.inF (Box.made w1 29 #[.slice E' m d']) [((E', m, d') : SlV)] rfl) (by have := hlt; omega) (by have := hb2.size; simp; omega) ?_
      intro A' c' w2 ho3 hg3
      have hbb : Box (w1.alloc (.cells #[.slice E' m d'] 29)) V0.heap.size 26 #[.int .i64 now, .slice A pre.length c] := (hb.below hb2).over _
      have hbw := hbb.grown hg3 (ho2.ne_box hbb (by decide))
      have hcc := hbw.look 1
      have hff := hbw.free 1
      refine hK _ _ ?_
      clear hK K
      (try simp only [List.getElem_toArray, List.getElem_cons_succ, List.getElem_cons_zero, Act.put, List.setIfInBounds_toArray, List.set_cons_zero, List.set_cons_succ])
      refine wpAny_take (i := 6) (v := .pointer (some ⟨V0.heap.size, 1, none⟩)) rfl (by kernel_rfl) (by kernel_rfl) (by kernel_rfl) (fun _ _ _ h => h) (Or.inl ⟨by rfl, (by intro W; (go_simp <;> with_reducible rfl))⟩) ?_
      (try simp only [List.getElem_toArray, List.getElem_cons_succ, List.getElem_cons_zero, Act.put, List.setIfInBounds_toArray, List.set_cons_zero, List.set_cons_succ])
      refine wpAny_ready (rs := [7]) (by kernel_rfl) (by simp) ?_
      refine AllReady.cons rfl (fun K hK => ?_) AllReady.nil
      go_simp
      refine hK _ _ ?_
      clear hK K
      refine wpAny_done (by kernel_rfl) ?_ _
      have hszz := hb2.size
      have hg3s := hg3.size
      have hX1 : Box (w1.alloc (.cells #[.slice E' m d'] 29)) V.heap.size 112 (dialCells now s) := (hX.below hb2).over _
      have hR1 : Box (w1.alloc (.cells #[.slice E' m d'] 29)) (w.heap.size + 1) 26 #[.int .i64 0, .slice none 0 0] := (hR.below hb2).over _
      have hnA : ∀ r, A.map (·.block) = some r → ∀ cs, (w1.alloc (.cells #[.slice E' m d'] 29)).heap[r]? ≠ some (.cells cs 36 (0, 0)) := fun r hr cs h => by
        obtain ⟨cs', h'⟩ := ho2.typ hr
        rw [h'] at h
        simp at h
      have hro3 : RowsO w2 w.heap.size (vs ++ [((E', m, d') : SlV)]) ((pre ++ [x]).map fun x => ys x.1) := by
        rw [List.map_append]
        refine RowsO.grown (RowsO.below (RowsO.snoc (hro.below hb2) (ho1.mono hsz) (fun u hu r hr e => ?_)) ((Below.refl _ _).alloc (Nat.le_refl _) _)) hg3 hnA
        have h1 := (hro.blk u hu r hr).2.1
        have h2 := (ho1.block r e).1
        exact absurd h1 (Nat.not_lt.2 h2)
      have hX3 : Box (w2.setCell ⟨V0.heap.size, 1, none⟩ (.slice A' (pre.length + 1) c')) V.heap.size 112 (dialCells now s) := (hX1.grown hg3 (ho2.ne_box hX1 (by decide))).aside (by have := HZ.out; simp; omega) _
      have hR3 : Box (w2.setCell ⟨V0.heap.size, 1, none⟩ (.slice A' (pre.length + 1) c')) (w.heap.size + 1) 26 #[.int .i64 0, .slice none 0 0] := (hR1.grown hg3 (ho2.ne_box hR1 (by decide))).aside (by have := HZ0.out; simp; omega) _
      have hko : KeepsOthers W (w2.setCell ⟨V0.heap.size, 1, none⟩ (.slice A' (pre.length + 1) c')) :=
        ((((KeepsOthers.of_grownBy (grownBy_of_below hb2 none) (fun j o ej _ => by cases ej)).trans (KeepsOthers.alloc _ _)).trans (KeepsOthers.of_grownBy hg3 fun j o ej hj => ho2.cells j o ej hj)).trans (KeepsOthers.setCell _ _ _))
      have hbel : Below w.heap.size w (w2.setCell ⟨V0.heap.size, 1, none⟩ (.slice A' (pre.length + 1) c')) :=
        (((below_step hB hb2).alloc (Nat.le_trans hsz hszz) _).grown hg3 (by simp; omega) (fun k e => (ho2.block k e).1)).setCell (by have := HZ0.out; simp; omega) _
      refine ⟨hko.from _, (fun b hb' => by obtain rfl : b = V.heap.size := (by simpa using hb'); exact hX3.trans hX.symm), ⟨A', c', vs ++ [((E', m, d') : SlV)], ?_, ?_, ?_⟩, hX3, hR3, hbel⟩
      · rw [List.length_append]
        exact hbw.puts 1 (.slice A' (pre.length + 1) c') rfl
      · rw [List.length_append]
        exact ho3.grown (setCell_grown _ _ _) (.inr (ho3.ne_box hbw (by decide)))
      · refine hro3.grown (setCell_grown _ _ _) (fun r e cs h => ?_)
        injection e with e
        subst e
        rw [hbw] at h
        simp at h
  case done =>
    rintro D W hD ⟨⟨A, c, vs, hb, ho, hro⟩, hX, hR, hB⟩ hK
    have hc0 := hb.look 0
    have hc1 := hb.look 1
    have hd0 := hR.look 0
    have hd1 := hR.look 1
    have hf0 := hR.free 0
    have hf1 := hR.free 1
    have hne : ¬ V0.heap.size = w.heap.size + 1 := by have := HZ0.out; omega
    have hne' : ¬ w.heap.size + 1 = V0.heap.size := by have := HZ0.out; omega
    go_wp2
    have hR2 := (hR.puts 0 (.int .i64 now) (cs' := #[.int .i64 now, .slice none 0 0]) rfl).puts 1 (.slice A (upto 24).length c) (cs' := #[.int .i64 now, .slice A (upto 24).length c]) rfl
    have hK2 : ((W.setCell ⟨w.heap.size + 1, 0, none⟩ (.int .i64 now)).setCell ⟨w.heap.size + 1, 1, none⟩ (.slice A (upto 24).length c)).heap[D]? = some (.deferred (some [])) := ((KeepsOthers.setCell W ⟨w.heap.size + 1, 0, none⟩ (.int .i64 now)).trans (KeepsOthers.setCell _ ⟨w.heap.size + 1, 1, none⟩ _)).same D _ hK rfl
    have hcalm := (Calm.put (B := w.heap.size) (by have := HZ.out; have := HZ0.out; simp at hD; omega) hK2)
    have hR3 := hcalm.box hR2
    have q0 := hR3.look 0
    have q1 := hR3.look 1
    have hnr : ∀ (X : World) (cs : Array Value), Box X (w.heap.size + 1) 26 cs → ∀ r, some (w.heap.size + 1) = some r → ∀ cs, X.heap[r]? ≠ some (.cells cs 36 (0, 0)) := fun X cs hX r e cs' h => by
      injection e with e
      subst e
      rw [hX] at h
      simp at h
    refine bodyPostM_ret (v := .agg #[.int .i64 now, .slice A (upto 24).length c]) rfl hK2 (by simp [results, Try.results73, go_sem, q0, q1]) ?_
    rw [upto_len (Nat.le_refl _)] at ho ⊢
    refine ⟨A, c, vs, rfl, hcalm.ownF ((ho.grown (setCell_grown _ _ _) (.inr (ho.ne_box hR (by decide)))).grown (setCell_grown _ _ _) (.inr (ho.ne_box hR (by decide)))), RowsO.calm ((hro.grown (setCell_grown _ _ _) (hnr _ _ hR)).grown (setCell_grown _ _ _) (hnr _ _ (hR.puts 0 (.int .i64 now) (cs' := #[.int .i64 now, .slice none 0 0]) rfl))) hcalm, hcalm.below ((hB.setCell (by simp) _).setCell (by simp) _) (Nat.le_refl _) (Nat.le_refl _)⟩
  case stop =>
    rintro D c pre W hD _ h _
    exact h.elim
end

end Go.Proofs.Ytakplomopbnekaa
