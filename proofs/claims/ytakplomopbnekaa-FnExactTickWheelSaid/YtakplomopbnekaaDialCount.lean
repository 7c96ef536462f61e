/-
  count and timers of a dial. No statement is proved here.
-/
import Derived.Test.YtakplomopbnekaaDial
import Derived.Test.YtakplomopbnekaaTimerSS
import Derived.Deep.Cut
namespace Go.Proofs.Ytakplomopbnekaa
open Go.RowKit Go.Shelf
set_option linter.unusedVariables false

/-- How many timers the slots hold that have come. -/
def cntP (m : Nat → Nat) (pre : List S24) : Nat := (pre.map fun x => m x.1).sum
theorem cntP_snoc (m : Nat → Nat) (pre : List S24) (x : S24) : cntP m (pre ++ [x]) = cntP m pre + m x.1 := by simp [cntP]
theorem cntP_le (m : Nat → Nat) (M : Nat) (hm : ∀ k, k < 24 → m k ≤ M) (pre : List S24) : cntP m pre ≤ pre.length * M := by
  induction pre with
  | nil => simp [cntP]
  | cons x t ih =>
    have := hm x.1 x.2
    have e : cntP m (x :: t) = m x.1 + cntP m t := by simp [cntP]
    rw [e, List.length_cons, Nat.succ_mul]; omega

theorem SameB.set {bs : List Nat} {W W' : World} (h : SameB bs W W') {p : Addr} (hp : p.block ∉ bs) (u : Value) : SameB bs W (W'.setCell p u) := fun b hb => (Below.heap_setCell W' p u b (fun e => hp (e ▸ hb))).trans (h b hb)
theorem SameB.refl (bs : List Nat) (W : World) : SameB bs W W := fun _ _ => rfl
theorem SameB.grown {bs : List Nat} {X W W' : World} (h : SameB bs X W) {row : Option Nat} (hg : W.grownBy W' row) (hl : ∀ b ∈ bs, b < W.heap.size) (hr : ∀ r, row = some r → r ∉ bs) : SameB bs X W' := fun b hb => (hg.block b (hl b hb) (fun e => hr b e.symm hb)).trans (h b hb)
theorem SameB.alloc {bs : List Nat} {X W : World} (h : SameB bs X W) (hl : ∀ b ∈ bs, b < W.heap.size) (o : Obj) : SameB bs X (W.alloc o) := h.grown (World.grownBy_alloc W o none) hl (fun r e => by cases e)

/-- A timer's cells. -/
def tcell (a : Tmr) : List Value := [.int .i64 a.typ, .int .i64 a.id, .int .i64 a.adv, .int .i64 a.due]
theorem tcell_len (a : Tmr) : (tcell a).length = 4 := rfl
theorem tcell_one : ∀ a : Tmr, ∀ u ∈ tcell a, u.oneCell' = true := by
  intro a u hu
  simp only [tcell, List.mem_cons, List.not_mem_nil, or_false] at hu
  rcases hu with rfl | rfl | rfl | rfl <;> rfl
theorem Rep.timer_inF {q : Bool} {lo hi : Nat} {w : World} {A : Option Addr} {n : Nat} {ys : List Tmr} (h : Rep.timer.Sl q lo hi w A n ys) : InF 4 tcell w A n ys := Rep.Sl.inF (r := Rep.timer) tcell_len (fun _ _ _ _ _ _ h => h) h
theorem OwnF.ne_box {α : Type} {t : TypeId} {size : Nat} {f : α → List Value} {w : World} {B : Nat} {A : Option Addr} {n c : Nat} {ys : List α} {g : Nat} {t' : TypeId} {cs : Array Value} (h : OwnF t size f w B A n c ys) (hb : Box w g t' cs) (ht : t' ≠ t) : A.map (·.block) ≠ some g := by
  intro e
  rcases h.2.2 with ⟨h', _⟩ | ⟨g', cap, cur, h', _, hg, _⟩
  · simp only [Value.slice.injEq] at h'
    rw [h'.1] at e
    cases e
  · simp only [Value.slice.injEq] at h'
    rw [h'.1] at e
    simp only [Option.map_some, Option.some.injEq] at e
    subst e
    unfold Box at hb
    rw [hb] at hg
    simp only [Option.some.injEq, Obj.cells.injEq] at hg
    exact ht hg.2.1
theorem OwnF.cells {α : Type} {t : TypeId} {size : Nat} {f : α → List Value} {w : World} {B : Nat} {A : Option Addr} {n c : Nat} {ys : List α} (h : OwnF t size f w B A n c ys) : ∀ j o, A.map (·.block) = some j → w.heap[j]? = some o → o.isCells = true := by
  intro j o hj ho
  rcases h.2.2 with ⟨h', _⟩ | ⟨g', cap, cur, h', _, hg, _⟩
  · simp only [Value.slice.injEq] at h'
    rw [h'.1] at hj
    cases hj
  · simp only [Value.slice.injEq] at h'
    rw [h'.1] at hj
    simp only [Option.map_some, Option.some.injEq] at hj
    subst hj
    rw [hg] at ho
    injection ho with ho
    subst ho
    rfl
theorem wpListIn_appF0 {α : Type} {size bytes : Nat} {f : α → List Value} {ts t : TypeId} {z : Value} {ops : Array Oper} {o : Oper} {a : Act} {Q : Exit → Act → World → Prop} {w : World} {B : Nat} {A E : Option Addr} {n c m d : Nat} {zs ys : List α} {F : Fence} {p : Nat} (hf : ∀ a, (f a).length = size) (hone : ∀ a, ∀ u ∈ f a, u.oneCell' = true) (hu : Try.prog.underlying ts = some (.slice t))
    (hinfo : (Try.prog.info? t).map (fun i => (i.zero, i.size, i.bytes)) = some (some z, size, bytes)) (hzc : z.cells.size = size) (hsz : 0 < size) (hby : bytes ≤ 1048576)
    {rest : List Oper} (hgd : o.guard = none) (s x : Operand) (ho : o.op = .call { callee := .builtin .append, args := #[s, x], argTypes := #[ts, ts] })
    (hs : a.eval s = .slice A n c) (hown : OwnF t size f w B A n c zs) (hx : a.eval x = .slice E m d) (hE : InF size f w E m ys) (hl : n + m ≤ 1048576) (hB : B ≤ w.heap.size)
    (h : ∀ A' c' w', OwnF t size f w' B A' (n + m) c' (zs ++ ys) → w.grownBy w' (A.map (·.block)) → wpListIn F p Try.prog ops Q rest (a.put o.dst (.slice A' (n + m) c')) w') : wpListIn F p Try.prog ops Q (o :: rest) a w := by
  refine wpListIn_plain hgd fun K hK' => ?_
  obtain ⟨A', c', w', hr, h2, h3⟩ := run_appF (ty := o.type) (d := d) hf hone hu hinfo hzc hsz hby hown hE hl hB
  unfold Oper.wpIn
  refine ⟨?_, ?_⟩
  · simp [Oper.about, ho, resolve, Target.leads, Sem.run_pure]
  · rw [Oper.semAt_plain F _ _ (by rw [ho]; intro c hc'; cases hc')]
    simp [execOp, ho, resolve, invoke, builtin, hs, hx, hr, Result.andThen]
    exact hK' _ _ (h A' c' w' h2 h3)

section
attribute [local go_sem] Oper.semAt_some

set_option maxRecDepth 100000 in
set_option maxHeartbeats 2000000 in
theorem count_any (now : Int) (s : Nat → Value) (m : Nat → Nat) (w : World) (hs : ∀ k, k < 24 → ∃ A c, s k = .slice A (m k) c) (hm : ∀ k, k < 24 → m k ≤ 1048576) :
    Calls Try.prog 76 #[.agg (dialCells now s)] w fun e w' => e = .returned (.int .i64 (cntP m (upto 24) : Int)) ∧ Below w.heap.size w w' := by
  have HS := Lib.hid hs
  have HM := Lib.hid hm
  clear hs hm
  refine calls_of_marks Try.func76 rfl ?_
  simp only [Try.ntmps76, List.size_toArray, List.length_cons, List.length_nil, Nat.reduceAdd, Nat.reduceSub, Array.replicate_succ, Array.replicate_zero, List.push_toArray, List.append_toArray, List.nil_append, List.cons_append]
  go_upto_region 2 with (fail)
  refine Code.wp_name ?_
  intro V hV
  have HX : Hid (Box V w.heap.size 112 (dialCells now s)) := Lib.hid (by rw [hV]; exact (Box.made _ _ _).over _)
  have HC : Hid (Box V (w.heap.size + 1) 3 #[.int .i64 0]) := Lib.hid (by rw [hV]; exact Box.made_at _ _ _ (by simp))
  have HB : Hid (Below w.heap.size w V) := Lib.hid (by rw [hV]; exact ((Below.refl _ _).alloc (Nat.le_refl _) _).alloc (by simp) _)
  have HZ : Hid (w.heap.size + 2 = V.heap.size) := Lib.hid (by rw [hV]; simp)
  clear hV
  go_wp2_with (refine wpList_load_dial rfl _ rfl rfl HX.out ?_)
  refine (slots_any now s _).mono ?_
  rintro e w' ⟨rfl, rfl⟩
  go_wp2
  refine wp_range24 V.heap.size now s rfl (Box.made _ _ _) rfl
    (fun pre W => Box W (w.heap.size + 1) 3 #[.int .i64 (cntP m pre : Int)] ∧ Below w.heap.size w W) (fun _ _ _ => False)
    (fun pre W W' h k => ⟨k.box h.1, k.below h.2 (by have := HZ.out; simp; omega) (Nat.le_refl _)⟩) (fun _ _ _ _ h _ => h)
    ⟨HC.out.over _, HB.out.alloc HB.out.size _⟩ ?a₁ ?assign ?body ?done ?stop
  case assign =>
    intro l x W K hK
    gi_wp2
    exact hK
  case body =>
    rintro l pre x W ⟨hb, hB⟩ hlt
    obtain ⟨A, c, hs⟩ := HS.out x.1 x.2
    have hm := HM.out x.1 x.2
    have hle := cntP_le m 1048576 HM.out pre
    rw [hs]
    have hc := hb.look 0
    have hf := hb.free 0
    gi_wp2
    exact ⟨(KeepsOthers.setCell _ _ _).from _, (SameB.refl _ _).set (by have := HZ.out; simp; omega) _, (hb.puts 0 (.int .i64 (cntP m pre + m x.1)) rfl : Box _ _ _ _) |> fun h => by rw [cntP_snoc]; exact h, hB.setCell (by simp) _⟩
  case done =>
    rintro D W hD ⟨hb, hB⟩ hK
    have hc := hb.look 0
    go_wp2
    exact bodyPostM_ret rfl hK (results_tmp rfl _ _ _) ⟨rfl, (Calm.put (B := w.heap.size) (by have := HZ.out; simp at hD; omega) hK).below hB (Nat.le_refl _) (Nat.le_refl _)⟩
  case stop =>
    rintro D c pre W hD _ h _
    exact h.elim

/-- The timers of the slots that have come, in order. -/
def rowsP (ys : Nat → List Tmr) (pre : List S24) : List Tmr := pre.flatMap fun x => ys x.1
theorem rowsP_snoc (ys : Nat → List Tmr) (pre : List S24) (x : S24) : rowsP ys (pre ++ [x]) = rowsP ys pre ++ ys x.1 := by simp [rowsP]
theorem rowsP_len (ys : Nat → List Tmr) (pre : List S24) : (rowsP ys pre).length = cntP (fun k => (ys k).length) pre := by
  induction pre with
  | nil => rfl
  | cons x t ih => simp [rowsP, cntP] at ih ⊢

/-- A dial's slots read as rows. -/
def DialIn (lo hi : Nat) (w : World) (s : Nat → Value) (ys : Nat → List Tmr) : Prop := ∀ k, k < 24 → ∃ A c, s k = .slice A (ys k).length c ∧ Rep.timer.Sl false lo hi w A (ys k).length (ys k)
theorem DialIn.below {lo hi : Nat} {w w' : World} {s : Nat → Value} {ys : Nat → List Tmr} (h : DialIn lo hi w s ys) (hb : Below w.heap.size w w') (hh : hi ≤ w.heap.size) : DialIn lo hi w' s ys := fun k hk => by
  obtain ⟨A, c, h1, h2⟩ := h k hk
  exact ⟨A, c, h1, h2.below hb hh⟩

set_option maxRecDepth 100000 in
set_option maxHeartbeats 2000000 in
theorem timers_any (now : Int) (s : Nat → Value) (ys : Nat → List Tmr) (lo hi : Nat) (w : World) (hs : DialIn lo hi w s ys) (hh : hi ≤ w.heap.size) (hm : ∀ k, k < 24 → (ys k).length ≤ 40000) :
    Calls Try.prog 96 #[.agg (dialCells now s)] w fun e w' => ∃ A n c, e = .returned (.slice A n c) ∧ OwnF 36 4 tcell w' w.heap.size A n c (rowsP ys (upto 24)) ∧ Below w.heap.size w w' := by
  have HS := Lib.hid hs
  have HM := Lib.hid hm
  clear hs hm
  refine calls_of_marks Try.func96 rfl ?_
  simp only [Try.ntmps96, List.size_toArray, List.length_cons, List.length_nil, Nat.reduceAdd, Nat.reduceSub, Array.replicate_succ, Array.replicate_zero, List.push_toArray, List.append_toArray, List.nil_append, List.cons_append]
  go_upto_region 2 with (fail)
  refine Code.wp_name ?_
  intro V hV
  have HX : Hid (Box V w.heap.size 112 (dialCells now s)) := Lib.hid (by rw [hV]; exact (Box.made _ _ _).over _)
  have HC : Hid (Box V (w.heap.size + 1) 29 #[.slice none 0 0]) := Lib.hid (by rw [hV]; exact Box.made_at _ _ _ (by simp))
  have HB : Hid (Below w.heap.size w V) := Lib.hid (by rw [hV]; exact ((Below.refl _ _).alloc (Nat.le_refl _) _).alloc (by simp) _)
  have HZ : Hid (w.heap.size + 2 = V.heap.size) := Lib.hid (by rw [hV]; simp)
  clear hV
  go_wp2_with (refine wpList_load_dial rfl _ rfl rfl HX.out ?_)
  refine (slots_any now s _).mono ?_
  rintro e w' ⟨rfl, rfl⟩
  go_wp2
  refine wp_range24 V.heap.size now s rfl (Box.made _ _ _) rfl
    (fun pre W => (∃ A n c, Box W (w.heap.size + 1) 29 #[.slice A n c] ∧ OwnF 36 4 tcell W w.heap.size A n c (rowsP ys pre)) ∧ Box W V.heap.size 112 (dialCells now s) ∧ Below w.heap.size w W) (fun _ _ _ => False)
    (fun pre W W' ⟨⟨A, n, c, h1, h2⟩, h3, h4⟩ k => ⟨⟨A, n, c, k.box h1, k.ownF h2⟩, k.box h3, k.below h4 (by have := HZ.out; simp; omega) (Nat.le_refl _)⟩) (fun _ _ _ _ h _ => h)
    ⟨⟨none, 0, 0, HC.out.over _, OwnF.nil_ _ _ _ _ _⟩, Box.made _ _ _, HB.out.alloc HB.out.size _⟩ ?a₁ ?assign ?body ?done ?stop
  case assign =>
    intro l x W K hK
    gi_wp2
    exact hK
  case body =>
    rintro l pre x W ⟨⟨A, n, c, hb, ho⟩, hX, hB⟩ hlt
    obtain ⟨E, d, hs, hsl⟩ := HS.out x.1 x.2
    have hm := HM.out x.1 x.2
    have hle := cntP_le (fun k => (ys k).length) 40000 HM.out pre
    rw [← rowsP_len, ho.1] at hle
    rw [hs]
    have hE := Rep.timer_inF (hsl.below hB hh)
    have hnb := ho.ne_box hb (by decide)
    have hnx := ho.ne_box hX (by decide)
    have hc := hb.look 0
    have hf := hb.free 0
    have hsz := hB.size
    have hlt1 := hb.lt
    have hlt2 := hX.lt
    generalize hmm : (ys x.1).length = m at hs hE hm
    gi_wp2_with (gi_at_builtin; refine wpListIn_appF0 tcell_len tcell_one Try.underlying29 timerInfo rfl (by decide) (by decide) rfl (.tmp 10) (.tmp 11) rfl (B := w.heap.size) rfl ho rfl hE (by omega) hsz ?_; intro A' c' w1 ho1 hg1; have hb1 := Box.grown hb hg1 hnb; have hX1 := Box.grown hX hg1 hnx; have hcc := hb1.look 0; have hff := hb1.free 0)
    have hn1 := ho1.ne_box hb1 (by decide)
    have hsz1 := hg1.size
    have hne : (⟨w.heap.size + 1, 0, none⟩ : Addr).block ≠ V.heap.size := by have := HZ.out; simp; omega
    refine ⟨((KeepsOthers.of_grownBy hg1 fun j o ej hj => ho.cells j o ej hj).trans (KeepsOthers.setCell _ _ _)).from _, ((SameB.refl _ _).grown hg1 (fun b hb => by obtain rfl : b = V.heap.size := (by simpa using hb); exact hlt2) (fun r e hr => by obtain rfl : r = V.heap.size := (by simpa using hr); exact hnx e)).set (by simpa using hne) _,
      ⟨_, _, _, hb1.puts 0 (.slice A' (n + m) c') rfl, ?_⟩, hX1.aside (by simpa using hne) _, (hB.grown hg1 hsz (fun k e => (ho.block k e).1)).setCell (by simp) _⟩
    rw [rowsP_snoc]
    exact ho1.grown (setCell_grown _ _ _) (.inr hn1)
  case done =>
    rintro D W hD ⟨⟨A, n, c, hb, ho⟩, hX, hB⟩ hK
    have hc := hb.look 0
    go_wp2
    have hcalm := (Calm.put (B := w.heap.size) (by have := HZ.out; simp at hD; omega) hK)
    exact bodyPostM_ret rfl hK (results_tmp rfl _ _ _) ⟨_, _, _, rfl, hcalm.ownF ho, hcalm.below hB (Nat.le_refl _) (Nat.le_refl _)⟩
  case stop =>
    rintro D c pre W hD _ h _
    exact h.elim
end

end Go.Proofs.Ytakplomopbnekaa
