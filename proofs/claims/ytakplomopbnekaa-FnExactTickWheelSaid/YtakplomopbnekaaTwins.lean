/-
  A map whose keys are Keys, filled timer by timer; hasTwins of a dial. No statement is proved here.
-/
import Derived.Test.YtakplomopbnekaaDialOf
namespace Go.Proofs.Ytakplomopbnekaa
open Go.RowKit Go.Shelf
set_option linter.unusedVariables false

/-- Do two timers bear the same Key. -/
def keyT (a b : Tmr) : Bool := decide (a.typ = b.typ) && (decide (a.id = b.id) && decide (a.adv = b.adv))
abbrev keyV (a : Tmr) : Value := .agg #[.int .i64 a.typ, .int .i64 a.id, .int .i64 a.adv]
theorem equal_keyT (a b : Tmr) (W : World) : (Op.equal 34 (keyV a) (keyV b)).run Try.prog W = .ok (keyT a b) W := by
  by_cases h1 : a.typ = b.typ <;> by_cases h2 : a.id = b.id <;> by_cases h3 : a.adv = b.adv <;> simp [Op.equal, Op.maxDepth, go_sem, keyT, keyV, h1, h2, h3]
theorem checkKey_keyT (e : Bool) (a : Tmr) (W : World) : (Instr.checkKey e 10000 34 (keyV a)).run Try.prog W = .ok () W := by kernel_rfl

/-- Block b is a map from the Keys of these timers to true. -/
def MapT (w : World) (b : Nat) (ts : List Tmr) : Prop := ∃ es clock, w.heap[b]? = some (.map es clock) ∧ es.toList.map (fun e => (e.key, e.val)) = ts.map fun t => (keyV t, Value.bool true)


theorem findAsking_keyT (k : Tmr) (W : World) : ∀ (ts : List Tmr) (es : List MapEntry) (i : Nat), es.map (fun e => (e.key, e.val)) = ts.map (fun t => (keyV t, Value.bool true)) →
    (Instr.findAsking 34 (keyV k) es i).run Try.prog W = .ok (if ts.any (fun t => keyT k t) then some (i + (ts.findIdx fun t => keyT k t), Value.bool true) else none) W := by
  intro ts
  induction ts with
  | nil =>
    intro es i h
    obtain rfl : es = [] := by simpa using h
    simp [Instr.findAsking]
  | cons t ts ih =>
    intro es i h
    cases es with
    | nil => simp at h
    | cons e es =>
      simp only [List.map_cons, List.cons.injEq, Prod.mk.injEq] at h
      obtain ⟨⟨hk, hv⟩, hr⟩ := h
      simp only [Instr.findAsking, Sem.run_bind, hk, equal_keyT, Result.andThen_ok]
      by_cases hkt : keyT k t = true
      · simp [hkt, hv, List.findIdx_cons]
      · have hkf : keyT k t = false := by simpa using hkt
        rw [hkf]
        simp only [Bool.false_eq_true, if_false]
        rw [ih es (i + 1) hr]
        simp only [List.any_cons, hkf, Bool.false_or, List.findIdx_cons, cond_false]
        split
        · rw [show i + 1 + List.findIdx (fun t => keyT k t) ts = i + (List.findIdx (fun t => keyT k t) ts + 1) by omega]
        · rfl
theorem findKey_keyT (k : Tmr) (W : World) (ts : List Tmr) (es : List MapEntry) (h : es.map (fun e => (e.key, e.val)) = ts.map (fun t => (keyV t, Value.bool true))) :
    (Instr.findKey 34 (keyV k) es).run Try.prog W = .ok (if ts.any (fun t => keyT k t) then some (0 + (ts.findIdx fun t => keyT k t), Value.bool true) else none) W := by
  have hu := run_underlying (w := W) Try.underlying34
  cases es with
  | nil =>
    obtain rfl : ts = [] := by cases ts; rfl; simp at h
    simp [Instr.findKey, hu, Instr.findNow]
  | cons e es =>
    have hn : ∀ fs, Instr.findNow (.struct fs) (keyV k) (e :: es) 0 = none := by
      intro fs
      simp [Instr.findNow, Instr.sameNow]
    have ha := findAsking_keyT k W ts (e :: es) 0 h
    simp only [Instr.findKey, Sem.run_bind, hu, Result.andThen_ok, hn, ha]

theorem lookup_keyT {w : World} {b : Nat} {ts : List Tmr} (h : MapT w b ts) (k : Tmr) : (Instr.lookup 183 (.map (some b)) (keyV k) false).run Try.prog w = .ok (.bool (ts.any fun t => keyT k t)) w := by
  obtain ⟨es, clock, hb, he⟩ := h
  have hu := run_underlying (w := w) Try.underlying183
  have hf := findKey_keyT k w ts es.toList he
  have hz : (zeroValue 4).run Try.prog w = .ok (.bool false) w := by kernel_rfl
  have hc := checkKey_keyT es.isEmpty k w
  simp only [Instr.lookup, Sem.run_bind, hu, Result.andThen_ok, getObj, Sem.run, hb, hc, hf, Sem.run_pure]
  by_cases ha : ts.any (fun t => keyT k t) = true
  · simp [ha]
  · have ha' : ts.any (fun t => keyT k t) = false := by simpa using ha
    simp [ha', hz]

theorem update_keyT {w : World} {b : Nat} {ts : List Tmr} (h : MapT w b ts) (k : Tmr) (hn : ts.any (fun t => keyT k t) = false) : ∃ w', (Instr.mapUpdate 183 (.map (some b)) (keyV k) (.bool true)).run Try.prog w = .ok () w' ∧ MapT w' b (ts ++ [k]) ∧ w.grownBy w' (some b) := by
  obtain ⟨es, clock, hb, he⟩ := h
  have hu := run_underlying (w := w) Try.underlying183
  have hf := findKey_keyT k w ts es.toList he
  have hc := checkKey_keyT false k w
  have hlt : b < w.heap.size := (Array.getElem?_eq_some_iff.1 hb).1
  refine ⟨w.putObj b (.map (es.push { key := keyV k, val := .bool true, born := clock }) (clock + 1)), ?_, ⟨_, _, World.putObj_heap_same hlt, by simp [he]⟩, grownBy_putObj' w b _⟩
  simp [Instr.mapUpdate, Sem.run_bind, hu, getObj, setObj, Sem.run, hb, hc, hf, hn, Result.andThen, World.putObj]

theorem wpList_lookup_key {ops : Array Oper} {rest : List Oper} {o : Oper} {a : Act} {Q : Exit → Act → World → Prop} {w : World} (hgd : o.guard = none) (x y : Operand) (ho : o.op = .lookup 183 x y false)
    {b : Nat} {ts : List Tmr} (h : MapT w b ts) (t : Tmr) (hx : a.eval x = .map (some b)) (hy : a.eval y = keyV t)
    (k : wpList Try.prog ops Q rest (a.put o.dst (.bool (ts.any fun u => keyT t u))) w) : wpList Try.prog ops Q (o :: rest) a w := by
  refine wpList_plain hgd fun K hK => ?_
  have hl := lookup_keyT h t
  unfold Oper.wp
  simp only [execOp, ho, hx, hy, Sem.run_bind, hl, Result.andThen_ok, Sem.run_pure]
  exact hK _ _ k
theorem wpList_update_key {ops : Array Oper} {rest : List Oper} {o : Oper} {a : Act} {Q : Exit → Act → World → Prop} {w : World} (hgd : o.guard = none) (x y z : Operand) (ho : o.op = .mapUpdate 183 x y z)
    {b : Nat} {ts : List Tmr} (h : MapT w b ts) (t : Tmr) (hx : a.eval x = .map (some b)) (hy : a.eval y = keyV t) (hz : a.eval z = .bool true) (hn : ts.any (fun u => keyT t u) = false)
    (k : ∀ w', MapT w' b (ts ++ [t]) → w.grownBy w' (some b) → wpList Try.prog ops Q rest (a.put o.dst undef) w') : wpList Try.prog ops Q (o :: rest) a w := by
  refine wpList_plain hgd fun K hK => ?_
  obtain ⟨w', hl, h1, h2⟩ := update_keyT h t hn
  unfold Oper.wp
  simp only [execOp, ho, hx, hy, hz, Sem.run_bind, hl, Result.andThen_ok, Sem.run_pure]
  exact hK _ _ (k w' h1 h2)
theorem MapT.grown {w w' : World} {b : Nat} {ts : List Tmr} (h : MapT w b ts) {row : Option Nat} (hg : w.grownBy w' row) (hr : row ≠ some b) : MapT w' b ts := by
  obtain ⟨es, clock, hb, he⟩ := h
  exact ⟨es, clock, (hg.block b (Array.getElem?_eq_some_iff.1 hb).1 (fun e => hr e.symm)).trans hb, he⟩
theorem MapT.lt {w : World} {b : Nat} {ts : List Tmr} (h : MapT w b ts) : b < w.heap.size := by
  obtain ⟨es, clock, hb, he⟩ := h
  exact (Array.getElem?_eq_some_iff.1 hb).1
theorem MapT.made (w : World) : MapT (w.alloc (.map #[] 0)) w.heap.size [] := ⟨#[], 0, World.alloc_heap_new w _, rfl⟩

/-- Do two bear the same Key. -/
def twinB : List Tmr → Bool
  | [] => false
  | t :: r => r.any (fun u => keyT t u) || twinB r
theorem keyT_comm (a b : Tmr) : keyT a b = keyT b a := by
  unfold keyT
  rw [decide_eq_decide.2 (eq_comm (a := a.typ)), decide_eq_decide.2 (eq_comm (a := a.id)), decide_eq_decide.2 (eq_comm (a := a.adv))]
theorem twinB_snoc (l : List Tmr) (t : Tmr) : twinB (l ++ [t]) = (twinB l || l.any fun u => keyT t u) := by
  induction l with
  | nil => simp [twinB]
  | cons x l ih =>
    simp only [List.cons_append, twinB, ih, List.any_append, List.any_cons, List.any_nil, Bool.or_false, keyT_comm x t]
    cases l.any (fun u => keyT x u) <;> cases keyT t x <;> cases twinB l <;> simp
theorem twinB_take {l : List Tmr} {k : Nat} {t : Tmr} (h : l[k]? = some t) : twinB (l.take (k + 1)) = (twinB (l.take k) || (l.take k).any fun u => keyT t u) := by
  have hk := (List.getElem?_eq_some_iff.1 h).1
  rw [List.take_succ_eq_append_getElem hk, (List.getElem?_eq_some_iff.1 h).2, twinB_snoc]
theorem twinB_more {l : List Tmr} {k : Nat} (h : twinB (l.take k) = true) : twinB l = true := by
  have go : ∀ (a b : List Tmr), twinB a = true → twinB (a ++ b) = true := by
    intro a
    induction a with
    | nil => intro b h; simp [twinB] at h
    | cons x a ih =>
      intro b h
      simp only [twinB, Bool.or_eq_true] at h
      simp only [List.cons_append, twinB, Bool.or_eq_true, List.any_append]
      rcases h with h | h
      · exact .inl (.inl h)
      · exact .inr (ih b h)
  have := go _ (l.drop k) h
  rwa [List.take_append_drop] at this

theorem own_timers {w : World} {B n c : Nat} {A : Option Addr} {ys : List Tmr} (h : OwnF 36 4 tcell w B A n c ys) : Rep.timer.Sl true B w.heap.size w A n ys := by
  obtain ⟨bs, h1, _, h3⟩ := timers_of_own h
  exact h1.sl fun b hb => h.block b (h3 b hb)

set_option maxRecDepth 100000 in
set_option maxHeartbeats 2000000 in
theorem hasTwins_any (now : Int) (s : Nat → Value) (ys : Nat → List Tmr) (lo hi : Nat) (w : World) (hs : DialIn lo hi w s ys) (hh : hi ≤ w.heap.size) (hm : ∀ k, k < 24 → (ys k).length ≤ 40000) :
    Calls Try.prog 91 #[.agg (dialCells now s)] w fun e w' => e = .returned (.bool (twinB (rowsP ys (upto 24)))) ∧ Below w.heap.size w w' := by
  have HS := Lib.hid hs
  have HM := Lib.hid hm
  clear hs hm
  obtain ⟨ts, hts⟩ : ∃ ts, rowsP ys (upto 24) = ts := ⟨_, rfl⟩
  have HTS := Lib.hid hts
  rw [hts]
  clear hts
  go_enter Try.func91, Try.ntmps91
  have hmm := @run_makeMap Try.prog
  go_upto_region 2 with (fail)
  clear hmm
  refine Code.wp_name ?_
  intro V hV
  have HX : Hid (Box V w.heap.size 112 (dialCells now s)) := Lib.hid (by rw [hV]; exact (Box.made _ _ _).over _)
  have HT : Hid (MapT V (w.heap.size + 1) []) := Lib.hid (by rw [hV]; have := MapT.made (w.alloc (.cells (dialCells now s) 112)); simpa using this)
  have HB : Hid (Below w.heap.size w V) := Lib.hid (by rw [hV]; exact ((Below.refl _ _).alloc (Nat.le_refl _) _).alloc (by simp) _)
  have HZ : Hid (w.heap.size + 2 = V.heap.size) := Lib.hid (by rw [hV]; simp)
  clear hV
  go_wp2_with (refine wpList_load_dial rfl _ rfl rfl HX.out ?_)
  refine (timers_any now s ys lo hi V (HS.out.below HB.out hh) (Nat.le_trans hh HB.out.size) HM.out).mono ?_
  rintro e w1 ⟨A, n, c, rfl, ho, hb1⟩
  have HO := Lib.hid (Rep.Sl.kept (own_timers ho) (Nat.le_refl _))
  have hn : n ≤ 960000 := by
    have h1 := cntP_le (fun k => (ys k).length) 40000 HM.out (upto 24)
    rw [← rowsP_len, ho.1, upto_len (Nat.le_refl _)] at h1
    omega
  rw [HTS.out] at ho
  have HO := Lib.hid (Rep.Sl.kept (own_timers ho) (Nat.le_refl _))
  have hl := ho.1
  have HT1 : Hid (MapT w1 (w.heap.size + 1) []) := Lib.hid (HT.out.grown (grownBy_of_below hb1 none) (by simp))
  have HB1 := Lib.hid (below_step HB.out hb1)
  have HS1 : Hid (w.heap.size + 1 < V.heap.size ∧ V.heap.size ≤ w1.heap.size) := Lib.hid ⟨by have := HZ.out; omega, hb1.size⟩
  clear ho hb1 HX HT
  go_wp2
  go_loopw [10] (fun i wr => ∃ k : Nat, k ≤ n ∧ i = .int .i64 k ∧ Hid (MapT wr (w.heap.size + 1) (ts.take k)) ∧ Hid (Below w.heap.size w wr) ∧ Hid (Kept V.heap.size w1.heap.size (SlK Rep.timer true V.heap.size w1.heap.size A n ts) wr) ∧ Hid (twinB (ts.take k) = false)) (fun i _ => n - (intOf i).toNat)
  case atStart => exact ⟨0, Nat.zero_le _, rfl, HT1, HB1, HO, rfl⟩
  case round =>
    obtain ⟨k, hk, rfl, HT, HB, HO, HN⟩ := hrel
    by_cases hlt : k < n
    · obtain ⟨b, o, t, rfl, hya, a0, a1, a2, a3⟩ := Rep.timer_at HO.out.sl hlt
      have hlt' : (k : Int) < n := by omega
      have htk := twinB_take hya
      rw [HN.out, Bool.false_or] at htk
      have HTK := Lib.hid htk
      have HYA := Lib.hid hya
      clear htk hya
      have HT2 : Hid (MapT (wr.alloc (.cells #[.int .i64 t.typ, .int .i64 t.id, .int .i64 t.adv, .int .i64 t.due] 36)) (w.heap.size + 1) (ts.take k)) := Lib.hid (HT.out.grown (World.grownBy_alloc _ _ none) (by simp))
      obtain ⟨r, hr⟩ : ∃ r, ((ts.take k).any fun u => keyT t u) = r := ⟨_, rfl⟩
      have HR := Lib.hid hr
      rw [hr] at HTK
      clear hr
      cases r with
      | true =>
        have HF := Lib.hid (twinB_more HTK.out)
        go_wp2_with (refine wpList_lookup_key rfl _ _ rfl HT2.out t rfl rfl ?_; rw [HR.out])
        go_ret
        exact ⟨by rw [HF.out]; rfl, HB.out.alloc HB.out.size _⟩
      | false =>
        go_wp2_with (first | (refine wpList_lookup_key rfl _ _ rfl HT2.out t rfl rfl ?_; rw [HR.out]) | (refine wpList_update_key rfl _ _ _ rfl HT2.out t rfl rfl rfl HR.out ?_; intro w3 hm3 hg3))
        go_roundw
        case rel =>
          have hk' := (List.getElem?_eq_some_iff.1 HYA.out).1
          have h1 := HS1.out
          have h2 := HO.out.le
          refine ⟨k + 1, by omega, by go_num, ?_, ?_, ?_, HTK⟩
          · rw [List.take_succ_eq_append_getElem hk', (List.getElem?_eq_some_iff.1 HYA.out).2]
            exact hm3
          · exact Lib.hid ((HB.out.alloc HB.out.size _).grown hg3 (by have := HB.out.size; simp; omega) (fun k e => by injection e with e; omega))
          · exact Lib.hid ((HO.out.below ((Below.refl _ _).alloc (Nat.le_refl _) _)).only (Only.of_grown (lo := w.heap.size + 1) (hi := w.heap.size + 2) hg3 (fun r e => by injection e with e; omega)) (.inr (by omega)))
        case measure => simp [intOf]; omega
    · have hkn : k = n := by omega
      have HE : Hid (twinB ts = false) := Lib.hid (by have := HN.out; rwa [List.take_of_length_le (by omega)] at this)
      go_wp2
      go_ret
      exact ⟨by rw [HE.out]; rfl, HB.out⟩

end Go.Proofs.Ytakplomopbnekaa
