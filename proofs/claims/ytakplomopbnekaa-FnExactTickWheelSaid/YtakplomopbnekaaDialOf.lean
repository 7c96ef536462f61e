/-
  The dial of a wheel: its rows' slice values, copied into an array. No statement is proved here.
-/
import Derived.Test.YtakplomopbnekaaDialWheel
import Derived.Laws.CopyRow
namespace Go.Proofs.Ytakplomopbnekaa
open Go.RowKit Go.Shelf
set_option linter.unusedVariables false

theorem loadVar_dial {V : World} {g : Nat} {t : TypeId} {now : Int} {s : Nat → Value} (h : Box V g t (dialCells now s)) : (loadVar 112 ⟨g, 0, none⟩).run Try.prog V = .ok (.agg (dialCells now s)) V := by
  have hl := load_dial h
  have hi : (isAgg 112).run Try.prog V = .ok true V := by kernel_rfl
  have hz : (sizeOf 112).run Try.prog V = .ok 25 V := by kernel_rfl
  simp only [Sem.run_bind, Sem.run_pure, Result.andThen, loadVar, hi, hz, if_true, loadCells, hl]
theorem step_copy_row {ops : Array Oper} {o : Oper} {a : Act} {K : Act → World → Prop} {Q : Exit → Act → World → Prop} {E' : Prop} {w : World} (hgd : o.guard = none) (d s : Operand) (dT sT elem : TypeId)
    (ho : o.op = .call { callee := .builtin .copy, args := #[d, s], argTypes := #[dT, sT] }) (hu : Try.prog.underlying dT = some (.slice elem)) (hs : (Try.prog.info? elem).map (·.size) = some 1)
    {g off dLen dCap : Nat} {b : Addr} {sLen sCap : Nat} {cur : Array Value} {t : TypeId} (cs : List Value) (hd : a.eval d = .slice (some ⟨g, off, none⟩) dLen dCap) (hx : a.eval s = .slice (some b) sLen sCap)
    (hg : Box w g t cur) (hn : cs.length = Nat.min sLen dLen) (hsrc : ∀ j v, cs[j]? = some v → w.cell? (b.add j) = some v) (hfit : off + cs.length ≤ cur.size) (h1 : ∀ v ∈ cs, v.oneCell' = true)
    (h : K (a.put o.dst (goInt cs.length)) (w.setRow g (cur.toList.take off ++ cs ++ cur.toList.drop (off + cs.length)).toArray)) :
    if Region.wanted o (yielded ops a.tmps) = true then Oper.wp Try.prog o a w K Q else E' := by
  rw [if_pos (by simp [Region.wanted, hgd])]
  have hr := run_copy_row (P := Try.prog) w dT sT o.type elem g off dLen dCap b sLen sCap cur t cs hu hs hg hn hsrc hfit h1
  unfold Oper.wp execOp
  simp only [ho, resolve, invoke, builtin, Sem.run_bind, Sem.run_pure, Result.andThen_ok, List.map_toArray, List.map_cons, List.map_nil, hd, hx, hr]
  exact h

theorem Box.setRow {w : World} {g : Nat} {t : TypeId} {cs cs' : Array Value} (h : Box w g t cs) : Box (w.setRow g cs') g t cs' := by
  unfold Box at h ⊢
  obtain ⟨hlt, hk⟩ := Array.getElem?_eq_some_iff.1 h
  show (w.heap.modify g _)[g]? = _
  rw [Array.getElem?_eq_getElem (by rw [Array.size_modify]; exact hlt), Array.getElem_modify_self, hk]
theorem setRow_grown (w : World) (g : Nat) (cs : Array Value) : w.grownBy (w.setRow g cs) (some g) :=
  ⟨rfl, rfl, rfl, by simp [World.setRow], fun k _ hk => by
    show (w.heap.modify g _)[k]? = _
    rw [Array.getElem?_modify, if_neg (fun e => hk (by rw [e]))]⟩

theorem dial_one {now : Int} {s : Nat → Value} (h : ∀ k, k < 24 → (s k).oneCell' = true) : (dialCells now s).all (·.oneCell') = true := by
  refine Array.all_eq_true_iff_forall_mem.2 fun v hv => ?_
  simp only [dialCells, List.mem_toArray, List.mem_cons, List.not_mem_nil, or_false] at hv
  rcases hv with rfl | rfl | rfl | rfl | rfl | rfl | rfl | rfl | rfl | rfl | rfl | rfl | rfl | rfl | rfl | rfl | rfl | rfl | rfl | rfl | rfl | rfl | rfl | rfl | rfl
  · rfl
  all_goals exact h _ (by omega)
set_option maxRecDepth 20000 in
theorem storeAt_dial {V : World} {g : Nat} {now now' : Int} {s s' : Nat → Value} (h : Box V g 112 (dialCells now s)) (h1 : ∀ k, k < 24 → (s' k).oneCell' = true) : (Instr.storeAt 112 (.pointer (some ⟨g, 0, none⟩)) (.agg (dialCells now' s'))).run Try.prog V = .ok () (V.setRow g (dialCells now' s')) := by
  have hi : (Try.prog.info? 112).map (·.size) = some (dialCells now' s').size := by
    rw [show (dialCells now' s').size = 25 by rfl]; kernel_rfl
  simp only [Instr.storeAt, Instr.sureAddr, Sem.run_bind, Sem.run_pure, Result.andThen]
  exact run_storeVar_row V g 112 112 (dialCells now s) (dialCells now' s') h hi rfl (dial_one h1)
theorem wpList_store_dial {ops : Array Oper} {rest : List Oper} {o : Oper} {a : Act} {Q : Exit → Act → World → Prop} {w : World} (hgd : o.guard = none) (x y : Operand) (ho : o.op = .store 112 x y)
    {g : Nat} {now now' : Int} {s s' : Nat → Value} (hx : a.eval x = .pointer (some ⟨g, 0, none⟩)) (hy : a.eval y = .agg (dialCells now' s')) (h : Box w g 112 (dialCells now s)) (h1 : ∀ k, k < 24 → (s' k).oneCell' = true)
    (k : wpList Try.prog ops Q rest (a.put o.dst undef) (w.setRow g (dialCells now' s'))) : wpList Try.prog ops Q (o :: rest) a w := by
  refine wpList_plain hgd fun K hK => ?_
  have hl := storeAt_dial (now' := now') h h1
  unfold Oper.wp
  simp only [execOp, ho, hx, hy, Sem.run_bind, hl, Result.andThen_ok, Sem.run_pure]
  exact hK _ _ k

/-- The slice values of rows, and what they tell. -/
theorem rows_values {q : Bool} {lo hi : Nat} {w : World} {A : Option Addr} {n : Nat} {ys : List (List Tmr)} (h : Rep.timer.rows.Sl q lo hi w A n ys) (hn : 0 < n) :
    ∃ b o, A = some ⟨b, o, none⟩ ∧ b < hi ∧ ∃ s : Nat → Value, ∀ k, k < n → w.cell? ⟨b, o + k, none⟩ = some (s k) ∧ ∃ E c, s k = .slice E (ys.getD k []).length c ∧ Rep.timer.Sl q lo hi w E (ys.getD k []).length (ys.getD k []) := by
  obtain ⟨b, o, e, l, u, f, hr⟩ := h.2 hn
  refine ⟨b, o, e, u, ?_⟩
  have each : ∀ k, k < n → ∃ v : Value, w.cell? ⟨b, o + k, none⟩ = some v ∧ ∃ E c, v = .slice E (ys.getD k []).length c ∧ Rep.timer.Sl q lo hi w E (ys.getD k []).length (ys.getD k []) := fun k hk => by
    obtain ⟨b', o', x, E, m, c, e', hx, hc, hs⟩ := Rep.rows_at h hk
    rw [e] at e'
    injection e' with e'
    injection e' with e1 e2
    subst e1 e2
    have : ys.getD k [] = x := by simp [List.getD, hx]
    rw [this]
    have hm := hs.1
    subst hm
    exact ⟨_, hc, E, c, rfl, hs⟩
  obtain ⟨vl, hvl, hv⟩ := gatherL (Q := fun k v => w.cell? ⟨b, o + k, none⟩ = some v ∧ ∃ E c, v = .slice E (ys.getD k []).length c ∧ Rep.timer.Sl q lo hi w E (ys.getD k []).length (ys.getD k [])) n each
  refine ⟨fun k => vl.getD k undef, fun k hk => ?_⟩
  have hg := List.getElem?_eq_getElem (show k < vl.length by omega)
  have := hv k _ hg
  simp only [List.getD, hg, Option.getD_some]
  exact this

theorem copy_src {w : World} {b o n : Nat} {s : Nat → Value} (h : ∀ j, j < n + 8 → w.cell? ⟨b, o + j, none⟩ = some (s j)) : ∀ j v, [s n, s (n + 1), s (n + 2), s (n + 3), s (n + 4), s (n + 5), s (n + 6), s (n + 7)][j]? = some v → w.cell? ((⟨b, o + n, none⟩ : Addr).add j) = some v := by
  intro j v hj
  have hjl : j < 8 := by have := (List.getElem?_eq_some_iff.1 hj).1; simpa using this
  have ea : Addr.add ⟨b, o + n, none⟩ j = ⟨b, o + n + j, none⟩ := by unfold Addr.add; split <;> simp_all
  rw [ea, Nat.add_assoc, h (n + j) (by omega), ← hj]
  rcases (show j = 0 ∨ j = 1 ∨ j = 2 ∨ j = 3 ∨ j = 4 ∨ j = 5 ∨ j = 6 ∨ j = 7 by omega) with rfl | rfl | rfl | rfl | rfl | rfl | rfl | rfl <;> rfl
theorem copy_one {n : Nat} {s : Nat → Value} (h : ∀ j, j < n + 8 → (s j).oneCell' = true) : ∀ v ∈ [s n, s (n + 1), s (n + 2), s (n + 3), s (n + 4), s (n + 5), s (n + 6), s (n + 7)], v.oneCell' = true := by
  intro v hv
  simp only [List.mem_cons, List.not_mem_nil, or_false] at hv
  rcases hv with rfl | rfl | rfl | rfl | rfl | rfl | rfl | rfl <;> exact h _ (by omega)

set_option maxRecDepth 100000 in
set_option maxHeartbeats 4000000 in
theorem dialOf_any (now : Int) (A : Option Addr) (c : Nat) (b o : Nat) (s : Nat → Value) (w : World) (hA : A = some ⟨b, o, none⟩) (hs : ∀ k, k < 24 → w.cell? ⟨b, o + k, none⟩ = some (s k)) (hone : ∀ k, k < 24 → (s k).oneCell' = true) (hc : 24 ≤ c) :
    Calls Try.prog 71 #[.agg #[.int .i64 now, .slice A 24 c]] w fun e w' => e = .returned (.agg (dialCells now s)) ∧ Below w.heap.size w w' := by
  subst hA
  have hbl : b < w.heap.size := World.block_lt_of_cell? w _ (hs 0 (by omega))
  have HS := Lib.hid hs
  have H1 := Lib.hid hone
  clear hs hone
  go_enter Try.func71, Try.ntmps71
  go_upto_region 1 with (fail)
  refine Code.wp_name ?_
  intro V0 hV0
  have HX0 : Hid (Box V0 w.heap.size 26 #[.int .i64 now, .slice (some ⟨b, o, none⟩) 24 c]) := Lib.hid (by rw [hV0]; exact (Box.made _ _ _).over _)
  have HR0 : Hid (Box V0 (w.heap.size + 1) 112 (dialCells 0 fun _ => .slice none 0 0)) := Lib.hid (by rw [hV0]; exact Box.made_at _ _ _ (by simp))
  have HB0 : Hid (Below w.heap.size w V0) := Lib.hid (by rw [hV0]; exact ((Below.refl _ _).alloc (Nat.le_refl _) _).alloc (by simp) _)
  have HZ0 : Hid (w.heap.size + 2 = V0.heap.size) := Lib.hid (by rw [hV0]; simp)
  clear hV0
  have c0 := HX0.out.look 0
  go_upto_region 2 with (refine wpList_store_dial (now := 0) (now' := now) (s := fun _ => .slice none 0 0) (s' := fun _ => .slice none 0 0) rfl _ _ rfl rfl rfl (Box.made V0 112 (dialCells 0 fun _ => .slice none 0 0)) (fun _ _ => rfl) ?_)
  clear c0
  refine Code.wp_name ?_
  intro V hV
  have HX : Hid (Box V w.heap.size 26 #[.int .i64 now, .slice (some ⟨b, o, none⟩) 24 c]) := Lib.hid (by rw [hV]; exact (HX0.out.over _).grown (setRow_grown _ _ _) (by have := HZ0.out; simp; omega))
  have HR : Hid (Box V (w.heap.size + 1) 112 (dialCells 0 fun _ => .slice none 0 0)) := Lib.hid (by rw [hV]; exact (HR0.out.over _).grown (setRow_grown _ _ _) (by have := HZ0.out; simp; omega))
  have HD : Hid (Box V V0.heap.size 112 (dialCells now fun _ => .slice none 0 0)) := Lib.hid (by rw [hV]; exact (Box.made V0 _ _).setRow)
  have HB : Hid (Below w.heap.size w V) := Lib.hid (by rw [hV]; exact (HB0.out.alloc HB0.out.size _).grown (setRow_grown _ _ _) (by have := HZ0.out; simp; omega) (fun k e => by injection e with e; have := HZ0.out; omega))
  have HZ : Hid (V0.heap.size + 1 = V.heap.size) := Lib.hid (by rw [hV]; simp [World.setRow])
  clear hV HX0 HR0 HB0
  go_wp2
  go_loopw [8] (fun i wr => ∃ (k : Nat) (z : Int), i = .int .i64 z ∧ ((k = 0 ∧ z = 0) ∨ (k = 1 ∧ z = 1) ∨ (k = 2 ∧ z = 2) ∨ (k = 3 ∧ z = 3)) ∧ Hid (Box wr w.heap.size 26 #[.int .i64 now, .slice (some ⟨b, o, none⟩) 24 c]) ∧ Hid (Box wr (w.heap.size + 1) 112 (dialCells 0 fun _ => .slice none 0 0)) ∧
      Hid (Box wr V0.heap.size 112 (dialCells now fun j => if j < 8 * k then s j else .slice none 0 0)) ∧ Hid (Below w.heap.size w wr)) (fun i _ => 3 - (intOf i).toNat)
  case atStart => exact ⟨0, 0, rfl, .inl ⟨rfl, rfl⟩, HX, HR, HD, HB⟩
  case round =>
    obtain ⟨k, z, rfl, hkz, HX, HR, HD, HB⟩ := hrel
    have hcell : ∀ j, j < 24 → wr.cell? ⟨b, o + j, none⟩ = some (s j) := fun j hj => (HB.out.cell (p := ⟨b, o + j, none⟩) hbl).trans (HS.out j hj)
    have HC := Lib.hid hcell
    clear hcell
    have c1 := HX.out.look 1
    have hxl := HX.out.lt
    have hdl := HD.out.lt
    have hc0 : ¬ c = 0 := by omega
    have hc8 : ¬ c = 8 := by omega
    have hc16 : ¬ c = 16 := by omega
    rcases hkz with ⟨rfl, rfl⟩ | ⟨rfl, rfl⟩ | ⟨rfl, rfl⟩ | ⟨rfl, rfl⟩
    · go_wp2
      refine wp_region_any (by kernel_rfl) ?_
      change wpAny _ _ _ _ _ _ _ (World.drew _)
      refine wpAny_take (i := 0) (v := ?va0) rfl (by kernel_rfl) (by kernel_rfl) (by kernel_rfl) (fun _ _ _ h => h) (Or.inl ⟨by rfl, ?hya0⟩) ?resta0
      case hya0 => (intro W; (go_simp <;> with_reducible rfl))
      (try simp only [List.getElem_toArray, List.getElem_cons_zero, Act.put, List.setIfInBounds_toArray, List.set_cons_zero, List.set_cons_succ])
      refine wpAny_take (i := 1) (v := ?va1) rfl (by kernel_rfl) (by kernel_rfl) (by kernel_rfl) (fun _ _ _ h => h) (Or.inl ⟨by rfl, ?hya1⟩) ?resta1
      case hya1 => (intro W; (go_simp <;> with_reducible rfl))
      (try simp only [List.getElem_toArray, List.getElem_cons_succ, List.getElem_cons_zero, Act.put, List.setIfInBounds_toArray, List.set_cons_zero, List.set_cons_succ])
      refine wpAny_take (i := 2) (v := ?va2) rfl (by kernel_rfl) (by kernel_rfl) (by kernel_rfl) (fun _ _ _ h => h) (Or.inl ⟨by rfl, ?hya2⟩) ?resta2
      case hya2 => (intro W; (go_simp <;> with_reducible rfl))
      (try simp only [List.getElem_toArray, List.getElem_cons_succ, List.getElem_cons_zero, Act.put, List.setIfInBounds_toArray, List.set_cons_zero, List.set_cons_succ])
      refine wpAny_take (i := 3) (v := ?va3) rfl (by kernel_rfl) (by kernel_rfl) (by kernel_rfl) (fun _ _ _ h => h) (Or.inl ⟨by rfl, ?hya3⟩) ?resta3
      case hya3 => (intro W; (go_simp <;> with_reducible rfl))
      (try simp only [List.getElem_toArray, List.getElem_cons_succ, List.getElem_cons_zero, Act.put, List.setIfInBounds_toArray, List.set_cons_zero, List.set_cons_succ])
      refine wpAny_take (i := 4) (v := ?va4) rfl (by kernel_rfl) (by kernel_rfl) (by kernel_rfl) (fun _ _ _ h => h) (Or.inl ⟨by rfl, ?hya4⟩) ?resta4
      case hya4 => (intro W; (go_simp <;> with_reducible rfl))
      (try simp only [List.getElem_toArray, List.getElem_cons_succ, List.getElem_cons_zero, Act.put, List.setIfInBounds_toArray, List.set_cons_zero, List.set_cons_succ])
      refine wpAny_take (i := 6) (v := ?va6) rfl (by kernel_rfl) (by kernel_rfl) (by kernel_rfl) (fun _ _ _ h => h) (Or.inl ⟨by rfl, ?hya6⟩) ?resta6
      case hya6 => (intro W; (go_simp <;> with_reducible rfl))
      (try simp only [List.getElem_toArray, List.getElem_cons_succ, List.getElem_cons_zero, Act.put, List.setIfInBounds_toArray, List.set_cons_zero, List.set_cons_succ])
      refine wpAny_take (i := 7) (v := .int .i64 0) rfl (by kernel_rfl) (by kernel_rfl) (by kernel_rfl) (fun _ _ _ h => h) (Or.inl ⟨by rfl, ?hya7⟩) ?resta7
      case hya7 => (intro W; (go_simp <;> rfl))
      (try simp only [List.getElem_toArray, List.getElem_cons_succ, List.getElem_cons_zero, Act.put, List.setIfInBounds_toArray, List.set_cons_zero, List.set_cons_succ])
      refine wpAny_ready (rs := [5]) (by kernel_rfl) (by simp) ?_
      refine AllReady.cons rfl (fun K hK => ?_) AllReady.nil
      go_simp
      refine hK _ _ ?_
      clear hK K
      (try simp only [List.getElem_toArray, List.getElem_cons_succ, List.getElem_cons_zero, Act.put, List.setIfInBounds_toArray, List.set_cons_zero, List.set_cons_succ])
      refine wpAny_ready (rs := [8]) (by kernel_rfl) (by simp) ?_
      refine AllReady.cons rfl (fun K hK => ?_) AllReady.nil
      go_simp
      refine hK _ _ ?_
      clear hK K
      (try simp only [List.getElem_toArray, List.getElem_cons_succ, List.getElem_cons_zero, Act.put, List.setIfInBounds_toArray, List.set_cons_zero, List.set_cons_succ])
      refine wpAny_ready (rs := [9]) (by kernel_rfl) (by simp) ?_
      refine AllReady.cons rfl (fun K hK => ?_) AllReady.nil
      refine step_copy_row rfl (.tmp 14) (.tmp 19) 24 24 29 rfl Try.underlying24 (by kernel_rfl) [s 0, s 1, s 2, s 3, s 4, s 5, s 6, s 7] rfl rfl (show Box wr.drew V0.heap.size 112 _ from HD.out) rfl (copy_src (n := 0) (fun j hj => HC.out j (by omega))) (by simp [dialCells]) (copy_one (n := 0) (fun j hj => H1.out j (by omega))) ?_
      refine hK _ _ ?_
      clear hK K
      refine wpAny_done (by kernel_rfl) ?_ _
      go_wp2
      go_roundw
      case rel => exact ⟨1, 1, rfl, by omega, (show Box wr.drew _ _ _ from HX.out).grown (setRow_grown _ _ _) (by have := HZ0.out; simp; omega), (show Box wr.drew _ _ _ from HR.out).grown (setRow_grown _ _ _) (by have := HZ0.out; simp; omega), Box.setRow (show Box wr.drew V0.heap.size 112 _ from HD.out), (show Below w.heap.size w wr.drew from HB.out.drew).grown (setRow_grown _ _ _) HB.out.size (fun k e => by injection e with e; have := HZ0.out; omega)⟩
      case measure => simp [intOf]
    · go_wp2
      refine wp_region_any (by kernel_rfl) ?_
      change wpAny _ _ _ _ _ _ _ (World.drew _)
      refine wpAny_take (i := 0) (v := ?vb0) rfl (by kernel_rfl) (by kernel_rfl) (by kernel_rfl) (fun _ _ _ h => h) (Or.inl ⟨by rfl, ?hyb0⟩) ?restb0
      case hyb0 => (intro W; (go_simp <;> with_reducible rfl))
      (try simp only [List.getElem_toArray, List.getElem_cons_zero, Act.put, List.setIfInBounds_toArray, List.set_cons_zero, List.set_cons_succ])
      refine wpAny_take (i := 1) (v := ?vb1) rfl (by kernel_rfl) (by kernel_rfl) (by kernel_rfl) (fun _ _ _ h => h) (Or.inl ⟨by rfl, ?hyb1⟩) ?restb1
      case hyb1 => (intro W; (go_simp <;> with_reducible rfl))
      (try simp only [List.getElem_toArray, List.getElem_cons_succ, List.getElem_cons_zero, Act.put, List.setIfInBounds_toArray, List.set_cons_zero, List.set_cons_succ])
      refine wpAny_take (i := 2) (v := ?vb2) rfl (by kernel_rfl) (by kernel_rfl) (by kernel_rfl) (fun _ _ _ h => h) (Or.inl ⟨by rfl, ?hyb2⟩) ?restb2
      case hyb2 => (intro W; (go_simp <;> with_reducible rfl))
      (try simp only [List.getElem_toArray, List.getElem_cons_succ, List.getElem_cons_zero, Act.put, List.setIfInBounds_toArray, List.set_cons_zero, List.set_cons_succ])
      refine wpAny_take (i := 3) (v := ?vb3) rfl (by kernel_rfl) (by kernel_rfl) (by kernel_rfl) (fun _ _ _ h => h) (Or.inl ⟨by rfl, ?hyb3⟩) ?restb3
      case hyb3 => (intro W; (go_simp <;> with_reducible rfl))
      (try simp only [List.getElem_toArray, List.getElem_cons_succ, List.getElem_cons_zero, Act.put, List.setIfInBounds_toArray, List.set_cons_zero, List.set_cons_succ])
      refine wpAny_take (i := 4) (v := ?vb4) rfl (by kernel_rfl) (by kernel_rfl) (by kernel_rfl) (fun _ _ _ h => h) (Or.inl ⟨by rfl, ?hyb4⟩) ?restb4
      case hyb4 => (intro W; (go_simp <;> with_reducible rfl))
      (try simp only [List.getElem_toArray, List.getElem_cons_succ, List.getElem_cons_zero, Act.put, List.setIfInBounds_toArray, List.set_cons_zero, List.set_cons_succ])
      refine wpAny_take (i := 6) (v := ?vb6) rfl (by kernel_rfl) (by kernel_rfl) (by kernel_rfl) (fun _ _ _ h => h) (Or.inl ⟨by rfl, ?hyb6⟩) ?restb6
      case hyb6 => (intro W; (go_simp <;> with_reducible rfl))
      (try simp only [List.getElem_toArray, List.getElem_cons_succ, List.getElem_cons_zero, Act.put, List.setIfInBounds_toArray, List.set_cons_zero, List.set_cons_succ])
      refine wpAny_take (i := 7) (v := .int .i64 8) rfl (by kernel_rfl) (by kernel_rfl) (by kernel_rfl) (fun _ _ _ h => h) (Or.inl ⟨by rfl, ?hyb7⟩) ?restb7
      case hyb7 => (intro W; (go_simp <;> rfl))
      (try simp only [List.getElem_toArray, List.getElem_cons_succ, List.getElem_cons_zero, Act.put, List.setIfInBounds_toArray, List.set_cons_zero, List.set_cons_succ])
      refine wpAny_ready (rs := [5]) (by kernel_rfl) (by simp) ?_
      refine AllReady.cons rfl (fun K hK => ?_) AllReady.nil
      go_simp
      refine hK _ _ ?_
      clear hK K
      (try simp only [List.getElem_toArray, List.getElem_cons_succ, List.getElem_cons_zero, Act.put, List.setIfInBounds_toArray, List.set_cons_zero, List.set_cons_succ])
      refine wpAny_ready (rs := [8]) (by kernel_rfl) (by simp) ?_
      refine AllReady.cons rfl (fun K hK => ?_) AllReady.nil
      go_simp
      refine hK _ _ ?_
      clear hK K
      (try simp only [List.getElem_toArray, List.getElem_cons_succ, List.getElem_cons_zero, Act.put, List.setIfInBounds_toArray, List.set_cons_zero, List.set_cons_succ])
      refine wpAny_ready (rs := [9]) (by kernel_rfl) (by simp) ?_
      refine AllReady.cons rfl (fun K hK => ?_) AllReady.nil
      refine step_copy_row rfl (.tmp 14) (.tmp 19) 24 24 29 rfl Try.underlying24 (by kernel_rfl) [s 8, s 9, s 10, s 11, s 12, s 13, s 14, s 15] rfl rfl (show Box wr.drew V0.heap.size 112 _ from HD.out) rfl (copy_src (n := 8) (fun j hj => HC.out j (by omega))) (by simp [dialCells]) (copy_one (n := 8) (fun j hj => H1.out j (by omega))) ?_
      refine hK _ _ ?_
      clear hK K
      refine wpAny_done (by kernel_rfl) ?_ _
      go_wp2
      go_roundw
      case rel => exact ⟨2, 2, rfl, by omega, (show Box wr.drew _ _ _ from HX.out).grown (setRow_grown _ _ _) (by have := HZ0.out; simp; omega), (show Box wr.drew _ _ _ from HR.out).grown (setRow_grown _ _ _) (by have := HZ0.out; simp; omega), Box.setRow (show Box wr.drew V0.heap.size 112 _ from HD.out), (show Below w.heap.size w wr.drew from HB.out.drew).grown (setRow_grown _ _ _) HB.out.size (fun k e => by injection e with e; have := HZ0.out; omega)⟩
      case measure => simp [intOf]
    · go_wp2
      refine wp_region_any (by kernel_rfl) ?_
      change wpAny _ _ _ _ _ _ _ (World.drew _)
      refine wpAny_take (i := 0) (v := ?vc0) rfl (by kernel_rfl) (by kernel_rfl) (by kernel_rfl) (fun _ _ _ h => h) (Or.inl ⟨by rfl, ?hyc0⟩) ?restc0
      case hyc0 => (intro W; (go_simp <;> with_reducible rfl))
      (try simp only [List.getElem_toArray, List.getElem_cons_zero, Act.put, List.setIfInBounds_toArray, List.set_cons_zero, List.set_cons_succ])
      refine wpAny_take (i := 1) (v := ?vc1) rfl (by kernel_rfl) (by kernel_rfl) (by kernel_rfl) (fun _ _ _ h => h) (Or.inl ⟨by rfl, ?hyc1⟩) ?restc1
      case hyc1 => (intro W; (go_simp <;> with_reducible rfl))
      (try simp only [List.getElem_toArray, List.getElem_cons_succ, List.getElem_cons_zero, Act.put, List.setIfInBounds_toArray, List.set_cons_zero, List.set_cons_succ])
      refine wpAny_take (i := 2) (v := ?vc2) rfl (by kernel_rfl) (by kernel_rfl) (by kernel_rfl) (fun _ _ _ h => h) (Or.inl ⟨by rfl, ?hyc2⟩) ?restc2
      case hyc2 => (intro W; (go_simp <;> with_reducible rfl))
      (try simp only [List.getElem_toArray, List.getElem_cons_succ, List.getElem_cons_zero, Act.put, List.setIfInBounds_toArray, List.set_cons_zero, List.set_cons_succ])
      refine wpAny_take (i := 3) (v := ?vc3) rfl (by kernel_rfl) (by kernel_rfl) (by kernel_rfl) (fun _ _ _ h => h) (Or.inl ⟨by rfl, ?hyc3⟩) ?restc3
      case hyc3 => (intro W; (go_simp <;> with_reducible rfl))
      (try simp only [List.getElem_toArray, List.getElem_cons_succ, List.getElem_cons_zero, Act.put, List.setIfInBounds_toArray, List.set_cons_zero, List.set_cons_succ])
      refine wpAny_take (i := 4) (v := ?vc4) rfl (by kernel_rfl) (by kernel_rfl) (by kernel_rfl) (fun _ _ _ h => h) (Or.inl ⟨by rfl, ?hyc4⟩) ?restc4
      case hyc4 => (intro W; (go_simp <;> with_reducible rfl))
      (try simp only [List.getElem_toArray, List.getElem_cons_succ, List.getElem_cons_zero, Act.put, List.setIfInBounds_toArray, List.set_cons_zero, List.set_cons_succ])
      refine wpAny_take (i := 6) (v := ?vc6) rfl (by kernel_rfl) (by kernel_rfl) (by kernel_rfl) (fun _ _ _ h => h) (Or.inl ⟨by rfl, ?hyc6⟩) ?restc6
      case hyc6 => (intro W; (go_simp <;> with_reducible rfl))
      (try simp only [List.getElem_toArray, List.getElem_cons_succ, List.getElem_cons_zero, Act.put, List.setIfInBounds_toArray, List.set_cons_zero, List.set_cons_succ])
      refine wpAny_take (i := 7) (v := .int .i64 16) rfl (by kernel_rfl) (by kernel_rfl) (by kernel_rfl) (fun _ _ _ h => h) (Or.inl ⟨by rfl, ?hyc7⟩) ?restc7
      case hyc7 => (intro W; (go_simp <;> rfl))
      (try simp only [List.getElem_toArray, List.getElem_cons_succ, List.getElem_cons_zero, Act.put, List.setIfInBounds_toArray, List.set_cons_zero, List.set_cons_succ])
      refine wpAny_ready (rs := [5]) (by kernel_rfl) (by simp) ?_
      refine AllReady.cons rfl (fun K hK => ?_) AllReady.nil
      go_simp
      refine hK _ _ ?_
      clear hK K
      (try simp only [List.getElem_toArray, List.getElem_cons_succ, List.getElem_cons_zero, Act.put, List.setIfInBounds_toArray, List.set_cons_zero, List.set_cons_succ])
      refine wpAny_ready (rs := [8]) (by kernel_rfl) (by simp) ?_
      refine AllReady.cons rfl (fun K hK => ?_) AllReady.nil
      go_simp
      refine hK _ _ ?_
      clear hK K
      (try simp only [List.getElem_toArray, List.getElem_cons_succ, List.getElem_cons_zero, Act.put, List.setIfInBounds_toArray, List.set_cons_zero, List.set_cons_succ])
      refine wpAny_ready (rs := [9]) (by kernel_rfl) (by simp) ?_
      refine AllReady.cons rfl (fun K hK => ?_) AllReady.nil
      refine step_copy_row rfl (.tmp 14) (.tmp 19) 24 24 29 rfl Try.underlying24 (by kernel_rfl) [s 16, s 17, s 18, s 19, s 20, s 21, s 22, s 23] rfl rfl (show Box wr.drew V0.heap.size 112 _ from HD.out) rfl (copy_src (n := 16) (fun j hj => HC.out j (by omega))) (by simp [dialCells]) (copy_one (n := 16) (fun j hj => H1.out j (by omega))) ?_
      refine hK _ _ ?_
      clear hK K
      refine wpAny_done (by kernel_rfl) ?_ _
      go_wp2
      go_roundw
      case rel => exact ⟨3, 3, rfl, by omega, (show Box wr.drew _ _ _ from HX.out).grown (setRow_grown _ _ _) (by have := HZ0.out; simp; omega), (show Box wr.drew _ _ _ from HR.out).grown (setRow_grown _ _ _) (by have := HZ0.out; simp; omega), Box.setRow (show Box wr.drew V0.heap.size 112 _ from HD.out), (show Below w.heap.size w wr.drew from HB.out.drew).grown (setRow_grown _ _ _) HB.out.size (fun k e => by injection e with e; have := HZ0.out; omega)⟩
      case measure => simp [intOf]
    · have hD : Box wr V0.heap.size 112 (dialCells now s) := HD.out
      have HD' := Lib.hid hD
      clear hD HD
      go_wp2_with (first | (refine wpList_load_dial rfl _ rfl rfl HD'.out ?_) | (refine wpList_store_dial (now := 0) (now' := now) (s := fun _ => .slice none 0 0) (s' := s) rfl _ _ rfl rfl rfl HR.out H1.out ?_))
      have hR := (HR.out.setRow (cs' := dialCells now s))
      have hlv := loadVar_dial hR
      exact bodyPost_ret (v := .agg (dialCells now s)) (by simp [results, Try.results71, hlv, asAddr, Act.put]) rfl ⟨rfl, HB.out.grown (setRow_grown _ _ _) HB.out.size (fun k e => by injection e with e; omega)⟩

/-- The dial of rows. -/
theorem dialOf_rows (now : Int) (q : Bool) (lo hi : Nat) (A : Option Addr) (c : Nat) (ys : List (List Tmr)) (w : World) (ha : Rep.timer.rows.Sl q lo hi w A 24 ys) (hh : hi ≤ w.heap.size) (hc : 24 ≤ c) :
    Calls Try.prog 71 #[.agg #[.int .i64 now, .slice A 24 c]] w fun e w' => ∃ s, e = .returned (.agg (dialCells now s)) ∧ DialIn lo hi w s (fun k => ys.getD k []) ∧ Below w.heap.size w w' := by
  obtain ⟨b, o, rfl, hb, s, hs⟩ := rows_values ha (by omega)
  refine (dialOf_any now _ c b o s w rfl (fun k hk => (hs k hk).1) (fun k hk => by obtain ⟨E, d, e, _⟩ := (hs k hk).2; rw [e]; rfl) hc).mono ?_
  rintro e w' ⟨rfl, hb'⟩
  refine ⟨s, rfl, fun k hk => ?_, hb'⟩
  obtain ⟨E, d, e, h2⟩ := (hs k hk).2
  exact ⟨E, d, e, h2.1, fun hn => by
    obtain ⟨b', o', e', l1, u1, _, hrow⟩ := h2.2 hn
    exact ⟨b', o', e', l1, u1, fun hf => (by cases hf), fun i a hi => by obtain ⟨cs, h1, h3⟩ := hrow i a hi; exact ⟨cs, h1, h3⟩⟩⟩

end Go.Proofs.Ytakplomopbnekaa
