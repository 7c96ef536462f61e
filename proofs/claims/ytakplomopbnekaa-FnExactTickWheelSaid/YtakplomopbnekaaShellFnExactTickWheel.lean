/-
  The program's TickWheel answers as the model's, writes into no argument, and its answer owns its memory. No condition.
-/
import Derived.Test.YtakplomopbnekaaDropMath
import Derived.Test.YtakplomopbnekaaMAdd
import Derived.Maps.AppendAt
import Derived.Test.YtakplomopbnekaaRows
import Derived.WalkKit
import Derived.ProofKit
import Derived.OpenShut
import Derived.ShutString
import Derived.ChangeOld
import Derived.Below
import Derived.Test.YtakplomopbnekaaOpenWheel
namespace Go.Proofs.Ytakplomopbnekaa
open Go.RowKit Go.Shelf
set_option linter.unusedVariables false

def isDue (now : Int) (t : Tmr) : Bool := decide (t.due = now + 1)
def dueT (now : Int) (ts : List Tmr) : List Tmr := ts.filter fun t => isDue now t
def restT (now : Int) (ts : List Tmr) : List Tmr := ts.filter fun t => !isDue now t
def tickR (now : Int) (ys : List (List Tmr)) : List (List Tmr) := (upto 24).map fun x => withAll (now + 1) (restT now ys.flatten) x.1
def runR : Nat → Int → List (List Tmr) → List (List Tmr)
  | 0, _, ys => ys
  | k + 1, now, ys => runR k (now + 1) (tickR now ys)
def runD : Nat → Int → List (List Tmr) → List Tmr
  | 0, _, _ => []
  | k + 1, now, ys => dueT now ys.flatten ++ runD k (now + 1) (tickR now ys)
theorem runR_snoc (k : Nat) : ∀ (now : Int) (ys : List (List Tmr)), runR (k + 1) now ys = tickR (now + k) (runR k now ys) := by
  induction k with
  | zero => intro now ys; simp [runR]
  | succ k ih =>
    intro now ys
    rw [runR, ih, runR, show now + ((k + 1 : Nat) : Int) = now + 1 + k by omega]
theorem runD_snoc (k : Nat) : ∀ (now : Int) (ys : List (List Tmr)), runD (k + 1) now ys = runD k now ys ++ dueT (now + k) (runR k now ys).flatten := by
  induction k with
  | zero => intro now ys; simp [runD, runR]
  | succ k ih =>
    intro now ys
    rw [runD, ih, runD, runR, List.append_assoc, show now + ((k + 1 : Nat) : Int) = now + 1 + k by omega]

/-- The timers lie at most 60 in number, each with a place. -/
structure Placed (now : Int) (ys : List (List Tmr)) : Prop where
  len : ys.length = 24
  tot : tot ys ≤ 60
  ok : ∀ t ∈ ys.flatten, poC now t.due = 0
theorem poC_ok {now due : Int} (h : poC now due = 0) : poOk now due := by
  unfold poC at h
  by_cases hx : poOk now due
  · exact hx
  · rw [if_neg hx] at h; omega
theorem filter_split (ts : List Tmr) (f : Tmr → Nat) (k : Nat) : (ts.filter fun t => decide (f t < k + 1)).length = (ts.filter fun t => decide (f t < k)).length + (ts.filter fun t => f t == k).length := by
  induction ts with
  | nil => rfl
  | cons t r ih =>
    simp only [List.filter_cons]
    by_cases h1 : f t < k
    · have h2 : ¬ f t = k := by omega
      simp [h1, h2, show f t < k + 1 by omega] at ih ⊢
      omega
    · by_cases h2 : f t = k
      · simp [h2] at ih ⊢
        omega
      · simp [h1, h2, show ¬ f t < k + 1 by omega] at ih ⊢
        omega
theorem tot_upto (now : Int) (ts : List Tmr) : ∀ k, k ≤ 24 → tot ((upto k).map fun x => withAll now ts x.1) = (ts.filter fun t => decide ((poV now t.due).toNat < k)).length := by
  intro k
  induction k with
  | zero =>
    intro _
    have h : (ts.filter fun t => decide ((poV now t.due).toNat < 0)) = [] := List.filter_eq_nil_iff.2 fun t _ => by simp
    rw [h]; rfl
  | succ k ih =>
    intro hk
    rw [upto_succ (by omega), List.map_append, filter_split, ← ih (by omega)]
    simp [tot, withAll]
theorem tot_rows (now : Int) (ts : List Tmr) : tot ((upto 24).map fun x => withAll now ts x.1) ≤ ts.length := by
  rw [tot_upto now ts 24 (Nat.le_refl _)]
  exact List.length_filter_le _ _
theorem rows_in {now : Int} {ts : List Tmr} {t : Tmr} (h : t ∈ ((upto 24).map fun x => withAll now ts x.1).flatten) : t ∈ ts := by
  obtain ⟨y, hy, hty⟩ := List.mem_flatten.1 h
  obtain ⟨x, _, rfl⟩ := List.mem_map.1 hy
  exact (List.mem_filter.1 hty).1
theorem Placed.tick {now : Int} {ys : List (List Tmr)} (h : Placed now ys) (hn : now + 1 ≤ 1000000) : Placed (now + 1) (tickR now ys) := by
  have hl : (restT now ys.flatten).length ≤ 60 := Nat.le_trans (List.length_filter_le _ _) (by rw [show ys.flatten.length = Go.Proofs.Ytakplomopbnekaa.tot ys by simp [Go.Proofs.Ytakplomopbnekaa.tot]]; exact h.tot)
  refine ⟨by unfold tickR; rw [List.length_map, upto_len (Nat.le_refl _)], Nat.le_trans (tot_rows _ _) hl, fun t ht => ?_⟩
  have h1 := List.mem_filter.1 (rows_in ht)
  obtain ⟨a1, a2, a3, a4⟩ := poC_ok (h.ok t h1.1)
  have h2 : ¬ t.due = now + 1 := by simpa [isDue] using h1.2
  unfold poC
  rw [if_pos]
  exact ⟨by omega, hn, by omega, by omega⟩
theorem Placed.run {k : Nat} : ∀ {now : Int} {ys : List (List Tmr)}, Placed now ys → now + k ≤ 1000000 → Placed (now + k) (runR k now ys) := by
  induction k with
  | zero => intro now ys h _; simpa [runR] using h
  | succ k ih =>
    intro now ys h hn
    have := ih (h.tick (by omega)) (show now + 1 + k ≤ 1000000 by omega)
    rw [show now + ((k + 1 : Nat) : Int) = now + 1 + k by omega]
    exact this
theorem Placed.of {now : Int} {ys : List (List Tmr)} (h : faultW now ys = 0) : Placed now ys := by
  obtain ⟨_, h1, h2⟩ := fault_ok h
  exact ⟨h1, h2, fault_in h⟩
theorem runD_len (k : Nat) : ∀ (now : Int) (ys : List (List Tmr)), (runD k now ys).length + tot (runR k now ys) ≤ tot ys := by
  induction k with
  | zero => intro now ys; simp [runD, runR]
  | succ k ih =>
    intro now ys
    have h1 := ih (now + 1) (tickR now ys)
    have h2 : tot (tickR now ys) ≤ (restT now ys.flatten).length := tot_rows _ _
    have h3 : (dueT now ys.flatten).length + (restT now ys.flatten).length = tot ys := by
      unfold dueT restT
      have : ∀ ts : List Tmr, (ts.filter fun t => isDue now t).length + (ts.filter fun t => !isDue now t).length = ts.length := fun ts => by
        induction ts with
        | nil => rfl
        | cons t r ih =>
          cases hd : isDue now t <;> simp [hd] at ih ⊢ <;> omega
      rw [this, show ys.flatten.length = tot ys by simp [tot]]
    rw [runD, runR, List.length_append]
    omega

/-- What RunWheel answers. -/
def rwC (now : Int) (ys : List (List Tmr)) (k : Int) : Int := if faultW now ys ≠ 0 then faultW now ys else if 0 ≤ k ∧ k ≤ 1000 then (if 1000000 < now + k then 9 else 0) else 3
def rwN (now : Int) (ys : List (List Tmr)) (k : Int) : Int := if rwC now ys k = 0 then now + k else 0
def rwR (now : Int) (ys : List (List Tmr)) (k : Int) : List (List Tmr) := if rwC now ys k = 0 then runR k.toNat now ys else []
def rwD (now : Int) (ys : List (List Tmr)) (k : Int) : List Tmr := if rwC now ys k = 0 then runD k.toNat now ys else []
theorem rwC_0 {now : Int} {ys : List (List Tmr)} {k : Int} (h : rwC now ys k = 0) : faultW now ys = 0 ∧ (0 ≤ k ∧ k ≤ 1000) ∧ now + k ≤ 1000000 := by
  unfold rwC at h
  by_cases h1 : faultW now ys = 0
  · rw [if_neg (fun e => e h1)] at h
    by_cases h2 : 0 ≤ k ∧ k ≤ 1000
    · rw [if_pos h2] at h
      by_cases h3 : 1000000 < now + k
      · rw [if_pos h3] at h; omega
      · exact ⟨h1, h2, by omega⟩
    · rw [if_neg h2] at h; omega
  · rw [if_pos h1] at h; exact absurd h h1
theorem rw_bd (now : Int) (ys : List (List Tmr)) (k : Int) : (rwR now ys k).length ≤ 1048576 ∧ (∀ y ∈ rwR now ys k, y.length ≤ 1048576) ∧ tot (rwR now ys k) ≤ 1048576 ∧ (rwD now ys k).length ≤ 1048576 := by
  unfold rwR rwD
  by_cases h : rwC now ys k = 0
  · obtain ⟨hf, hk, hn⟩ := rwC_0 h
    have hP := (Placed.of hf).run (k := k.toNat) (by omega)
    have hD := runD_len k.toNat now ys
    have hT := (Placed.of hf).tot
    have hT2 := hP.tot
    rw [if_pos h, if_pos h]
    refine ⟨by rw [hP.len]; omega, fun y hy => ?_, by omega, by omega⟩
    obtain ⟨i, hi, rfl⟩ := List.getElem_of_mem hy
    have := tot_at _ i _ (List.getElem?_eq_getElem hi)
    omega
  · rw [if_neg h, if_neg h]
    exact ⟨by simp, fun y hy => (by cases hy), by simp [tot], by simp⟩

end Go.Proofs.Ytakplomopbnekaa

namespace Go.Proofs.Ytakplomopbnekaa
open Go.RowKit Go.Shelf
set_option linter.unusedVariables false

/-- append of flat items, which tells where the answer lies. -/
theorem wpList_appAt {α : Type} {size bytes : Nat} {f : α → List Value} {ts t : TypeId} {z : Value} {ops : Array Oper} {rest : List Oper} {o : Oper} {a : Act} {Q : Exit → Act → World → Prop} {w : World} {B : Nat} {A : Option Addr} {ad : Addr} {n c m d : Nat} {zs ys : List α} (hf : ∀ a, (f a).length = size) (hone : ∀ a, ∀ u ∈ f a, u.oneCell' = true) (hu : Try.prog.underlying ts = some (.slice t))
    (hinfo : (Try.prog.info? t).map (fun i => (i.zero, i.size, i.bytes)) = some (some z, size, bytes)) (hzc : z.cells.size = size) (hsz : 0 < size) (hby : bytes ≤ 1048576)
    (hgd : o.guard = none) (s x : Operand) (ho : o.op = .call { callee := .builtin .append, args := #[s, x], argTypes := #[ts, ts] })
    (hs : a.eval s = .slice A n c) (hown : OwnF t size f w B A n c zs) (hx : a.eval x = .slice (some ad) m d) (hyl : ys.length = m) (hE : ∀ j u, (ys.flatMap f)[j]? = some u → w.cell? (ad.add j) = some u) (hl : n + m ≤ 1048576) (hB : B ≤ w.heap.size)
    (h : ∀ A' c' w', OwnF t size f w' B A' (n + m) c' (zs ++ ys) → w.grownBy w' (A.map (·.block)) → (A'.map (·.block) = A.map (·.block) ∨ A'.map (·.block) = some w.heap.size) → wpList Try.prog ops Q rest (a.put o.dst (.slice A' (n + m) c')) w') :
    wpList Try.prog ops Q (o :: rest) a w := by
  refine wpList_plain hgd fun K hK => ?_
  obtain ⟨i0, hi, hz0, hz1, hz2⟩ := info_parts hinfo
  have hrow : ∀ (A : Option Addr) (n c : Nat), (Value.slice A n c).ownBlock = A.map (·.block) := fun A n c => by cases A <;> rfl
  have hbytes : (n + m) * bytes ≤ 140737488355328 := Nat.le_trans (Nat.mul_le_mul hl hby) (by decide)
  obtain ⟨v', w', hrun, h2, h3, _, h4⟩ := run_append_own_at (P := Try.prog) (w := w) B ts o.type t i0 z size bytes hu hi hz0 hz1 hz2 hzc hsz (.slice A n c) n (zs.flatMap f) hown.2 ad m d (ys.flatMap f) (by rw [flat_len hf, hyl]) hE (fun u hu => by
      obtain ⟨a, _, h2⟩ := List.mem_flatMap.1 hu
      exact hone a u h2) (by unfold maxLen; omega) hbytes hB
  obtain ⟨A', c', rfl⟩ := own_form_any h2
  rw [hrow, hrow] at h4
  unfold Oper.wp execOp
  simp only [ho, resolve, invoke, builtin, Sem.run_bind, Sem.run_pure, Result.andThen_ok, List.map_toArray, List.map_cons, List.map_nil, hs, hx, hrun]
  exact hK _ _ (h A' c' w' ⟨by rw [List.length_append, hown.1, hyl], by rw [List.flatMap_append]; exact h2⟩ (by rw [← hrow A n c]; exact h3) h4)

theorem timer_keep {q : Bool} {lo hi : Nat} {w w' : World} {A : Option Addr} {n : Nat} {ys : List Tmr} (h : Rep.timer.Sl q lo hi w A n ys) (k : ∀ r, A.map (·.block) = some r → w'.heap[r]? = w.heap[r]?) : Rep.timer.Sl q lo hi w' A n ys :=
  ⟨h.1, fun hn => by
    obtain ⟨b, o, e, l, u, f, hr⟩ := h.2 hn
    have hk := k b (by rw [e]; rfl)
    exact ⟨b, o, e, l, u, fun hq i => (World.frozen?_of_block (a := ⟨b, i, none⟩) hk).trans (f hq i), fun i a ha => by
      obtain ⟨cs, h1, h2⟩ := hr i a ha
      exact ⟨cs, h1, fun j u hu => (World.cell?_of_block hk).trans (h2 j u hu)⟩⟩⟩
/-- A dial's rows lie apart from a list's block, and were there. -/
def ApartD (w : World) (s : Nat → Value) (E : Option Addr) : Prop := ∀ k, k < 24 → ∀ A n c, s k = .slice A n c → ∀ r, A.map (·.block) = some r → r < w.heap.size ∧ E.map (·.block) ≠ some r
theorem ApartD.zero (w : World) (E : Option Addr) : ApartD w (fun _ => .slice none 0 0) E := fun k hk A n c e r hr => by injection e with e _ _; subst e; cases hr
theorem ApartD.size {w w' : World} {s : Nat → Value} {E : Option Addr} (h : ApartD w s E) (hs : w.heap.size ≤ w'.heap.size) : ApartD w' s E := fun k hk A n c e r hr => by have := h k hk A n c e r hr; exact ⟨by omega, this.2⟩
theorem ApartD.dialC {lo hi : Nat} {w w' : World} {s : Nat → Value} {ys : Nat → List Tmr} {E : Option Addr} (h : ApartD w s E) (hc : DialC lo hi w s ys) (hg : w.grownBy w' (E.map (·.block))) : DialC lo hi w' s ys := fun k hk => by
  obtain ⟨A, c, h1, h2, h3, h4⟩ := hc k hk
  exact ⟨A, c, h1, h2, h3, timer_keep h4 fun r hr => by
    have := h k hk A _ c h1 r hr
    exact hg.block r this.1 (fun e => this.2 e.symm)⟩

section
attribute [local go_sem] Oper.semAt_some

set_option maxRecDepth 100000 in
set_option maxHeartbeats 8000000 in
theorem ticked_any (now : Int) (s : Nat → Value) (ys : Nat → List Tmr) (lo hi : Nat) (w : World) (hs : DialIn lo hi w s ys) (hh : hi ≤ w.heap.size) (hn0 : 0 ≤ now) (hn1 : now + 1 ≤ 1000000) (hm : (rowsP ys (upto 24)).length ≤ 40000) (hm2 : ∀ k, k < 24 → (ys k).length ≤ 40000) (hp : ∀ t ∈ rowsP ys (upto 24), poC now t.due = 0) :
    Calls Try.prog 72 #[.agg (dialCells now s)] w fun e w' => ∃ s' E m d, e = .returned (.tuple #[.agg (dialCells (now + 1) s'), .slice E m d]) ∧ DialC w.heap.size w'.heap.size w' s' (withAll (now + 1) (restT now (rowsP ys (upto 24)))) ∧ OwnF 36 4 tcell w' w.heap.size E m d (dueT now (rowsP ys (upto 24))) ∧ Below w.heap.size w w' := by
  have HS := Lib.hid hs
  have HM := Lib.hid hm
  have HM2 := Lib.hid hm2
  have HP := Lib.hid hp
  clear hs hm hp hm2
  obtain ⟨ts, hts⟩ : ∃ ts, rowsP ys (upto 24) = ts := ⟨_, rfl⟩
  rw [hts] at HM HP ⊢
  have HTS := Lib.hid hts
  clear hts
  go_enter Try.func72, Try.ntmps72
  go_upto_region 1 with (fail)
  refine Code.wp_name ?_
  intro V0 hV0
  have HX0 : Hid (Box V0 w.heap.size 112 (dialCells now s)) := Lib.hid (by rw [hV0]; exact (Box.made _ _ _).over _)
  have HR0 : Hid (Box V0 (w.heap.size + 1) 112 (dialCells 0 fun _ => .slice none 0 0)) := Lib.hid (by rw [hV0]; exact Box.made_at _ _ _ (by simp))
  have HB0 : Hid (Below w.heap.size w V0) := Lib.hid (by rw [hV0]; exact ((Below.refl _ _).alloc (Nat.le_refl _) _).alloc (by simp) _)
  have HZ0 : Hid (w.heap.size + 2 = V0.heap.size) := Lib.hid (by rw [hV0]; simp)
  clear hV0
  have c0 := (HX0.out.look 0).trans (show _ = some (Value.int .i64 now) from rfl)
  have hxl := HX0.out.lt
  go_upto_region 2 with (refine wpList_store_dial (now := 0) (now' := now + 1) (s := fun _ => .slice none 0 0) (s' := fun _ => .slice none 0 0) rfl _ _ rfl rfl rfl (Box.made V0 112 (dialCells 0 fun _ => .slice none 0 0)) (fun _ _ => rfl) ?_)
  clear c0 hxl
  refine Code.wp_name ?_
  intro V hV
  have HX : Hid (Box V w.heap.size 112 (dialCells now s)) := Lib.hid (by rw [hV]; exact (HX0.out.over _).grown (setRow_grown _ _ _) (by have := HZ0.out; simp; omega))
  have HR : Hid (Box V (w.heap.size + 1) 112 (dialCells 0 fun _ => .slice none 0 0)) := Lib.hid (by rw [hV]; exact (HR0.out.over _).grown (setRow_grown _ _ _) (by have := HZ0.out; simp; omega))
  have HD : Hid (Box V V0.heap.size 112 (dialCells (now + 1) fun _ => .slice none 0 0)) := Lib.hid (by rw [hV]; exact (Box.made V0 _ _).setRow)
  have HB : Hid (Below w.heap.size w V) := Lib.hid (by rw [hV]; exact (HB0.out.alloc HB0.out.size _).grown (setRow_grown _ _ _) (by have := HZ0.out; simp; omega) (fun k e => by injection e with e; have := HZ0.out; omega))
  have HZ : Hid (V0.heap.size + 1 = V.heap.size) := Lib.hid (by rw [hV]; simp [World.setRow])
  clear hV HX0 HR0 HB0
  go_wp2_with (refine wpList_load_dial rfl _ rfl rfl HX.out ?_)
  refine (timers_any now s ys lo hi V (HS.out.below HB.out hh) (Nat.le_trans hh HB.out.size) HM2.out).mono ?_
  rw [HTS.out]
  rintro e w1 ⟨E, m, d, rfl, ho, hb⟩
  have hml : m ≤ 40000 := by rw [← ho.1]; exact HM.out
  have HO := Rep.Sl.kept (own_timers ho) (Nat.le_refl _)
  have HR1 := Lib.hid (HR.out.below hb)
  have HD1 := Lib.hid (HD.out.below hb)
  have HB1 := Lib.hid (below_step HB.out hb)
  have HZ1 : Hid (V0.heap.size + 1 ≤ w1.heap.size) := Lib.hid (by have := HZ.out; have := hb.size; omega)
  have HL := Lib.hid ho.1
  clear ho hb HX HR HD HB
  go_wp2
  go_loopw [15, 5] (fun i v wr => ∃ (j : Nat) (s' : Nat → Value) (F : Option Addr) (k d' : Nat), j ≤ m ∧ i = .int .i64 j ∧ v = .slice F k d' ∧ Hid (Below w.heap.size w wr) ∧ Hid (w1.heap.size ≤ wr.heap.size) ∧ Kept V.heap.size w1.heap.size (fun W => Rep.timer.Sl true V.heap.size w1.heap.size W E m ts) wr ∧ Hid (Box wr (w.heap.size + 1) 112 (dialCells 0 fun _ => .slice none 0 0)) ∧
      Hid (Box wr V0.heap.size 112 (dialCells (now + 1) s')) ∧ Hid (DialC (V0.heap.size + 1) wr.heap.size wr s' (withAll (now + 1) (restT now (ts.take j)))) ∧ Hid (OwnF 36 4 tcell wr w1.heap.size F k d' (dueT now (ts.take j))) ∧ Hid (ApartD wr s' F)) (fun i _ _ => m - (intOf i).toNat)
  case atStart => exact ⟨0, _, none, 0, 0, Nat.zero_le _, rfl, rfl, HB1, Lib.hid (Nat.le_refl _), HO, HR1, HD1, DialC.zero _ _ _, Lib.hid ⟨rfl, World.ownsRow_nil _ _ _ 4⟩, Lib.hid (ApartD.zero _ _)⟩
  case round =>
    obtain ⟨j, s', F, kk, d', hj, rfl, rfl, HB, HZW, HO, HR, HD, HDC, HDU, HAP⟩ := hrel
    by_cases hlt : j < m
    · obtain ⟨b, o, t, rfl, hta, a0, a1, a2, a3⟩ := Rep.timer_at HO.sl hlt
      have hlt' : (j : Int) < m := by omega
      have HTA := Lib.hid hta
      have HPT := Lib.hid (HP.out t (List.mem_of_getElem? hta))
      clear hta
      go_upto_region 5 with (fail)
      refine Code.wp_name ?_
      intro u1 hu1
      have hb1 : Below wr.heap.size wr u1 := by rw [hu1]; exact (Below.refl _ _).alloc (Nat.le_refl _) _
      have HT1 : Hid (Box u1 wr.heap.size 36 #[.int .i64 t.typ, .int .i64 t.id, .int .i64 t.adv, .int .i64 t.due]) := Lib.hid (by rw [hu1]; exact Box.made _ _ _)
      have HZu : Hid (wr.heap.size + 1 = u1.heap.size) := Lib.hid (by rw [hu1]; simp)
      have HO1 := HO.below hb1
      have HR1 := Lib.hid (HR.out.below hb1)
      have HD1 := Lib.hid (HD.out.below hb1)
      have HB1 := Lib.hid (below_step HB.out hb1)
      have HDC1 := Lib.hid ((HDC.out.below hb1 (Nat.le_refl _)).mono (Nat.le_refl _) hb1.size)
      have HDU1 := Lib.hid (HDU.out.below hb1)
      have HAP1 := Lib.hid (HAP.out.size hb1.size)
      have HW1 : Hid (w1.heap.size ≤ u1.heap.size) := Lib.hid (Nat.le_trans HZW.out hb1.size)
      clear hu1 hb1 HR HD HB HDC a0 a1 a2 a3 HDU HAP
      have t0 := HT1.out.look 0
      have t1 := HT1.out.look 1
      have t2 := HT1.out.look 2
      have t3 := HT1.out.look 3
      have htl := HT1.out.lt
      have n0 := (HD1.out.look 0).trans (show _ = some (Value.int .i64 (now + 1)) from rfl)
      have hnl := HD1.out.lt
      by_cases hdue : t.due = now + 1
      · have HDE : Hid (isDue now t = true) := Lib.hid (by simp [isDue, hdue])
        have HKL : Hid (kk ≤ j) := Lib.hid (by
          have h1 := HDU1.out.1
          have h2 := List.length_filter_le (fun t => isDue now t) (ts.take j)
          rw [← h1]
          unfold dueT
          rw [List.length_take] at h2; omega)
        have hkl : kk ≤ j := HKL.out
        have hde : (t.due == now + 1) = true := by simp [hdue]
        clear hdue
        have hLit : Box (u1.alloc (.cells #[.int .i64 t.typ, .int .i64 t.id, .int .i64 t.adv, .int .i64 t.due] 36)) u1.heap.size 36 #[.int .i64 t.typ, .int .i64 t.id, .int .i64 t.adv, .int .i64 t.due] := Box.made u1 _ _
        have hba : Below u1.heap.size u1 (u1.alloc (.cells #[.int .i64 t.typ, .int .i64 t.id, .int .i64 t.adv, .int .i64 t.due] 36)) := (Below.refl _ _).alloc (Nat.le_refl _) _
        have HLT := Lib.hid hLit
        have HBA := Lib.hid hba
        clear hLit hba
        go_wp2_with (at_builtin; refine wpList_appAt tcell_len tcell_one Try.underlying29 timerInfo rfl (by decide) (by decide) rfl (.tmp 24) (.tmp 26) rfl (B := w1.heap.size) rfl (HDU1.out.below HBA.out) rfl (ys := [t]) rfl (fun j v hj => by rw [Addr.add_lit, Nat.zero_add]; exact (HLT.out.look j).trans (by simpa [tcell] using hj)) (by omega) (Nat.le_trans HW1.out HBA.out.size) ?_; intro A2 c2 u2 ho2 hg2 hab)
        go_roundw
        case rel =>
          have hsz := hg2.size
          have hbs := HBA.out.size
          have hlu : ∀ r, F.map (·.block) = some r → w1.heap.size ≤ r := fun r hr => (HDU1.out.block r hr).1
          have hz1 := HZ1.out
          have hz := HZ.out
          have hz0 := HZ0.out
          refine ⟨j + 1, s', A2, kk + 1, c2, by omega, by go_num, rfl, Lib.hid (below_step HB1.out HBA.out |>.grown hg2 (Nat.le_trans HB1.out.size hbs) (fun r e => by have := hlu r e; have := HB1.out.size; omega)), Lib.hid (by have := HW1.out; omega), ?_, Lib.hid ((HR1.out.below HBA.out).grown hg2 (fun e => by have := hlu _ e; omega)), Lib.hid ((HD1.out.below HBA.out).grown hg2 (fun e => by have := hlu _ e; omega)), ?_, ?_, ?_⟩
          · exact (HO1.below HBA.out).only (Only.of_grown (lo := w1.heap.size) (hi := u1.heap.size + 1) hg2 (fun r e => ⟨hlu r e, by have := (HDU1.out.block r e).2; omega⟩)) (.inl (Nat.le_refl _))
          · have h1 : restT now (ts.take (j + 1)) = restT now (ts.take j) := by unfold restT; rw [take_filter _ HTA.out, HDE.out]; simp
            rw [h1]
            refine Lib.hid (DialC.mono ((HAP1.out.size hbs).dialC ((HDC1.out.below HBA.out (Nat.le_refl _)).mono (Nat.le_refl _) hbs) hg2) (Nat.le_refl _) hsz)
          · have h1 : dueT now (ts.take (j + 1)) = dueT now (ts.take j) ++ [t] := by unfold dueT; rw [take_filter _ HTA.out, HDE.out]; simp
            rw [h1]; exact Lib.hid ho2
          · refine Lib.hid (fun k hk A n c e r hr => ?_)
            have h1 := HAP1.out k hk A n c e r hr
            refine ⟨by omega, fun e2 => ?_⟩
            rcases hab with h | h
            · exact h1.2 (h.symm.trans e2)
            · have h2 : some (u1.alloc (.cells #[.int .i64 t.typ, .int .i64 t.id, .int .i64 t.adv, .int .i64 t.due] 36)).heap.size = some r := h.symm.trans e2
              injection h2 with h2; omega
        case measure => simp [intOf]; omega
      · have HDE : Hid (isDue now t = false) := Lib.hid (by simp [isDue, hdue])
        have HPN : Hid (poC (now + 1) t.due = 0) := Lib.hid (by
          obtain ⟨a1, a2, a3, a4⟩ := poC_ok HPT.out
          unfold poC
          rw [if_pos]
          exact ⟨by omega, hn1, by omega, by omega⟩)
        have hde : (t.due == now + 1) = false := by simp [hdue]
        clear hdue
        have hle : ∀ i, i < 24 → (withAll (now + 1) (restT now (ts.take j)) i).length ≤ 40000 := fun i _ => by
          have h1 := withAll_le (now + 1) (restT now (ts.take j)) i
          have h2 := List.length_filter_le (fun t => !isDue now t) (ts.take j)
          have h3 := HM.out
          unfold restT at h1 ⊢
          simp only [List.length_take] at h2
          omega
        have HLE := Lib.hid hle
        clear hle
        go_wp2_with (refine wpList_load_dial rfl _ rfl rfl HD1.out ?_)
        refine (with_any2 (now + 1) s' _ (V0.heap.size + 1) u1.heap.size t u1 HDC1.out (by have := HZu.out; have := HZW.out; have := HZ1.out; omega) (Nat.le_refl _) HPN.out HLE.out).mono ?_
        rintro e u2 ⟨s2, rfl, hdc, hfresh, hb2⟩
        have HFR := Lib.hid hfresh
        have HDC2 := Lib.hid hdc
        have HO2 := HO1.below hb2
        have HR2 := Lib.hid (HR1.out.below hb2)
        have HD2 := Lib.hid (HD1.out.below hb2)
        have HB2 := Lib.hid (below_step HB1.out hb2)
        have HDU2 := Lib.hid (HDU1.out.below hb2)
        have HSZ2 := Lib.hid hb2.size
        have HW2 : Hid (w1.heap.size ≤ u2.heap.size) := Lib.hid (Nat.le_trans HW1.out hb2.size)
        have HONE : Hid (∀ k, k < 24 → (s2 k).oneCell' = true) := Lib.hid (fun k hk => by obtain ⟨E, d, e, _⟩ := hdc k hk; rw [e]; rfl)
        clear hdc hb2 t0 t1 t2 t3 htl n0 hnl HO1 HR1 HB1 HT1 hfresh
        go_wp2_with (refine wpList_store_dial (now := now + 1) (now' := now + 1) (s := s') (s' := s2) rfl _ _ rfl rfl rfl HD2.out HONE.out ?_)
        go_roundw
        case rel =>
          have hg := setRow_grown u2 V0.heap.size (dialCells (now + 1) s2)
          have hz0 := HZ0.out
          have hz := HZ.out
          have hz1 := HZ1.out
          have hw1 := HW1.out
          have hw2 := HW2.out
          have hzs : (u2.setRow V0.heap.size (dialCells (now + 1) s2)).heap.size = u2.heap.size := by simp [World.setRow]
          refine ⟨j + 1, s2, F, kk, d', by omega, by go_num, rfl, Lib.hid (HB2.out.grown hg HB2.out.size (fun k e => by injection e with e; omega)), Lib.hid (by rw [hzs]; exact hw2), ?_, Lib.hid (HR2.out.grown hg (by simp; omega)), Lib.hid HD2.out.setRow, ?_, ?_, ?_⟩
          · exact HO2.only (Only.of_grown (lo := V0.heap.size) (hi := V0.heap.size + 1) hg (fun r e => by injection e with e; omega)) (by omega)
          · have h1 : restT now (ts.take (j + 1)) = restT now (ts.take j) ++ [t] := by unfold restT; rw [take_filter _ HTA.out, HDE.out]; simp
            rw [h1, withAll_snoc, hzs]
            refine Lib.hid (fun i hi => ?_)
            obtain ⟨E, d, e, h1, h2, h3⟩ := HDC2.out i hi
            exact ⟨E, d, e, h1, h2, h3.keep (fun b hb1 hb2 => hg.block b hb2 (fun e => by injection e with e; omega))⟩
          · have h1 : dueT now (ts.take (j + 1)) = dueT now (ts.take j) := by unfold dueT; rw [take_filter _ HTA.out, HDE.out]; simp
            rw [h1]
            exact Lib.hid (HDU2.out.grown hg (by
              cases hF : F.map (·.block) with
              | none => exact .inl rfl
              | some r =>
                refine .inr fun e => ?_
                injection e with e
                have := (HDU2.out.block r hF).1
                omega))
          · refine Lib.hid (fun k hk A n c e r hr => ?_)
            rw [hzs]
            obtain ⟨p, g', c', hs2, hg1, hg2⟩ := HFR.out
            rw [hs2] at e
            unfold putS at e
            by_cases hkp : k = p
            · rw [if_pos hkp] at e
              injection e with e _ _
              rw [← e] at hr
              have hr2 : g' = r := by injection hr
              refine ⟨by omega, fun e2 => ?_⟩
              have := (HDU1.out.block r e2).2
              omega
            · rw [if_neg hkp] at e
              have h1 := HAP1.out k hk A n c e r hr
              exact ⟨by have := HSZ2.out; omega, h1.2⟩
        case measure => simp [intOf]; omega
    · have hjm : j = m := by omega
      subst hjm
      have hta : ts.take j = ts := List.take_of_length_le (by have := HL.out; omega)
      rw [hta] at HDC HDU
      have HONE : Hid (∀ k, k < 24 → (s' k).oneCell' = true) := Lib.hid (fun k hk => by obtain ⟨E, d, e, _⟩ := HDC.out k hk; rw [e]; rfl)
      clear hta
      go_wp2_with (first | (refine wpList_load_dial rfl _ rfl rfl HD.out ?_) | (refine wpList_store_dial (now := 0) (now' := now + 1) (s := fun _ => .slice none 0 0) (s' := s') rfl _ _ rfl rfl rfl HR.out HONE.out ?_))
      have hR := (HR.out.setRow (cs' := dialCells (now + 1) s'))
      have hlv := loadVar_dial hR
      have hg := setRow_grown wr (w.heap.size + 1) (dialCells (now + 1) s')
      have hz0 := HZ0.out
      have hz := HZ.out
      have hz1 := HZ1.out
      have hbf := HB.out.grown hg HB.out.size (fun k e => by injection e with e; omega)
      have hzs : (wr.setRow (w.heap.size + 1) (dialCells (now + 1) s')).heap.size = wr.heap.size := by simp [World.setRow]
      refine bodyPost_ret (v := .tuple #[.agg (dialCells (now + 1) s'), .slice F kk d']) (by simp [results, Try.results72, hlv, asAddr]) rfl ⟨s', F, kk, d', rfl, ?_, ?_, hbf⟩
      · rw [hzs]
        intro i hi
        obtain ⟨E, d, e, h1, h2, h3⟩ := HDC.out i hi
        exact ⟨E, d, e, h1, h2, (h3.keep (fun b hb1 hb2 => hg.block b hb2 (fun e => by injection e with e; omega))).mono (by omega) (Nat.le_refl _)⟩
      · exact (HDU.out.mono (show w.heap.size ≤ w1.heap.size by omega)).grown hg (by
          cases hF : F.map (·.block) with
          | none => exact .inl rfl
          | some r =>
            refine .inr fun e => ?_
            injection e with e
            have := (HDU.out.block r hF).1
            omega)

end
end Go.Proofs.Ytakplomopbnekaa

namespace Go.Proofs.Ytakplomopbnekaa
open Go.RowKit Go.Shelf
set_option linter.unusedVariables false

/-- append of flat items from whatever slice, which tells where the answer lies. -/
theorem run_appAtF {α : Type} {size bytes : Nat} {f : α → List Value} (hf : ∀ a, (f a).length = size) (hone : ∀ a, ∀ u ∈ f a, u.oneCell' = true) {ts t ty : TypeId} {z : Value} (hu : Try.prog.underlying ts = some (.slice t))
    (hinfo : (Try.prog.info? t).map (fun i => (i.zero, i.size, i.bytes)) = some (some z, size, bytes)) (hzc : z.cells.size = size) (hsz : 0 < size) (hby : bytes ≤ 1048576) {w : World}
    {B : Nat} {A : Option Addr} {n c : Nat} {zs : List α} (hown : OwnF t size f w B A n c zs)
    {E : Option Addr} {m d : Nat} {ys : List α} (hE : InF size f w E m ys) (hl : n + m ≤ 1048576) (hB : B ≤ w.heap.size) :
    ∃ A' c' w', (Builtin.append_ #[ts, ts] ty #[.slice A n c, .slice E m d]).run Try.prog w = .ok (.slice A' (n + m) c') w' ∧ OwnF t size f w' B A' (n + m) c' (zs ++ ys) ∧ w.grownBy w' (A.map (·.block)) ∧ (A'.map (·.block) = A.map (·.block) ∨ A'.map (·.block) = some w.heap.size) := by
  obtain ⟨i0, hi, hz0, hz1, hz2⟩ := info_parts hinfo
  have hrow : ∀ (A : Option Addr) (n c : Nat), (Value.slice A n c).ownBlock = A.map (·.block) := fun A n c => by cases A <;> rfl
  cases E with
  | none =>
    have hm : m = 0 := by
      rcases Nat.eq_zero_or_pos m with h0 | h0
      · exact h0
      · obtain ⟨b, o, h, _⟩ := hE.2 h0; cases h
    subst hm
    have hy : ys = [] := List.eq_nil_of_length_eq_zero hE.1
    subst hy
    exact ⟨A, c, w, run_app_nil w B ts ty t i0 size hu hi _ n _ hown.2 d, by simpa using hown, World.grownBy.refl w _, .inl rfl⟩
  | some ad =>
    have hnews : ∀ j u, (ys.flatMap f)[j]? = some u → w.cell? (ad.add j) = some u := fun j u hj => by
      rcases Nat.eq_zero_or_pos m with h0 | h0
      · have hy : ys = [] := List.eq_nil_of_length_eq_zero (by rw [hE.1]; exact h0)
        subst hy; simp at hj
      · obtain ⟨b, off, he, hc⟩ := hE.2 h0
        obtain rfl := Option.some.inj he
        have ea : Addr.add ⟨b, off, none⟩ j = ⟨b, off + j, none⟩ := by unfold Addr.add; split <;> simp_all
        rw [ea]; exact hc j u hj
    have hbytes : (n + m) * bytes ≤ 140737488355328 := Nat.le_trans (Nat.mul_le_mul hl hby) (by decide)
    obtain ⟨v', w', hrun, h2, h3, _, h4⟩ := run_append_own_at (P := Try.prog) (w := w) B ts ty t i0 z size bytes hu hi hz0 hz1 hz2 hzc hsz (.slice A n c) n (zs.flatMap f) hown.2 ad m d (ys.flatMap f) (by rw [flat_len hf, hE.1]) hnews (fun u hu => by
      obtain ⟨a, _, h2⟩ := List.mem_flatMap.1 hu
      exact hone a u h2) (by unfold maxLen; omega) hbytes hB
    obtain ⟨A', c', rfl⟩ := own_form_any h2
    rw [hrow, hrow] at h4
    exact ⟨A', c', w', hrun, ⟨by rw [List.length_append, hown.1, hE.1], by rw [List.flatMap_append]; exact h2⟩, by rw [← hrow A n c]; exact h3, h4⟩
theorem step_appAtF {α : Type} {size bytes : Nat} {f : α → List Value} {ts t : TypeId} {z : Value} {ops : Array Oper} {o : Oper} {a : Act} {Q : Exit → Act → World → Prop} {w : World} {B : Nat} {A E : Option Addr} {n c m d : Nat} {zs ys : List α} {K : Act → World → Prop} {E' : Prop} (hf : ∀ a, (f a).length = size) (hone : ∀ a, ∀ u ∈ f a, u.oneCell' = true) (hu : Try.prog.underlying ts = some (.slice t))
    (hinfo : (Try.prog.info? t).map (fun i => (i.zero, i.size, i.bytes)) = some (some z, size, bytes)) (hzc : z.cells.size = size) (hsz : 0 < size) (hby : bytes ≤ 1048576)
    (hgd : o.guard = none) (s x : Operand) (ho : o.op = .call { callee := .builtin .append, args := #[s, x], argTypes := #[ts, ts] })
    (hs : a.eval s = .slice A n c) (hown : OwnF t size f w B A n c zs) (hx : a.eval x = .slice E m d) (hE : InF size f w E m ys) (hl : n + m ≤ 1048576) (hB : B ≤ w.heap.size)
    (h : ∀ A' c' w', OwnF t size f w' B A' (n + m) c' (zs ++ ys) → w.grownBy w' (A.map (·.block)) → (A'.map (·.block) = A.map (·.block) ∨ A'.map (·.block) = some w.heap.size) → K (a.put o.dst (.slice A' (n + m) c')) w') :
    if Region.wanted o (yielded ops a.tmps) = true then Oper.wp Try.prog o a w K Q else E' := by
  rw [if_pos (by simp [Region.wanted, hgd])]
  obtain ⟨A', c', w', hr, h2, h3, h4⟩ := run_appAtF (ty := o.type) (d := d) hf hone hu hinfo hzc hsz hby hown hE hl hB
  unfold Oper.wp execOp
  simp only [ho, resolve, invoke, builtin, Sem.run_bind, Sem.run_pure, Result.andThen_ok, List.map_toArray, List.map_cons, List.map_nil, hs, hx, hr]
  exact h A' c' w' h2 h3 h4
theorem wpList_appAtF {α : Type} {size bytes : Nat} {f : α → List Value} {ts t : TypeId} {z : Value} {ops : Array Oper} {rest : List Oper} {o : Oper} {a : Act} {Q : Exit → Act → World → Prop} {w : World} {B : Nat} {A E : Option Addr} {n c m d : Nat} {zs ys : List α} (hf : ∀ a, (f a).length = size) (hone : ∀ a, ∀ u ∈ f a, u.oneCell' = true) (hu : Try.prog.underlying ts = some (.slice t))
    (hinfo : (Try.prog.info? t).map (fun i => (i.zero, i.size, i.bytes)) = some (some z, size, bytes)) (hzc : z.cells.size = size) (hsz : 0 < size) (hby : bytes ≤ 1048576)
    (hgd : o.guard = none) (s x : Operand) (ho : o.op = .call { callee := .builtin .append, args := #[s, x], argTypes := #[ts, ts] })
    (hs : a.eval s = .slice A n c) (hown : OwnF t size f w B A n c zs) (hx : a.eval x = .slice E m d) (hE : InF size f w E m ys) (hl : n + m ≤ 1048576) (hB : B ≤ w.heap.size)
    (h : ∀ A' c' w', OwnF t size f w' B A' (n + m) c' (zs ++ ys) → w.grownBy w' (A.map (·.block)) → (A'.map (·.block) = A.map (·.block) ∨ A'.map (·.block) = some w.heap.size) → wpList Try.prog ops Q rest (a.put o.dst (.slice A' (n + m) c')) w') :
    wpList Try.prog ops Q (o :: rest) a w := by
  refine wpList_plain hgd fun K hK => ?_
  obtain ⟨A', c', w', hr, h2, h3, h4⟩ := run_appAtF (ty := o.type) (d := d) hf hone hu hinfo hzc hsz hby hown hE hl hB
  unfold Oper.wp execOp
  simp only [ho, resolve, invoke, builtin, Sem.run_bind, Sem.run_pure, Result.andThen_ok, List.map_toArray, List.map_cons, List.map_nil, hs, hx, hr]
  exact hK _ _ (h A' c' w' h2 h3 h4)
theorem step_store_dial {ops : Array Oper} {o : Oper} {a : Act} {Q : Exit → Act → World → Prop} {w : World} {K : Act → World → Prop} {E' : Prop} (hgd : o.guard = none) (x y : Operand) (ho : o.op = .store 112 x y)
    {g : Nat} {now now' : Int} {s s' : Nat → Value} (hx : a.eval x = .pointer (some ⟨g, 0, none⟩)) (hy : a.eval y = .agg (dialCells now' s')) (h : Box w g 112 (dialCells now s)) (h1 : ∀ k, k < 24 → (s' k).oneCell' = true)
    (k : K (a.put o.dst undef) (w.setRow g (dialCells now' s'))) : if Region.wanted o (yielded ops a.tmps) = true then Oper.wp Try.prog o a w K Q else E' := by
  rw [if_pos (by simp [Region.wanted, hgd])]
  have hl := storeAt_dial (now' := now') h h1
  unfold Oper.wp
  simp only [execOp, ho, hx, hy, Sem.run_bind, hl, Result.andThen_ok, Sem.run_pure]
  exact k
theorem DialIn.congr {lo hi : Nat} {w : World} {s : Nat → Value} {ys zs : Nat → List Tmr} (h : DialIn lo hi w s ys) (e : ∀ k, k < 24 → ys k = zs k) : DialIn lo hi w s zs := fun k hk => by
  obtain ⟨A, c, h1, h2⟩ := h k hk
  rw [e k hk] at h1 h2
  exact ⟨A, c, h1, h2⟩
theorem DialIn.same {lo hi : Nat} {w w' : World} {s : Nat → Value} {ys : Nat → List Tmr} (h : DialIn lo hi w s ys) (k : SameIn lo hi w w') : DialIn lo hi w' s ys := fun i hi => by
  obtain ⟨A, c, h1, h2⟩ := h i hi
  exact ⟨A, c, h1, h2.keep k⟩
theorem upto_get {i : Nat} (hi : i < 24) : (upto 24)[i]? = some ⟨i, hi⟩ := by
  have h1 : i < (upto 24).length := by rw [upto_len (Nat.le_refl _)]; exact hi
  rw [List.getElem?_eq_getElem h1]
  rcases (show i = 0 ∨ i = 1 ∨ i = 2 ∨ i = 3 ∨ i = 4 ∨ i = 5 ∨ i = 6 ∨ i = 7 ∨ i = 8 ∨ i = 9 ∨ i = 10 ∨ i = 11 ∨ i = 12 ∨ i = 13 ∨ i = 14 ∨ i = 15 ∨ i = 16 ∨ i = 17 ∨ i = 18 ∨ i = 19 ∨ i = 20 ∨ i = 21 ∨ i = 22 ∨ i = 23 by omega) with h | h | h | h | h | h | h | h | h | h | h | h | h | h | h | h | h | h | h | h | h | h | h | h <;> subst h <;> rfl
theorem tickR_at (now : Int) (ys : List (List Tmr)) {k : Nat} (hk : k < 24) : (tickR now ys).getD k [] = withAll (now + 1) (restT now ys.flatten) k := by
  unfold tickR
  rw [List.getD, List.getElem?_map, upto_get hk]
  rfl

section
attribute [local go_sem] Oper.semAt_some

set_option maxRecDepth 100000 in
set_option maxHeartbeats 8000000 in
theorem runWheel_any (now k : Int) (q : Bool) (lo hi : Nat) (A : Option Addr) (n c : Nat) (ys : List (List Tmr)) (w : World) (ha : Rep.timer.rows.Sl q lo hi w A n ys) (hh : hi ≤ w.heap.size) (hn : n ≤ 1048576) (hm : ∀ y ∈ ys, y.length ≤ 1048576) (hc : n ≤ c) :
    Calls Try.prog 14 #[.agg #[.int .i64 now, .slice A n c], .int .i64 k] w (WOut w (rwC now ys k) (rwN now ys k) (rwR now ys k) (rwD now ys k)) := by
  have HA := Rep.Sl.kept ha hh
  have hl := ha.1
  have HM := Lib.hid hm
  obtain ⟨r, hr⟩ : ∃ r, faultW now ys = r := ⟨_, rfl⟩
  have HRR := Lib.hid hr
  clear ha hm hr
  go_enter Try.func14, Try.ntmps14
  go_upto_region 1 with (fail)
  refine Code.wp_name ?_
  intro V hV
  have HX : Hid (Box V w.heap.size 26 #[.int .i64 now, .slice A n c]) := Lib.hid (by rw [hV]; exact (Box.made _ _ _).over _)
  have HR : Hid (Box V (w.heap.size + 1) 31 #[.int .i64 0, .int .i64 0, .slice none 0 0, .slice none 0 0]) := Lib.hid (by rw [hV]; exact Box.made_at _ _ _ (by simp))
  have HB : Hid (Below w.heap.size w V) := Lib.hid (by rw [hV]; exact ((Below.refl _ _).alloc (Nat.le_refl _) _).alloc (by simp) _)
  have HZ : Hid (w.heap.size + 2 = V.heap.size) := Lib.hid (by rw [hV]; simp)
  clear hV
  have c0 := HX.out.look 0
  have c1 := HX.out.look 1
  have hxl := HX.out.lt
  go_wp2_with fail
  refine (wheelFault_any now q lo hi A n c ys _ (HA.below HB.out).sl (HA.below HB.out).le hn HM.out hc).mono ?_
  rw [HRR.out]
  rintro e w1 ⟨rfl, hb1⟩
  have HX1 := Lib.hid (HX.out.below hb1)
  have HR1 := Lib.hid (HR.out.below hb1)
  have HB1 := Lib.hid (below_step HB.out hb1)
  have HZ1 : Hid (w.heap.size + 2 ≤ w1.heap.size) := Lib.hid (by have := HZ.out; have := hb1.size; omega)
  clear hb1 HX HR HB HZ c0 c1 hxl
  by_cases hr0 : r = 0
  · subst hr0
    obtain ⟨hok, h24, h60⟩ := fault_ok HRR.out
    obtain ⟨hn0, hn1⟩ := hok
    obtain rfl : n = 24 := by omega
    have HP := Lib.hid (Placed.of HRR.out)
    have hbk : Below w1.heap.size w1 (w1.alloc (.cells #[.int .i64 k] 2)) := (Below.refl _ _).alloc (Nat.le_refl _) _
    have HOK := Lib.hid (show Box (w1.alloc (.cells #[.int .i64 k] 2)) w1.heap.size 2 #[.int .i64 k] from Box.made _ _ _)
    have HXk := Lib.hid (HX1.out.below hbk)
    have HRk := Lib.hid (HR1.out.below hbk)
    have HBk := Lib.hid (below_step HB1.out hbk)
    have HZk : Hid (w.heap.size + 2 ≤ (w1.alloc (.cells #[.int .i64 k] 2)).heap.size) := Lib.hid (Nat.le_trans HZ1.out hbk.size)
    clear hbk
    by_cases hk : 0 ≤ k ∧ k ≤ 1000
    · have HK := Lib.hid (allIn_one_yes hk.1 hk.2)
      have HKK := Lib.hid hk
      obtain ⟨hk0, hk1⟩ := hk
      obtain ⟨W1, hW1⟩ : ∃ W1, W1 = w1.alloc (.cells #[.int .i64 k] 2) := ⟨_, rfl⟩
      rw [← hW1] at HOK HXk HRk HBk HZk
      go_wp2_with fail
      rw [← hW1]
      clear hW1
      refine (allWithin_one 0 1000 _ k _ (HOK.out.look 0)).mono ?_
      rw [HK.out]
      rintro e wz ⟨rfl, rfl⟩
      obtain ⟨w1', hw1'⟩ : ∃ w1', w1' = wz := ⟨_, rfl⟩
      subst hw1'
      have c0 := HXk.out.look 0
      have c1 := HXk.out.look 1
      have hxl := HXk.out.lt
      clear HX1 HR1 HB1 HZ1 HOK
      by_cases hfull : 1000000 < now + k
      · have hC : rwC now ys k = 9 := by unfold rwC; rw [if_neg (fun e => e HRR.out), if_pos HKK.out, if_pos hfull]
        have hC' : ¬ rwC now ys k = 0 := by rw [hC]; omega
        have HWO : Hid (rwC now ys k = 9 ∧ rwN now ys k = 0 ∧ rwR now ys k = [] ∧ rwD now ys k = []) := Lib.hid ⟨hC, if_neg hC', if_neg hC', if_neg hC'⟩
        clear hC hC'
        have r0 := HRk.out.look 0
        have r1 := HRk.out.look 1
        have r2 := HRk.out.look 2
        have r3 := HRk.out.look 3
        have f0 := HRk.out.free 0
        have f1 := HRk.out.free 1
        have f2 := HRk.out.free 2
        have f3 := HRk.out.free 3
        have hrl := HRk.out.lt
        go_wp2
        clear r0 r1 r2 r3 f0 f1 f2 f3 hrl
        have hbx := (((HRk.out.puts 0 (.int .i64 9) (cs' := #[.int .i64 9, .int .i64 0, .slice none 0 0, .slice none 0 0]) rfl).puts 1 (.int .i64 0) (cs' := #[.int .i64 9, .int .i64 0, .slice none 0 0, .slice none 0 0]) rfl).puts 2 (.slice none 0 0) (cs' := #[.int .i64 9, .int .i64 0, .slice none 0 0, .slice none 0 0]) rfl).puts 3 (.slice none 0 0) (cs' := #[.int .i64 9, .int .i64 0, .slice none 0 0, .slice none 0 0]) rfl
        have q0 := hbx.look 0
        have q1 := hbx.look 1
        have q2 := hbx.look 2
        have q3 := hbx.look 3
        exact bodyPost_ret (v := .agg #[.int .i64 9, .int .i64 0, .slice none 0 0, .slice none 0 0]) (by simp [results, Try.results14, go_sem, q0, q1, q2, q3]) rfl (by rw [HWO.out.1, HWO.out.2.1, HWO.out.2.2.1, HWO.out.2.2.2]; refine WOut.zero ?_; exact (((HBk.out.setCell (by simp; try omega) _).setCell (by simp; try omega) _).setCell (by simp; try omega) _).setCell (by simp; try omega) _)
      · have hC : rwC now ys k = 0 := by unfold rwC; rw [if_neg (fun e => e HRR.out), if_pos HKK.out, if_neg hfull]
        have hle : now + k ≤ 1000000 := by omega
        obtain ⟨N, rfl⟩ : ∃ N : Nat, k = N := ⟨k.toNat, by omega⟩
        have HWO : Hid (rwC now ys N = 0 ∧ rwN now ys N = now + N ∧ rwR now ys N = runR N now ys ∧ rwD now ys N = runD N now ys) := Lib.hid ⟨hC, if_pos hC, by unfold rwR; rw [if_pos hC, Int.toNat_natCast], by unfold rwD; rw [if_pos hC, Int.toNat_natCast]⟩
        clear hC hfull
        go_wp2_with fail
        refine (dialOf_rows now q lo hi A c ys _ (HA.below HBk.out).sl (HA.below HBk.out).le hc).mono ?_
        rintro e w2 ⟨s, rfl, hds, hb2⟩
        have HR2 := Lib.hid (HRk.out.below hb2)
        have HB2 := Lib.hid (below_step HBk.out hb2)
        have HZ2 : Hid (w.heap.size + 2 ≤ w2.heap.size) := Lib.hid (by have := HZk.out; have := hb2.size; omega)
        have HS2 := Lib.hid (hds.below hb2 (HA.below HBk.out).le)
        have HONE : Hid (∀ k, k < 24 → (s k).oneCell' = true) := Lib.hid (fun k hk => by obtain ⟨E, d, e, _⟩ := hds k hk; rw [e]; rfl)
        clear hds hb2 HXk HRk HBk HZk c0 c1 hxl
        go_upto_region 9 with (refine wpList_store_dial (now := 0) (now' := now) (s := fun _ => .slice none 0 0) (s' := s) rfl _ _ rfl rfl rfl (Box.made w2 112 (dialCells 0 fun _ => .slice none 0 0)) HONE.out ?_)
        refine Code.wp_name ?_
        intro V3 hV3
        have HR3 : Hid (Box V3 (w.heap.size + 1) 31 #[.int .i64 0, .int .i64 0, .slice none 0 0, .slice none 0 0]) := Lib.hid (by rw [hV3]; exact (HR2.out.over _).grown (setRow_grown _ _ _) (by have := HZ2.out; simp; omega))
        have HD3 : Hid (Box V3 w2.heap.size 112 (dialCells now s)) := Lib.hid (by rw [hV3]; exact (Box.made w2 _ _).setRow)
        have hb3 : Below w2.heap.size w2 V3 := by rw [hV3]; exact ((Below.refl _ _).alloc (Nat.le_refl _) _).grown (setRow_grown _ _ _) (by simp) (fun k e => by injection e with e; omega)
        have HB3 := Lib.hid (below_step HB2.out hb3)
        have HHI : Hid (hi ≤ w2.heap.size) := Lib.hid (Nat.le_trans hh HB2.out.size)
        have HS3 := Lib.hid (HS2.out.below hb3 HHI.out)
        have HZ3 : Hid (w2.heap.size + 1 = V3.heap.size) := Lib.hid (by rw [hV3]; simp [World.setRow])
        have HH3 : Hid (hi ≤ V3.heap.size) := Lib.hid (by have := HHI.out; have := HZ3.out; omega)
        clear hV3 HR2 HB2 HS2 hb3 HONE
        go_wp2
        go_loopw [30, 7] (fun i v wr => ∃ (j : Nat) (cur : Int) (s' : Nat → Value) (F : Option Addr) (kk d' lo' hi' : Nat), j ≤ N ∧ i = .int .i64 j ∧ v = .slice F kk d' ∧ Hid (cur = now + j) ∧ Hid (Below w.heap.size w wr) ∧ Hid (V3.heap.size ≤ wr.heap.size) ∧ Hid (Box wr (w.heap.size + 1) 31 #[.int .i64 0, .int .i64 0, .slice none 0 0, .slice none 0 0]) ∧
            Hid (Box wr w2.heap.size 112 (dialCells cur s')) ∧ Hid (DialIn lo' hi' wr s' (fun i => (runR j now ys).getD i [])) ∧ Hid (hi' ≤ wr.heap.size) ∧ Hid (OwnF 36 4 tcell wr V3.heap.size F kk d' (runD j now ys)) ∧ Hid (∀ r, F.map (·.block) = some r → r < lo' ∨ hi' ≤ r)) (fun i _ _ => N - (intOf i).toNat)
        case atStart => exact ⟨0, now, s, none, 0, 0, lo, hi, Nat.zero_le _, rfl, rfl, Lib.hid (by omega), HB3, Lib.hid (Nat.le_refl _), HR3, HD3, HS3, HH3, Lib.hid ⟨rfl, World.ownsRow_nil _ _ _ 4⟩, Lib.hid (fun r hr => by cases hr)⟩
        case round =>
          obtain ⟨j, cur, s', F, kk, d', lo', hi', hj, rfl, rfl, HCU, HBW, HZW, HRW, HDW, HSW, HHW, HOW, HFW⟩ := hrel
          have HPJ := Lib.hid (HP.out.run (k := j) (by omega))
          have HT : Hid (∀ i, i < 24 → ((runR j now ys).getD i []).length ≤ 40000) := Lib.hid (fun i hi => by have h1 := getD_tot (ys := runR j now ys) i; have h2 := HPJ.out.tot; omega)
          by_cases hlt : j < N
          · have hlt' : (j : Int) < N := by omega
            have hcu := HCU.out
            have hc0 : 0 ≤ cur := by omega
            have hc1 : cur + 1 ≤ 1000000 := by omega
            clear hcu
            go_wp2_with (refine wpList_load_dial rfl _ rfl rfl HDW.out ?_)
            refine (ticked_any cur s' (fun i => (runR j now ys).getD i []) lo' hi' _ HSW.out HHW.out hc0 hc1 (by rw [rows24 HPJ.out.len, show (runR j now ys).flatten.length = tot (runR j now ys) by simp [tot]]; have := HPJ.out.tot; omega) HT.out (by rw [rows24 HPJ.out.len, HCU.out]; exact HPJ.out.ok)).mono ?_
            rw [rows24 HPJ.out.len]
            rintro e w5 ⟨s5, E, m, d, rfl, hdc, hown, hb5⟩
            have HDC := Lib.hid hdc
            have HON := Lib.hid hown
            have HR5 := Lib.hid (HRW.out.below hb5)
            have HD5 := Lib.hid (HDW.out.below hb5)
            have HB5 := Lib.hid (below_step HBW.out hb5)
            have HO5 := Lib.hid (HOW.out.below hb5)
            have HZ5 := Lib.hid hb5.size
            have HONE : Hid (∀ k, k < 24 → (s5 k).oneCell' = true) := Lib.hid (fun k hk => by obtain ⟨E, d, e, _⟩ := hdc k hk; rw [e]; rfl)
            have HFL : Hid (∀ r, F.map (·.block) = some r → V3.heap.size ≤ r ∧ r < wr.heap.size) := Lib.hid (fun r hr => HOW.out.block r hr)
            clear hdc hown hb5 HRW HDW HBW HOW HSW HHW HFW
            go_upto_region 12 with (refine wpList_store_dial (now := 0) (now' := cur + 1) (s := fun _ => .slice none 0 0) (s' := s5) rfl _ _ rfl rfl rfl (Box.made w5 112 (dialCells 0 fun _ => .slice none 0 0)) HONE.out ?_)
            refine Code.wp_name ?_
            intro V6 hV6
            have hb6 : Below w5.heap.size w5 V6 := by rw [hV6]; exact ((Below.refl _ _).alloc (Nat.le_refl _) _).grown (setRow_grown _ _ _) (by simp) (fun k e => by injection e with e; omega)
            have HE6 : Hid (Box V6 w5.heap.size 112 (dialCells (cur + 1) s5)) := Lib.hid (by rw [hV6]; exact (Box.made w5 _ _).setRow)
            have HR6 := Lib.hid (HR5.out.below hb6)
            have HD6 := Lib.hid (HD5.out.below hb6)
            have HB6 := Lib.hid (below_step HB5.out hb6)
            have HO6 := Lib.hid (HO5.out.below hb6)
            have HN6 := Lib.hid (HON.out.below hb6)
            have HC6 := Lib.hid (HDC.out.below hb6 (Nat.le_refl _)).din
            have HZ6 : Hid (w5.heap.size < V6.heap.size) := Lib.hid HE6.out.lt
            clear hV6 hb6 HR5 HD5 HB5 HO5 HON HDC
            have V0 : Hid (Below V6.heap.size V6 V6.drew) := (Below.refl _ _).drew
            refine wp_region_held_drew (S := (fun W => Box W w5.heap.size 112 (dialCells (cur + 1) s5))) (by kernel_rfl) ?_ (fun hHeld => ?_)
            · exact (show Box V6.drew w5.heap.size 112 (dialCells (cur + 1) s5) from HE6.out)
            refine wpAnyH_take (i := 0) (v := .agg (dialCells (cur + 1) s5)) rfl (by kernel_rfl) (by kernel_rfl) (by kernel_rfl) (fun _ _ _ h => h) (Or.inl ⟨by rfl, ?hy0⟩) (by assumption) ?rest0
            case hy0 => (intro W hSw; exact exec_load_dial (.tmp 8) rfl rfl hSw)
            (try simp only [List.getElem_toArray, List.getElem_cons_zero, Act.put, List.setIfInBounds_toArray, List.set_cons_zero, List.set_cons_succ])
            refine wpAnyH_take (i := 1) (v := .slice F kk d') rfl (by kernel_rfl) (by kernel_rfl) (by kernel_rfl) (fun _ _ _ h => h) (Or.inl ⟨by rfl, ?hy1⟩) (by assumption) ?rest1
            case hy1 => (intro W hSw; clear hSw; (go_simp <;> with_reducible rfl))
            (try simp only [List.getElem_toArray, List.getElem_cons_succ, List.getElem_cons_zero, Act.put, List.setIfInBounds_toArray, List.set_cons_zero, List.set_cons_succ])
            refine wpAnyH_take (i := 2) (v := .slice E m d) rfl (by kernel_rfl) (by kernel_rfl) (by kernel_rfl) (fun _ _ _ h => h) (Or.inl ⟨by rfl, ?hy2⟩) (by assumption) ?rest2
            case hy2 => (intro W hSw; clear hSw; (go_simp <;> with_reducible rfl))
            (try simp only [List.getElem_toArray, List.getElem_cons_succ, List.getElem_cons_zero, Act.put, List.setIfInBounds_toArray, List.set_cons_zero, List.set_cons_succ])
            have hlen : kk + m ≤ 60 := by
              have h1 := HO6.out.1
              have h2 := HN6.out.1
              have h3 := runD_len (j + 1) now ys
              rw [runD_snoc, List.length_append, h1, ← HCU.out, h2] at h3
              omega
            refine wpAnyH_ready (rs := [3]) (by kernel_rfl) (by simp) ?_
            refine AllReadyH.cons rfl (fun K hK => ?_) AllReadyH.nil
            refine step_appAtF tcell_len tcell_one Try.underlying29 timerInfo rfl (by decide) (by decide) rfl (.tmp 38) (.tmp 39) rfl (B := V3.heap.size) rfl (HO6.out.below V0.out) rfl (OwnF.inF tcell_len (HN6.out.below V0.out)) (by omega) (show V3.heap.size ≤ V6.heap.size from by have := HZW.out; have := HZ5.out; have := HZ6.out; omega) ?_
            intro A2 c2 u2 ho2 hg2 hab
            have hzz : V6.drew.heap.size = V6.heap.size := rfl
            rw [hzz] at hab
            have hlu := HFL.out
            have hz3 := HZ3.out
            have hzw := HZW.out
            have hz5 := HZ5.out
            have hz6 := HZ6.out
            have hz2 := HZ2.out
            have hgs := hg2.size
            rw [hzz] at hgs
            have HE7 : Hid (Box u2 w5.heap.size 112 (dialCells (cur + 1) s5)) := Lib.hid ((HE6.out.below V0.out).grown hg2 (fun e => by have := hlu _ e; omega))
            have HD7 : Hid (Box u2 w2.heap.size 112 (dialCells cur s')) := Lib.hid ((HD6.out.below V0.out).grown hg2 (fun e => by have := hlu _ e; omega))
            have HR7 := Lib.hid ((HR6.out.below V0.out).grown hg2 (fun e => by have := hlu _ e; omega))
            have HB7 := Lib.hid ((below_step HB6.out V0.out).grown hg2 (by rw [hzz]; exact HB6.out.size) (fun r e => by have := (hlu r e).1; have := HB3.out.size; omega))
            have HC7 := Lib.hid ((HC6.out.below V0.out (by omega)).same (fun b h1 h2 => hg2.block b (by rw [hzz]; omega) (fun e => by have := hlu b e.symm; omega)))
            have HF7 : Hid (∀ r, A2.map (·.block) = some r → r < wr.heap.size ∨ w5.heap.size ≤ r) := Lib.hid (fun r hr => by
              rcases hab with h | h
              · exact .inl (hlu r (h.symm.trans hr)).2
              · right
                have h2 : some V6.heap.size = some r := h.symm.trans hr
                injection h2 with h2; omega)
            have HO7 := Lib.hid ho2
            refine hK.out _ _ ?_ (fun hHeld => ?_)
            · exact HE7.out
            clear hK K hab hg2 ho2 hzz
            (try simp only [List.getElem_toArray, List.getElem_cons_succ, List.getElem_cons_zero, Act.put, List.setIfInBounds_toArray, List.set_cons_zero, List.set_cons_succ])
            refine wpAnyH_ready (rs := [4]) (by kernel_rfl) (by simp) ?_
            refine AllReadyH.cons rfl (fun K hK => ?_) AllReadyH.nil
            refine step_store_dial (now := cur) (now' := cur + 1) (s := s') (s' := s5) rfl (.tmp 6) (.tmp 37) rfl rfl rfl HD7.out HONE.out ?_
            have hg := setRow_grown u2 w2.heap.size (dialCells (cur + 1) s5)
            refine hK.out _ _ ?_ (fun hHeld => ?_)
            · exact HE7.out.grown hg (by simp; omega)
            clear hK K
            (try simp only [List.getElem_toArray, List.getElem_cons_succ, List.getElem_cons_zero, Act.put])
            refine wpAnyH_take (i := 5) (v := .slice A2 (kk + m) c2) rfl (by kernel_rfl) (by kernel_rfl) (by kernel_rfl) (fun _ _ _ h => h) (Or.inl ⟨by rfl, ?hy5⟩) (by assumption) ?rest5
            case hy5 => (intro W hSw; clear hSw; (go_simp <;> with_reducible rfl))
            (try simp only [List.getElem_toArray, List.getElem_cons_succ, List.getElem_cons_zero, Act.put, List.setIfInBounds_toArray, List.set_cons_zero, List.set_cons_succ])
            refine wpAnyH_done (by kernel_rfl) ?_ _
            have hzs : (u2.setRow w2.heap.size (dialCells (cur + 1) s5)).heap.size = u2.heap.size := by simp [World.setRow]
            have HQ : Hid (∃ (j' : Nat) (cur' : Int) (lo'' hi'' : Nat), j' = j + 1 ∧ cur' = cur + 1 ∧ cur' = now + j' ∧ Below w.heap.size w (u2.setRow w2.heap.size (dialCells (cur + 1) s5)) ∧ V3.heap.size ≤ (u2.setRow w2.heap.size (dialCells (cur + 1) s5)).heap.size ∧ Box (u2.setRow w2.heap.size (dialCells (cur + 1) s5)) (w.heap.size + 1) 31 #[.int .i64 0, .int .i64 0, .slice none 0 0, .slice none 0 0] ∧
                Box (u2.setRow w2.heap.size (dialCells (cur + 1) s5)) w2.heap.size 112 (dialCells cur' s5) ∧ DialIn lo'' hi'' (u2.setRow w2.heap.size (dialCells (cur + 1) s5)) s5 (fun i => (runR j' now ys).getD i []) ∧ hi'' ≤ (u2.setRow w2.heap.size (dialCells (cur + 1) s5)).heap.size ∧ OwnF 36 4 tcell (u2.setRow w2.heap.size (dialCells (cur + 1) s5)) V3.heap.size A2 (kk + m) c2 (runD j' now ys) ∧ (∀ r, A2.map (·.block) = some r → r < lo'' ∨ hi'' ≤ r)) := Lib.hid (by
              refine ⟨j + 1, cur + 1, wr.heap.size, w5.heap.size, rfl, rfl, by rw [HCU.out]; omega, HB7.out.grown hg HB7.out.size (fun k e => by injection e with e; omega), by rw [hzs]; omega, HR7.out.grown hg (by simp; omega), HD7.out.setRow, ?_, by rw [hzs]; omega, ?_, HF7.out⟩
              · refine (HC7.out.same (fun b h1 h2 => hg.block b (by omega) (fun e => by injection e with e; omega))).congr (fun i hi => ?_)
                rw [runR_snoc, ← HCU.out, tickR_at _ _ hi]
              · rw [runD_snoc, ← HCU.out]
                exact HO7.out.grown hg (by
                  cases hF : A2.map (·.block) with
                  | none => exact .inl rfl
                  | some r =>
                    refine .inr fun e => ?_
                    injection e with e
                    have := (HO7.out.block r hF).1
                    omega))
            clear hg hgs hzs hz2 hz6 hz5 hzw hz3 hlu hlen HE7 HD7 HR7 HB7 HC7 HF7 HO7 HE6 HR6 HD6 HB6 HO6 HN6 HC6 HZ6 V0 hHeld hc0 hc1
            go_wp2
            go_roundw
            case rel =>
              obtain ⟨j', cur', lo'', hi'', rfl, rfl, h1, h2, h3, h4, h5, h6, h7, h8, h9⟩ := HQ.out
              exact ⟨j + 1, cur + 1, s5, A2, kk + m, c2, lo'', hi'', by omega, by go_num, rfl, Lib.hid h1, Lib.hid h2, Lib.hid h3, Lib.hid h4, Lib.hid h5, Lib.hid h6, Lib.hid h7, Lib.hid h8, Lib.hid h9⟩
            case measure => simp [intOf]; omega
          · have hjN : j = N := by omega
            subst hjN
            go_wp2_with (refine wpList_load_dial rfl _ rfl rfl HDW.out ?_)
            refine (wheel_any cur s' (fun i => (runR j now ys).getD i []) lo' hi' _ HSW.out HHW.out HT.out).mono ?_
            rw [map24 HPJ.out.len]
            rintro e w6 ⟨P, pc, vs, rfl, hor, hrr, hb6⟩
            have hoe := (HOW.out.below hb6)
            have HK0 := RowsO.resK2 (hrr.mono HZW.out) (hor.mono HZW.out) hoe (fun v hv r hr e => by
              have h1 := (hrr.blk v hv r hr).1
              have h2 := (HOW.out.block r e).2
              omega)
            have HK6 := ResK.kept HK0 (Nat.le_refl _)
            have HR6 := HRW.out.below hb6
            have HB6 := below_step HBW.out hb6
            clear hb6 hor hrr HK0 hoe
            obtain ⟨hbx, hres⟩ := res_stored (g := w.heap.size + 1) HR6 (by omega) (by have := HZ3.out; have := HZ2.out; omega) HB6 HK6 0 cur pc d'
            have r0 := HR6.look 0
            have r1 := HR6.look 1
            have r2 := HR6.look 2
            have r3 := HR6.look 3
            have f0 := HR6.free 0
            have f1 := HR6.free 1
            have f2 := HR6.free 2
            have f3 := HR6.free 3
            have hrl := HR6.lt
            go_wp2
            clear r0 r1 r2 r3 f0 f1 f2 f3 hrl
            have q0 := hbx.look 0
            have q1 := hbx.look 1
            have q2 := hbx.look 2
            have q3 := hbx.look 3
            exact bodyPost_ret (v := .agg #[.int .i64 0, .int .i64 cur, .slice P 24 pc, .slice F kk d']) (by simp [results, Try.results14, go_sem, q0, q1, q2, q3]) rfl (by rw [HWO.out.1, HWO.out.2.1, HWO.out.2.2.1, HWO.out.2.2.2, ← HCU.out]; exact hres)
    · have HK := Lib.hid (allIn_one_no hk)
      have hC : rwC now ys k = 3 := by unfold rwC; rw [if_neg (fun e => e HRR.out), if_neg hk]
      have hC' : ¬ rwC now ys k = 0 := by rw [hC]; omega
      have HWO : Hid (rwC now ys k = 3 ∧ rwN now ys k = 0 ∧ rwR now ys k = [] ∧ rwD now ys k = []) := Lib.hid ⟨hC, if_neg hC', if_neg hC', if_neg hC'⟩
      clear hC hC' hk
      obtain ⟨W1, hW1⟩ : ∃ W1, W1 = w1.alloc (.cells #[.int .i64 k] 2) := ⟨_, rfl⟩
      rw [← hW1] at HOK HXk HRk HBk HZk
      go_wp2_with fail
      rw [← hW1]
      clear hW1
      refine (allWithin_one 0 1000 _ k _ (HOK.out.look 0)).mono ?_
      rw [HK.out]
      rintro e wz ⟨rfl, rfl⟩
      have r0 := HRk.out.look 0
      have r1 := HRk.out.look 1
      have r2 := HRk.out.look 2
      have r3 := HRk.out.look 3
      have f0 := HRk.out.free 0
      have f1 := HRk.out.free 1
      have f2 := HRk.out.free 2
      have f3 := HRk.out.free 3
      have hrl := HRk.out.lt
      go_wp2
      clear r0 r1 r2 r3 f0 f1 f2 f3 hrl
      have hbx := (((HRk.out.puts 0 (.int .i64 3) (cs' := #[.int .i64 3, .int .i64 0, .slice none 0 0, .slice none 0 0]) rfl).puts 1 (.int .i64 0) (cs' := #[.int .i64 3, .int .i64 0, .slice none 0 0, .slice none 0 0]) rfl).puts 2 (.slice none 0 0) (cs' := #[.int .i64 3, .int .i64 0, .slice none 0 0, .slice none 0 0]) rfl).puts 3 (.slice none 0 0) (cs' := #[.int .i64 3, .int .i64 0, .slice none 0 0, .slice none 0 0]) rfl
      have q0 := hbx.look 0
      have q1 := hbx.look 1
      have q2 := hbx.look 2
      have q3 := hbx.look 3
      exact bodyPost_ret (v := .agg #[.int .i64 3, .int .i64 0, .slice none 0 0, .slice none 0 0]) (by simp [results, Try.results14, go_sem, q0, q1, q2, q3]) rfl (by rw [HWO.out.1, HWO.out.2.1, HWO.out.2.2.1, HWO.out.2.2.2]; refine WOut.zero ?_; exact (((HBk.out.setCell (by simp; try omega) _).setCell (by simp; try omega) _).setCell (by simp; try omega) _).setCell (by simp; try omega) _)
  · have hC : rwC now ys k = r := by unfold rwC; rw [HRR.out, if_pos hr0]
    have hC' : ¬ rwC now ys k = 0 := by rw [hC]; exact hr0
    have HWO : Hid (rwC now ys k = r ∧ rwN now ys k = 0 ∧ rwR now ys k = [] ∧ rwD now ys k = []) := Lib.hid ⟨hC, if_neg hC', if_neg hC', if_neg hC'⟩
    have hr0' : (r != 0) = true := by rw [bne_iff_ne]; exact hr0
    clear hr0 hC hC'
    have r0 := HR1.out.look 0
    have r1 := HR1.out.look 1
    have r2 := HR1.out.look 2
    have r3 := HR1.out.look 3
    have f0 := HR1.out.free 0
    have f1 := HR1.out.free 1
    have f2 := HR1.out.free 2
    have f3 := HR1.out.free 3
    have hrl := HR1.out.lt
    go_wp2
    clear r0 r1 r2 r3 f0 f1 f2 f3 hrl
    have hbx := (((HR1.out.puts 0 (.int .i64 r) (cs' := #[.int .i64 r, .int .i64 0, .slice none 0 0, .slice none 0 0]) rfl).puts 1 (.int .i64 0) (cs' := #[.int .i64 r, .int .i64 0, .slice none 0 0, .slice none 0 0]) rfl).puts 2 (.slice none 0 0) (cs' := #[.int .i64 r, .int .i64 0, .slice none 0 0, .slice none 0 0]) rfl).puts 3 (.slice none 0 0) (cs' := #[.int .i64 r, .int .i64 0, .slice none 0 0, .slice none 0 0]) rfl
    have q0 := hbx.look 0
    have q1 := hbx.look 1
    have q2 := hbx.look 2
    have q3 := hbx.look 3
    exact bodyPost_ret (v := .agg #[.int .i64 r, .int .i64 0, .slice none 0 0, .slice none 0 0]) (by simp [results, Try.results14, go_sem, q0, q1, q2, q3]) rfl (by rw [HWO.out.1, HWO.out.2.1, HWO.out.2.2.1, HWO.out.2.2.2]; refine WOut.zero ?_; exact (((HB1.out.setCell (by simp; try omega) _).setCell (by simp; try omega) _).setCell (by simp; try omega) _).setCell (by simp; try omega) _)

theorem tickWheel_any (now : Int) (q : Bool) (lo hi : Nat) (A : Option Addr) (n c : Nat) (ys : List (List Tmr)) (w : World) (ha : Rep.timer.rows.Sl q lo hi w A n ys) (hh : hi ≤ w.heap.size) (hn : n ≤ 1048576) (hm : ∀ y ∈ ys, y.length ≤ 1048576) (hc : n ≤ c) :
    Calls Try.prog 35 #[.agg #[.int .i64 now, .slice A n c]] w (WOut w (rwC now ys 1) (rwN now ys 1) (rwR now ys 1) (rwD now ys 1)) := by
  obtain ⟨V, hV⟩ : ∃ V : World, V = (w.alloc (.cells #[.int .i64 now, .slice A n c] 26)).alloc (.cells #[.int .i64 0, .int .i64 0, .slice none 0 0, .slice none 0 0] 31) := ⟨_, rfl⟩
  have hbV : Below w.heap.size w V := by rw [hV]; exact ((Below.refl _ _).alloc (Nat.le_refl _) _).alloc (by simp) _
  have HR : Hid (Box V (w.heap.size + 1) 31 #[.int .i64 0, .int .i64 0, .slice none 0 0, .slice none 0 0]) := Lib.hid (by rw [hV]; exact Box.made_at _ _ _ (by simp))
  have HZ : Hid (w.heap.size + 2 = V.heap.size) := Lib.hid (by rw [hV]; simp)
  have HB := Lib.hid hbV
  have HA := (Rep.Sl.kept ha hh).below hbV
  have HM := Lib.hid hm
  clear ha hm hbV
  go_enter Try.func35, Try.ntmps35
  go_wp2_with fail
  rw [← hV]
  clear hV
  refine (runWheel_any now 1 q lo hi A n c ys _ HA.sl HA.le hn HM.out hc).mono ?_
  rintro e w1 ⟨P, pn, pc, E, m, d, rfl, hk, hb⟩
  have HK := hk
  have HR1 := HR.out.below hb
  have HB1 := below_step HB.out hb
  clear hk hb
  obtain ⟨r, hr⟩ : ∃ r, rwC now ys 1 = r := ⟨_, rfl⟩
  obtain ⟨x, hx⟩ : ∃ x, rwN now ys 1 = x := ⟨_, rfl⟩
  rw [hr, hx]
  obtain ⟨hbx, hres⟩ := res_stored (g := w.heap.size + 1) HR1 (by omega) (by have := HZ.out; omega) HB1 HK r x pc d
  have HRX := Lib.hid (And.intro hr hx)
  clear hr hx
  have r0 := HR1.look 0
  have r1 := HR1.look 1
  have r2 := HR1.look 2
  have r3 := HR1.look 3
  have f0 := HR1.free 0
  have f1 := HR1.free 1
  have f2 := HR1.free 2
  have f3 := HR1.free 3
  have hrl := HR1.lt
  go_wp2
  clear r0 r1 r2 r3 f0 f1 f2 f3 hrl
  have q0 := hbx.look 0
  have q1 := hbx.look 1
  have q2 := hbx.look 2
  have q3 := hbx.look 3
  exact bodyPost_ret (v := .agg #[.int .i64 r, .int .i64 x, .slice P pn pc, .slice E m d]) (by simp [results, Try.results35, go_sem, q0, q1, q2, q3]) rfl (by rw [HRX.out.1, HRX.out.2]; exact hres)

end
end Go.Proofs.Ytakplomopbnekaa

namespace Go.Proofs.Ytakplomopbnekaa
open Go.RowKit Go.Shelf
set_option linter.unusedVariables false

set_option maxHeartbeats 1600000 in

theorem l4All_at (q : Bool) (lo hi g o' : Nat) (A : Option Addr) (n c : Nat) (ys : List (List Tmr)) (w : World) (hg : w.cell? ⟨g, o' + 1, none⟩ = some (.slice A n c)) (ha : Rep.timer.rows.Sl q lo hi w A n ys) (hh : hi ≤ w.heap.size) (hn : n ≤ 1048576) (ht : tot ys ≤ 1048576) :
    Calls Try.prog 78 #[.pointer (some ⟨g, o', none⟩)] w fun e w' => ∃ E m d, e = .returned (.slice E m d) ∧ OwnF 36 4 tcell w' w.heap.size E m d ys.flatten ∧ Below w.heap.size w w' := by
  have HA := Rep.Sl.kept ha hh
  have HG := Lib.hid hg
  have HT := Lib.hid ht
  have hl := ha.1
  have hgl : g < w.heap.size := World.block_lt_of_cell? w _ hg
  have HE := Lib.hid (emptyF 36 4 tcell w)
  have HB0 : Hid (Below w.heap.size w (w.alloc (.cells #[] 36))) := Lib.hid ((Below.refl _ _).alloc (Nat.le_refl _) _)
  clear ha hg ht
  go_enter Try.func78, Try.ntmps78
  go_wp2
  go_loopw [4, 3] (fun i v wr => ∃ k : Nat, k ≤ n ∧ i = .int .i64 k ∧ Hid (Below w.heap.size w wr) ∧ ∃ E m d, v = .slice E m d ∧ Hid (OwnF 36 4 tcell wr w.heap.size E m d (ys.take k).flatten)) (fun i _ _ => n - (intOf i).toNat)
  case atStart => exact ⟨0, Nat.zero_le _, rfl, HB0, _, _, _, rfl, HE⟩
  case round =>
    obtain ⟨k, hk, rfl, HB, E, m, d, rfl, HO⟩ := hrel
    have c1 := (HB.out.cell (p := ⟨g, o' + 1, none⟩) hgl).trans HG.out
    have hgl' : g < wr.heap.size := Nat.lt_of_lt_of_le hgl HB.out.size
    by_cases hlt : k < n
    · obtain ⟨b, o, y, F, m', c', rfl, hya, ce, hy⟩ := Rep.rows_at (HA.below HB.out).sl hlt
      have hlt' : (k : Int) < n := by omega
      have hml : y.length = m' := hy.1
      have hmm : m + m' ≤ 1048576 := by
        have h1 := HO.out.1
        rw [flat_tot] at h1
        have := tot_at ys k y hya
        have := HT.out
        omega
      have HY := Lib.hid hya
      have HI := Lib.hid (Rep.timer_inF hy)
      clear hya hy
      go_wp2_with (at_builtin; refine wpList_appF0 tcell_len tcell_one Try.underlying29 timerInfo rfl (by decide) (by decide) rfl (.tmp 15) (.tmp 22) rfl (B := w.heap.size) rfl HO.out rfl HI.out hmm HB.out.size ?_; intro A' c1' w1 ho1 hg1)
      go_roundw
      case rel =>
        refine ⟨k + 1, by omega, by go_num, HB.out.grown hg1 HB.out.size (fun r e => (HO.out.block r e).1), _, _, _, rfl, ?_⟩
        rw [flat_take_succ HY.out]
        exact ho1
      case measure => simp [intOf]; omega
    · have hkn : k = n := by omega
      have HF := Lib.hid HO.out
      go_wp2
      go_ret
      refine ⟨E, m, d, rfl, ?_, HB.out⟩
      have := HO.out
      rwa [List.take_of_length_le (by omega)] at this


theorem rowsJ_get (now : Int) (ts : List Tmr) {k : Nat} (hk : k < 24) : ((upto 24).map fun x => withAll now ts x.1).getD k [] = withAll now ts k := by
  rw [List.getD, List.getElem?_map, upto_get hk]
  rfl
theorem addR_rows {now : Int} {ts : List Tmr} {t : Tmr} (hp : poC now t.due = 0) : addR now ((upto 24).map fun x => withAll now ts x.1) t = (upto 24).map fun x => withAll now (ts ++ [t]) x.1 := by
  rw [← rows_put (by rw [List.length_map, upto_len (Nat.le_refl _)]) hp]
  refine List.map_congr_left fun x _ => ?_
  rw [withAll_snoc]
  have h := rowsJ_get now ts x.2
  show (if x.val = (poV now t.due).toNat then ((upto 24).map fun x => withAll now ts x.1).getD x.val [] ++ [t] else ((upto 24).map fun x => withAll now ts x.1).getD x.val []) = putY (withAll now ts) (poV now t.due).toNat t x.val
  rw [h]
  rfl
theorem rows_nil (now : Int) : ((upto 24).map fun x => withAll now [] x.1) = List.replicate 24 [] := by
  rw [List.eq_replicate_iff]
  exact ⟨by rw [List.length_map, upto_len (Nat.le_refl _)], fun y hy => by obtain ⟨x, _, rfl⟩ := List.mem_map.1 hy; rfl⟩

section
attribute [local go_sem] Oper.semAt_some

set_option maxRecDepth 100000 in
set_option maxHeartbeats 8000000 in
theorem l4Tick_any (now : Int) (q : Bool) (lo hi g o : Nat) (A : Option Addr) (c : Nat) (ys : List (List Tmr)) (w : World) (hc0 : w.cell? ⟨g, o, none⟩ = some (.int .i64 now)) (hc1 : w.cell? ⟨g, o + 1, none⟩ = some (.slice A 24 c)) (ha : Rep.timer.rows.Sl q lo hi w A 24 ys) (hh : hi ≤ w.heap.size) (hn0 : 0 ≤ now) (hn1 : now + 1 ≤ 1000000) (ht : tot ys ≤ 60) (hp : ∀ t ∈ ys.flatten, poC now t.due = 0) :
    Calls Try.prog 85 #[.pointer (some ⟨g, o, none⟩)] w fun e w' => ∃ pg pc vs E m d, e = .returned (.tuple #[.agg #[.int .i64 (now + 1), .slice (some ⟨pg, 0, none⟩) 24 pc], .slice E m d]) ∧ OwnF 29 1 scell w' w.heap.size (some ⟨pg, 0, none⟩) 24 pc vs ∧ RowsO w' w.heap.size vs (tickR now ys) ∧ OwnF 36 4 tcell w' w.heap.size E m d (dueT now ys.flatten) ∧ (∀ v ∈ vs, ∀ r, v.blk = some r → E.map (·.block) ≠ some r) ∧ Below w.heap.size w w' := by
  have hgl : g < w.heap.size := World.block_lt_of_cell? w _ hc0
  have HC0 := Lib.hid hc0
  have HC1 := Lib.hid hc1
  have HA := Rep.Sl.kept ha hh
  have HT := Lib.hid ht
  have HP := Lib.hid hp
  clear hc0 hc1 ha ht hp
  go_enter Try.func85, Try.ntmps85
  obtain ⟨V, hV⟩ : ∃ V : World, V = w.alloc (.cells #[.int .i64 0, .slice none 0 0] 26) := ⟨_, rfl⟩
  have hbV : Below w.heap.size w V := by rw [hV]; exact (Below.refl _ _).alloc (Nat.le_refl _) _
  have HR : Hid (Box V w.heap.size 26 #[.int .i64 0, .slice none 0 0]) := Lib.hid (by rw [hV]; exact Box.made _ _ _)
  have HBV := Lib.hid hbV
  have HZV : Hid (w.heap.size + 1 = V.heap.size) := Lib.hid (by rw [hV]; simp)
  clear hbV
  have c0 := HC0.out
  go_wp2_with fail
  rw [← hV]
  clear hV c0
  refine (l4New_any (now + 1) _).mono ?_
  rintro e w1 ⟨P, pc, rfl, hon, hb1⟩
  obtain ⟨pg, rfl, hp1, hp2⟩ := hon.form (by omega)
  have HRN := Lib.hid (rowsNew (w := w1) (B := V.heap.size))
  have HO1 := Lib.hid hon
  have HB1 := Lib.hid (below_step HBV.out hb1)
  have HR1 := Lib.hid (HR.out.below hb1)
  have HPG : Hid (V.heap.size ≤ pg ∧ pg < w1.heap.size) := Lib.hid ⟨hp1, hp2⟩
  clear hon hb1 HR hp1 hp2
  go_upto_region 3 with (fail)
  refine Code.wp_name ?_
  intro V2 hV2
  have hb2 : Below w1.heap.size w1 V2 := by rw [hV2]; exact ((Below.refl _ _).alloc (Nat.le_refl _) _).alloc (by simp) _
  have HG : Hid (Box V2 w1.heap.size 26 #[.int .i64 (now + 1), .slice (some ⟨pg, 0, none⟩) 24 pc]) := Lib.hid (by rw [hV2]; exact (Box.made _ _ _).over _)
  have HE : Hid (OwnF 36 4 tcell V2 w.heap.size (some ⟨w1.heap.size + 1, 0, none⟩) 0 0 ([] : List Tmr)) := Lib.hid (by
    rw [hV2]
    have h := emptyF 36 4 tcell (w1.alloc (.cells #[.int .i64 (now + 1), .slice (some ⟨pg, 0, none⟩) 24 pc] 26))
    have hz : (w1.alloc (.cells #[.int .i64 (now + 1), .slice (some ⟨pg, 0, none⟩) 24 pc] 26)).heap.size = w1.heap.size + 1 := by simp
    rw [hz] at h
    exact h.mono (by have := HB1.out.size; omega))
  have HO2 := Lib.hid ((HO1.out.below hb2).mono (show w.heap.size ≤ V.heap.size by have := HZV.out; omega))
  have HQ2 := Lib.hid ((HRN.out.below hb2).mono (show w.heap.size ≤ V.heap.size by have := HZV.out; omega))
  have HB2 := Lib.hid (below_step HB1.out hb2)
  have HR2 := Lib.hid (HR1.out.below hb2)
  have HZ2 : Hid (w1.heap.size + 2 = V2.heap.size) := Lib.hid (by rw [hV2]; simp)
  clear hV2 hb2 HO1 HRN HR1 HB1 HBV
  go_wp2_with fail
  refine (l4All_at q lo hi g o A 24 c ys _ ((HB2.out.cell (p := ⟨g, o + 1, none⟩) hgl).trans HC1.out) (HA.below HB2.out).sl (HA.below HB2.out).le (by omega) (by have := HT.out; omega)).mono ?_
  obtain ⟨ts, hts⟩ : ∃ ts, ys.flatten = ts := ⟨_, rfl⟩
  have hml0 : ts.length ≤ 60 := by rw [← hts, show ys.flatten.length = tot ys by simp [tot]]; exact HT.out
  rw [hts]
  have HTS := Lib.hid hts
  have HP2 : Hid (∀ t ∈ ts, poC now t.due = 0) := Lib.hid (by rw [← hts]; exact HP.out)
  clear hts HP
  rintro e w3 ⟨E0, m, d0, rfl, hall, hb3⟩
  have hml : m ≤ 60 := by rw [← hall.1]; exact hml0
  have HL := Lib.hid hall.1
  have HS3 := Rep.Sl.kept (own_timers hall) (Nat.le_refl _)
  have HG3 := Lib.hid (HG.out.below hb3)
  have HE3 := Lib.hid (HE.out.below hb3)
  have HO3 := Lib.hid (HO2.out.below hb3)
  have HQ3 := Lib.hid (HQ2.out.below hb3)
  have HB3 := Lib.hid (below_step HB2.out hb3)
  have HR3 := Lib.hid (HR2.out.below hb3)
  have HZ3 := Lib.hid hb3.size
  clear hall hb3 HG HE HO2 HQ2 HB2 HR2 hml0
  go_wp2
  go_loopw [7, 5] (fun i v wr => ∃ (j : Nat) (F : Option Addr) (k d : Nat) (vs : List SlV), j ≤ m ∧ i = .int .i64 j ∧ v = .slice F k d ∧ Hid (Below w.heap.size w wr) ∧ Hid (w3.heap.size ≤ wr.heap.size) ∧ Kept V2.heap.size w3.heap.size (SlK Rep.timer true V2.heap.size w3.heap.size E0 m ts) wr ∧ Hid (Box wr w.heap.size 26 #[.int .i64 0, .slice none 0 0]) ∧
      Hid (Box wr w1.heap.size 26 #[.int .i64 (now + 1), .slice (some ⟨pg, 0, none⟩) 24 pc]) ∧ Hid (OwnF 29 1 scell wr w.heap.size (some ⟨pg, 0, none⟩) 24 pc vs) ∧ Hid (RowsO wr w.heap.size vs ((upto 24).map fun x => withAll (now + 1) (restT now (ts.take j)) x.1)) ∧ Hid (OwnF 36 4 tcell wr w.heap.size F k d (dueT now (ts.take j))) ∧
      Hid (∀ v ∈ vs, ∀ r, v.blk = some r → w3.heap.size ≤ r ∧ F.map (·.block) ≠ some r) ∧ Hid (∀ r, F.map (·.block) = some r → r < V2.heap.size ∨ w3.heap.size ≤ r)) (fun i _ _ => m - (intOf i).toNat)
  case atStart => exact ⟨0, _, 0, 0, _, Nat.zero_le _, rfl, rfl, HB3, Lib.hid (Nat.le_refl _), HS3, HR3, HG3, HO3, Lib.hid (by
      rw [show restT now (ts.take 0) = [] from rfl, rows_nil]; exact HQ3.out), HE3, Lib.hid (fun v hv r hr => by
      rw [(List.mem_replicate.1 hv).2] at hr; cases hr), Lib.hid (fun r hr => by
      have h : w1.heap.size + 1 = r := by injection hr
      have := HZ2.out
      left; omega)⟩
  case round =>
    obtain ⟨j, F, k, d, vs, hj, rfl, rfl, HB, HZW, HS, HR, HG, HO, HQ, HD, HV, HF⟩ := hrel
    by_cases hlt : j < m
    · obtain ⟨b, o2, t, rfl, hta, a0, a1, a2, a3⟩ := Rep.timer_at HS.sl hlt
      have hlt' : (j : Int) < m := by omega
      have HTA := Lib.hid hta
      have HPT := Lib.hid (HP2.out t (List.mem_of_getElem? hta))
      have n0 := HG.out.look 0
      have nl := HG.out.lt
      have bl : b < wr.heap.size := World.block_lt_of_cell? wr _ a3
      clear hta
      by_cases hdue : t.due = now + 1
      · have HDE : Hid (isDue now t = true) := Lib.hid (by simp [isDue, hdue])
        have HKL : k ≤ j := by
          have h1 := HD.out.1
          have h2 := List.length_filter_le (fun t => isDue now t) (ts.take j)
          rw [← h1]
          unfold dueT
          rw [List.length_take] at h2; omega
        have hde : (t.due == now + 1) = true := by simp [hdue]
        clear hdue
        go_wp2
        go_quiet (fail)
        obtain ⟨W2, hW2⟩ : ∃ W : World, W = wr.drewN nq := ⟨_, rfl⟩
        have hbw : Below wr.heap.size wr W2 := by rw [hW2]; exact below_drewN (Below.refl _ _) _
        have hzw : W2.heap.size = wr.heap.size := by rw [hW2]; rfl
        rw [← hW2]
        clear hW2
        replace a0 := (hbw.cell (p := ⟨b, o2 + j * 4, none⟩) bl).trans a0
        replace a1 := (hbw.cell (p := ⟨b, o2 + j * 4 + 1, none⟩) bl).trans a1
        replace a2 := (hbw.cell (p := ⟨b, o2 + j * 4 + 2, none⟩) bl).trans a2
        replace a3 := (hbw.cell (p := ⟨b, o2 + j * 4 + 3, none⟩) bl).trans a3
        have HB4 := Lib.hid (below_step HB.out hbw)
        have HS4 := HS.below hbw
        have HR4 := Lib.hid (HR.out.below hbw)
        have HG4 := Lib.hid (HG.out.below hbw)
        have HO4 := Lib.hid (HO.out.below hbw)
        have HQ4 := Lib.hid (HQ.out.below hbw)
        have HD4 := Lib.hid (HD.out.below hbw)
        have HZ4 : Hid (w3.heap.size ≤ W2.heap.size ∧ W2.heap.size = wr.heap.size) := Lib.hid ⟨by have := HZW.out; omega, hzw⟩
        clear hbw hzw HB HS HR HG HO HQ HD n0 nl bl
        have hba : Below W2.heap.size W2 (W2.alloc (.cells #[.int .i64 t.typ, .int .i64 t.id, .int .i64 t.adv, .int .i64 t.due] 36)) := (Below.refl _ _).alloc (Nat.le_refl _) _
        have HLT : Hid (Box (W2.alloc (.cells #[.int .i64 t.typ, .int .i64 t.id, .int .i64 t.adv, .int .i64 t.due] 36)) W2.heap.size 36 #[.int .i64 t.typ, .int .i64 t.id, .int .i64 t.adv, .int .i64 t.due]) := Lib.hid (Box.made W2 _ _)
        have HBA := Lib.hid hba
        have HWB : Hid (w.heap.size ≤ W2.heap.size) := Lib.hid HB4.out.size
        clear hba
        go_wp2_with (at_builtin; refine wpList_appAt tcell_len tcell_one Try.underlying29 timerInfo rfl (by decide) (by decide) rfl (.tmp 31) (.tmp 36) rfl (B := w.heap.size) rfl (HD4.out.below HBA.out) rfl (ys := [t]) rfl (fun j v hj => by rw [Addr.add_lit, Nat.zero_add]; exact (HLT.out.look j).trans (by simpa [tcell] using hj)) (by omega) (Nat.le_trans HWB.out HBA.out.size) ?_; intro A2 c2 u2 ho2 hg2 hab)
        go_roundw
        case rel =>
          have hsz := hg2.size
          have hbs := HBA.out.size
          have hwb := HWB.out
          have hfl : ∀ r, F.map (·.block) = some r → w.heap.size ≤ r ∧ r < W2.heap.size := fun r hr => HD4.out.block r hr
          have hbz : (W2.alloc (.cells #[.int .i64 t.typ, .int .i64 t.id, .int .i64 t.adv, .int .i64 t.due] 36)).heap.size = W2.heap.size + 1 := by simp
          have hty : ∀ (g : Nat) (ty : TypeId) (cs : Array Value), Box W2 g ty cs → ty ≠ 36 → F.map (·.block) ≠ some g := fun g ty cs hb hne e => by
            obtain ⟨cs1, h1⟩ := HD4.out.typ e
            rw [show W2.heap[g]? = _ from hb] at h1
            simp at h1
            exact hne h1.2
          have hfo : F.map (·.block) ≠ some pg := fun e => by
            obtain ⟨cs1, h1⟩ := HD4.out.typ e
            obtain ⟨cs2, h2⟩ := HO4.out.typ (r := pg) rfl
            rw [h1] at h2; simp at h2
          have hz4 := HZ4.out
          have hab2 : ∀ r, A2.map (·.block) = some r → F.map (·.block) = some r ∨ r = W2.heap.size + 1 := fun r hr => by
            rcases hab with h | h
            · exact .inl (h.symm.trans hr)
            · have h2 : some (W2.alloc (.cells #[.int .i64 t.typ, .int .i64 t.id, .int .i64 t.adv, .int .i64 t.due] 36)).heap.size = some r := h.symm.trans hr
              injection h2 with h2
              exact .inr (by omega)
          refine ⟨j + 1, A2, k + 1, c2, vs, by omega, by go_num, rfl, Lib.hid ((below_step HB4.out HBA.out).grown hg2 (by omega) (fun r e => (hfl r e).1)), Lib.hid (by omega), ?_, Lib.hid ((HR4.out.below HBA.out).grown hg2 (hty _ _ _ HR4.out (by decide))), Lib.hid ((HG4.out.below HBA.out).grown hg2 (hty _ _ _ HG4.out (by decide))), Lib.hid ((HO4.out.below HBA.out).grown hg2 (.inr (fun e => hfo e.symm))), ?_, ?_, Lib.hid (fun v hv r hr => ⟨(HV.out v hv r hr).1, fun e => ?_⟩), Lib.hid (fun r hr => ?_)⟩
          · refine (HS4.below HBA.out).same (fun i h1 h2 => hg2.block i (by omega) (fun e => ?_)) (by omega)
            have := HF.out i e.symm
            omega
          · have h1 : restT now (ts.take (j + 1)) = restT now (ts.take j) := by unfold restT; rw [take_filter _ HTA.out, HDE.out]; simp
            rw [h1]
            refine Lib.hid ((HQ4.out.below HBA.out).same (fun v hv r hr => hg2.block r (by have := (HQ4.out.blk v hv r hr).2.1; omega) (fun e => (HV.out v hv r hr).2 e.symm)))
          · have h1 : dueT now (ts.take (j + 1)) = dueT now (ts.take j) ++ [t] := by unfold dueT; rw [take_filter _ HTA.out, HDE.out]; simp
            rw [h1]; exact Lib.hid ho2
          · rcases hab2 r e with h | h
            · exact (HV.out v hv r hr).2 h
            · have := (HQ4.out.blk v hv r hr).2.1; omega
          · rcases hab2 r hr with h | h
            · exact HF.out r h
            · right; omega
        case measure => simp [intOf]; omega
      · have HDE : Hid (isDue now t = false) := Lib.hid (by simp [isDue, hdue])
        have HPN : Hid (poC (now + 1) t.due = 0) := Lib.hid (by
          obtain ⟨x1, x2, x3, x4⟩ := poC_ok HPT.out
          unfold poC
          rw [if_pos]
          exact ⟨by omega, hn1, by omega, by omega⟩)
        have hde : (t.due == now + 1) = false := by simp [hdue]
        clear hdue
        go_wp2
        go_quiet (fail)
        obtain ⟨W2, hW2⟩ : ∃ W : World, W = wr.drewN nq := ⟨_, rfl⟩
        have hbw : Below wr.heap.size wr W2 := by rw [hW2]; exact below_drewN (Below.refl _ _) _
        have hzw : W2.heap.size = wr.heap.size := by rw [hW2]; rfl
        rw [← hW2]
        clear hW2
        replace a0 := (hbw.cell (p := ⟨b, o2 + j * 4, none⟩) bl).trans a0
        replace a1 := (hbw.cell (p := ⟨b, o2 + j * 4 + 1, none⟩) bl).trans a1
        replace a2 := (hbw.cell (p := ⟨b, o2 + j * 4 + 2, none⟩) bl).trans a2
        replace a3 := (hbw.cell (p := ⟨b, o2 + j * 4 + 3, none⟩) bl).trans a3
        have HB4 := Lib.hid (below_step HB.out hbw)
        have HS4 := HS.below hbw
        have HR4 := Lib.hid (HR.out.below hbw)
        have HG4 := Lib.hid (HG.out.below hbw)
        have HO4 := Lib.hid (HO.out.below hbw)
        have HQ4 := Lib.hid (HQ.out.below hbw)
        have HD4 := Lib.hid (HD.out.below hbw)
        have HZ4 : Hid (w3.heap.size ≤ W2.heap.size ∧ W2.heap.size = wr.heap.size) := Lib.hid ⟨by have := HZW.out; omega, hzw⟩
        clear hbw hzw HB HS HR HG HO HQ HD n0 nl bl
        go_wp2_with fail
        clear a0 a1 a2 a3
        refine (l4Put_any w.heap.size w1.heap.size pg pc (now + 1) vs _ t W2 HG4.out HO4.out HQ4.out HB4.out.size (fun y hy => by
          obtain ⟨x, _, rfl⟩ := List.mem_map.1 hy
          have h1 := withAll_le (now + 1) (restT now (ts.take j)) x.1
          have h2 := List.length_filter_le (fun t => !isDue now t) (ts.take j)
          unfold restT at h1 ⊢
          simp only [List.length_take] at h2
          omega) HPN.out).mono ?_
        rw [addR_rows HPN.out]
        rintro e w6 ⟨vs6, rfl, hg6, ho6, hq6, hpo⟩
        have HPO := Lib.hid hpo
        have HG6 := Lib.hid hg6
        have HO6 := Lib.hid ho6
        have HQ6 := Lib.hid hq6
        clear hpo hg6 ho6 hq6
        go_wp2
        go_roundw
        case rel =>
          have hz4 := HZ4.out
          have hpg := HPG.out
          have hzv := HZV.out
          have hpz := HPO.out.size
          have hz2 := HZ2.out
          have hz3 := HZ3.out
          have hb4 := HB4.out.size
          have hbelow : Below w.heap.size W2 w6 := HPO.out.below hb4 (by omega) HQ4.out
          have hrg : w.heap.size ≠ pg := by omega
          refine ⟨j + 1, F, k, d, vs6, by omega, by go_num, rfl, Lib.hid (HB4.out.trans hbelow), Lib.hid (by omega), ?_, Lib.hid (HPO.out.box HQ4.out HR4.out hrg (by decide)), HG6, HO6, ?_, ?_, Lib.hid (fun v hv r hr => ?_), HF⟩
          · exact HS4.same (fun i h1 h2 => HPO.out.block i (by omega) (by omega) (fun u hu e => by have := (HV.out u hu i e).1; omega)) (by omega)
          · have h1 : restT now (ts.take (j + 1)) = restT now (ts.take j) ++ [t] := by unfold restT; rw [take_filter _ HTA.out, HDE.out]; simp
            rw [h1]; exact HQ6
          · have h1 : dueT now (ts.take (j + 1)) = dueT now (ts.take j) := by unfold dueT; rw [take_filter _ HTA.out, HDE.out]; simp
            rw [h1]
            refine Lib.hid (HD4.out.same (fun r hr => HPO.out.block r (HD4.out.block r hr).2 (fun e => ?_) (fun u hu e => (HV.out u hu r e).2 hr)))
            obtain ⟨cs1, h1⟩ := HD4.out.typ hr
            obtain ⟨cs2, h2⟩ := HO4.out.typ (r := pg) rfl
            rw [e, h2] at h1; simp at h1
          · rcases HPO.out.news v hv r hr with ⟨u, hu, e⟩ | h
            · exact HV.out u hu r e
            · refine ⟨by omega, fun e => ?_⟩
              have := (HD4.out.block r e).2
              omega
        case measure => simp [intOf]; omega
    · have hjm : j = m := by omega
      subst hjm
      have hta : ts.take j = ts := List.take_of_length_le (by have := HL.out; omega)
      rw [hta] at HQ HD
      have n0 := HG.out.look 0
      have n1 := HG.out.look 1
      have nl := HG.out.lt
      have r0 := HR.out.look 0
      have r1 := HR.out.look 1
      have f0 := HR.out.free 0
      have f1 := HR.out.free 1
      have rl := HR.out.lt
      clear hta
      go_wp2
      have hbx := (HR.out.puts 0 (.int .i64 (now + 1)) (cs' := #[.int .i64 (now + 1), .slice none 0 0]) rfl).puts 1 (.slice (some ⟨pg, 0, none⟩) 24 pc) (cs' := #[.int .i64 (now + 1), .slice (some ⟨pg, 0, none⟩) 24 pc]) rfl
      have q0 := hbx.look 0
      have q1 := hbx.look 1
      have hg1 := grown_trans (setCell_grown wr ⟨w.heap.size, 0, none⟩ (.int .i64 (now + 1))) (setCell_grown (wr.setCell ⟨w.heap.size, 0, none⟩ (.int .i64 (now + 1))) ⟨w.heap.size, 1, none⟩ (.slice (some ⟨pg, 0, none⟩) 24 pc))
      have hpg := HPG.out
      have hzv := HZV.out
      refine bodyPost_ret (v := .tuple #[.agg #[.int .i64 (now + 1), .slice (some ⟨pg, 0, none⟩) 24 pc], .slice F k d]) (by simp [results, Try.results85, go_sem, q0, q1]) rfl ⟨pg, pc, vs, F, k, d, rfl, HO.out.grown hg1 (.inr (by simp; omega)), ?_, ?_, fun v hv r hr => (HV.out v hv r hr).2, (HB.out.setCell (by simp) _).setCell (by simp) _⟩
      · unfold tickR
        rw [HTS.out]
        refine HQ.out.grown hg1 (fun r e cs h => ?_)
        injection e with e
        subst e
        rw [show wr.heap[w.heap.size]? = _ from HR.out] at h; simp at h
      · rw [HTS.out]
        exact HD.out.grown hg1 (by
          cases hF : F.map (·.block) with
          | none => exact .inl rfl
          | some r =>
            refine .inr fun e => ?_
            injection e with e
            obtain ⟨cs1, h1⟩ := HD.out.typ hF
            rw [e, show wr.heap[w.heap.size]? = _ from HR.out] at h1
            simp at h1)

end
end Go.Proofs.Ytakplomopbnekaa

namespace Go.Proofs.Ytakplomopbnekaa
open Go.RowKit Go.Shelf
set_option linter.unusedVariables false

section
attribute [local go_sem] Oper.semAt_some

set_option maxRecDepth 100000 in
set_option maxHeartbeats 8000000 in
theorem specRunWheel_any (now k : Int) (q : Bool) (lo hi : Nat) (A : Option Addr) (n c : Nat) (ys : List (List Tmr)) (w : World) (ha : Rep.timer.rows.Sl q lo hi w A n ys) (hh : hi ≤ w.heap.size) (hn : n ≤ 1048576) (ht : tot ys ≤ 1048576) :
    Calls Try.prog 20 #[.agg #[.int .i64 now, .slice A n c], .int .i64 k] w (WOut w (rwC now ys k) (rwN now ys k) (rwR now ys k) (rwD now ys k)) := by
  have HA := Rep.Sl.kept ha hh
  have hl := ha.1
  have HM : Hid (∀ y ∈ ys, y.length ≤ 1048576) := Lib.hid (fun y hy => by
    obtain ⟨i, hi, rfl⟩ := List.getElem_of_mem hy
    have := tot_at ys i _ (List.getElem?_eq_getElem hi)
    omega)
  obtain ⟨r, hr⟩ : ∃ r, faultW now ys = r := ⟨_, rfl⟩
  have HRR := Lib.hid hr
  have HTT := Lib.hid ht
  clear ha hr ht
  go_enter Try.func20, Try.ntmps20
  go_upto_region 1 with (fail)
  refine Code.wp_name ?_
  intro V hV
  have HX : Hid (Box V w.heap.size 26 #[.int .i64 now, .slice A n c]) := Lib.hid (by rw [hV]; exact (Box.made _ _ _).over _)
  have HR : Hid (Box V (w.heap.size + 1) 31 #[.int .i64 0, .int .i64 0, .slice none 0 0, .slice none 0 0]) := Lib.hid (by rw [hV]; exact Box.made_at _ _ _ (by simp))
  have HB : Hid (Below w.heap.size w V) := Lib.hid (by rw [hV]; exact ((Below.refl _ _).alloc (Nat.le_refl _) _).alloc (by simp) _)
  have HZ : Hid (w.heap.size + 2 = V.heap.size) := Lib.hid (by rw [hV]; simp)
  clear hV
  have c0 := HX.out.look 0
  have c1 := HX.out.look 1
  have hxl := HX.out.lt
  go_wp2_with fail
  refine (specWheelFault_any now q lo hi A n c ys _ (HA.below HB.out).sl (HA.below HB.out).le hn HTT.out).mono ?_
  rw [HRR.out]
  rintro e w1 ⟨rfl, hb1⟩
  have HX1 := Lib.hid (HX.out.below hb1)
  have HR1 := Lib.hid (HR.out.below hb1)
  have HB1 := Lib.hid (below_step HB.out hb1)
  have HZ1 : Hid (w.heap.size + 2 ≤ w1.heap.size) := Lib.hid (by have := HZ.out; have := hb1.size; omega)
  clear hb1 HX HR HB HZ c0 c1 hxl
  by_cases hr0 : r = 0
  · subst hr0
    obtain ⟨hok, h24, h60⟩ := fault_ok HRR.out
    obtain ⟨hn0, hn1⟩ := hok
    obtain rfl : n = 24 := by omega
    have HP := Lib.hid (Placed.of HRR.out)
    by_cases hk : 0 ≤ k ∧ k ≤ 1000
    · have HK := Lib.hid (allIn_one_yes hk.1 hk.2)
      have HKK := Lib.hid hk
      obtain ⟨hk0, hk1⟩ := hk
      go_wp2_with fail
      refine (l1In_any k 0 1000 _).mono ?_
      rw [HK.out]
      rintro e wz ⟨rfl, rfl⟩
      obtain ⟨w2, hw2⟩ : ∃ w2, w2 = wz := ⟨_, rfl⟩
      subst hw2
      have c0 := HX1.out.look 0
      have hxl := HX1.out.lt
      by_cases hfull : 1000000 < now + k
      · have hC : rwC now ys k = 9 := by unfold rwC; rw [if_neg (fun e => e HRR.out), if_pos HKK.out, if_pos hfull]
        have hC' : ¬ rwC now ys k = 0 := by rw [hC]; omega
        have HWO : Hid (rwC now ys k = 9 ∧ rwN now ys k = 0 ∧ rwR now ys k = [] ∧ rwD now ys k = []) := Lib.hid ⟨hC, if_neg hC', if_neg hC', if_neg hC'⟩
        clear hC hC'
        have r0 := HR1.out.look 0
        have r1 := HR1.out.look 1
        have r2 := HR1.out.look 2
        have r3 := HR1.out.look 3
        have f0 := HR1.out.free 0
        have f1 := HR1.out.free 1
        have f2 := HR1.out.free 2
        have f3 := HR1.out.free 3
        have hrl := HR1.out.lt
        go_wp2
        clear r0 r1 r2 r3 f0 f1 f2 f3 hrl
        have hbx := (((HR1.out.puts 0 (.int .i64 9) (cs' := #[.int .i64 9, .int .i64 0, .slice none 0 0, .slice none 0 0]) rfl).puts 1 (.int .i64 0) (cs' := #[.int .i64 9, .int .i64 0, .slice none 0 0, .slice none 0 0]) rfl).puts 2 (.slice none 0 0) (cs' := #[.int .i64 9, .int .i64 0, .slice none 0 0, .slice none 0 0]) rfl).puts 3 (.slice none 0 0) (cs' := #[.int .i64 9, .int .i64 0, .slice none 0 0, .slice none 0 0]) rfl
        have q0 := hbx.look 0
        have q1 := hbx.look 1
        have q2 := hbx.look 2
        have q3 := hbx.look 3
        exact bodyPost_ret (v := .agg #[.int .i64 9, .int .i64 0, .slice none 0 0, .slice none 0 0]) (by simp [results, Try.results20, go_sem, q0, q1, q2, q3]) rfl (by rw [HWO.out.1, HWO.out.2.1, HWO.out.2.2.1, HWO.out.2.2.2]; refine WOut.zero ?_; exact (((HB1.out.setCell (by simp; try omega) _).setCell (by simp; try omega) _).setCell (by simp; try omega) _).setCell (by simp; try omega) _)
      · have hC : rwC now ys k = 0 := by unfold rwC; rw [if_neg (fun e => e HRR.out), if_pos HKK.out, if_neg hfull]
        have hle : now + k ≤ 1000000 := by omega
        obtain ⟨N, rfl⟩ : ∃ N : Nat, k = N := ⟨k.toNat, by omega⟩
        have HWO : Hid (rwC now ys N = 0 ∧ rwN now ys N = now + N ∧ rwR now ys N = runR N now ys ∧ rwD now ys N = runD N now ys) := Lib.hid ⟨hC, if_pos hC, by unfold rwR; rw [if_pos hC, Int.toNat_natCast], by unfold rwD; rw [if_pos hC, Int.toNat_natCast]⟩
        clear hC hfull
        go_wp2_with fail
        refine (l4Copy_any q lo hi w.heap.size A c now ys _ HX1.out (HA.below HB1.out).sl (HA.below HB1.out).le HM.out).mono ?_
        rintro e w4 ⟨P, pc, vs, rfl, hor, hrr, hb4⟩
        obtain ⟨pg, rfl, hp1, hp2⟩ := hor.form (by omega)
        have HR4 := Lib.hid (HR1.out.below hb4)
        have HB4 := Lib.hid (below_step HB1.out hb4)
        have HO4 := Lib.hid hor
        have HQ4 := Lib.hid hrr
        have HS4 := Lib.hid hb4.size
        clear hb4 hor hrr c0 hxl hp1 hp2
        have hbg : Below w4.heap.size w4 (w4.alloc (.cells #[.int .i64 0, .int .i64 now, .slice (some ⟨pg, 0, none⟩) 24 pc, .slice none 0 0] 31)) := (Below.refl _ _).alloc (Nat.le_refl _) _
        obtain ⟨V5, hV5⟩ : ∃ V5, V5 = w4.alloc (.cells #[.int .i64 0, .int .i64 now, .slice (some ⟨pg, 0, none⟩) 24 pc, .slice none 0 0] 31) := ⟨_, rfl⟩
        rw [← hV5] at hbg
        have HG5 : Hid (Box V5 w4.heap.size 31 #[.int .i64 0, .int .i64 now, .slice (some ⟨pg, 0, none⟩) 24 pc, .slice none 0 0]) := Lib.hid (by rw [hV5]; exact Box.made _ _ _)
        have HR5 := Lib.hid (HR4.out.below hbg)
        have HB5 := Lib.hid (below_step HB4.out hbg)
        have HO5 := Lib.hid (HO4.out.below hbg)
        have HQ5 := Lib.hid (HQ4.out.below hbg)
        have HZ5 : Hid (w4.heap.size + 1 = V5.heap.size) := Lib.hid (by rw [hV5]; simp)
        clear hbg HR4 HB4 HO4 HQ4
        go_wp2
        rw [← hV5]
        clear hV5
        go_loopw [1] (fun v wr => ∃ (j M : Nat) (cur : Int) (pg pc : Nat) (vs : List SlV) (F : Option Addr) (kk d' : Nat), M + j = N ∧ v = .int .i64 M ∧ Hid (cur = now + j) ∧ Hid (Below w.heap.size w wr) ∧ Hid (V5.heap.size ≤ wr.heap.size) ∧ Hid (Box wr (w.heap.size + 1) 31 #[.int .i64 0, .int .i64 0, .slice none 0 0, .slice none 0 0]) ∧
            Hid (Box wr w4.heap.size 31 #[.int .i64 0, .int .i64 cur, .slice (some ⟨pg, 0, none⟩) 24 pc, .slice F kk d']) ∧ Hid (OwnF 29 1 scell wr w2.heap.size (some ⟨pg, 0, none⟩) 24 pc vs) ∧ Hid (RowsO wr w2.heap.size vs (runR j now ys)) ∧ Hid (OwnF 36 4 tcell wr w2.heap.size F kk d' (runD j now ys)) ∧ Hid (∀ v ∈ vs, ∀ r, v.blk = some r → F.map (·.block) ≠ some r)) (fun v _ => (intOf v).toNat)
        case atStart => exact ⟨0, N, now, pg, pc, vs, none, 0, 0, rfl, rfl, Lib.hid (by omega), HB5, Lib.hid (Nat.le_refl _), HR5, HG5, HO5, HQ5, Lib.hid ⟨rfl, World.ownsRow_nil _ _ _ 4⟩, Lib.hid (fun v _ r _ e => by cases e)⟩
        case round =>
          obtain ⟨j, M, cur, pg, pc, vs, F, kk, d', hMN, rfl, HCU, HBW, HZW, HRW, HGW, HOW, HQW, HDW, HAP⟩ := hrel
          have HPJ := Lib.hid (HP.out.run (k := j) (by omega))
          by_cases hlt : 0 < M
          · have hlt' : (0 : Int) < M := by omega
            have hcu := HCU.out
            have hc0 : 0 ≤ cur := by omega
            have hc1 : cur + 1 ≤ 1000000 := by omega
            clear hcu
            have HSL := (ResK.kept (RowsO.resK HQW.out HOW.out) (Nat.le_refl _)).res_rows
            have HSLH := Lib.hid HSL
            clear HSL
            have g1 := HGW.out.look 1
            have g2 := HGW.out.look 2
            have ggl := HGW.out.lt
            go_wp2_with fail
            refine (l4Tick_any cur false _ _ w4.heap.size 1 (some ⟨pg, 0, none⟩) pc (runR j now ys) _ g1 g2 HSLH.out (Nat.le_refl _) hc0 hc1 HPJ.out.tot (by rw [HCU.out]; exact HPJ.out.ok)).mono ?_
            rintro e w5 ⟨pg5, pc5, vs5, E, m, d, rfl, hon, hqn, hdn, hap, hb5⟩
            have hpg5 := hon.block pg5 rfl
            have HON := Lib.hid hon
            have HQN := Lib.hid hqn
            have HDN := Lib.hid hdn
            have HPG5 := Lib.hid hpg5
            have HR5 := Lib.hid (HRW.out.below hb5)
            have HG5 := Lib.hid (HGW.out.below hb5)
            have HB5 := Lib.hid (below_step HBW.out hb5)
            have HD5 := Lib.hid (HDW.out.below hb5)
            have HZ5' := Lib.hid hb5.size
            have HFL : Hid (∀ r, F.map (·.block) = some r → w2.heap.size ≤ r ∧ r < wr.heap.size) := Lib.hid (fun r hr => HDW.out.block r hr)
            have HVL : Hid (∀ v ∈ vs5, ∀ r, v.blk = some r → wr.heap.size ≤ r ∧ r < w5.heap.size) := Lib.hid (fun v hv r hr => by have := hqn.blk v hv r hr; exact ⟨this.1, this.2.1⟩)
            clear hon hqn hdn hap hb5 hpg5 HRW HGW HBW HOW HQW HDW HAP HSLH g1 g2 ggl
            go_upto_region 12 with (fail)
            refine Code.wp_name ?_
            intro V6 hV6
            have hb6 : Below w5.heap.size w5 V6 := by rw [hV6]; exact (Below.refl _ _).alloc (Nat.le_refl _) _
            have HW6 : Hid (Box V6 w5.heap.size 26 #[.int .i64 (cur + 1), .slice (some ⟨pg5, 0, none⟩) 24 pc5]) := Lib.hid (by rw [hV6]; exact Box.made _ _ _)
            have HR6 := Lib.hid (HR5.out.below hb6)
            have HG6 := Lib.hid (HG5.out.below hb6)
            have HB6 := Lib.hid (below_step HB5.out hb6)
            have HD6 := Lib.hid (HD5.out.below hb6)
            have HON6 := Lib.hid (HON.out.below hb6)
            have HQN6 := Lib.hid (HQN.out.below hb6)
            have HDN6 := Lib.hid (HDN.out.below hb6)
            have HZ6 : Hid (w5.heap.size + 1 = V6.heap.size) := Lib.hid (by rw [hV6]; simp)
            clear hV6 hb6 HR5 HG5 HB5 HD5 HON HQN HDN
            have hz4 : w4.heap.size < w5.heap.size := by have := HZ5.out; have := HZW.out; have := HZ5'.out; omega
            have k0 := HW6.out.look 0
            have k1 := HW6.out.look 1
            have kl := HW6.out.lt
            have g1 := HG6.out.look 1
            have g2 := HG6.out.look 2
            have f1 := HG6.out.free 1
            have f2 := HG6.out.free 2
            have gl := HG6.out.lt
            have ne1 : ¬ w4.heap.size = w5.heap.size := by omega
            have ne2 : ¬ w5.heap.size = w4.heap.size := by omega
            go_upto_region 13 with (fail)
            clear k0 k1 kl g1 g2 f1 f2 gl ne1 ne2
            refine Code.wp_name ?_
            intro V7 hV7
            have hg7 : V6.grownBy V7 (some w4.heap.size) := by rw [hV7]; exact grown_trans (setCell_grown _ _ _) (setCell_grown _ _ _)
            have hz7 : V7.heap.size = V6.heap.size := by rw [hV7]; simp [World.setCell]
            have HG7 : Hid (Box V7 w4.heap.size 31 #[.int .i64 0, .int .i64 (cur + 1), .slice (some ⟨pg5, 0, none⟩) 24 pc5, .slice F kk d']) := Lib.hid (by rw [hV7]; exact (HG6.out.puts 1 (.int .i64 (cur + 1)) (cs' := #[.int .i64 0, .int .i64 (cur + 1), .slice (some ⟨pg, 0, none⟩) 24 pc, .slice F kk d']) rfl).puts 2 (.slice (some ⟨pg5, 0, none⟩) 24 pc5) (cs' := #[.int .i64 0, .int .i64 (cur + 1), .slice (some ⟨pg5, 0, none⟩) 24 pc5, .slice F kk d']) rfl)
            have hzr := HZ1.out
            have hzw := HZW.out
            have hz5 := HZ5.out
            have hs4 := HS4.out
            have htyp : ∀ {A : Option Addr} {n c : Nat} {zs : List Tmr} {B : Nat}, OwnF 36 4 tcell V6 B A n c zs → A.map (·.block) ≠ some w4.heap.size := fun {A n c zs B} h e => by
              obtain ⟨cs1, h1⟩ := h.typ e
              rw [show V6.heap[w4.heap.size]? = _ from HG6.out] at h1; simp at h1
            have HD7 := Lib.hid (HD6.out.grown hg7 (.inr (htyp HD6.out)))
            have HDN7 := Lib.hid (HDN6.out.grown hg7 (.inr (htyp HDN6.out)))
            have HON7 := Lib.hid (HON6.out.grown hg7 (.inr (fun e => by
              obtain ⟨cs1, h1⟩ := HON6.out.typ e
              rw [show V6.heap[w4.heap.size]? = _ from HG6.out] at h1; simp at h1)))
            have HQN7 := Lib.hid (HQN6.out.grown hg7 (fun r e cs h => by
              injection e with e
              subst e
              rw [show V6.heap[w4.heap.size]? = _ from HG6.out] at h; simp at h))
            have HR7 := Lib.hid (HR6.out.grown hg7 (by simp; omega))
            have HB7 := Lib.hid (HB6.out.grown hg7 HB6.out.size (fun r e => by injection e with e; omega))
            have HZ7 : Hid (w5.heap.size + 1 = V7.heap.size) := Lib.hid (by rw [hz7]; exact HZ6.out)
            have HFG := Lib.hid (htyp HD6.out)
            clear hV7 hg7 hz7 htyp HD6 HDN6 HON6 HQN6 HR6 HB6 HG6
            have hlen : kk + m ≤ 60 := by
              have h1 := HD7.out.1
              have h2 := HDN7.out.1
              have h3 := runD_len (j + 1) now ys
              rw [runD_snoc, List.length_append, h1, ← HCU.out, h2] at h3
              omega
            have g3 := HG7.out.look 3
            have gl := HG7.out.lt
            go_wp2_with (at_builtin; refine wpList_appAtF tcell_len tcell_one Try.underlying29 timerInfo rfl (by decide) (by decide) rfl (.tmp 39) (.tmp 40) rfl (B := w2.heap.size) rfl HD7.out rfl (OwnF.inF tcell_len HDN7.out) (by omega) (by have := HZ7.out; omega) ?_; intro A2 c2 u2 ho2 hg2 hab; have HG8 := HG7.out.grown hg2 HFG.out; have gg3 := HG8.look 3; have ff3 := HG8.free 3; have gg8 := HG8.lt)
            go_roundw
            case rel =>
              have hlu := HFL.out
              have hvl := HVL.out
              have hp5 := HPG5.out
              have hz7 := HZ7.out
              have hz5' := HZ5'.out
              have hgs := hg2.size
              obtain ⟨U, hU⟩ : ∃ U : World, U = u2.setCell ⟨w4.heap.size, 3, none⟩ (.slice A2 (kk + m) c2) := ⟨_, rfl⟩
              have hgU : u2.grownBy U (some w4.heap.size) := by rw [hU]; exact setCell_grown _ _ _
              have hszU : U.heap.size = u2.heap.size := by rw [hU]; simp [World.setCell]
              have hab2 : ∀ r, A2.map (·.block) = some r → F.map (·.block) = some r ∨ r = V7.heap.size := fun r hr => by
                rcases hab with h | h
                · exact .inl (h.symm.trans hr)
                · have h2 : some V7.heap.size = some r := h.symm.trans hr
                  injection h2 with h2
                  exact .inr h2.symm
              have hG8 : Box U w4.heap.size 31 #[.int .i64 0, .int .i64 (cur + 1), .slice (some ⟨pg5, 0, none⟩) 24 pc5, .slice A2 (kk + m) c2] := by rw [hU]; exact HG8.puts 3 (.slice A2 (kk + m) c2) rfl
              have hON8 := HON7.out.grown hg2 (.inr (fun e => by have := hlu pg5 e.symm; omega))
              have hQN8 := HQN7.out.same (w' := u2) (fun v hv r hr => hg2.block r (by have := hvl v hv r hr; omega) (fun e => by have := hlu r e.symm; have := hvl v hv r hr; omega))
              have hb8 := HB7.out.grown hg2 HB7.out.size (fun r e => by have := hlu r e; omega)
              rw [← hU]
              refine ⟨j + 1, M - 1, cur + 1, pg5, pc5, vs5, A2, kk + m, c2, by omega, by rw [show ((M : Int) - 1) = ((M - 1 : Nat) : Int) by omega], Lib.hid (by rw [HCU.out]; omega), Lib.hid (hb8.grown hgU hb8.size (fun r e => by injection e with e; omega)), Lib.hid (by omega), Lib.hid (((HR7.out.grown hg2 (fun e => by have := hlu _ e; omega)).grown hgU (by simp; omega))), Lib.hid hG8, Lib.hid ((hON8.mono (show w2.heap.size ≤ wr.heap.size by omega)).grown hgU (.inr (fun e => by
                obtain ⟨cs1, h1⟩ := hON8.typ e
                rw [show u2.heap[w4.heap.size]? = _ from HG8] at h1; simp at h1))), ?_, ?_, Lib.hid (fun v hv r hr e => ?_)⟩
              · rw [runR_snoc, ← HCU.out]
                refine Lib.hid ((hQN8.mono (show w2.heap.size ≤ wr.heap.size by omega)).grown hgU (fun r e cs h => ?_))
                injection e with e
                subst e
                rw [show u2.heap[w4.heap.size]? = _ from HG8] at h; simp at h
              · rw [runD_snoc, ← HCU.out]
                refine Lib.hid (ho2.grown hgU ?_)
                cases hF : A2.map (·.block) with
                | none => exact .inl rfl
                | some r =>
                  refine .inr fun e => ?_
                  injection e with e
                  obtain ⟨cs1, h1⟩ := ho2.typ hF
                  rw [e, show u2.heap[w4.heap.size]? = _ from HG8] at h1; simp at h1
              · have h1 := hvl v hv r hr
                rcases hab2 r e with h | h
                · have := hlu r h; omega
                · omega
            case measure => simp [intOf]; omega
          · have hM0 : M = 0 := by omega
            subst hM0
            have hjN : j = N := by omega
            subst hjN
            have hzr := HZ1.out
            have HK0 := RowsO.resK2 HQW.out HOW.out HDW.out HAP.out
            have HK6 := ResK.kept HK0 (Nat.le_refl _)
            clear HK0
            obtain ⟨hbx, hres⟩ := res_stored (g := w.heap.size + 1) HRW.out (by omega) (by omega) HBW.out HK6 0 cur pc d'
            have g0 := HGW.out.look 0
            have g1 := HGW.out.look 1
            have g2 := HGW.out.look 2
            have g3 := HGW.out.look 3
            have ggl := HGW.out.lt
            have r0 := HRW.out.look 0
            have r1 := HRW.out.look 1
            have r2 := HRW.out.look 2
            have r3 := HRW.out.look 3
            have f0 := HRW.out.free 0
            have f1 := HRW.out.free 1
            have f2 := HRW.out.free 2
            have f3 := HRW.out.free 3
            have hrl := HRW.out.lt
            go_wp2
            clear r0 r1 r2 r3 f0 f1 f2 f3 hrl g0 g1 g2 g3 ggl
            have q0 := hbx.look 0
            have q1 := hbx.look 1
            have q2 := hbx.look 2
            have q3 := hbx.look 3
            exact bodyPost_ret (v := .agg #[.int .i64 0, .int .i64 cur, .slice (some ⟨pg, 0, none⟩) 24 pc, .slice F kk d']) (by simp [results, Try.results20, go_sem, q0, q1, q2, q3]) rfl (by rw [HWO.out.1, HWO.out.2.1, HWO.out.2.2.1, HWO.out.2.2.2, ← HCU.out]; exact hres)
    · have HK := Lib.hid (allIn_one_no hk)
      have hC : rwC now ys k = 3 := by unfold rwC; rw [if_neg (fun e => e HRR.out), if_neg hk]
      have hC' : ¬ rwC now ys k = 0 := by rw [hC]; omega
      have HWO : Hid (rwC now ys k = 3 ∧ rwN now ys k = 0 ∧ rwR now ys k = [] ∧ rwD now ys k = []) := Lib.hid ⟨hC, if_neg hC', if_neg hC', if_neg hC'⟩
      clear hC hC' hk
      go_wp2_with fail
      refine (l1In_any k 0 1000 _).mono ?_
      rw [HK.out]
      rintro e wz ⟨rfl, rfl⟩
      have r0 := HR1.out.look 0
      have r1 := HR1.out.look 1
      have r2 := HR1.out.look 2
      have r3 := HR1.out.look 3
      have f0 := HR1.out.free 0
      have f1 := HR1.out.free 1
      have f2 := HR1.out.free 2
      have f3 := HR1.out.free 3
      have hrl := HR1.out.lt
      go_wp2
      clear r0 r1 r2 r3 f0 f1 f2 f3 hrl
      have hbx := (((HR1.out.puts 0 (.int .i64 3) (cs' := #[.int .i64 3, .int .i64 0, .slice none 0 0, .slice none 0 0]) rfl).puts 1 (.int .i64 0) (cs' := #[.int .i64 3, .int .i64 0, .slice none 0 0, .slice none 0 0]) rfl).puts 2 (.slice none 0 0) (cs' := #[.int .i64 3, .int .i64 0, .slice none 0 0, .slice none 0 0]) rfl).puts 3 (.slice none 0 0) (cs' := #[.int .i64 3, .int .i64 0, .slice none 0 0, .slice none 0 0]) rfl
      have q0 := hbx.look 0
      have q1 := hbx.look 1
      have q2 := hbx.look 2
      have q3 := hbx.look 3
      exact bodyPost_ret (v := .agg #[.int .i64 3, .int .i64 0, .slice none 0 0, .slice none 0 0]) (by simp [results, Try.results20, go_sem, q0, q1, q2, q3]) rfl (by rw [HWO.out.1, HWO.out.2.1, HWO.out.2.2.1, HWO.out.2.2.2]; refine WOut.zero ?_; exact (((HB1.out.setCell (by simp; try omega) _).setCell (by simp; try omega) _).setCell (by simp; try omega) _).setCell (by simp; try omega) _)
  · have hC : rwC now ys k = r := by unfold rwC; rw [HRR.out, if_pos hr0]
    have hC' : ¬ rwC now ys k = 0 := by rw [hC]; exact hr0
    have HWO : Hid (rwC now ys k = r ∧ rwN now ys k = 0 ∧ rwR now ys k = [] ∧ rwD now ys k = []) := Lib.hid ⟨hC, if_neg hC', if_neg hC', if_neg hC'⟩
    have hr0' : (r != 0) = true := by rw [bne_iff_ne]; exact hr0
    clear hr0 hC hC'
    have r0 := HR1.out.look 0
    have r1 := HR1.out.look 1
    have r2 := HR1.out.look 2
    have r3 := HR1.out.look 3
    have f0 := HR1.out.free 0
    have f1 := HR1.out.free 1
    have f2 := HR1.out.free 2
    have f3 := HR1.out.free 3
    have hrl := HR1.out.lt
    go_wp2
    clear r0 r1 r2 r3 f0 f1 f2 f3 hrl
    have hbx := (((HR1.out.puts 0 (.int .i64 r) (cs' := #[.int .i64 r, .int .i64 0, .slice none 0 0, .slice none 0 0]) rfl).puts 1 (.int .i64 0) (cs' := #[.int .i64 r, .int .i64 0, .slice none 0 0, .slice none 0 0]) rfl).puts 2 (.slice none 0 0) (cs' := #[.int .i64 r, .int .i64 0, .slice none 0 0, .slice none 0 0]) rfl).puts 3 (.slice none 0 0) (cs' := #[.int .i64 r, .int .i64 0, .slice none 0 0, .slice none 0 0]) rfl
    have q0 := hbx.look 0
    have q1 := hbx.look 1
    have q2 := hbx.look 2
    have q3 := hbx.look 3
    exact bodyPost_ret (v := .agg #[.int .i64 r, .int .i64 0, .slice none 0 0, .slice none 0 0]) (by simp [results, Try.results20, go_sem, q0, q1, q2, q3]) rfl (by rw [HWO.out.1, HWO.out.2.1, HWO.out.2.2.1, HWO.out.2.2.2]; refine WOut.zero ?_; exact (((HB1.out.setCell (by simp; try omega) _).setCell (by simp; try omega) _).setCell (by simp; try omega) _).setCell (by simp; try omega) _)

theorem specTickWheel_any (now : Int) (q : Bool) (lo hi : Nat) (A : Option Addr) (n c : Nat) (ys : List (List Tmr)) (w : World) (ha : Rep.timer.rows.Sl q lo hi w A n ys) (hh : hi ≤ w.heap.size) (hn : n ≤ 1048576) (ht : tot ys ≤ 1048576) :
    Calls Try.prog 39 #[.agg #[.int .i64 now, .slice A n c]] w (WOut w (rwC now ys 1) (rwN now ys 1) (rwR now ys 1) (rwD now ys 1)) := by
  obtain ⟨V, hV⟩ : ∃ V : World, V = (w.alloc (.cells #[.int .i64 now, .slice A n c] 26)).alloc (.cells #[.int .i64 0, .int .i64 0, .slice none 0 0, .slice none 0 0] 31) := ⟨_, rfl⟩
  have hbV : Below w.heap.size w V := by rw [hV]; exact ((Below.refl _ _).alloc (Nat.le_refl _) _).alloc (by simp) _
  have HR : Hid (Box V (w.heap.size + 1) 31 #[.int .i64 0, .int .i64 0, .slice none 0 0, .slice none 0 0]) := Lib.hid (by rw [hV]; exact Box.made_at _ _ _ (by simp))
  have HZ : Hid (w.heap.size + 2 = V.heap.size) := Lib.hid (by rw [hV]; simp)
  have HB := Lib.hid hbV
  have HA := (Rep.Sl.kept ha hh).below hbV
  have HM := Lib.hid ht
  clear ha ht hbV
  go_enter Try.func39, Try.ntmps39
  go_wp2_with fail
  rw [← hV]
  clear hV
  refine (specRunWheel_any now 1 q lo hi A n c ys _ HA.sl HA.le hn HM.out).mono ?_
  rintro e w1 ⟨P, pn, pc, E, m, d, rfl, hk, hb⟩
  have HK := hk
  have HR1 := HR.out.below hb
  have HB1 := below_step HB.out hb
  clear hk hb
  obtain ⟨r, hr⟩ : ∃ r, rwC now ys 1 = r := ⟨_, rfl⟩
  obtain ⟨x, hx⟩ : ∃ x, rwN now ys 1 = x := ⟨_, rfl⟩
  rw [hr, hx]
  obtain ⟨hbx, hres⟩ := res_stored (g := w.heap.size + 1) HR1 (by omega) (by have := HZ.out; omega) HB1 HK r x pc d
  have HRX := Lib.hid (And.intro hr hx)
  clear hr hx
  have r0 := HR1.look 0
  have r1 := HR1.look 1
  have r2 := HR1.look 2
  have r3 := HR1.look 3
  have f0 := HR1.free 0
  have f1 := HR1.free 1
  have f2 := HR1.free 2
  have f3 := HR1.free 3
  have hrl := HR1.lt
  go_wp2
  clear r0 r1 r2 r3 f0 f1 f2 f3 hrl
  have q0 := hbx.look 0
  have q1 := hbx.look 1
  have q2 := hbx.look 2
  have q3 := hbx.look 3
  exact bodyPost_ret (v := .agg #[.int .i64 r, .int .i64 x, .slice P pn pc, .slice E m d]) (by simp [results, Try.results39, go_sem, q0, q1, q2, q3]) rfl (by rw [HRX.out.1, HRX.out.2]; exact hres)

end
end Go.Proofs.Ytakplomopbnekaa

namespace Go.Proofs.Ytakplomopbnekaa
open Go.RowKit
set_option linter.unusedVariables false

set_option maxRecDepth 100000 in
set_option maxHeartbeats 3200000 in
theorem law_TickWheel (v0 : Int) (ys0 : List (List Tmr)) (q0 : Bool) (lo0 hi0 : Nat) (A0 : Option Addr) (n0 c0 : Nat) (w : World) (ha0 : Rep.timer.rows.Sl q0 lo0 hi0 w A0 n0 ys0) (hh0 : hi0 ≤ w.heap.size) (hn0 : n0 ≤ maxLen) (hm0 : ∀ y ∈ ys0, y.length ≤ maxLen) :
    Calls Try.prog 6 #[.agg #[.int .i64 v0, .slice A0 n0 c0]] w fun e w' => e = .returned (.bool true) ∧ Below w.heap.size w w' := by
  have hle0 := szSS_bd ys0 1048576 (by omega)
  by_cases hbig0 : szSS 1048576 ys0 < 0
  · have HB := Lib.hid (Below.refl w.heap.size w)
    have HA0 := Rep.Sl.kept ha0 hh0
    have HMX0 := Lib.hid hm0
    clear ha0 hm0
    have HR0 := Lib.hid (szSS_neg ys0 1048576 hbig0)
    clear hbig0 hle0
    go_enter Try.func6, Try.ntmps6
    go_wp2_with fail
    refine Calls.name ?_
    intro U1 hU1
    have hb : Below w.heap.size w U1 := by rw [hU1]; exact ((Below.refl _ _).alloc (Nat.le_refl _) _)
    have zz : Hid (w.heap.size + 1 = U1.heap.size) := Lib.hid (by rw [hU1]; simp)
    have HX1 : Kept w.heap.size (w.heap.size + 1) (BoxK w.heap.size 59 #[.int .i64 v0, .slice A0 n0 c0]) U1 := by rw [hU1]; exact Kept.box (Box.made_at _ _ _ rfl)
    replace HA0 := HA0.below hb
    replace HB := Lib.hid (below_step HB.out hb)
    clear hb
    have Z1 := zz; clear zz
    clear hU1
    refine (szWheel_any q0 lo0 hi0 A0 n0 c0 ys0 v0 (1048576) _ HA0.sl HA0.le hn0 HMX0.out (by omega) (by omega)).mono ?_
    rw [HR0.out]
    rintro e w2 ⟨rfl, hb⟩
    have Z2 := Lib.hid hb.size
    replace HA0 := HA0.below hb
    replace HX1 := HX1.below hb
    replace HB := Lib.hid (below_step HB.out hb)
    clear hb
    have l2_0 := HX1.bx.lt
    go_wp2
    clear l2_0
    go_ret
    exact ⟨rfl, HB.out⟩
  have hsz0 := szSS_nonneg (show (0 : Int) ≤ 1048576 by omega) (show 0 ≤ szSS 1048576 ys0 by omega)
  obtain ⟨r0, hr0⟩ : ∃ r, szSS 1048576 ys0 = r := ⟨_, rfl⟩
  rw [hr0] at hle0 hbig0 hsz0
  have HR0 := Lib.hid hr0
  have hln0 := ha0.1
  rw [hln0] at hsz0
  have hN0 : n0 ≤ 1048576 := by omega
  have HT0 : Hid (tot ys0 ≤ 1048576) := Lib.hid (by omega)
  have HM0 : Hid (∀ y ∈ ys0, y.length ≤ 1048576) := Lib.hid (fun y hy => by obtain ⟨i, hi, rfl⟩ := List.getElem_of_mem hy; have := tot_at ys0 i _ (List.getElem?_eq_getElem hi); omega)
  have hz0 : 0 ≤ r0 := by omega
  clear hr0 hln0 hsz0 hbig0
  have HB := Lib.hid (Below.refl w.heap.size w)
  have HA0 := Rep.Sl.kept ha0 hh0
  have HMX0 := Lib.hid hm0
  clear ha0 hm0
  have HBD0 := Lib.hid (rw_bd v0 ys0 1)
  obtain ⟨r, hr⟩ : ∃ z, rwC v0 ys0 1 = z := ⟨_, rfl⟩
  have HRr := Lib.hid hr
  clear hr
  obtain ⟨x, hr⟩ : ∃ z, rwN v0 ys0 1 = z := ⟨_, rfl⟩
  have HRx := Lib.hid hr
  clear hr
  obtain ⟨us, hr⟩ : ∃ z, rwR v0 ys0 1 = z := ⟨_, rfl⟩
  have HRus := Lib.hid hr
  clear hr
  obtain ⟨zs, hr⟩ : ∃ z, rwD v0 ys0 1 = z := ⟨_, rfl⟩
  have HRzs := Lib.hid hr
  clear hr
  have HBD : Hid (us.length ≤ 1048576 ∧ (∀ y ∈ us, y.length ≤ 1048576) ∧ tot us ≤ 1048576 ∧ zs.length ≤ 1048576) := Lib.hid (by rw [← HRus.out, ← HRzs.out]; exact HBD0.out)
  clear HBD0
  go_enter Try.func6, Try.ntmps6
  go_wp2_with fail
  refine Calls.name ?_
  intro U1 hU1
  have hb : Below w.heap.size w U1 := by rw [hU1]; exact ((Below.refl _ _).alloc (Nat.le_refl _) _)
  have zz : Hid (w.heap.size + 1 = U1.heap.size) := Lib.hid (by rw [hU1]; simp)
  have HX1 : Kept w.heap.size (w.heap.size + 1) (BoxK w.heap.size 59 #[.int .i64 v0, .slice A0 n0 c0]) U1 := by rw [hU1]; exact Kept.box (Box.made_at _ _ _ rfl)
  replace HA0 := HA0.below hb
  replace HB := Lib.hid (below_step HB.out hb)
  clear hb
  have Z1 := zz; clear zz
  clear hU1
  refine (szWheel_any q0 lo0 hi0 A0 n0 c0 ys0 v0 (1048576) _ HA0.sl HA0.le hn0 HMX0.out (by omega) (by omega)).mono ?_
  rw [HR0.out]
  rintro e w2 ⟨rfl, hb⟩
  have Z2 := Lib.hid hb.size
  replace HA0 := HA0.below hb
  replace HX1 := HX1.below hb
  replace HB := Lib.hid (below_step HB.out hb)
  clear hb
  have c2_0 := HX1.look 0
  have c2_1 := HX1.look 1
  have l2_0 := HX1.bx.lt
  go_wp2_with fail
  clear c2_0 c2_1 l2_0
  refine (toWheel_any q0 lo0 hi0 A0 n0 c0 ys0 v0 _ HA0.sl HA0.le hN0 HM0.out).mono ?_
  rintro e w3 ⟨Ps0, rfl, hk, hb⟩
  have Z3 := Lib.hid hb.size
  replace HA0 := HA0.below hb
  replace HX1 := HX1.below hb
  replace HB := Lib.hid (below_step HB.out hb)
  clear hb
  have HS0 := hk; clear hk
  have l3_0 := HX1.bx.lt
  go_wp2_with fail
  clear l3_0
  refine (specTickWheel_any v0 false _ _ Ps0 n0 n0 ys0 _ HS0.rows HS0.le hN0 HT0.out).mono ?_
  rw [HRr.out, HRx.out, HRus.out, HRzs.out]
  rintro e w4 ⟨O0, j0, b0, E0, m0, d0, rfl, hk, hb⟩
  have Z4 := Lib.hid hb.size
  replace HA0 := HA0.below hb
  replace HX1 := HX1.below hb
  replace HS0 := HS0.below hb
  replace HB := Lib.hid (below_step HB.out hb)
  clear hb
  have HO0 := hk; clear hk
  have HQ : Hid (us.length = j0 ∧ zs.length = m0) := Lib.hid ⟨HO0.res_rows.1, HO0.res_due.1⟩
  have hj0 : j0 ≤ 1048576 := by have := HQ.out.1; have := HBD.out.1; omega
  have hm0 : m0 ≤ 1048576 := by have := HQ.out.2; have := HBD.out.2.2.2; omega
  clear HS0
  have c4_0 := HX1.look 0
  have c4_1 := HX1.look 1
  have l4_0 := HX1.bx.lt
  go_wp2_with fail
  clear c4_0 c4_1 l4_0
  refine Calls.name ?_
  intro U5 hU5
  have hb : Below w4.heap.size w4 U5 := by rw [hU5]; exact ((Below.refl _ _).alloc (Nat.le_refl _) _)
  have zz : Hid (w4.heap.size + 1 = U5.heap.size) := Lib.hid (by rw [hU5]; simp)
  have HX2 : Kept w4.heap.size (w4.heap.size + 1) (BoxK w4.heap.size 31 #[.int .i64 r, .int .i64 x, .slice O0 j0 b0, .slice E0 m0 d0]) U5 := by rw [hU5]; exact Kept.box (Box.made_at _ _ _ rfl)
  replace HA0 := HA0.below hb
  replace HX1 := HX1.below hb
  replace HO0 := HO0.below hb
  replace HB := Lib.hid (below_step HB.out hb)
  clear hb
  have Z5 := zz; clear zz
  clear hU5
  refine (toWheel_any q0 lo0 hi0 A0 n0 c0 ys0 v0 _ HA0.sl HA0.le hN0 HM0.out).mono ?_
  rintro e w6 ⟨Px0, rfl, hk, hb⟩
  have Z6 := Lib.hid hb.size
  replace HA0 := HA0.below hb
  replace HX1 := HX1.below hb
  replace HO0 := HO0.below hb
  replace HX2 := HX2.below hb
  replace HB := Lib.hid (below_step HB.out hb)
  clear hb
  have HG0 := hk; clear hk
  have l5_0 := HX1.bx.lt
  have l5_1 := HX2.bx.lt
  go_wp2_with fail
  clear l5_0 l5_1
  refine Calls.name ?_
  intro U7 hU7
  have hb : Below w6.heap.size w6 U7 := by rw [hU7]; exact ((Below.refl _ _).alloc (Nat.le_refl _) _)
  have zz : Hid (w6.heap.size + 1 = U7.heap.size) := Lib.hid (by rw [hU7]; simp)
  have HX3 : Kept w6.heap.size (w6.heap.size + 1) (BoxK w6.heap.size 26 #[.int .i64 v0, .slice Px0 n0 n0]) U7 := by rw [hU7]; exact Kept.box (Box.made_at _ _ _ rfl)
  replace HA0 := HA0.below hb
  replace HX1 := HX1.below hb
  replace HO0 := HO0.below hb
  replace HX2 := HX2.below hb
  replace HG0 := HG0.below hb
  replace HB := Lib.hid (below_step HB.out hb)
  clear hb
  have Z7 := zz; clear zz
  clear hU7
  refine (tickWheel_any v0 false _ _ Px0 n0 n0 ys0 _ HG0.rows HG0.le hN0 HM0.out (Nat.le_refl _)).mono ?_
  rw [HRr.out, HRx.out, HRus.out, HRzs.out]
  rintro e w8 ⟨O1, j1, b1, E1, m1, d1, rfl, hk, hb⟩
  have Z8 := Lib.hid hb.size
  replace HA0 := HA0.below hb
  replace HX1 := HX1.below hb
  replace HO0 := HO0.below hb
  replace HX2 := HX2.below hb
  replace HG0 := HG0.below hb
  replace HX3 := HX3.below hb
  replace HB := Lib.hid (below_step HB.out hb)
  clear hb
  have HO1 := hk; clear hk
  obtain rfl : j0 = j1 := by have := HO1.res_rows.1; have := HO0.res_rows.1; omega
  obtain rfl : m0 = m1 := by have := HO1.res_due.1; have := HO0.res_due.1; omega
  have c6_0 := HX2.look 0
  have c6_1 := HX2.look 1
  have c6_2 := HX2.look 2
  have c6_3 := HX2.look 3
  have l6_0 := HX1.bx.lt
  have l6_1 := HX2.bx.lt
  have l6_2 := HX3.bx.lt
  go_wp2_with fail
  clear c6_0 c6_1 c6_2 c6_3 l6_0 l6_1 l6_2
  refine Calls.name ?_
  intro U9 hU9
  have hb : Below w8.heap.size w8 U9 := by rw [hU9]; exact ((Below.refl _ _).alloc (Nat.le_refl _) _)
  have zz : Hid (w8.heap.size + 1 = U9.heap.size) := Lib.hid (by rw [hU9]; simp)
  have HX4 : Kept w8.heap.size (w8.heap.size + 1) (BoxK w8.heap.size 31 #[.int .i64 r, .int .i64 x, .slice O1 j0 b1, .slice E1 m0 d1]) U9 := by rw [hU9]; exact Kept.box (Box.made_at _ _ _ rfl)
  replace HA0 := HA0.below hb
  replace HX1 := HX1.below hb
  replace HO0 := HO0.below hb
  replace HX2 := HX2.below hb
  replace HG0 := HG0.below hb
  replace HX3 := HX3.below hb
  replace HO1 := HO1.below hb
  replace HB := Lib.hid (below_step HB.out hb)
  clear hb
  have Z9 := zz; clear zz
  clear hU9
  refine (eqWheelResult_yes false false _ _ _ _ O1 O0 j0 b1 b0 us _ _ _ _ E1 E0 m0 d1 d0 zs r x _ HO1.res_rows HO0.res_rows HO1.le HO0.le hj0 HBD.out.2.1 (Rep.Sl.unq HO1.res_due) (Rep.Sl.unq HO0.res_due) HO1.le HO0.le hm0).mono ?_
  rintro e w10 ⟨rfl, hb⟩
  have Z10 := Lib.hid hb.size
  replace HA0 := HA0.below hb
  replace HX1 := HX1.below hb
  replace HO0 := HO0.below hb
  replace HX2 := HX2.below hb
  replace HG0 := HG0.below hb
  replace HX3 := HX3.below hb
  replace HO1 := HO1.below hb
  replace HX4 := HX4.below hb
  replace HB := Lib.hid (below_step HB.out hb)
  clear hb
  have l7_0 := HX1.bx.lt
  have l7_1 := HX2.bx.lt
  have l7_2 := HX3.bx.lt
  have l7_3 := HX4.bx.lt
  go_wp2
  clear l7_0 l7_1 l7_2 l7_3
  have SB : Hid (∀ W, Hid (Below w10.heap.size w10 W) → (fun W => W.cell? ⟨w.heap.size, 0, none⟩ = some (.int .i64 v0) ∧ W.cell? ⟨w.heap.size, 1, none⟩ = some (.slice A0 n0 c0) ∧ W.cell? ⟨w6.heap.size, 0, none⟩ = some (.int .i64 v0) ∧ W.cell? ⟨w6.heap.size, 1, none⟩ = some (.slice Px0 n0 n0)) W) := fun W h => ⟨(HX1.below h.out).look 0, (HX1.below h.out).look 1, (HX3.below h.out).look 0, (HX3.below h.out).look 1⟩
  have V0 : Hid (Below w10.heap.size w10 w10.drew) := (Below.refl _ _).drew
  go_region_held3 (fun W => W.cell? ⟨w.heap.size, 0, none⟩ = some (.int .i64 v0) ∧ W.cell? ⟨w.heap.size, 1, none⟩ = some (.slice A0 n0 c0) ∧ W.cell? ⟨w6.heap.size, 0, none⟩ = some (.int .i64 v0) ∧ W.cell? ⟨w6.heap.size, 1, none⟩ = some (.slice Px0 n0 n0)) (exact SB.out _ (by assumption))
    (first | (go_at_call 41; ((with_reducible refine (toWheel_any q0 lo0 hi0 A0 n0 c0 ys0 v0 _ (HA0.below V0.out).sl (HA0.below V0.out).le hN0 HM0.out).mono ?_); rintro e u1_0 ⟨Pz0, rfl, hk, hb⟩; have V1 := Lib.hid (below_step V0.out hb); clear hb; have HZ0 := hk; clear hk)) | (go_at_call 44; ((with_reducible refine (eqWheel_yes false false _ _ _ _ Px0 _ n0 n0 n0 ys0 v0 _ (HG0.below V1.out).rows HZ0.rows (HG0.below V1.out).le HZ0.le hN0 HM0.out).mono ?_); rintro e u1_1 ⟨rfl, hb⟩; have V2 := Lib.hid (below_step V1.out hb); clear hb)))
  have hb := V2.out
  clear SB V0 V1 V2
  have Z11 := Lib.hid hb.size
  replace HA0 := HA0.below hb
  replace HX1 := HX1.below hb
  replace HO0 := HO0.below hb
  replace HX2 := HX2.below hb
  replace HG0 := HG0.below hb
  replace HX3 := HX3.below hb
  replace HO1 := HO1.below hb
  replace HX4 := HX4.below hb
  replace HB := Lib.hid (below_step HB.out hb)
  clear hb
  clear HZ0
  have c8_0 := HX3.look 0
  have c8_1 := HX3.look 1
  have l8_0 := HX1.bx.lt
  have l8_1 := HX2.bx.lt
  have l8_2 := HX3.bx.lt
  have l8_3 := HX4.bx.lt
  go_wp2_with fail
  clear c8_0 c8_1 l8_0 l8_1 l8_2 l8_3
  obtain ⟨bsw, hfw, hndw, hinw⟩ := HG0.out
  have HLW := HG0.le
  refine (markWheel_F Px0 n0 n0 ys0 bsw v0 1 _ hfw hndw (fun b hb => Nat.lt_of_lt_of_le (hinw b hb).2 HLW) hN0 HT0.out (by omega) (by omega)).mono ?_
  rintro e w11 ⟨rfl, _, how⟩
  have ho := how.only hinw
  have Z12 := Lib.hid ho.size
  replace HA0 := HA0.only ho (by have := Z1.out; have := Z2.out; have := Z3.out; have := Z4.out; have := Z5.out; have := Z6.out; have := Z7.out; have := Z8.out; have := Z9.out; have := Z10.out; have := Z11.out; have := Z12.out; omega)
  replace HX1 := HX1.only ho (by have := Z1.out; have := Z2.out; have := Z3.out; have := Z4.out; have := Z5.out; have := Z6.out; have := Z7.out; have := Z8.out; have := Z9.out; have := Z10.out; have := Z11.out; have := Z12.out; omega)
  replace HO0 := HO0.only ho (by have := Z1.out; have := Z2.out; have := Z3.out; have := Z4.out; have := Z5.out; have := Z6.out; have := Z7.out; have := Z8.out; have := Z9.out; have := Z10.out; have := Z11.out; have := Z12.out; omega)
  replace HX2 := HX2.only ho (by have := Z1.out; have := Z2.out; have := Z3.out; have := Z4.out; have := Z5.out; have := Z6.out; have := Z7.out; have := Z8.out; have := Z9.out; have := Z10.out; have := Z11.out; have := Z12.out; omega)
  replace HX3 := HX3.only ho (by have := Z1.out; have := Z2.out; have := Z3.out; have := Z4.out; have := Z5.out; have := Z6.out; have := Z7.out; have := Z8.out; have := Z9.out; have := Z10.out; have := Z11.out; have := Z12.out; omega)
  replace HO1 := HO1.only ho (by have := Z1.out; have := Z2.out; have := Z3.out; have := Z4.out; have := Z5.out; have := Z6.out; have := Z7.out; have := Z8.out; have := Z9.out; have := Z10.out; have := Z11.out; have := Z12.out; omega)
  replace HX4 := HX4.only ho (by have := Z1.out; have := Z2.out; have := Z3.out; have := Z4.out; have := Z5.out; have := Z6.out; have := Z7.out; have := Z8.out; have := Z9.out; have := Z10.out; have := Z11.out; have := Z12.out; omega)
  replace HB := Lib.hid (Below.only HB.out ho (by have := Z1.out; have := Z2.out; have := Z3.out; have := Z4.out; have := Z5.out; have := Z6.out; have := Z7.out; have := Z8.out; have := Z9.out; have := Z10.out; have := Z11.out; have := Z12.out; omega) HB.out.size)
  clear HG0
  clear ho how hfw hndw hinw HLW
  obtain ⟨tw, htw⟩ : ∃ t, tot ys0 = t := ⟨_, rfl⟩
  rw [htw]
  clear htw
  have hq0 : ¬ (1 + 4 * (tw : Int) < 0) := by omega
  have c9_0 := HX2.look 0
  have c9_1 := HX2.look 1
  have c9_2 := HX2.look 2
  have c9_3 := HX2.look 3
  have c9_4 := HX4.look 0
  have c9_5 := HX4.look 1
  have c9_6 := HX4.look 2
  have c9_7 := HX4.look 3
  have l9_0 := HX1.bx.lt
  have l9_1 := HX2.bx.lt
  have l9_2 := HX3.bx.lt
  have l9_3 := HX4.bx.lt
  go_wp2_with fail
  clear c9_0 c9_1 c9_2 c9_3 c9_4 c9_5 c9_6 c9_7 l9_0 l9_1 l9_2 l9_3
  refine (eqWheelResult_yes false false _ _ _ _ O1 O0 j0 b1 b0 us _ _ _ _ E1 E0 m0 d1 d0 zs r x _ HO1.res_rows HO0.res_rows HO1.le HO0.le hj0 HBD.out.2.1 (Rep.Sl.unq HO1.res_due) (Rep.Sl.unq HO0.res_due) HO1.le HO0.le hm0).mono ?_
  rintro e w12 ⟨rfl, hb⟩
  have Z13 := Lib.hid hb.size
  replace HA0 := HA0.below hb
  replace HX1 := HX1.below hb
  replace HO0 := HO0.below hb
  replace HX2 := HX2.below hb
  replace HX3 := HX3.below hb
  replace HO1 := HO1.below hb
  replace HX4 := HX4.below hb
  replace HB := Lib.hid (below_step HB.out hb)
  clear hb
  have c10_0 := HX4.look 0
  have c10_1 := HX4.look 1
  have c10_2 := HX4.look 2
  have c10_3 := HX4.look 3
  have l10_0 := HX1.bx.lt
  have l10_1 := HX2.bx.lt
  have l10_2 := HX3.bx.lt
  have l10_3 := HX4.bx.lt
  go_wp2_with fail
  clear c10_0 c10_1 c10_2 c10_3 l10_0 l10_1 l10_2 l10_3
  obtain ⟨bs, cs, hfr, hfs, hnd, hin⟩ := HO1.out
  have HLE := HO1.le
  refine (markWheelResult_F O1 j0 b1 us bs cs E1 m0 d1 zs r x 1 _ hfr hfs hnd (fun b hb => Nat.lt_of_lt_of_le (hin b hb).2 HLE) hj0 HBD.out.2.2.1 hm0 (by omega) (by omega)).mono ?_
  rintro e w13 ⟨rfl, ⟨vs1, hmk, hfr2⟩, hfs2, hob⟩
  have ho := hob.only hin
  have Z14 := Lib.hid ho.size
  replace HA0 := HA0.only ho (by have := Z1.out; have := Z2.out; have := Z3.out; have := Z4.out; have := Z5.out; have := Z6.out; have := Z7.out; have := Z8.out; have := Z9.out; have := Z10.out; have := Z11.out; have := Z12.out; have := Z13.out; have := Z14.out; omega)
  replace HX1 := HX1.only ho (by have := Z1.out; have := Z2.out; have := Z3.out; have := Z4.out; have := Z5.out; have := Z6.out; have := Z7.out; have := Z8.out; have := Z9.out; have := Z10.out; have := Z11.out; have := Z12.out; have := Z13.out; have := Z14.out; omega)
  replace HO0 := HO0.only ho (by have := Z1.out; have := Z2.out; have := Z3.out; have := Z4.out; have := Z5.out; have := Z6.out; have := Z7.out; have := Z8.out; have := Z9.out; have := Z10.out; have := Z11.out; have := Z12.out; have := Z13.out; have := Z14.out; omega)
  replace HX2 := HX2.only ho (by have := Z1.out; have := Z2.out; have := Z3.out; have := Z4.out; have := Z5.out; have := Z6.out; have := Z7.out; have := Z8.out; have := Z9.out; have := Z10.out; have := Z11.out; have := Z12.out; have := Z13.out; have := Z14.out; omega)
  replace HX3 := HX3.only ho (by have := Z1.out; have := Z2.out; have := Z3.out; have := Z4.out; have := Z5.out; have := Z6.out; have := Z7.out; have := Z8.out; have := Z9.out; have := Z10.out; have := Z11.out; have := Z12.out; have := Z13.out; have := Z14.out; omega)
  replace HX4 := HX4.only ho (by have := Z1.out; have := Z2.out; have := Z3.out; have := Z4.out; have := Z5.out; have := Z6.out; have := Z7.out; have := Z8.out; have := Z9.out; have := Z10.out; have := Z11.out; have := Z12.out; have := Z13.out; have := Z14.out; omega)
  replace HB := Lib.hid (Below.only HB.out ho (by have := Z1.out; have := Z2.out; have := Z3.out; have := Z4.out; have := Z5.out; have := Z6.out; have := Z7.out; have := Z8.out; have := Z9.out; have := Z10.out; have := Z11.out; have := Z12.out; have := Z13.out; have := Z14.out; omega) HB.out.size)
  have HM := ResK.kept (ys := vs1) (zs := mTimers (1 + 4 * (tot us : Int)) m0) ⟨bs, cs, hfr2, hfs2, hnd, hin⟩ (Nat.le_trans HLE ho.size); clear HO1 hob ho hfr hfs hnd hin hfr2 hfs2 HLE
  have HMK := Lib.hid hmk; clear hmk
  obtain ⟨tt, htt⟩ : ∃ t, tot us = t := ⟨_, rfl⟩
  have HTT := Lib.hid htt
  have hbt : tt ≤ 1048576 := by have := HBD.out.2.2.1; omega
  rw [htt]
  clear htt
  have hq1 : ¬ (1 + 4 * (tt : Int) + 4 * (m0 : Int) < 0) := by omega
  have c11_0 := HX4.look 0
  have c11_1 := HX4.look 1
  have c11_2 := HX4.look 2
  have c11_3 := HX4.look 3
  have l11_0 := HX1.bx.lt
  have l11_1 := HX2.bx.lt
  have l11_2 := HX3.bx.lt
  have l11_3 := HX4.bx.lt
  go_wp2_with fail
  clear c11_0 c11_1 c11_2 c11_3 l11_0 l11_1 l11_2 l11_3
  refine (heldWheelResult_yes false true _ _ _ _ O1 j0 b1 us vs1 E1 m0 d1 r x 1 _ HMK.out HM.res_rows HM.le HM.res_due HM.le hj0 HBD.out.2.2.1 hm0 (by omega) (by omega)).mono ?_
  rw [HTT.out]
  rintro e w14 ⟨rfl, hb⟩
  have Z15 := Lib.hid hb.size
  replace HA0 := HA0.below hb
  replace HX1 := HX1.below hb
  replace HO0 := HO0.below hb
  replace HX2 := HX2.below hb
  replace HX3 := HX3.below hb
  replace HX4 := HX4.below hb
  replace HM := HM.below hb
  replace HB := Lib.hid (below_step HB.out hb)
  clear hb
  have c12_0 := HX1.look 0
  have c12_1 := HX1.look 1
  have l12_0 := HX1.bx.lt
  have l12_1 := HX2.bx.lt
  have l12_2 := HX3.bx.lt
  have l12_3 := HX4.bx.lt
  go_wp2_with fail
  clear c12_0 c12_1 l12_0 l12_1 l12_2 l12_3
  refine (toWheel_any q0 lo0 hi0 A0 n0 c0 ys0 v0 _ HA0.sl HA0.le hN0 HM0.out).mono ?_
  rintro e w15 ⟨Py0, rfl, hk, hb⟩
  have Z16 := Lib.hid hb.size
  replace HA0 := HA0.below hb
  replace HX1 := HX1.below hb
  replace HO0 := HO0.below hb
  replace HX2 := HX2.below hb
  replace HX3 := HX3.below hb
  replace HX4 := HX4.below hb
  replace HM := HM.below hb
  replace HB := Lib.hid (below_step HB.out hb)
  clear hb
  have HH0 := hk; clear hk
  have l13_0 := HX1.bx.lt
  have l13_1 := HX2.bx.lt
  have l13_2 := HX3.bx.lt
  have l13_3 := HX4.bx.lt
  go_wp2_with fail
  clear l13_0 l13_1 l13_2 l13_3
  refine (tickWheel_any v0 false _ _ Py0 n0 n0 ys0 _ HH0.rows HH0.le hN0 HM0.out (Nat.le_refl _)).mono ?_
  rw [HRr.out, HRx.out, HRus.out, HRzs.out]
  rintro e w16 ⟨O2, j2, b2, E2, m2, d2, rfl, hk, hb⟩
  have Z17 := Lib.hid hb.size
  replace HA0 := HA0.below hb
  replace HX1 := HX1.below hb
  replace HO0 := HO0.below hb
  replace HX2 := HX2.below hb
  replace HX3 := HX3.below hb
  replace HX4 := HX4.below hb
  replace HM := HM.below hb
  replace HH0 := HH0.below hb
  replace HB := Lib.hid (below_step HB.out hb)
  clear hb
  have HO2 := hk; clear hk
  obtain rfl : j0 = j2 := by have := HO2.res_rows.1; have := HO0.res_rows.1; omega
  obtain rfl : m0 = m2 := by have := HO2.res_due.1; have := HO0.res_due.1; omega
  clear HH0
  have c14_0 := HX2.look 0
  have c14_1 := HX2.look 1
  have c14_2 := HX2.look 2
  have c14_3 := HX2.look 3
  have l14_0 := HX1.bx.lt
  have l14_1 := HX2.bx.lt
  have l14_2 := HX3.bx.lt
  have l14_3 := HX4.bx.lt
  go_wp2_with fail
  clear c14_0 c14_1 c14_2 c14_3 l14_0 l14_1 l14_2 l14_3
  refine Calls.name ?_
  intro U17 hU17
  have hb : Below w16.heap.size w16 U17 := by rw [hU17]; exact ((Below.refl _ _).alloc (Nat.le_refl _) _)
  have zz : Hid (w16.heap.size + 1 = U17.heap.size) := Lib.hid (by rw [hU17]; simp)
  have HX5 : Kept w16.heap.size (w16.heap.size + 1) (BoxK w16.heap.size 31 #[.int .i64 r, .int .i64 x, .slice O2 j0 b2, .slice E2 m0 d2]) U17 := by rw [hU17]; exact Kept.box (Box.made_at _ _ _ rfl)
  replace HA0 := HA0.below hb
  replace HX1 := HX1.below hb
  replace HO0 := HO0.below hb
  replace HX2 := HX2.below hb
  replace HX3 := HX3.below hb
  replace HX4 := HX4.below hb
  replace HM := HM.below hb
  replace HO2 := HO2.below hb
  replace HB := Lib.hid (below_step HB.out hb)
  clear hb
  have Z18 := zz; clear zz
  clear hU17
  refine (eqWheelResult_yes false false _ _ _ _ O2 O0 j0 b2 b0 us _ _ _ _ E2 E0 m0 d2 d0 zs r x _ HO2.res_rows HO0.res_rows HO2.le HO0.le hj0 HBD.out.2.1 (Rep.Sl.unq HO2.res_due) (Rep.Sl.unq HO0.res_due) HO2.le HO0.le hm0).mono ?_
  rintro e w18 ⟨rfl, hb⟩
  have Z19 := Lib.hid hb.size
  replace HA0 := HA0.below hb
  replace HX1 := HX1.below hb
  replace HO0 := HO0.below hb
  replace HX2 := HX2.below hb
  replace HX3 := HX3.below hb
  replace HX4 := HX4.below hb
  replace HM := HM.below hb
  replace HO2 := HO2.below hb
  replace HX5 := HX5.below hb
  replace HB := Lib.hid (below_step HB.out hb)
  clear hb
  have c15_0 := HX4.look 0
  have c15_1 := HX4.look 1
  have c15_2 := HX4.look 2
  have c15_3 := HX4.look 3
  have l15_0 := HX1.bx.lt
  have l15_1 := HX2.bx.lt
  have l15_2 := HX3.bx.lt
  have l15_3 := HX4.bx.lt
  have l15_4 := HX5.bx.lt
  go_wp2_with fail
  clear c15_0 c15_1 c15_2 c15_3 l15_0 l15_1 l15_2 l15_3 l15_4
  refine (heldWheelResult_yes false true _ _ _ _ O1 j0 b1 us vs1 E1 m0 d1 r x 1 _ HMK.out HM.res_rows HM.le HM.res_due HM.le hj0 HBD.out.2.2.1 hm0 (by omega) (by omega)).mono ?_
  rw [HTT.out]
  rintro e w19 ⟨rfl, hb⟩
  have Z20 := Lib.hid hb.size
  replace HA0 := HA0.below hb
  replace HX1 := HX1.below hb
  replace HO0 := HO0.below hb
  replace HX2 := HX2.below hb
  replace HX3 := HX3.below hb
  replace HX4 := HX4.below hb
  replace HM := HM.below hb
  replace HO2 := HO2.below hb
  replace HX5 := HX5.below hb
  replace HB := Lib.hid (below_step HB.out hb)
  clear hb
  have l16_0 := HX1.bx.lt
  have l16_1 := HX2.bx.lt
  have l16_2 := HX3.bx.lt
  have l16_3 := HX4.bx.lt
  have l16_4 := HX5.bx.lt
  go_wp2
  clear l16_0 l16_1 l16_2 l16_3 l16_4
  go_ret
  exact ⟨rfl, HB.out⟩

end Go.Proofs.Ytakplomopbnekaa

namespace Go.Proofs.Ytakplomopbnekaa.fnExactTickWheel
open Go.ChangeShapes Go.WideShapes Go.ChangeAt Go.RowKit
open Go.ChangeMaps (open_string shut_string)
set_option linter.unusedVariables false

theorem own : ownKnob Try.prog.godebug = none := by kernel_rfl
theorem laidOut : laidOutB Try.prog = true := by kernel_rfl

theorem walk (v0 : Int) (A0 : Option Addr) (n0 c0 : Nat) (ys0 : List (List Tmr)) (w : World) (hl0 : Rep.timer.rows.Sl false 0 w.heap.size w A0 n0 ys0) (hn0 : n0 ≤ maxLen) (hm0 : ∀ y ∈ ys0, y.length ≤ maxLen) :
    Calls Try.prog 6 #[.agg (#[.int .i64 v0, .slice A0 n0 c0])] w fun e w' => e = .returned (.bool true) ∧ Below w.heap.size w w' := by
  exact law_TickWheel v0 ys0 false 0 w.heap.size A0 n0 c0 w hl0 (Nat.le_refl _) hn0 hm0

set_option maxRecDepth 100000 in
theorem lifted (os : Os) (started : os.Started) (H : Type) (enc : TypeId × Value → H) :
    ReturnsInHanded {} Try.checked os 6 .any (Rows.fnExactTickWheelSpec.pre6 enc Try.prog Try.f6 Rows.fnExactTickWheelRow.domain false) (Rows.fnExactTickWheelSpec.post enc Try.prog Try.f6 false true false false) := by
  refine returnsInHanded_of_change (C := Try.checked) own started (by kernel_rfl) Try.func6
    (ChangeSpec.witness6 (enc := enc) (C := Try.checked) false ⟨#[], #[.agg #[.int .i64 0, .slice none 0 0]], []⟩ 8 (by kernel_rfl) (by kernel_rfl) (by kernel_rfl) (by kernel_rfl)) ?_
  intro W base args ds gs before hval0 hW hcnd _
  have hval : ∀ (j : Nat) t v, Try.f6.params[j]? = some t → args[j]? = some v → Value.okWide Try.prog W .any base t v := hval0
  have hW' := hW
  obtain ⟨p, q, hA0, hV, rfl, hfz, hnd⟩ := hW
  have hA : DataW.TrodAll enc Try.prog W 0 (fun _ => true) true Try.f6.params.toList args.toList ds p := hA0
  rw [Try.params6] at hA hval
  obtain ⟨v0, vs0, d0, ds0, p0, q0, hargs, rfl, rfl, h0, r0⟩ := trodAll_cons hA
  obtain ⟨rfl, rfl, rfl⟩ := trodAll_nil r0
  obtain rfl : args = #[v0] := by cases args; simp_all
  obtain ⟨rfl, rfl⟩ := trodVars_none hV
  obtain ⟨cs0, rfl, hsz0⟩ := okWide_struct Try.underlying59 (hval 0 59 v0 rfl rfl)
  have k0 := h0
  have lt0 : ∀ x ∈ p0, x.block < W.heap.size := by obtain ⟨m, hm⟩ := k0; exact DataW.trod_lt m _ _ _ hm
  obtain ⟨fuel0, hf0⟩ := h0
  obtain ⟨v0, A0, n0, c0, ys0, he0, hl0, hn0, hm0⟩ := open_wheel hf0
  obtain rfl : cs0 = #[.int .i64 v0, .slice A0 n0 c0] := by cases cs0; simp [Value.cells] at he0; simp [he0]
  clear hA0 hval0
  refine (walk v0 A0 n0 c0 ys0 W hl0 hn0 hm0).mono fun e W' ⟨he, bel⟩ => ?_
  subst he
  exact ⟨_, rfl, _, _, _, [], _, [], hW', trodAll_mk1 (shut_bool Try.underlying4 _), (trodAll_cons_mk (Below.trod laidOut (by kernel_rfl) (of_decide_eq_true (by kernel_rfl)) k0 bel lt0) trodAll_mk0), rfl, bel.frame _, fun h => by cases h⟩

theorem over : Rows.fnExactTickWheelRow.holds Try.pinned (OpenSpec.ofChange Rows.fnExactTickWheelSpec) :=
  OpenClaim.holds_of_wide 6 Try.f6 rfl rfl rfl rfl rfl rfl rfl ⟨rfl, rfl, rfl, rfl, rfl⟩ rfl rfl rfl rfl rfl (by kernel_rfl) Try.func6 (by kernel_rfl)
    (of_decide_eq_true (by kernel_rfl)) (by unfold Func.isWrapper; first | (rw [if_pos (by decide +kernel)]; kernel_rfl) | (rw [if_neg (by decide +kernel)]; exact ⟨rfl, rfl⟩))
    (fun os started H enc _ => lifted os started H enc)

theorem proved : Rows.FnExactTickWheelSaid := over
#print axioms proved
end Go.Proofs.Ytakplomopbnekaa.fnExactTickWheel
