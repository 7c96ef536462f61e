/-
  Whatever bytes the law is given: what DrainQueue answers is what PopItem answers, one after another, and as the model's. No condition.
-/
import Derived.Test.YtomkgohhfllpgaaDr
import Derived.Test.YtomkgohhfllpgaaQDrain
import Derived.Test.YtomkgohhfllpgaaSpecQueueFault
import Derived.Test.YtomkgohhfllpgaaQPop
import Derived.Test.YtomkgohhfllpgaaSameQueue
import Derived.Test.YtomkgohhfllpgaaLw
import Derived.Test.YtomkgohhfllpgaaRows
import Derived.WalkKit
import Derived.ProofKit
import Derived.OpenShut
import Derived.ShutString
import Derived.ChangeOld
import Derived.Below
namespace Go.Proofs.Ytomkgohhfllpgaa
open Go.RowKit
set_option linter.unusedVariables false

set_option maxRecDepth 100000 in
set_option maxHeartbeats 1600000 in
theorem l4Key_any (g : Nat) (A0 : Option Addr) (n0 c0 : Nat) (cs : List Int) (K : Nat) (w : World) (hs : Dr w g A0 n0 c0 cs K w) (hK : K ≤ 90000) :
    Calls Try.prog 50 #[.pointer (some ⟨g, 0, none⟩)] w fun e w' => ∃ a b c, e = .returned (.agg #[.int .i64 a, .int .i64 b, .int .i64 c]) ∧ (1 ≤ a ∧ a ≤ 3) ∧ (0 ≤ b ∧ b < 6) ∧ (0 ≤ c ∧ c < 3) ∧ Dr w g A0 n0 c0 cs (K + 3) w' := by
  have HS := hs
  have Zg : Hid (g < w.heap.size) := Lib.hid hs.lt
  clear hs
  go_enter Try.func50, Try.ntmps50
  go_wp2_with fail
  refine Calls.name ?_
  intro U1 hU1
  have hb : Below w.heap.size w U1 := by rw [hU1]; exact (((Below.refl _ _).alloc (Nat.le_refl _) _).alloc (by simp <;> omega) _)
  have zz : Hid (w.heap.size + 2 = U1.heap.size) := Lib.hid (by rw [hU1]; simp)
  have HX1 : Kept w.heap.size (w.heap.size + 1) (BoxK w.heap.size 33 #[.int .i64 0, .int .i64 0, .int .i64 0]) U1 := by rw [hU1]; exact Kept.box ((Box.made_at _ _ _ rfl).over _)
  have HX2 : Kept (w.heap.size + 1) (w.heap.size + 1 + 1) (BoxK (w.heap.size + 1) 2 #[.int .i64 1, .int .i64 2, .int .i64 3]) U1 := by rw [hU1]; exact Kept.box (Box.made_at _ _ _ (by simp <;> omega))
  replace HS := HS.below hb
  clear hb
  have Z1 := zz; clear zz
  have Y1 := Lib.hid (And.intro Zg.out Z1.out); clear Zg Z1
  clear hU1
  refine (dPick (w.heap.size + 1) 3 [1, 2, 3] HS.here (by omega) HX2.bx rfl rfl (by omega) (by omega) (by have := Y1.out; omega)).mono ?_
  rintro e w2 ⟨va, rfl, hv, hs⟩
  have ho := hs.fr
  have Z2 := Lib.hid ho.size
  have Y2 := Lib.hid (And.intro Y1.out Z2.out); clear Y1 Z2
  clear HX2
  replace HX1 := HX1.only ho (by have := Y2.out; omega)
  replace HS := HS.next hs; clear ho hs
  have HVva : Hid (1 ≤ va ∧ va ≤ 3) := Lib.hid (by simp only [List.mem_cons, List.not_mem_nil, or_false] at hv; omega)
  clear hv
  have l2_0 := HX1.bx.lt
  go_wp2_with fail
  clear l2_0
  refine (dNext 6 HS.here (by omega) (by omega) (by omega)).mono ?_
  rintro e w3 ⟨vb, rfl, hvb0, hvb1, hs⟩
  have ho := hs.fr
  have Z3 := Lib.hid ho.size
  have Y3 := Lib.hid (And.intro Y2.out Z3.out); clear Y2 Z3
  replace HX1 := HX1.only ho (by have := Y3.out; omega)
  replace HS := HS.next hs; clear ho hs
  have l3_0 := HX1.bx.lt
  go_wp2_with fail
  clear l3_0
  refine (dNext 3 HS.here (by omega) (by omega) (by omega)).mono ?_
  rintro e w4 ⟨vc, rfl, hvc0, hvc1, hs⟩
  have ho := hs.fr
  have Z4 := Lib.hid ho.size
  have Y4 := Lib.hid (And.intro Y3.out Z4.out); clear Y3 Z4
  replace HX1 := HX1.only ho (by have := Y4.out; omega)
  replace HS := HS.next hs; clear ho hs
  have c4_0 := HX1.look 0
  have c4_1 := HX1.look 1
  have c4_2 := HX1.look 2
  have f4_0 := HX1.free 0
  have f4_1 := HX1.free 1
  have f4_2 := HX1.free 2
  have l4_0 := HX1.bx.lt
  go_wp2
  clear c4_0 c4_1 c4_2 f4_0 f4_1 f4_2 l4_0
  obtain ⟨U5, hU5⟩ : ∃ W : World, W = (((w4.setCell ⟨w.heap.size, 0, none⟩ (.int .i64 va)).setCell ⟨w.heap.size, 1, none⟩ (.int .i64 vb)).setCell ⟨w.heap.size, 2, none⟩ (.int .i64 vc)) := ⟨_, rfl⟩
  have ho : Only w.heap.size (w.heap.size + 1) w4 U5 := by rw [hU5]; exact ((((Only.refl _ _ _).set (p := ⟨w.heap.size, 0, none⟩) (Nat.le_refl _) (Nat.lt_succ_self _) _).set (p := ⟨w.heap.size, 1, none⟩) (Nat.le_refl _) (Nat.lt_succ_self _) _).set (p := ⟨w.heap.size, 2, none⟩) (Nat.le_refl _) (Nat.lt_succ_self _) _)
  replace HX1 : Kept w.heap.size (w.heap.size + 1) (BoxK w.heap.size 33 #[.int .i64 va, .int .i64 vb, .int .i64 vc]) U5 := by rw [hU5]; exact Kept.box (((HX1.bx.puts 0 (.int .i64 va) (cs' := #[.int .i64 va, .int .i64 0, .int .i64 0]) rfl).puts 1 (.int .i64 vb) (cs' := #[.int .i64 va, .int .i64 vb, .int .i64 0]) rfl).puts 2 (.int .i64 vc) (cs' := #[.int .i64 va, .int .i64 vb, .int .i64 vc]) rfl)
  replace HS := HS.only ho (by have := Y4.out; omega)
  have Z5 : Hid (U5.heap.size = w4.heap.size) := Lib.hid (by rw [hU5]; simp [World.setCell]); clear ho
  have Y5 := Lib.hid (And.intro Y4.out Z5.out); clear Y4 Z5
  have q_0 := HX1.look 0
  have q_1 := HX1.look 1
  have q_2 := HX1.look 2
  have fin : ∀ e, e = Ending.returned (.agg #[.int .i64 va, .int .i64 vb, .int .i64 vc]) → (∃ a b c, e = .returned (.agg #[.int .i64 a, .int .i64 b, .int .i64 c]) ∧ (1 ≤ a ∧ a ≤ 3) ∧ (0 ≤ b ∧ b < 6) ∧ (0 ≤ c ∧ c < 3) ∧ Dr w g A0 n0 c0 cs (K + 3) U5) := by rintro _ rfl; exact ⟨va, vb, vc, rfl, HVva.out, ⟨hvb0, hvb1⟩, ⟨hvc0, hvc1⟩, HS.more (by omega)⟩
  subst hU5
  exact bodyPost_ret (v := .agg #[.int .i64 va, .int .i64 vb, .int .i64 vc]) (by simp [results, Try.results50, go_sem, q_0, q_1, q_2]) rfl (fin _ rfl)

theorem BIn.hold {w : World} {A : Option Addr} {n : Nat} {zs : List Int} (h : BIn w A n zs) : Kept 0 w.heap.size (fun w => BIn w A n zs) w :=
  ⟨Nat.le_refl _, fun w' k => ⟨h.1, fun hn => by
    obtain ⟨b, o, e, hc⟩ := h.2 hn
    have hb : b < w.heap.size := World.block_lt_of_cell? w _ (hc 0 hn)
    exact ⟨b, o, e, fun i hi => (World.cell?_of_block (k b (Nat.zero_le _) hb)).trans (hc i hi)⟩⟩⟩

end Go.Proofs.Ytomkgohhfllpgaa

namespace Go.Proofs.Ytomkgohhfllpgaa
open Go.RowKit
set_option linter.unusedVariables false

theorem ups_pw {zs : List Int} : ups zs ↔ zs.Pairwise (· < ·) := by
  constructor
  · intro h
    rw [List.pairwise_iff_getElem]
    have step : ∀ (d i : Nat) (hi : i < zs.length) (hj : i + d + 1 < zs.length), zs[i] < zs[i + d + 1] := by
      intro d
      induction d with
      | zero =>
        intro i hi hj
        have := h i (by omega)
        simpa [List.getD, hi, hj] using this
      | succ d ih =>
        intro i hi hj
        have h1 := ih i hi (by omega)
        have h2 := h (i + d + 1) (by omega)
        have h3 : zs[i + d + 1] < zs[i + d + 1 + 1] := by simpa [List.getD, (show i + d + 1 < zs.length by omega), (show i + d + 1 + 1 < zs.length by omega)] using h2
        have h4 : zs[i] < zs[i + d + 1 + 1] := by omega
        exact h4
    intro i j hi hj hij
    have := step (j - i - 1) i hi (by omega)
    have e : i + (j - i - 1) + 1 = j := by omega
    simp only [e] at this
    exact this
  · intro h i hi
    rw [List.pairwise_iff_getElem] at h
    have := h i (i + 1) (by omega) (by omega) (by omega)
    simpa [List.getD, (show i < zs.length by omega), (show i + 1 < zs.length by omega)] using this

/-- What is wrong with an item for these items. -/
def fit (ys : List Tmr) (x : Tmr) : Int := if ¬ (1 ≤ x.due ∧ x.due ≤ 100000) then 3 else if ¬ ups (revs ys ++ [x.due]) then 1 else 0
/-- The mark and the items when an item is put in. -/
def putM (cap : Int) (mk : Bool) (ys : List Tmr) (x : Tmr) : Bool := if ((without ys x).length : Int) = cap then true else mk
def putY (cap : Int) (ys : List Tmr) (x : Tmr) : List Tmr := if ((without ys x).length : Int) = cap then [x] else without ys x ++ [x]
/-- Code, mark and items when a list is put in. -/
def pushL (cap : Int) : List Tmr → Bool → List Tmr → Int × Bool × List Tmr
  | [], mk, ys => (0, mk, ys)
  | x :: r, mk, ys => if fit ys x = 0 then pushL cap r (putM cap mk ys x) (putY cap ys x) else (fit ys x, false, [])
theorem pushL_drop {cap : Int} {xs : List Tmr} {j : Nat} {x : Tmr} (h : xs[j]? = some x) (mk : Bool) (ys : List Tmr) :
    pushL cap (xs.drop j) mk ys = if fit ys x = 0 then pushL cap (xs.drop (j + 1)) (putM cap mk ys x) (putY cap ys x) else (fit ys x, false, []) := by
  have hj := (List.getElem?_eq_some_iff.1 h).1
  rw [List.drop_eq_getElem_cons hj, (List.getElem?_eq_some_iff.1 h).2]
  rfl
/-- What stays so: there are not more than Cap, and they rise. -/
def PInv (cap : Int) (ys : List Tmr) : Prop := (1 ≤ cap ∧ cap ≤ 8) ∧ (ys.length : Int) ≤ cap ∧ ups (revs ys)
theorem PInv.le {cap : Int} {ys : List Tmr} (h : PInv cap ys) : ys.length ≤ 8 := by have := h.1.2; have := h.2.1; omega
theorem PInv.of_qf {cap : Int} {ys : List Tmr} (h : qf cap ys = 0) : PInv cap ys := ⟨(qf_ok h).1, (qf_ok h).2.1, (qf_ok h).2.2.2.2.1⟩
theorem fit_cases (ys : List Tmr) (x : Tmr) : fit ys x = 0 ∨ fit ys x = 1 ∨ fit ys x = 3 := by
  unfold fit
  split
  · exact .inr (.inr rfl)
  · split
    · exact .inr (.inl rfl)
    · exact .inl rfl
theorem fit_ok {ys : List Tmr} {x : Tmr} (h : fit ys x = 0) : (1 ≤ x.due ∧ x.due ≤ 100000) ∧ ups (revs ys ++ [x.due]) := by
  unfold fit at h
  split at h
  · omega
  · split at h
    · omega
    · rename_i h1 h2
      exact ⟨Classical.byContradiction h1, Classical.byContradiction h2⟩
theorem PInv.put {cap : Int} {ys : List Tmr} {x : Tmr} (h : PInv cap ys) (hf : fit ys x = 0) : PInv cap (putY cap ys x) := by
  have hw := without_le ys x
  have h2 := h.2.1
  refine ⟨h.1, ?_, ?_⟩
  · unfold putY
    split
    · have := h.1.1; simp; omega
    · rw [List.length_append]; simp only [List.length_cons, List.length_nil]; omega
  · unfold putY
    split
    · intro i hi; simp [revs] at hi
    · have hu := ups_pw.1 (fit_ok hf).2
      rw [ups_pw]
      refine List.Pairwise.sublist ?_ hu
      show (revs (without ys x ++ [x])).Sublist _
      unfold revs
      rw [List.map_append]
      exact List.Sublist.append (List.Sublist.map _ List.filter_sublist) (List.Sublist.refl _)
theorem pushL_bd (cap : Int) : ∀ (xs : List Tmr) (mk : Bool) (ys : List Tmr), PInv cap ys → (pushL cap xs mk ys).2.2.length ≤ 8
  | [], mk, ys, h => h.le
  | x :: r, mk, ys, h => by
    unfold pushL
    split
    · rename_i hf; exact pushL_bd cap r _ _ (h.put hf)
    · simp
/-- What PushAll answers: code, Cap, Marks, Items. -/
def paC (cap : Int) (mk : Bool) (ys xs : List Tmr) : Int := if qf cap ys = 0 then (if 100 < xs.length then 2 else (pushL cap xs mk ys).1) else qf cap ys
def paX (cap : Int) (mk : Bool) (ys xs : List Tmr) : Int := if paC cap mk ys xs = 0 then cap else 0
def paP (cap : Int) (mk : Bool) (ys xs : List Tmr) : Bool := if qf cap ys = 0 then (if 100 < xs.length then false else (pushL cap xs mk ys).2.1) else false
def paU (cap : Int) (mk : Bool) (ys xs : List Tmr) : List Tmr := if qf cap ys = 0 then (if 100 < xs.length then [] else (pushL cap xs mk ys).2.2) else []
def paT (ys : List Tmr) : Bool := false
def paZ (ys : List Tmr) : List Tmr := []
theorem pa_bd (cap : Int) (mk : Bool) (ys xs : List Tmr) : (paU cap mk ys xs).length ≤ 1048576 ∧ (paZ ys).length ≤ 1048576 := by
  refine ⟨?_, by simp [paZ]⟩
  unfold paU
  split
  · rename_i h
    split
    · simp
    · have := pushL_bd cap xs mk ys (PInv.of_qf h); omega
  · simp

end Go.Proofs.Ytomkgohhfllpgaa

namespace Go.Proofs.Ytomkgohhfllpgaa
open Go.RowKit
set_option linter.unusedVariables false

theorem step_appI0 {α : Type} {size bytes : Nat} {f : α → List Value} {ts t : TypeId} {z : Value} {ops : Array Oper} {o : Oper} {a : Act} {Q : Exit → Act → World → Prop} {w : World} {B : Nat} {A E : Option Addr} {n c m d : Nat} {zs ys : List α} {K : Act → World → Prop} {E' : Prop} (hf : ∀ a, (f a).length = size) (hone : ∀ a, ∀ u ∈ f a, u.oneCell' = true) (hu : Try.prog.underlying ts = some (.slice t))
    (hinfo : (Try.prog.info? t).map (fun i => (i.zero, i.size, i.bytes)) = some (some z, size, bytes)) (hzc : z.cells.size = size) (hsz : 0 < size) (hby : bytes ≤ 1048576)
    (hgd : o.guard = none) (s x : Operand) (ho : o.op = .call { callee := .builtin .append, args := #[s, x], argTypes := #[ts, ts] })
    (hs : a.eval s = .slice A n c) (hown : OwnF t size f w B A n c zs) (hx : a.eval x = .slice E m d) (hE : InF size f w E m ys) (hl : n + m ≤ 1048576) (hB : B ≤ w.heap.size)
    (h : ∀ A' c' w', OwnF t size f w' B A' (n + m) c' (zs ++ ys) → w.grownBy w' (A.map (·.block)) → K (a.put o.dst (.slice A' (n + m) c')) w') :
    if Region.wanted o (yielded ops a.tmps) = true then Oper.wp Try.prog o a w K Q else E' := by
  rw [if_pos (by simp [Region.wanted, hgd])]
  exact wp_appF0 hf hone hu hinfo hzc hsz hby s x ho hs hown hx hE hl hB h

/-- Items from the j-th on, with the block that they take. -/
theorem items_from {t : TypeId} {w : World} {B g n c : Nat} {ys : List Tmr} (h : OwnF t 4 tcell w B (some ⟨g, 0, none⟩) n c ys) (j : Nat) : ∃ bs, Rep.timer.FSl w (some ⟨g, j * 4, none⟩) (n - j) (ys.drop j) bs ∧ bs.Nodup ∧ ∀ x ∈ bs, x = g := by
  rcases Nat.eq_zero_or_pos (n - j) with h0 | h0
  · exact ⟨[], .inl ⟨h0, List.eq_nil_of_length_eq_zero (by rw [List.length_drop, h.1]; exact h0), rfl⟩, List.nodup_nil, fun x hx => by cases hx⟩
  · refine ⟨[g], .inr ⟨h0, g, rfl, by rw [List.length_drop, h.1], fun _ => ⟨g, j * 4, rfl, Nat.le_refl _, Nat.lt_succ_self _, fun _ i => World.ownsRow.frozenAt h.2 i, fun i a ha => ⟨tcell a, rfl, fun k u hk => ?_⟩⟩⟩, by simp, fun x hx => by simpa using hx⟩
    have hk4 : k < 4 := by have := (List.getElem?_eq_some_iff.1 hk).1; simpa [tcell] using this
    have hil := (List.getElem?_eq_some_iff.1 ha).1
    rw [List.length_drop] at hil
    rw [List.getElem?_drop] at ha
    have := World.ownsRow.cellAt h.2 ((j + i) * 4 + k) (by have := h.1; omega)
    show w.cell? ⟨g, j * 4 + i * 4 + k, none⟩ = some u
    rw [show j * 4 + i * 4 + k = (j + i) * 4 + k by omega, this, flat_get tcell_len ys (j + i) a ha k hk4, hk]

set_option maxRecDepth 100000 in
set_option maxHeartbeats 1600000 in
theorem l6Copy_any (cap : Int) (mk : Bool) (g : Nat) (q : Bool) (lo hi : Nat) (A : Option Addr) (n c : Nat) (ys : List Tmr) (w : World) (hg : Box w g 26 #[.int .i64 cap, .bool mk, .slice A n c]) (ha : Rep.timer.Sl q lo hi w A n ys) (hh : hi ≤ w.heap.size) (hn : n ≤ 1000) :
    Calls Try.prog 61 #[.pointer (some ⟨g, 0, none⟩)] w fun e w' => ∃ E d, e = .returned (.agg #[.int .i64 cap, .bool mk, .slice E n d]) ∧ Kept w.heap.size w'.heap.size (OwnFK 35 4 tcell w.heap.size w'.heap.size E n d ys) w' ∧ Below w.heap.size w w' := by
  obtain ⟨V, hV⟩ : ∃ V : World, V = w.alloc (.cells #[.int .i64 0, .bool false, .slice none 0 0] 26) := ⟨_, rfl⟩
  have hbV : Below w.heap.size w V := by rw [hV]; exact (Below.refl _ _).alloc (Nat.le_refl _) _
  have HX : Hid (Box V w.heap.size 26 #[.int .i64 0, .bool false, .slice none 0 0]) := Lib.hid (by rw [hV]; exact Box.made _ _ _)
  have HG := Lib.hid (hg.below hbV)
  have HZ : Hid (w.heap.size + 1 = V.heap.size ∧ g < w.heap.size) := Lib.hid ⟨by rw [hV]; simp, hg.lt⟩
  have HB := Lib.hid hbV
  have hbE : Below V.heap.size V (V.alloc (.cells #[] 35)).drew := ((Below.refl _ _).alloc (Nat.le_refl _) _).drew
  have HBE := Lib.hid hbE
  have HIN : Hid (InF 4 tcell (V.alloc (.cells #[] 35)).drew A n ys) := Lib.hid (Rep.timer_inF ((ha.below hbV hh).below hbE (Nat.le_trans hh hbV.size)))
  have HEM : Hid (OwnF 35 4 tcell (V.alloc (.cells #[] 35)).drew V.heap.size (some ⟨V.heap.size, 0, none⟩) 0 0 []) := Lib.hid (emptyF 35 4 tcell V)
  have c0 := HG.out.look 0
  have c1 := HG.out.look 1
  have c2 := HG.out.look 2
  have hgl := HG.out.lt
  clear hg ha hbV hbE
  go_enter Try.func61, Try.ntmps61
  go_upto_region 1 with (fail)
  rw [← hV]
  clear hV
  go_region_law (first | ((show (if Region.wanted (Oper.mk (some 16) _ _ _ _ _) _ = true then _ else _)); refine step_appI0 tcell_len tcell_one Try.underlying24 itemInfo rfl (by decide) (by decide) (by rfl) (.tmp 11) (.tmp 15) (by rfl) (B := V.heap.size) (by rfl) HEM.out (by rfl) HIN.out (by omega) HBE.out.size ?_; intro E d u1 ho hgr; have HO := Lib.hid ho; have HU : Hid (Below V.heap.size V u1) := Lib.hid (HBE.out.grown hgr HBE.out.size (fun r hr => by injection hr with hr; exact Nat.le_of_eq hr)); have HX1 := Lib.hid (HX.out.below HU.out); have HG1 := Lib.hid (HG.out.below HU.out); have x0 := HX1.out.look 0; have x1 := HX1.out.look 1; have x2 := HX1.out.look 2; have y0 := HX1.out.free 0; have y1 := HX1.out.free 1; have y2 := HX1.out.free 2; have xl := HX1.out.lt; have k0 := HG1.out.look 0; have k1 := HG1.out.look 1; have k2 := HG1.out.look 2; clear ho hgr))
  all_goals
    have HO2 : Hid (OwnF 35 4 tcell u1 V.heap.size E n d ys) := Lib.hid (by have h := HO.out; rwa [Nat.zero_add, List.nil_append] at h)
    obtain ⟨X, hX⟩ : ∃ X : World, X = (((u1.setCell ⟨w.heap.size, 0, none⟩ (.int .i64 cap)).setCell ⟨w.heap.size, 1, none⟩ (.bool mk)).setCell ⟨w.heap.size, 2, none⟩ (.slice E n d)) := ⟨_, rfl⟩
    have ho3 : Only w.heap.size (w.heap.size + 1) u1 X := by rw [hX]; exact (((Only.refl _ _ _).set (p := ⟨w.heap.size, 0, none⟩) (Nat.le_refl _) (Nat.lt_succ_self _) _).set (p := ⟨w.heap.size, 1, none⟩) (Nat.le_refl _) (Nat.lt_succ_self _) _).set (p := ⟨w.heap.size, 2, none⟩) (Nat.le_refl _) (Nat.lt_succ_self _) _
    have HX3 : Hid (Box X w.heap.size 26 #[.int .i64 cap, .bool mk, .slice E n d]) := Lib.hid (by rw [hX]; exact ((HX1.out.puts 0 (.int .i64 cap) (cs' := #[.int .i64 cap, .bool false, .slice none 0 0]) rfl).puts 1 (.bool mk) (cs' := #[.int .i64 cap, .bool mk, .slice none 0 0]) rfl).puts 2 (.slice E n d) (cs' := #[.int .i64 cap, .bool mk, .slice E n d]) rfl)
    have HO3 : Hid (OwnF 35 4 tcell X w.heap.size E n d ys) := Lib.hid ((HO2.out.aside (Only.grown_ ho3) (fun r hr e => by injection e with e; have := (HO2.out.block r hr).1; have := HZ.out.1; omega)).mono HB.out.size)
    have HB3 : Hid (Below w.heap.size w X) := Lib.hid (Below.only (below_step HB.out HU.out) ho3 (Nat.le_refl _) (Nat.le_of_lt xl))
    clear c0 c1 c2 hgl x0 x1 x2 y0 y1 y2 xl k0 k1 k2 ho3
    go_wp2
    have q0 := HX3.out.look 0
    have q1 := HX3.out.look 1
    have q2 := HX3.out.look 2
    subst hX
    exact bodyPost_ret (v := .agg #[.int .i64 cap, .bool mk, .slice E n d]) (by simp [results, Try.results61, go_sem, q0, q1, q2]) rfl ⟨E, d, rfl, HO3.out.kept rfl, HB3.out⟩

end Go.Proofs.Ytomkgohhfllpgaa

namespace Go.Proofs.Ytomkgohhfllpgaa
open Go.RowKit
set_option linter.unusedVariables false

theorem ups_snoc {zs : List Int} {v l : Int} {p : Nat} (hu : ups zs) (hl : zs[p]? = some l) (hp : p + 1 = zs.length) : ups (zs ++ [v]) ↔ l < v := by
  have hpl := (List.getElem?_eq_some_iff.1 hl).1
  have hpe := (List.getElem?_eq_some_iff.1 hl).2
  rw [ups_pw, List.pairwise_append]
  constructor
  · intro h
    exact h.2.2 l (List.mem_of_getElem? hl) v (by simp)
  · intro h
    refine ⟨ups_pw.1 hu, by simp, fun a ha b hb => ?_⟩
    simp only [List.mem_singleton] at hb
    subst hb
    obtain ⟨i, hi, rfl⟩ := List.getElem_of_mem ha
    by_cases hip : i = p
    · subst hip; rw [hpe]; exact h
    · have := (List.pairwise_iff_getElem.1 (ups_pw.1 hu)) i p hi hpl (by omega)
      rw [hpe] at this; omega
theorem fit_0 {ys : List Tmr} {x : Tmr} (hy : ys = []) (h : 1 ≤ x.due ∧ x.due ≤ 100000) : fit ys x = 0 := by
  subst hy
  unfold fit
  rw [if_neg (fun h' => h' h), if_neg]
  intro h'
  exact h' (fun i hi => by simp [revs] at hi)
theorem fit_last {ys : List Tmr} {x l : Tmr} {p : Nat} (hu : ups (revs ys)) (hl : ys[p]? = some l) (hp : p + 1 = ys.length) (h : 1 ≤ x.due ∧ x.due ≤ 100000) : fit ys x = if x.due ≤ l.due then 1 else 0 := by
  have e := ups_snoc (v := x.due) hu (show (revs ys)[p]? = some l.due by simp [revs, hl]) (by rw [revs_len]; exact hp)
  unfold fit
  rw [if_neg (fun h' => h' h)]
  by_cases hle : x.due ≤ l.due
  · rw [if_pos hle, if_pos (fun h' => by have := e.1 h'; omega)]
  · rw [if_neg hle, if_neg (fun h' => h' (e.2 (by omega)))]

set_option maxRecDepth 100000 in
set_option maxHeartbeats 1600000 in
theorem l6Fits_any (cap : Int) (mk : Bool) (g b o : Nat) (q : Bool) (lo hi : Nat) (A : Option Addr) (n c : Nat) (ys : List Tmr) (x : Tmr) (w : World) (hg : Box w g 26 #[.int .i64 cap, .bool mk, .slice A n c]) (ha : Rep.timer.Sl q lo hi w A n ys) (hn : n ≤ 1000) (hx : w.cell? ⟨b, o + 3, none⟩ = some (.int .i64 x.due)) (hu : ups (revs ys)) :
    Calls Try.prog 62 #[.pointer (some ⟨g, 0, none⟩), .pointer (some ⟨b, o, none⟩)] w fun e w' => e = .returned (.int .i64 (fit ys x)) ∧ ∃ m, w' = w.drewN m := by
  have hl := ha.1
  have g2 := hg.look 2
  have gl := hg.lt
  have HU := Lib.hid hu
  clear hu
  by_cases hin : 1 ≤ x.due ∧ x.due ≤ 100000
  · have HI := Lib.hid (allIn_one_yes hin.1 hin.2)
    have HIN := Lib.hid hin
    clear hin
    rcases Nat.eq_zero_or_pos n with h0 | h0
    · subst h0
      have HF := Lib.hid (fit_0 (List.eq_nil_of_length_eq_zero hl) HIN.out)
      clear ha hg
      go_enter Try.func62, Try.ntmps62
      go_wp2_with fail
      refine (l1In_any x.due 1 100000 _).mono ?_
      rw [HI.out]
      rintro e w2 ⟨rfl, rfl⟩
      go_wp2
      go_quiet (fail)
      go_wp2
      go_ret
      exact ⟨by rw [HF.out]; rfl, _, rfl⟩
    · obtain ⟨p, hp⟩ : ∃ p, p + 1 = n := ⟨n - 1, by omega⟩
      obtain ⟨b2, o2, l, rfl, hya, l0, l1, l2, l3⟩ := Rep.timer_at ha (show p < n by omega)
      have hw : IntKind.i64.wrap ((n : Int) - 1) = (p : Int) := by rw [IntWalk.i64_in _ (by omega)]; omega
      have hpn : (p : Int) < n := by omega
      have hnp : (0 : Int) < n := by omega
      have HF := Lib.hid (fit_last HU.out hya (by omega) HIN.out)
      clear ha hg hya l0 l1 l2 hp hl
      by_cases hle : x.due ≤ l.due
      · have HR : Hid (fit ys x = 1) := Lib.hid (by rw [HF.out, if_pos hle])
        clear HF
        go_enter Try.func62, Try.ntmps62
        go_wp2_with fail
        refine (l1In_any x.due 1 100000 _).mono ?_
        rw [HI.out]
        rintro e w2 ⟨rfl, rfl⟩
        go_wp2
        go_quiet (fail)
        go_wp2
        go_ret
        exact ⟨by rw [HR.out]; rfl, _, rfl⟩
      · have HR : Hid (fit ys x = 0) := Lib.hid (by rw [HF.out, if_neg hle])
        clear HF
        go_enter Try.func62, Try.ntmps62
        go_wp2_with fail
        refine (l1In_any x.due 1 100000 _).mono ?_
        rw [HI.out]
        rintro e w2 ⟨rfl, rfl⟩
        go_wp2
        go_quiet (fail)
        go_wp2
        go_ret
        exact ⟨by rw [HR.out]; rfl, _, rfl⟩
  · have HI := Lib.hid (allIn_one_no hin)
    have HF : Hid (fit ys x = 3) := Lib.hid (if_pos hin)
    clear hin ha hg
    go_enter Try.func62, Try.ntmps62
    go_wp2_with fail
    refine (l1In_any x.due 1 100000 _).mono ?_
    rw [HI.out]
    rintro e w2 ⟨rfl, rfl⟩
    go_wp2
    go_ret
    exact ⟨by rw [HF.out]; rfl, 0, rfl⟩

end Go.Proofs.Ytomkgohhfllpgaa

namespace Go.Proofs.Ytomkgohhfllpgaa
open Go.RowKit
set_option linter.unusedVariables false

section
attribute [local go_sem high] eql_keyT neq_keyT

set_option maxRecDepth 100000 in
set_option maxHeartbeats 6400000 in
theorem l6Push_any (cap : Int) (mk : Bool) (g : Nat) (q : Bool) (lo hi : Nat) (A : Option Addr) (n c : Nat) (ys : List Tmr) (x : Tmr) (w : World) (hg : Box w g 26 #[.int .i64 cap, .bool mk, .slice A n c]) (ha : Rep.timer.Sl q lo hi w A n ys) (hh : hi ≤ w.heap.size) (hn : n ≤ 1000) (hle : (ys.length : Int) ≤ cap) :
    Calls Try.prog 63 #[.pointer (some ⟨g, 0, none⟩), .agg #[.int .i64 x.typ, .int .i64 x.id, .int .i64 x.adv, .int .i64 x.due]] w fun e w' => ∃ E m d, e = .returned (.agg #[.int .i64 cap, .bool (putM cap mk ys x), .slice E m d]) ∧ Hid (OwnF 35 4 tcell w' w.heap.size E m d (putY cap ys x)) ∧ Below w.heap.size w w' := by
  have hl := ha.1
  obtain ⟨V, hV⟩ : ∃ V : World, V = (w.alloc (.cells #[.int .i64 x.typ, .int .i64 x.id, .int .i64 x.adv, .int .i64 x.due] 35)).alloc (.cells #[.int .i64 0, .bool false, .slice none 0 0] 26) := ⟨_, rfl⟩
  have hbV : Below w.heap.size w V := by rw [hV]; exact ((Below.refl _ _).alloc (Nat.le_refl _) _).alloc (by simp) _
  have HX : Hid (Box V w.heap.size 35 #[.int .i64 x.typ, .int .i64 x.id, .int .i64 x.adv, .int .i64 x.due]) := Lib.hid (by rw [hV]; exact (Box.made _ _ _).over _)
  have HR : Hid (Box V (w.heap.size + 1) 26 #[.int .i64 0, .bool false, .slice none 0 0]) := Lib.hid (by rw [hV]; exact Box.made_at _ _ _ (by simp))
  have HG := Lib.hid (hg.below hbV)
  have HA := (Rep.Sl.kept ha hh).below hbV
  have HB := Lib.hid hbV
  have HZ : Hid (w.heap.size + 2 = V.heap.size ∧ g < w.heap.size) := Lib.hid ⟨by rw [hV]; simp, hg.lt⟩
  have HAV : Hid (hi ≤ V.heap.size) := Lib.hid (Nat.le_trans hh hbV.size)
  clear hg ha hbV
  go_enter Try.func63, Try.ntmps63
  go_upto_region 1 with (fail)
  rw [← hV]
  clear hV
  have SB : Hid (∀ W, Hid (Below V.heap.size V W) → (fun W : World => W.cell? ⟨g, 0, none⟩ = some (.int .i64 cap) ∧ W.cell? ⟨g, 1, none⟩ = some (.bool mk)) W) := fun W h => ⟨(HG.out.below h.out).look 0, (HG.out.below h.out).look 1⟩
  have V0 : Hid (Below V.heap.size V V.drew) := (Below.refl _ _).drew
  have VA : ∀ o, Hid (Below V.heap.size V (V.alloc o).drew) := fun o => ((Below.refl _ _).alloc (Nat.le_refl _) o).drew
  go_cut [5] (fun s5 wx => s5 = .pointer (some ⟨V.heap.size, 0, none⟩) ∧ Hid (Box wx V.heap.size 26 #[.int .i64 cap, .bool mk, .slice none 0 0]) ∧ Hid (Below V.heap.size V wx))
  case first =>
    go_region_held3 (fun W : World => W.cell? ⟨g, 0, none⟩ = some (.int .i64 cap) ∧ W.cell? ⟨g, 1, none⟩ = some (.bool mk)) (first | (with_reducible exact SB.out _ V0) | (with_reducible exact SB.out _ (VA _)))
      (fail)
    all_goals (go_wp2_with fail; go_meet; exact ⟨rfl, Lib.hid (show Box (V.alloc _).drew V.heap.size 26 _ from Box.made _ _ _), VA _⟩)
  obtain ⟨rfl, HQ, HV1⟩ := hcut
  obtain ⟨w1, rfl⟩ : ∃ W : World, W = wc := ⟨_, rfl⟩
  clear SB V0 VA
  go_wp2
  go_loopw [6] (fun i wr => ∃ (k : Nat) (E : Option Addr) (m d : Nat), k ≤ n ∧ i = .int .i64 k ∧ Hid (Box wr V.heap.size 26 #[.int .i64 cap, .bool mk, .slice E m d]) ∧ Hid (OwnF 35 4 tcell wr (V.heap.size + 1) E m d (without (ys.take k) x)) ∧ Hid (Below V.heap.size V wr)) (fun i _ => n - (intOf i).toNat)
  case atStart => exact ⟨0, none, 0, 0, Nat.zero_le _, rfl, HQ, Lib.hid (OwnF.nil_ _ _ _ _ _), HV1⟩
  case round =>
    obtain ⟨k, E, m, d, hk, rfl, HQ, HO, HV1⟩ := hrel
    by_cases hlt : k < n
    · obtain ⟨b, o, a, rfl, hya, a0, a1, a2, a3⟩ := Rep.timer_at (HA.below HV1.out).sl hlt
      have hlt' : (k : Int) < n := by omega
      have hm : m ≤ n := by have h1 := HO.out.1; have h2 := without_le (ys.take k) x; rw [List.length_take] at h2; omega
      have HYA := Lib.hid hya
      have g2 := (HG.out.below HV1.out).look 2
      have gl := (HG.out.below HV1.out).lt
      have x0 := (HX.out.below HV1.out).look 0
      have x1 := (HX.out.below HV1.out).look 1
      have x2 := (HX.out.below HV1.out).look 2
      have xl := (HX.out.below HV1.out).lt
      clear hya
      cases hkt : keyT a x with
      | true =>
        have HW := Lib.hid (without_take_yes HYA.out hkt)
        go_wp2
        go_quiet (fail)
        go_wp2
        go_roundw
        case rel => exact ⟨k + 1, E, m, d, by omega, by go_num, HQ, by rw [HW.out]; exact HO, Lib.hid (below_drewN HV1.out _)⟩
        case measure => simp [intOf]; omega
      | false =>
        have HW := Lib.hid (without_take_no HYA.out hkt)
        go_wp2
        go_quiet (fail)
        go_upto_region 6 with (fail)
        refine Code.wp_name ?_
        intro u hu
        have HVu : Hid (Below V.heap.size V u) := Lib.hid (by rw [hu]; first | exact below_drewN HV1.out _ | exact HV1.out.drew)
        have HQu : Hid (Box u V.heap.size 26 #[.int .i64 cap, .bool mk, .slice E m d]) := Lib.hid (by rw [hu]; exact HQ.out)
        have HOu : Hid (OwnF 35 4 tcell u (V.heap.size + 1) E m d (without (ys.take k) x)) := Lib.hid (by rw [hu]; exact HO.out)
        have b0 : u.cell? ⟨b, o + k * 4, none⟩ = some (.int .i64 a.typ) := by rw [hu]; exact a0
        have b1 : u.cell? ⟨b, o + k * 4 + 1, none⟩ = some (.int .i64 a.id) := by rw [hu]; exact a1
        have b2 : u.cell? ⟨b, o + k * 4 + 2, none⟩ = some (.int .i64 a.adv) := by rw [hu]; exact a2
        have b3 : u.cell? ⟨b, o + k * 4 + 3, none⟩ = some (.int .i64 a.due) := by rw [hu]; exact a3
        have bl := World.block_lt_of_cell? _ _ b0
        clear a0 a1 a2 a3 g2 gl x0 x1 x2 xl hu HQ HO
        have g2 := (HG.out.below HVu.out).look 2
        have gl := (HG.out.below HVu.out).lt
        have q2 := HQu.out.look 2
        have ql := HQu.out.lt
        have hbE : Below u.heap.size u (u.alloc (.cells #[.int .i64 a.typ, .int .i64 a.id, .int .i64 a.adv, .int .i64 a.due] 35)).drew := ((Below.refl _ _).alloc (Nat.le_refl _) _).drew
        have HOL : Hid (OwnF 35 4 tcell (u.alloc (.cells #[.int .i64 a.typ, .int .i64 a.id, .int .i64 a.adv, .int .i64 a.due] 35)).drew (V.heap.size + 1) E m d (without (ys.take k) x)) := Lib.hid (HOu.out.below hbE)
        have HQL : Hid (Box (u.alloc (.cells #[.int .i64 a.typ, .int .i64 a.id, .int .i64 a.adv, .int .i64 a.due] 35)).drew V.heap.size 26 #[.int .i64 cap, .bool mk, .slice E m d]) := Lib.hid (HQu.out.below hbE)
        have HE : Hid (InF 4 tcell (u.alloc (.cells #[.int .i64 a.typ, .int .i64 a.id, .int .i64 a.adv, .int .i64 a.due] 35)).drew (some ⟨u.heap.size, 0, none⟩) 1 [a]) := Lib.hid ((show Box (u.alloc (.cells #[.int .i64 a.typ, .int .i64 a.id, .int .i64 a.adv, .int .i64 a.due] 35)).drew u.heap.size 35 #[.int .i64 a.typ, .int .i64 a.id, .int .i64 a.adv, .int .i64 a.due] from Box.made _ _ _).inF [a] rfl)
        have HBL : Hid (V.heap.size + 1 ≤ (u.alloc (.cells #[.int .i64 a.typ, .int .i64 a.id, .int .i64 a.adv, .int .i64 a.due] 35)).drew.heap.size) := Lib.hid (Nat.le_trans ql hbE.size)
        have HVL := Lib.hid (HVu.out.trans (hbE.mono HVu.out.size))
        have HNE : Hid (E.map (·.block) ≠ some V.heap.size) := Lib.hid (OwnF.ne_box HOu.out HQu.out (by decide))
        clear hbE
        go_region_law (first | ((show (if Region.wanted (Oper.mk (some 46) _ _ _ _ _) _ = true then _ else _)); refine step_appI0 tcell_len tcell_one Try.underlying24 itemInfo rfl (by decide) (by decide) (by rfl) (.tmp 37) (.tmp 45) (by rfl) (B := V.heap.size + 1) (by rfl) HOL.out (by rfl) HE.out (by omega) HBL.out ?_; intro E3 d3 u3 ho3 hgr; have HO3 := Lib.hid ho3; have HQ3 := Lib.hid (HQL.out.grown hgr HNE.out); have HV3 := Lib.hid (HVL.out.grown hgr (Nat.le_of_succ_le HBL.out) (fun r hr => by have := (HOL.out.block r hr).1; omega)); have k2 := HQ3.out.look 2; have kf := HQ3.out.free 2; have kl := HQ3.out.lt; clear ho3 hgr))
        all_goals
          obtain ⟨X, hX⟩ : ∃ X : World, X = u3.setCell ⟨V.heap.size, 2, none⟩ (.slice E3 (m + 1) d3) := ⟨_, rfl⟩
          have hgx : u3.grownBy X (some V.heap.size) := by rw [hX]; exact setCell_grown _ _ _
          have HQX : Hid (Box X V.heap.size 26 #[.int .i64 cap, .bool mk, .slice E3 (m + 1) d3]) := Lib.hid (by rw [hX]; exact HQ3.out.puts 2 (.slice E3 (m + 1) d3) rfl)
          have HOX := Lib.hid (HO3.out.aside hgx (fun r hr e => by injection e with e; have := (HO3.out.block r hr).1; omega))
          have HVX := Lib.hid (HV3.out.grown hgx (Nat.le_of_lt kl) (fun r hr => by injection hr with hr; omega))
          clear b0 b1 b2 b3 bl g2 gl q2 ql k2 kf kl hgx HO3 HQ3 HV3 HVu
          go_wp2
          rw [← hX]
          go_roundw
          case rel => exact ⟨k + 1, E3, m + 1, d3, by omega, by go_num, HQX, by rw [HW.out]; exact HOX, HVX⟩
          case measure => simp [intOf]; omega
    · have HWY : Hid (without (ys.take k) x = without ys x) := Lib.hid (by rw [List.take_of_length_le (by omega)])
      have HOY : Hid (OwnF 35 4 tcell wr (V.heap.size + 1) E m d (without ys x)) := Lib.hid (by rw [← HWY.out]; exact HO.out)
      have hm : m ≤ 1000 := by have h1 := HOY.out.1; have h2 := without_le ys x; omega
      have hmc : (m : Int) ≤ cap := by have h1 := HOY.out.1; have h2 := without_le ys x; omega
      have HML := Lib.hid HOY.out.1
      have g0 := (HG.out.below HV1.out).look 0
      have g2 := (HG.out.below HV1.out).look 2
      have gl := (HG.out.below HV1.out).lt
      have q2 := HQ.out.look 2
      have ql := HQ.out.lt
      clear HO HWY
      go_wp2
      go_quiet (fail)
      obtain ⟨u, hu⟩ : ∃ W : World, W = wr.drewN nq := ⟨_, rfl⟩
      rw [← hu]
      have HVu : Hid (Below V.heap.size V u) := Lib.hid (by rw [hu]; first | exact below_drewN HV1.out _ | exact HV1.out.drew)
      have HQu : Hid (Box u V.heap.size 26 #[.int .i64 cap, .bool mk, .slice E m d]) := Lib.hid (by rw [hu]; exact HQ.out)
      have HOu : Hid (OwnF 35 4 tcell u (V.heap.size + 1) E m d (without ys x)) := Lib.hid (by rw [hu]; exact HOY.out)
      clear hu HQ HOY HV1 g0 g2 gl q2 ql
      by_cases hfull : ((without ys x).length : Int) = cap
      · have HPM : Hid (putM cap mk ys x = true ∧ putY cap ys x = [] ++ [x]) := Lib.hid ⟨if_pos hfull, by unfold putY; rw [if_pos hfull]; rfl⟩
        have hcm : cap ≤ (m : Int) := by rw [HML.out] at hfull; omega
        clear hfull
        have q1 := HQu.out.look 1
        have q2 := HQu.out.look 2
        have f1 := HQu.out.free 1
        have f2 := HQu.out.free 2
        have ql := HQu.out.lt
        go_upto_region 10 with (fail)
        refine Code.wp_name ?_
        intro T hT
        obtain ⟨u', hu'⟩ : ∃ W : World, W = (u.setCell ⟨V.heap.size, 2, none⟩ (.slice (some ⟨u.heap.size, 0, none⟩) 0 0)).setCell ⟨V.heap.size, 1, none⟩ (.bool true) := ⟨_, rfl⟩
        have hT2 : T = u'.alloc (.cells #[] 35) := by rw [hT, hu']
        have hus : u'.heap.size = u.heap.size := by rw [hu']; simp [World.setCell]
        have hgu : u.grownBy u' (some V.heap.size) := by rw [hu']; exact grown_trans (setCell_grown _ _ _) (setCell_grown _ _ _)
        have HQ' : Hid (Box u' V.heap.size 26 #[.int .i64 cap, .bool true, .slice (some ⟨u.heap.size, 0, none⟩) 0 0]) := Lib.hid (by rw [hu']; exact (HQu.out.puts 2 (.slice (some ⟨u.heap.size, 0, none⟩) 0 0) (cs' := #[.int .i64 cap, .bool mk, .slice (some ⟨u.heap.size, 0, none⟩) 0 0]) rfl).puts 1 (.bool true) (cs' := #[.int .i64 cap, .bool true, .slice (some ⟨u.heap.size, 0, none⟩) 0 0]) rfl)
        have hbT : Below u'.heap.size u' T := by rw [hT2]; exact (Below.refl _ _).alloc (Nat.le_refl _) _
        have HQT := Lib.hid (HQ'.out.below hbT)
        have HOT : Hid (OwnF 35 4 tcell T (V.heap.size + 1) (some ⟨u.heap.size, 0, none⟩) 0 0 []) := Lib.hid (by rw [hT2, ← hus]; exact (emptyF 35 4 tcell u').mono (by rw [hus]; exact ql))
        have HVT : Hid (Below V.heap.size V T) := Lib.hid ((HVu.out.grown hgu HVu.out.size (fun r hr => by injection hr with hr; omega)).trans (hbT.mono (by rw [hus]; exact HVu.out.size)))
        clear hT hT2 hu' hus hgu hbT
        clear q1 q2 f1 f2 ql HQu HOu HVu
        have q0 := HQT.out.look 0
        have q1 := HQT.out.look 1
        have q2 := HQT.out.look 2
        have ql := HQT.out.lt
        have x0 := (HX.out.below HVT.out).look 0
        have x1 := (HX.out.below HVT.out).look 1
        have x2 := (HX.out.below HVT.out).look 2
        have x3 := (HX.out.below HVT.out).look 3
        have xl := (HX.out.below HVT.out).lt
        have HNE : Hid ((some ⟨u.heap.size, 0, none⟩ : Option Addr).map (·.block) ≠ some V.heap.size) := Lib.hid (OwnF.ne_box HOT.out HQT.out (by decide))
        have hbE : Below T.heap.size T (T.alloc (.cells #[.int .i64 x.typ, .int .i64 x.id, .int .i64 x.adv, .int .i64 x.due] 35)) := (Below.refl _ _).alloc (Nat.le_refl _) _
        have HOL : Hid (OwnF 35 4 tcell (T.alloc (.cells #[.int .i64 x.typ, .int .i64 x.id, .int .i64 x.adv, .int .i64 x.due] 35)) (V.heap.size + 1) (some ⟨u.heap.size, 0, none⟩) 0 0 []) := Lib.hid (HOT.out.below hbE)
        have HQL : Hid (Box (T.alloc (.cells #[.int .i64 x.typ, .int .i64 x.id, .int .i64 x.adv, .int .i64 x.due] 35)) V.heap.size 26 #[.int .i64 cap, .bool true, .slice (some ⟨u.heap.size, 0, none⟩) 0 0]) := Lib.hid (HQT.out.below hbE)
        have HE : Hid (InF 4 tcell (T.alloc (.cells #[.int .i64 x.typ, .int .i64 x.id, .int .i64 x.adv, .int .i64 x.due] 35)) (some ⟨T.heap.size, 0, none⟩) 1 [x]) := Lib.hid ((Box.made T 35 #[.int .i64 x.typ, .int .i64 x.id, .int .i64 x.adv, .int .i64 x.due]).inF [x] rfl)
        have HBL : Hid (V.heap.size + 1 ≤ (T.alloc (.cells #[.int .i64 x.typ, .int .i64 x.id, .int .i64 x.adv, .int .i64 x.due] 35)).heap.size) := Lib.hid (Nat.le_trans ql hbE.size)
        have HVL := Lib.hid (HVT.out.trans (hbE.mono HVT.out.size))
        clear hbE
        go_wp2_with (at_builtin; refine wpList_appF0 tcell_len tcell_one Try.underlying24 itemInfo rfl (by decide) (by decide) rfl (.tmp 60) (.tmp 62) rfl (B := V.heap.size + 1) rfl HOL.out rfl HE.out (by omega) HBL.out ?_; intro E3 d3 u3 ho3 hgr; have HO3 := Lib.hid ho3; have HQ3 := Lib.hid (HQL.out.grown hgr HNE.out); have HV3 := Lib.hid (HVL.out.grown hgr (Nat.le_of_succ_le HBL.out) (fun r hr => by have := (HOL.out.block r hr).1; omega)); have HR3 := Lib.hid (HR.out.below HV3.out); have k0 := HQ3.out.look 0; have k1 := HQ3.out.look 1; have k2 := HQ3.out.look 2; have kf := HQ3.out.free 2; have kl := HQ3.out.lt; have r0 := HR3.out.look 0; have r1 := HR3.out.look 1; have r2 := HR3.out.look 2; have p0 := HR3.out.free 0; have p1 := HR3.out.free 1; have p2 := HR3.out.free 2; have rl := HR3.out.lt; have hqr : ¬ V.heap.size = w.heap.size + 1 := (by have := HZ.out.1; omega); have hrq : ¬ w.heap.size + 1 = V.heap.size := (by have := HZ.out.1; omega); clear ho3 hgr q0 q1 q2 ql x0 x1 x2 x3 xl)
        obtain ⟨X1, hX1⟩ : ∃ X : World, X = u3.setCell ⟨V.heap.size, 2, none⟩ (.slice E3 (0 + 1) d3) := ⟨_, rfl⟩
        have hg1 : u3.grownBy X1 (some V.heap.size) := by rw [hX1]; exact setCell_grown _ _ _
        have HR4 := Lib.hid (HR3.out.grown hg1 (fun e => by injection e with e; have := HZ.out.1; omega))
        have HO4 := Lib.hid (HO3.out.aside hg1 (fun r hr e => by injection e with e; have := (HO3.out.block r hr).1; omega))
        have HV4 := Lib.hid (HV3.out.grown hg1 (Nat.le_of_lt kl) (fun r hr => by injection hr with hr; omega))
        obtain ⟨X, hX⟩ : ∃ X : World, X = ((X1.setCell ⟨w.heap.size + 1, 0, none⟩ (.int .i64 cap)).setCell ⟨w.heap.size + 1, 1, none⟩ (.bool true)).setCell ⟨w.heap.size + 1, 2, none⟩ (.slice E3 (0 + 1) d3) := ⟨_, rfl⟩
        have ho5 : Only (w.heap.size + 1) (w.heap.size + 1 + 1) X1 X := by rw [hX]; exact (((Only.refl _ _ _).set (p := ⟨w.heap.size + 1, 0, none⟩) (Nat.le_refl _) (Nat.lt_succ_self _) _).set (p := ⟨w.heap.size + 1, 1, none⟩) (Nat.le_refl _) (Nat.lt_succ_self _) _).set (p := ⟨w.heap.size + 1, 2, none⟩) (Nat.le_refl _) (Nat.lt_succ_self _) _
        have HRX : Hid (Box X (w.heap.size + 1) 26 #[.int .i64 cap, .bool true, .slice E3 (0 + 1) d3]) := Lib.hid (by rw [hX]; exact ((HR4.out.puts 0 (.int .i64 cap) (cs' := #[.int .i64 cap, .bool false, .slice none 0 0]) rfl).puts 1 (.bool true) (cs' := #[.int .i64 cap, .bool true, .slice none 0 0]) rfl).puts 2 (.slice E3 (0 + 1) d3) (cs' := #[.int .i64 cap, .bool true, .slice E3 (0 + 1) d3]) rfl)
        have HOX : Hid (OwnF 35 4 tcell X w.heap.size E3 (0 + 1) d3 (putY cap ys x)) := Lib.hid (by rw [HPM.out.2]; exact (HO4.out.aside (Only.grown_ ho5) (fun r hr e => by injection e with e; have := (HO4.out.block r hr).1; have := HZ.out.1; omega)).mono (by have := HZ.out.1; omega))
        have HBX : Hid (Below w.heap.size w X) := Lib.hid (Below.only (HB.out.trans (HV4.out.mono (by have := HZ.out.1; omega))) ho5 (Nat.le_succ _) (by have := HV4.out.size; have := HZ.out.1; omega))
        clear k0 k1 k2 kf kl r0 r1 r2 p0 p1 p2 rl hqr hrq hg1 ho5 HR4 HO4 HV4 HO3 HQ3 HV3 HR3
        try go_wp2
        have y0 := HRX.out.look 0
        have y1 := HRX.out.look 1
        have y2 := HRX.out.look 2
        subst hX hX1
        exact bodyPost_ret (v := .agg #[.int .i64 cap, .bool true, .slice E3 (0 + 1) d3]) (by simp [results, Try.results63, go_sem, y0, y1, y2]) rfl (by rw [HPM.out.1]; exact ⟨E3, 0 + 1, d3, rfl, HOX, HBX.out⟩)
      · have HPM : Hid (putM cap mk ys x = mk ∧ putY cap ys x = (without ys x) ++ [x]) := Lib.hid ⟨if_neg hfull, by unfold putY; rw [if_neg hfull]⟩
        have hcm : ¬ cap ≤ (m : Int) := by rw [HML.out] at hfull; omega
        clear hfull
        have q1 := HQu.out.look 1
        have q2 := HQu.out.look 2
        have f1 := HQu.out.free 1
        have f2 := HQu.out.free 2
        have ql := HQu.out.lt
        go_upto_region 10 with (fail)
        refine Code.wp_name ?_
        intro T hT
        have HQT : Hid (Box T V.heap.size 26 #[.int .i64 cap, .bool mk, .slice E m d]) := Lib.hid (by rw [hT]; exact HQu.out)
        have HOT : Hid (OwnF 35 4 tcell T (V.heap.size + 1) E m d (without ys x)) := Lib.hid (by rw [hT]; exact HOu.out)
        have HVT : Hid (Below V.heap.size V T) := Lib.hid (by rw [hT]; exact HVu.out)
        clear hT
        clear q1 q2 f1 f2 ql HQu HOu HVu
        have q0 := HQT.out.look 0
        have q1 := HQT.out.look 1
        have q2 := HQT.out.look 2
        have ql := HQT.out.lt
        have x0 := (HX.out.below HVT.out).look 0
        have x1 := (HX.out.below HVT.out).look 1
        have x2 := (HX.out.below HVT.out).look 2
        have x3 := (HX.out.below HVT.out).look 3
        have xl := (HX.out.below HVT.out).lt
        have HNE : Hid ((E : Option Addr).map (·.block) ≠ some V.heap.size) := Lib.hid (OwnF.ne_box HOT.out HQT.out (by decide))
        have hbE : Below T.heap.size T (T.alloc (.cells #[.int .i64 x.typ, .int .i64 x.id, .int .i64 x.adv, .int .i64 x.due] 35)) := (Below.refl _ _).alloc (Nat.le_refl _) _
        have HOL : Hid (OwnF 35 4 tcell (T.alloc (.cells #[.int .i64 x.typ, .int .i64 x.id, .int .i64 x.adv, .int .i64 x.due] 35)) (V.heap.size + 1) (E) m d (without ys x)) := Lib.hid (HOT.out.below hbE)
        have HQL : Hid (Box (T.alloc (.cells #[.int .i64 x.typ, .int .i64 x.id, .int .i64 x.adv, .int .i64 x.due] 35)) V.heap.size 26 #[.int .i64 cap, .bool mk, .slice (E) m d]) := Lib.hid (HQT.out.below hbE)
        have HE : Hid (InF 4 tcell (T.alloc (.cells #[.int .i64 x.typ, .int .i64 x.id, .int .i64 x.adv, .int .i64 x.due] 35)) (some ⟨T.heap.size, 0, none⟩) 1 [x]) := Lib.hid ((Box.made T 35 #[.int .i64 x.typ, .int .i64 x.id, .int .i64 x.adv, .int .i64 x.due]).inF [x] rfl)
        have HBL : Hid (V.heap.size + 1 ≤ (T.alloc (.cells #[.int .i64 x.typ, .int .i64 x.id, .int .i64 x.adv, .int .i64 x.due] 35)).heap.size) := Lib.hid (Nat.le_trans ql hbE.size)
        have HVL := Lib.hid (HVT.out.trans (hbE.mono HVT.out.size))
        clear hbE
        go_wp2_with (at_builtin; refine wpList_appF0 tcell_len tcell_one Try.underlying24 itemInfo rfl (by decide) (by decide) rfl (.tmp 60) (.tmp 62) rfl (B := V.heap.size + 1) rfl HOL.out rfl HE.out (by omega) HBL.out ?_; intro E3 d3 u3 ho3 hgr; have HO3 := Lib.hid ho3; have HQ3 := Lib.hid (HQL.out.grown hgr HNE.out); have HV3 := Lib.hid (HVL.out.grown hgr (Nat.le_of_succ_le HBL.out) (fun r hr => by have := (HOL.out.block r hr).1; omega)); have HR3 := Lib.hid (HR.out.below HV3.out); have k0 := HQ3.out.look 0; have k1 := HQ3.out.look 1; have k2 := HQ3.out.look 2; have kf := HQ3.out.free 2; have kl := HQ3.out.lt; have r0 := HR3.out.look 0; have r1 := HR3.out.look 1; have r2 := HR3.out.look 2; have p0 := HR3.out.free 0; have p1 := HR3.out.free 1; have p2 := HR3.out.free 2; have rl := HR3.out.lt; have hqr : ¬ V.heap.size = w.heap.size + 1 := (by have := HZ.out.1; omega); have hrq : ¬ w.heap.size + 1 = V.heap.size := (by have := HZ.out.1; omega); clear ho3 hgr q0 q1 q2 ql x0 x1 x2 x3 xl)
        obtain ⟨X1, hX1⟩ : ∃ X : World, X = u3.setCell ⟨V.heap.size, 2, none⟩ (.slice E3 (m + 1) d3) := ⟨_, rfl⟩
        have hg1 : u3.grownBy X1 (some V.heap.size) := by rw [hX1]; exact setCell_grown _ _ _
        have HR4 := Lib.hid (HR3.out.grown hg1 (fun e => by injection e with e; have := HZ.out.1; omega))
        have HO4 := Lib.hid (HO3.out.aside hg1 (fun r hr e => by injection e with e; have := (HO3.out.block r hr).1; omega))
        have HV4 := Lib.hid (HV3.out.grown hg1 (Nat.le_of_lt kl) (fun r hr => by injection hr with hr; omega))
        obtain ⟨X, hX⟩ : ∃ X : World, X = ((X1.setCell ⟨w.heap.size + 1, 0, none⟩ (.int .i64 cap)).setCell ⟨w.heap.size + 1, 1, none⟩ (.bool mk)).setCell ⟨w.heap.size + 1, 2, none⟩ (.slice E3 (m + 1) d3) := ⟨_, rfl⟩
        have ho5 : Only (w.heap.size + 1) (w.heap.size + 1 + 1) X1 X := by rw [hX]; exact (((Only.refl _ _ _).set (p := ⟨w.heap.size + 1, 0, none⟩) (Nat.le_refl _) (Nat.lt_succ_self _) _).set (p := ⟨w.heap.size + 1, 1, none⟩) (Nat.le_refl _) (Nat.lt_succ_self _) _).set (p := ⟨w.heap.size + 1, 2, none⟩) (Nat.le_refl _) (Nat.lt_succ_self _) _
        have HRX : Hid (Box X (w.heap.size + 1) 26 #[.int .i64 cap, .bool mk, .slice E3 (m + 1) d3]) := Lib.hid (by rw [hX]; exact ((HR4.out.puts 0 (.int .i64 cap) (cs' := #[.int .i64 cap, .bool false, .slice none 0 0]) rfl).puts 1 (.bool mk) (cs' := #[.int .i64 cap, .bool mk, .slice none 0 0]) rfl).puts 2 (.slice E3 (m + 1) d3) (cs' := #[.int .i64 cap, .bool mk, .slice E3 (m + 1) d3]) rfl)
        have HOX : Hid (OwnF 35 4 tcell X w.heap.size E3 (m + 1) d3 (putY cap ys x)) := Lib.hid (by rw [HPM.out.2]; exact (HO4.out.aside (Only.grown_ ho5) (fun r hr e => by injection e with e; have := (HO4.out.block r hr).1; have := HZ.out.1; omega)).mono (by have := HZ.out.1; omega))
        have HBX : Hid (Below w.heap.size w X) := Lib.hid (Below.only (HB.out.trans (HV4.out.mono (by have := HZ.out.1; omega))) ho5 (Nat.le_succ _) (by have := HV4.out.size; have := HZ.out.1; omega))
        clear k0 k1 k2 kf kl r0 r1 r2 p0 p1 p2 rl hqr hrq hg1 ho5 HR4 HO4 HV4 HO3 HQ3 HV3 HR3
        try go_wp2
        have y0 := HRX.out.look 0
        have y1 := HRX.out.look 1
        have y2 := HRX.out.look 2
        subst hX hX1
        exact bodyPost_ret (v := .agg #[.int .i64 cap, .bool mk, .slice E3 (m + 1) d3]) (by simp [results, Try.results63, go_sem, y0, y1, y2]) rfl (by rw [HPM.out.1]; exact ⟨E3, m + 1, d3, rfl, HOX, HBX.out⟩)
end

end Go.Proofs.Ytomkgohhfllpgaa

namespace Go.Proofs.Ytomkgohhfllpgaa
open Go.RowKit
set_option linter.unusedVariables false

theorem putY_le {cap : Int} {ys : List Tmr} (x : Tmr) (h1 : 1 ≤ cap) (h : (ys.length : Int) ≤ cap) : ((putY cap ys x).length : Int) ≤ cap := by
  have hw := without_le ys x
  unfold putY
  split
  · simp; omega
  · rw [List.length_append]; simp only [List.length_cons, List.length_nil]; omega

set_option maxRecDepth 100000 in
set_option maxHeartbeats 6400000 in
theorem l6Draw_any (g : Nat) (A0 : Option Addr) (n0 c0 : Nat) (cs : List Int) (K : Nat) (w : World) (hs : Dr w g A0 n0 c0 cs K w) (hK : K ≤ 80000) :
    Calls Try.prog 60 #[.pointer (some ⟨g, 0, none⟩)] w fun e w' => ∃ (cap : Int) (mk : Bool) (E : Option Addr) (m d : Nat) (ys : List Tmr), e = .returned (.agg #[.int .i64 cap, .bool mk, .slice E m d]) ∧ Kept w.heap.size w'.heap.size (OwnFK 35 4 tcell (w.heap.size) (w'.heap.size) E m d ys) w' ∧ m ≤ 8 ∧ Dr w g A0 n0 c0 cs (K + 60) w' := by
  have HS := hs
  have Zg : Hid (g < w.heap.size) := Lib.hid hs.lt
  clear hs
  go_enter Try.func60, Try.ntmps60
  go_wp2_with fail
  refine Calls.name ?_
  intro U1 hU1
  have hb : Below w.heap.size w U1 := by rw [hU1]; exact (((Below.refl _ _).alloc (Nat.le_refl _) _).alloc (by simp <;> omega) _)
  have zz : Hid (w.heap.size + 2 = U1.heap.size) := Lib.hid (by rw [hU1]; simp)
  have HX1 : Kept w.heap.size (w.heap.size + 1) (BoxK w.heap.size 26 #[.int .i64 0, .bool false, .slice none 0 0]) U1 := by rw [hU1]; exact Kept.box ((Box.made_at _ _ _ rfl).over _)
  have HX2 : Kept (w.heap.size + 1) (w.heap.size + 1 + 1) (BoxK (w.heap.size + 1) 2 #[.int .i64 1, .int .i64 2, .int .i64 3, .int .i64 8]) U1 := by rw [hU1]; exact Kept.box (Box.made_at _ _ _ (by simp <;> omega))
  replace HS := HS.below hb
  clear hb
  have Z1 := zz; clear zz
  have Y1 := Lib.hid (And.intro Zg.out Z1.out); clear Zg Z1
  clear hU1
  refine (dPick (w.heap.size + 1) 4 [1, 2, 3, 8] HS.here (by omega) HX2.bx rfl rfl (by omega) (by omega) (by have := Y1.out; omega)).mono ?_
  rintro e w2 ⟨va, rfl, hv, hs⟩
  have ho := hs.fr
  have Z2 := Lib.hid ho.size
  have Y2 := Lib.hid (And.intro Y1.out Z2.out); clear Y1 Z2
  clear HX2
  replace HX1 := HX1.only ho (by have := Y2.out; omega)
  replace HS := HS.next hs; clear ho hs
  have HVva : Hid (1 ≤ va ∧ va ≤ 8) := Lib.hid (by simp only [List.mem_cons, List.not_mem_nil, or_false] at hv; omega)
  clear hv
  have l2_0 := HX1.bx.lt
  go_wp2_with fail
  clear l2_0
  refine Calls.name ?_
  intro U3 hU3
  have hb : Below w2.heap.size w2 U3 := by rw [hU3]; exact ((Below.refl _ _).alloc (Nat.le_refl _) _)
  have zz : Hid (w2.heap.size + 1 = U3.heap.size) := Lib.hid (by rw [hU3]; simp)
  have HX3 : Kept w2.heap.size (w2.heap.size + 1) (BoxK w2.heap.size 26 #[.int .i64 va, .bool false, .slice none 0 0]) U3 := by rw [hU3]; exact Kept.box (Box.made_at _ _ _ rfl)
  replace HS := HS.below hb
  replace HX1 := HX1.below hb
  clear hb
  have Z3 := zz; clear zz
  have Y3 := Lib.hid (And.intro Y2.out Z3.out); clear Y2 Z3
  clear hU3
  refine (dNext 12 HS.here (by omega) (by omega) (by omega)).mono ?_
  rintro e w4 ⟨vn, rfl, hvn0, hvn1, hs⟩
  have ho := hs.fr
  have Z4 := Lib.hid ho.size
  have Y4 := Lib.hid (And.intro Y3.out Z4.out); clear Y3 Z4
  replace HX1 := HX1.only ho (by have := Y4.out; omega)
  replace HX3 := HX3.only ho (by have := Y4.out; omega)
  replace HS := HS.next hs; clear ho hs
  have l3_0 := HX1.bx.lt
  have l3_1 := HX3.bx.lt
  go_wp2
  clear l3_0 l3_1
  obtain ⟨n, rfl⟩ : ∃ n : Nat, vn = n := ⟨vn.toNat, by omega⟩
  have hva := HVva.out
  have Zr := Lib.hid HX3.le
  have Y5 := Lib.hid (And.intro Y4.out Zr.out); clear Y4 Zr
  go_loopw [4, 5] (fun t4 t5 wr => ∃ (j : Nat) (rev : Int) (E : Option Addr) (m d : Nat) (mk : Bool) (ys : List Tmr), t4 = .int .i64 rev ∧ t5 = .int .i64 j ∧ j ≤ 11 ∧ 0 ≤ rev ∧ rev + 4 * j ≤ 100 ∧ Dr w g A0 n0 c0 cs (K + 2 + 4 * (12 - j)) wr ∧ Kept w.heap.size (w.heap.size + 1) (BoxK w.heap.size 26 #[.int .i64 0, .bool false, .slice none 0 0]) wr ∧ Kept (w2.heap.size) (w2.heap.size + 1) (BoxK (w2.heap.size) 26 #[.int .i64 va, .bool mk, .slice E m d]) wr ∧ Kept w.heap.size wr.heap.size (OwnFK 35 4 tcell (w.heap.size) (wr.heap.size) E m d ys) wr ∧ Hid ((ys.length : Int) ≤ va) ∧ Hid (w4.heap.size ≤ wr.heap.size)) (fun _ t5 _ => (intOf t5).toNat)
  case atStart => exact ⟨n, 0, none, 0, 0, false, [], rfl, rfl, by omega, Int.le_refl _, by omega, HS.more (by omega), HX1, HX3, OwnFK.nil_ _ _ _ _ (Nat.le_refl _), Lib.hid (by simp <;> omega), Lib.hid (Nat.le_refl _)⟩
  case round =>
    obtain ⟨j, rev, E, m, d, mk, ys, rfl, rfl, hj, hr0, hr1, HS, HX1, HQ, HO, HLE, HZW⟩ := hrel
    have Y99 := Lib.hid (And.intro Y5.out HZW.out); clear Y5 HZW
    have hlen := HO.ownF.1
    have hm8 : m ≤ 8 := by have := HLE.out; omega
    clear hlen
    by_cases hj0 : 0 < j
    · obtain ⟨i, rfl⟩ : ∃ i, j = i + 1 := ⟨j - 1, by omega⟩
      have hjp : (0 : Int) < ((i + 1 : Nat) : Int) := by omega
      have l4_0 := HX1.bx.lt
      have l4_1 := HQ.bx.lt
      go_wp2_with fail
      clear l4_0 l4_1
      refine (dNext 3 HS.here (by omega) (by omega) (by omega)).mono ?_
      rintro e w5 ⟨vt, rfl, hvt0, hvt1, hs⟩
      have ho := hs.fr
      have Z5 := Lib.hid ho.size
      have Y6 := Lib.hid (And.intro Y99.out Z5.out); clear Y99 Z5
      replace HX1 := HX1.only ho (by have := Y6.out; omega)
      replace HQ := HQ.only ho (by have := Y6.out; omega)
      replace HO := HO.only ho (by have := Y6.out; omega)
      replace HS := HS.next hs; clear ho hs
      have l5_0 := HX1.bx.lt
      have l5_1 := HQ.bx.lt
      go_wp2_with fail
      clear l5_0 l5_1
      refine (l4Key_any g A0 n0 c0 cs _ _ HS.here (by omega)).mono ?_
      rintro e w6 ⟨ka, kb, kc, rfl, _, _, _, hs⟩
      have ho := hs.fr
      have Z6 := Lib.hid ho.size
      have Y7 := Lib.hid (And.intro Y6.out Z6.out); clear Y6 Z6
      replace HX1 := HX1.only ho (by have := Y7.out; omega)
      replace HQ := HQ.only ho (by have := Y7.out; omega)
      replace HO := HO.only ho (by have := Y7.out; omega)
      replace HS := HS.next hs; clear ho hs
      have l6_0 := HX1.bx.lt
      have l6_1 := HQ.bx.lt
      go_wp2_with fail
      clear l6_0 l6_1
      refine (l6Push_any va mk (w2.heap.size) true _ _ E m d ys ⟨ka, kb, kc, rev + 1 + vt⟩ _ HQ.bx (own_items HO.ownF) (Nat.le_refl _) (by omega) HLE.out).mono ?_
      rintro e w7 ⟨E3, m3, d3, rfl, HO3, hb⟩
      have HBL := Lib.hid hb
      have Z7 := Lib.hid hb.size
      have Y8 := Lib.hid (And.intro Y7.out Z7.out); clear Y7 Z7
      replace HS := HS.below hb
      replace HX1 := HX1.below hb
      replace HQ := HQ.below hb
      replace HO := HO.below hb
      clear hb
      have q0 := HQ.look 0; have q1 := HQ.look 1; have q2 := HQ.look 2; have f0 := HQ.free 0; have f1 := HQ.free 1; have f2 := HQ.free 2; have ql := HQ.bx.lt
      obtain ⟨X, hX⟩ : ∃ X : World, X = ((w7.setCell ⟨w2.heap.size, 0, none⟩ (.int .i64 va)).setCell ⟨w2.heap.size, 1, none⟩ (.bool (putM va mk ys ⟨ka, kb, kc, rev + 1 + vt⟩))).setCell ⟨w2.heap.size, 2, none⟩ (.slice E3 m3 d3) := ⟨_, rfl⟩
      have ho : Only (w2.heap.size) (w2.heap.size + 1) w7 X := by rw [hX]; exact (((Only.refl _ _ _).set (p := ⟨w2.heap.size, 0, none⟩) (Nat.le_refl _) (Nat.lt_succ_self _) _).set (p := ⟨w2.heap.size, 1, none⟩) (Nat.le_refl _) (Nat.lt_succ_self _) _).set (p := ⟨w2.heap.size, 2, none⟩) (Nat.le_refl _) (Nat.lt_succ_self _) _
      have HQX : Kept (w2.heap.size) (w2.heap.size + 1) (BoxK (w2.heap.size) 26 #[.int .i64 va, .bool (putM va mk ys ⟨ka, kb, kc, rev + 1 + vt⟩), .slice E3 m3 d3]) X := by rw [hX]; exact Kept.box (((HQ.bx.puts 0 (.int .i64 va) (cs' := #[.int .i64 va, .bool mk, .slice E m d]) rfl).puts 1 (.bool (putM va mk ys ⟨ka, kb, kc, rev + 1 + vt⟩)) (cs' := #[.int .i64 va, .bool (putM va mk ys ⟨ka, kb, kc, rev + 1 + vt⟩), .slice E m d]) rfl).puts 2 (.slice E3 m3 d3) (cs' := #[.int .i64 va, .bool (putM va mk ys ⟨ka, kb, kc, rev + 1 + vt⟩), .slice E3 m3 d3]) rfl)
      have HOX : Kept w.heap.size X.heap.size (OwnFK 35 4 tcell (w.heap.size) (X.heap.size) E3 m3 d3 (putY va ys ⟨ka, kb, kc, rev + 1 + vt⟩)) X := (((HO3.out.aside (Only.grown_ ho) (fun r hr e => by injection e with e; have := (HO3.out.block r hr).1; have := HQ.le; have := HBL.out.size; have := Y8.out; omega)).mono (B' := w.heap.size) (by have := Y8.out; omega))).kept rfl
      have HLX := Lib.hid (putY_le (cap := va) (ys := ys) ⟨ka, kb, kc, rev + 1 + vt⟩ hva.1 HLE.out)
      replace HS := HS.only ho (by have := Y8.out; omega)
      replace HX1 := HX1.only ho (by have := Y8.out; omega)
      have HZX : Hid (w4.heap.size ≤ X.heap.size) := Lib.hid (by have := ho.size; have := Y8.out; omega)
      clear ho
      go_wp2
      rw [← hX]
      go_roundw
      case rel => exact ⟨i, rev + 1 + vt, E3, m3, d3, _, _, by go_num, by go_num, by omega, by omega, by omega, HS.more (by omega), HX1, HQX, HOX, HLX, HZX⟩
      case measure => simp [intOf] <;> omega
    · obtain rfl : j = 0 := by omega
      have l4_0 := HX1.bx.lt
      have l4_1 := HQ.bx.lt
      go_wp2_with fail
      clear l4_0 l4_1
      refine (dChance 3 HS.here (by omega) (by omega)).mono ?_
      rintro e w5 ⟨vc, rfl, hs⟩
      have ho := hs.fr
      have Z5 := Lib.hid ho.size
      have Y6 := Lib.hid (And.intro Y99.out Z5.out); clear Y99 Z5
      replace HX1 := HX1.only ho (by have := Y6.out; omega)
      replace HQ := HQ.only ho (by have := Y6.out; omega)
      replace HO := HO.only ho (by have := Y6.out; omega)
      replace HS := HS.next hs; clear ho hs
      cases vc with
      | true =>
        have HOo := Lib.hid HO.ownF; clear HO
        have c5_0 := HQ.look 0
        have c5_1 := HQ.look 1
        have c5_2 := HQ.look 2
        have c5_3 := HX1.look 0
        have c5_4 := HX1.look 1
        have c5_5 := HX1.look 2
        have f5_0 := HQ.free 1
        have f5_1 := HX1.free 0
        have f5_2 := HX1.free 1
        have f5_3 := HX1.free 2
        have l5_0 := HX1.bx.lt
        have l5_1 := HQ.bx.lt
        have n5_0_1 : ¬ w2.heap.size = w.heap.size := (by have := Y6.out; omega)
        have m5_0_1 : ¬ w.heap.size = w2.heap.size := (by have := Y6.out; omega)
        go_wp2
        clear c5_0 c5_1 c5_2 c5_3 c5_4 c5_5 f5_0 f5_1 f5_2 f5_3 l5_0 l5_1 n5_0_1 m5_0_1
        obtain ⟨U6, hU6⟩ : ∃ W : World, W = (w5.setCell ⟨w2.heap.size, 1, none⟩ (.bool (!mk))) := ⟨_, rfl⟩
        have ho : Only w2.heap.size (w2.heap.size + 1) w5 U6 := by rw [hU6]; exact ((Only.refl _ _ _).set (p := ⟨w2.heap.size, 1, none⟩) (Nat.le_refl _) (Nat.lt_succ_self _) _)
        have hOt := HOo.out.aside (Only.grown_ ho) (fun r hr e => by injection e with e; exact OwnF.ne_box HOo.out HQ.bx (by decide) (by rw [hr, e]))
        replace HOo := Lib.hid hOt; clear hOt
        replace HQ : Kept w2.heap.size (w2.heap.size + 1) (BoxK w2.heap.size 26 #[.int .i64 va, .bool (!mk), .slice E m d]) U6 := by rw [hU6]; exact Kept.box (HQ.bx.puts 1 (.bool (!mk)) (cs' := #[.int .i64 va, .bool (!mk), .slice E m d]) rfl)
        replace HS := HS.only ho (by have := Y6.out; omega)
        replace HX1 := HX1.only ho (by have := Y6.out; omega)
        have Z6 : Hid (U6.heap.size = w5.heap.size) := Lib.hid (by rw [hU6]; simp [World.setCell]); clear ho
        have Y7 := Lib.hid (And.intro Y6.out Z6.out); clear Y6 Z6
        obtain ⟨U7, hU7⟩ : ∃ W : World, W = (((U6.setCell ⟨w.heap.size, 0, none⟩ (.int .i64 va)).setCell ⟨w.heap.size, 1, none⟩ (.bool (!mk))).setCell ⟨w.heap.size, 2, none⟩ (.slice E m d)) := ⟨_, rfl⟩
        have ho : Only w.heap.size (w.heap.size + 1) U6 U7 := by rw [hU7]; exact ((((Only.refl _ _ _).set (p := ⟨w.heap.size, 0, none⟩) (Nat.le_refl _) (Nat.lt_succ_self _) _).set (p := ⟨w.heap.size, 1, none⟩) (Nat.le_refl _) (Nat.lt_succ_self _) _).set (p := ⟨w.heap.size, 2, none⟩) (Nat.le_refl _) (Nat.lt_succ_self _) _)
        have hOt := HOo.out.aside (Only.grown_ ho) (fun r hr e => by injection e with e; exact OwnF.ne_box HOo.out HX1.bx (by decide) (by rw [hr, e]))
        replace HOo := Lib.hid hOt; clear hOt
        replace HX1 : Kept w.heap.size (w.heap.size + 1) (BoxK w.heap.size 26 #[.int .i64 va, .bool (!mk), .slice E m d]) U7 := by rw [hU7]; exact Kept.box (((HX1.bx.puts 0 (.int .i64 va) (cs' := #[.int .i64 va, .bool false, .slice none 0 0]) rfl).puts 1 (.bool (!mk)) (cs' := #[.int .i64 va, .bool (!mk), .slice none 0 0]) rfl).puts 2 (.slice E m d) (cs' := #[.int .i64 va, .bool (!mk), .slice E m d]) rfl)
        replace HS := HS.only ho (by have := Y7.out; omega)
        replace HQ := HQ.only ho (by have := Y7.out; omega)
        have Z7 : Hid (U7.heap.size = U6.heap.size) := Lib.hid (by rw [hU7]; simp [World.setCell]); clear ho
        have Y8 := Lib.hid (And.intro Y7.out Z7.out); clear Y7 Z7
        have q_0 := HX1.look 0
        have q_1 := HX1.look 1
        have q_2 := HX1.look 2
        subst hU7 hU6
        exact bodyPost_ret (v := .agg #[.int .i64 va, .bool (!mk), .slice E m d]) (by simp [results, Try.results60, go_sem, q_0, q_1, q_2]) rfl ⟨va, !mk, E, m, d, ys, rfl, HOo.out.kept rfl, hm8, HS.more (by omega)⟩
      | false =>
        have HOo := Lib.hid HO.ownF; clear HO
        have c5_0 := HQ.look 0
        have c5_1 := HQ.look 1
        have c5_2 := HQ.look 2
        have c5_3 := HX1.look 0
        have c5_4 := HX1.look 1
        have c5_5 := HX1.look 2
        have f5_0 := HX1.free 0
        have f5_1 := HX1.free 1
        have f5_2 := HX1.free 2
        have l5_0 := HX1.bx.lt
        have l5_1 := HQ.bx.lt
        have n5_0_0 : ¬ w.heap.size = w2.heap.size := (by have := Y6.out; omega)
        have m5_0_0 : ¬ w2.heap.size = w.heap.size := (by have := Y6.out; omega)
        go_wp2
        clear c5_0 c5_1 c5_2 c5_3 c5_4 c5_5 f5_0 f5_1 f5_2 l5_0 l5_1 n5_0_0 m5_0_0
        obtain ⟨U6, hU6⟩ : ∃ W : World, W = (((w5.setCell ⟨w.heap.size, 0, none⟩ (.int .i64 va)).setCell ⟨w.heap.size, 1, none⟩ (.bool mk)).setCell ⟨w.heap.size, 2, none⟩ (.slice E m d)) := ⟨_, rfl⟩
        have ho : Only w.heap.size (w.heap.size + 1) w5 U6 := by rw [hU6]; exact ((((Only.refl _ _ _).set (p := ⟨w.heap.size, 0, none⟩) (Nat.le_refl _) (Nat.lt_succ_self _) _).set (p := ⟨w.heap.size, 1, none⟩) (Nat.le_refl _) (Nat.lt_succ_self _) _).set (p := ⟨w.heap.size, 2, none⟩) (Nat.le_refl _) (Nat.lt_succ_self _) _)
        have hOt := HOo.out.aside (Only.grown_ ho) (fun r hr e => by injection e with e; exact OwnF.ne_box HOo.out HX1.bx (by decide) (by rw [hr, e]))
        replace HOo := Lib.hid hOt; clear hOt
        replace HX1 : Kept w.heap.size (w.heap.size + 1) (BoxK w.heap.size 26 #[.int .i64 va, .bool mk, .slice E m d]) U6 := by rw [hU6]; exact Kept.box (((HX1.bx.puts 0 (.int .i64 va) (cs' := #[.int .i64 va, .bool false, .slice none 0 0]) rfl).puts 1 (.bool mk) (cs' := #[.int .i64 va, .bool mk, .slice none 0 0]) rfl).puts 2 (.slice E m d) (cs' := #[.int .i64 va, .bool mk, .slice E m d]) rfl)
        replace HS := HS.only ho (by have := Y6.out; omega)
        replace HQ := HQ.only ho (by have := Y6.out; omega)
        have Z6 : Hid (U6.heap.size = w5.heap.size) := Lib.hid (by rw [hU6]; simp [World.setCell]); clear ho
        have Y7 := Lib.hid (And.intro Y6.out Z6.out); clear Y6 Z6
        have q_0 := HX1.look 0
        have q_1 := HX1.look 1
        have q_2 := HX1.look 2
        subst hU6
        exact bodyPost_ret (v := .agg #[.int .i64 va, .bool mk, .slice E m d]) (by simp [results, Try.results60, go_sem, q_0, q_1, q_2]) rfl ⟨va, mk, E, m, d, ys, rfl, HOo.out.kept rfl, hm8, HS.more (by omega)⟩

theorem OwnF.rev0 {t : TypeId} {w : World} {B g n c : Nat} {ys : List Tmr} (h : OwnF t 4 tcell w B (some ⟨g, 0, none⟩) n c ys) (hn : 0 < n) (v : Int) : ∃ zs, OwnF t 4 tcell (w.setCell ⟨g, 3, none⟩ (.int .i64 v)) B (some ⟨g, 0, none⟩) n c zs := by
  obtain ⟨s1, _⟩ := World.ownsRow.stored h.2 3 (.int .i64 v)
  cases ys with
  | nil => have := h.1; simp at this; omega
  | cons y r =>
    refine ⟨⟨y.typ, y.id, y.adv, v⟩ :: r, by rw [← h.1]; rfl, ?_⟩
    simpa [tcell] using s1

theorem OwnF.head3 {t : TypeId} {w : World} {B g n c : Nat} {ys : List Tmr} (h : OwnF t 4 tcell w B (some ⟨g, 0, none⟩) n c ys) (hn : 0 < n) : ∃ v, w.cell? ⟨g, 3, none⟩ = some v ∧ w.frozen? ⟨g, 3, none⟩ = false ∧ g < w.heap.size := by
  obtain ⟨v, hv⟩ := own_some h.2 (j := 3) (by omega)
  exact ⟨v, hv, World.ownsRow.frozenAt h.2 3, World.block_lt_of_cell? _ _ hv⟩

set_option maxRecDepth 100000 in
set_option maxHeartbeats 6400000 in
theorem l6Bent_any (g : Nat) (A0 : Option Addr) (n0 c0 : Nat) (cs : List Int) (K : Nat) (w : World) (hs : Dr w g A0 n0 c0 cs K w) (hK : K ≤ 70000) :
    Calls Try.prog 47 #[.pointer (some ⟨g, 0, none⟩)] w fun e w' => ∃ (cap : Int) (mk : Bool) (E : Option Addr) (m d : Nat) (ys : List Tmr), e = .returned (.agg #[.int .i64 cap, .bool mk, .slice E m d]) ∧ Kept w.heap.size w'.heap.size (OwnFK 35 4 tcell (w.heap.size) (w'.heap.size) E m d ys) w' ∧ m ≤ 16 ∧ Dr w g A0 n0 c0 cs (K + 70) w' := by
  have HS := hs
  have Zg : Hid (g < w.heap.size) := Lib.hid hs.lt
  clear hs
  go_enter Try.func47, Try.ntmps47
  go_wp2_with fail
  refine Calls.name ?_
  intro U1 hU1
  have hb : Below w.heap.size w U1 := by rw [hU1]; exact ((Below.refl _ _).alloc (Nat.le_refl _) _)
  have zz : Hid (w.heap.size + 1 = U1.heap.size) := Lib.hid (by rw [hU1]; simp)
  have HX1 : Kept w.heap.size (w.heap.size + 1) (BoxK w.heap.size 26 #[.int .i64 0, .bool false, .slice none 0 0]) U1 := by rw [hU1]; exact Kept.box (Box.made_at _ _ _ rfl)
  replace HS := HS.below hb
  clear hb
  have Z1 := zz; clear zz
  have Y1 := Lib.hid (And.intro Zg.out Z1.out); clear Zg Z1
  clear hU1
  refine (l6Draw_any g A0 n0 c0 cs _ _ HS.here (by omega)).mono ?_
  rintro e w2 ⟨cap, mk, E, m, d, ys, rfl, hos, hm8, hs⟩
  have ho := hs.fr
  have Z2 := Lib.hid ho.size
  have Y2 := Lib.hid (And.intro Y1.out Z2.out); clear Y1 Z2
  replace HX1 := HX1.only ho (by have := Y2.out; omega)
  replace HS := HS.next hs; clear ho hs
  have HO := hos; clear hos
  have l2_0 := HX1.bx.lt
  go_wp2_with fail
  clear l2_0
  refine Calls.name ?_
  intro U3 hU3
  have hb : Below w2.heap.size w2 U3 := by rw [hU3]; exact ((Below.refl _ _).alloc (Nat.le_refl _) _)
  have zz : Hid (w2.heap.size + 1 = U3.heap.size) := Lib.hid (by rw [hU3]; simp)
  have HX2 : Kept w2.heap.size (w2.heap.size + 1) (BoxK w2.heap.size 26 #[.int .i64 cap, .bool mk, .slice E m d]) U3 := by rw [hU3]; exact Kept.box (Box.made_at _ _ _ rfl)
  replace HS := HS.below hb
  replace HX1 := HX1.below hb
  replace HO := HO.below hb
  clear hb
  have Z3 := zz; clear zz
  have Y3 := Lib.hid (And.intro Y2.out Z3.out); clear Y2 Z3
  clear hU3
  refine (dNext 12 HS.here (by omega) (by omega) (by omega)).mono ?_
  rintro e w4 ⟨vn, rfl, hvn0, hvn1, hs⟩
  have ho := hs.fr
  have Z4 := Lib.hid ho.size
  have Y4 := Lib.hid (And.intro Y3.out Z4.out); clear Y3 Z4
  replace HX1 := HX1.only ho (by have := Y4.out; omega)
  replace HO := HO.only ho (by have := Y4.out; omega)
  replace HX2 := HX2.only ho (by have := Y4.out; omega)
  replace HS := HS.next hs; clear ho hs
  by_cases h0 : vn = 0
  · subst h0
    have l3_0 := HX1.bx.lt
    have l3_1 := HX2.bx.lt
    go_wp2_with fail
    clear l3_0 l3_1
    refine Calls.name ?_
    intro U5 hU5
    have hb : Below w4.heap.size w4 U5 := by rw [hU5]; exact ((Below.refl _ _).alloc (Nat.le_refl _) _)
    have zz : Hid (w4.heap.size + 1 = U5.heap.size) := Lib.hid (by rw [hU5]; simp)
    have HX3 : Kept w4.heap.size (w4.heap.size + 1) (BoxK w4.heap.size 2 #[.int .i64 0, .int .i64 1, .int .i64 8, .int .i64 9]) U5 := by rw [hU5]; exact Kept.box (Box.made_at _ _ _ rfl)
    replace HS := HS.below hb
    replace HX1 := HX1.below hb
    replace HO := HO.below hb
    replace HX2 := HX2.below hb
    clear hb
    have Z5 := zz; clear zz
    have Y5 := Lib.hid (And.intro Y4.out Z5.out); clear Y4 Z5
    clear hU5
    refine (dPick w4.heap.size 4 [0, 1, 8, 9] HS.here (by omega) HX3.bx rfl rfl (by omega) (by omega) (by have := Y5.out; omega)).mono ?_
    rintro e w6 ⟨vq, rfl, hv, hs⟩
    have ho := hs.fr
    have Z6 := Lib.hid ho.size
    have Y6 := Lib.hid (And.intro Y5.out Z6.out); clear Y5 Z6
    clear HX3
    replace HX1 := HX1.only ho (by have := Y6.out; omega)
    replace HO := HO.only ho (by have := Y6.out; omega)
    replace HX2 := HX2.only ho (by have := Y6.out; omega)
    replace HS := HS.next hs; clear ho hs
    have HVvq : Hid (0 ≤ vq ∧ vq ≤ 9) := Lib.hid (by simp only [List.mem_cons, List.not_mem_nil, or_false] at hv; omega)
    clear hv
    have c4_0 := HX1.look 0
    have c4_1 := HX1.look 1
    have c4_2 := HX1.look 2
    have c4_3 := HX2.look 0
    have c4_4 := HX2.look 1
    have c4_5 := HX2.look 2
    have f4_0 := HX1.free 0
    have f4_1 := HX1.free 1
    have f4_2 := HX1.free 2
    have f4_3 := HX2.free 0
    have l4_0 := HX1.bx.lt
    have l4_1 := HX2.bx.lt
    have n4_0_1 : ¬ w.heap.size = w2.heap.size := (by have := Y6.out; omega)
    have m4_0_1 : ¬ w2.heap.size = w.heap.size := (by have := Y6.out; omega)
    go_wp2
    clear c4_0 c4_1 c4_2 c4_3 c4_4 c4_5 f4_0 f4_1 f4_2 f4_3 l4_0 l4_1 n4_0_1 m4_0_1
    obtain ⟨U7, hU7⟩ : ∃ W : World, W = (w6.setCell ⟨w2.heap.size, 0, none⟩ (.int .i64 vq)) := ⟨_, rfl⟩
    have ho : Only w2.heap.size (w2.heap.size + 1) w6 U7 := by rw [hU7]; exact ((Only.refl _ _ _).set (p := ⟨w2.heap.size, 0, none⟩) (Nat.le_refl _) (Nat.lt_succ_self _) _)
    replace HX2 : Kept w2.heap.size (w2.heap.size + 1) (BoxK w2.heap.size 26 #[.int .i64 vq, .bool mk, .slice E m d]) U7 := by rw [hU7]; exact Kept.box (HX2.bx.puts 0 (.int .i64 vq) (cs' := #[.int .i64 vq, .bool mk, .slice E m d]) rfl)
    replace HS := HS.only ho (by have := Y6.out; omega)
    replace HX1 := HX1.only ho (by have := Y6.out; omega)
    replace HO := HO.only ho (by have := Y6.out; omega)
    have Z7 : Hid (U7.heap.size = w6.heap.size) := Lib.hid (by rw [hU7]; simp [World.setCell]); clear ho
    have Y7 := Lib.hid (And.intro Y6.out Z7.out); clear Y6 Z7
    obtain ⟨U8, hU8⟩ : ∃ W : World, W = (((U7.setCell ⟨w.heap.size, 0, none⟩ (.int .i64 vq)).setCell ⟨w.heap.size, 1, none⟩ (.bool mk)).setCell ⟨w.heap.size, 2, none⟩ (.slice E m d)) := ⟨_, rfl⟩
    have ho : Only w.heap.size (w.heap.size + 1) U7 U8 := by rw [hU8]; exact ((((Only.refl _ _ _).set (p := ⟨w.heap.size, 0, none⟩) (Nat.le_refl _) (Nat.lt_succ_self _) _).set (p := ⟨w.heap.size, 1, none⟩) (Nat.le_refl _) (Nat.lt_succ_self _) _).set (p := ⟨w.heap.size, 2, none⟩) (Nat.le_refl _) (Nat.lt_succ_self _) _)
    replace HX1 : Kept w.heap.size (w.heap.size + 1) (BoxK w.heap.size 26 #[.int .i64 vq, .bool mk, .slice E m d]) U8 := by rw [hU8]; exact Kept.box (((HX1.bx.puts 0 (.int .i64 vq) (cs' := #[.int .i64 vq, .bool false, .slice none 0 0]) rfl).puts 1 (.bool mk) (cs' := #[.int .i64 vq, .bool mk, .slice none 0 0]) rfl).puts 2 (.slice E m d) (cs' := #[.int .i64 vq, .bool mk, .slice E m d]) rfl)
    replace HS := HS.only ho (by have := Y7.out; omega)
    replace HO := HO.only ho (by have := Y7.out; omega)
    replace HX2 := HX2.only ho (by have := Y7.out; omega)
    have Z8 : Hid (U8.heap.size = U7.heap.size) := Lib.hid (by rw [hU8]; simp [World.setCell]); clear ho
    have Y8 := Lib.hid (And.intro Y7.out Z8.out); clear Y7 Z8
    have q_0 := HX1.look 0
    have q_1 := HX1.look 1
    have q_2 := HX1.look 2
    subst hU8 hU7
    exact bodyPost_ret (v := .agg #[.int .i64 vq, .bool mk, .slice E m d]) (by simp [results, Try.results47, go_sem, q_0, q_1, q_2]) rfl ⟨vq, mk, E, m, d, ys, rfl, OwnFK.widen HO (by have := Y8.out; omega) (by have := HO.le; omega) (Nat.le_refl _), (by omega), HS.more (by omega)⟩
  have e0 : (vn == 0) = false := by rw [beq_eq_false_iff_ne]; exact h0
  by_cases h1 : vn = 1
  · subst h1
    clear e0 h0
    have c3_0 := HX2.look 2
    have l3_0 := HX1.bx.lt
    have l3_1 := HX2.bx.lt
    go_wp2_with (first | (at_builtin; refine wpList_appF0 tcell_len tcell_one Try.underlying24 itemInfo rfl (by decide) (by decide) rfl (.tmp 17) (.tmp 19) rfl (B := U1.heap.size) rfl HO.ownF rfl (HO.ownF.inF tcell_len) (by omega) (by have := Y4.out; omega) ?_; intro E2 d2 w5 ho hg; have hq : Only U1.heap.size w2.heap.size w4 w5 := Only.of_grown hg (fun r hr => by have := HO.ownF.block r hr; have := HO.lim r hr; omega); have Z5 := Lib.hid hq.size; have Y5 := Lib.hid (And.intro Y4.out Z5.out); clear Y4 Z5; clear HO; replace HS := HS.only hq (by have := Y5.out; omega); replace HX1 := HX1.only hq (by have := Y5.out; omega); replace HX2 := HX2.only hq (by have := Y5.out; omega); clear hq hg; skip; have HO2 := ho.kept rfl; clear ho; have c4_0 := HX1.look 0; have c4_1 := HX1.look 1; have c4_2 := HX1.look 2; have c4_3 := HX2.look 0; have c4_4 := HX2.look 1; have c4_5 := HX2.look 2; have f4_0 := HX1.free 0; have f4_1 := HX1.free 1; have f4_2 := HX1.free 2; have f4_3 := HX2.free 2; have l4_0 := HX1.bx.lt; have l4_1 := HX2.bx.lt; have n4_0_1 : ¬ w.heap.size = w2.heap.size := (by have := Y5.out; omega); have m4_0_1 : ¬ w2.heap.size = w.heap.size := (by have := Y5.out; omega)))
    clear c3_0 l3_0 l3_1 c4_0 c4_1 c4_2 c4_3 c4_4 c4_5 f4_0 f4_1 f4_2 f4_3 l4_0 l4_1 n4_0_1 m4_0_1
    have HOo := Lib.hid HO2.ownF; clear HO2
    obtain ⟨U6, hU6⟩ : ∃ W : World, W = (w5.setCell ⟨w2.heap.size, 2, none⟩ (.slice E2 (m + m) d2)) := ⟨_, rfl⟩
    have ho : Only w2.heap.size (w2.heap.size + 1) w5 U6 := by rw [hU6]; exact ((Only.refl _ _ _).set (p := ⟨w2.heap.size, 2, none⟩) (Nat.le_refl _) (Nat.lt_succ_self _) _)
    have hOt := HOo.out.aside (Only.grown_ ho) (fun r hr e => by injection e with e; exact OwnF.ne_box HOo.out HX2.bx (by decide) (by rw [hr, e]))
    replace HOo := Lib.hid hOt; clear hOt
    replace HX2 : Kept w2.heap.size (w2.heap.size + 1) (BoxK w2.heap.size 26 #[.int .i64 cap, .bool mk, .slice E2 (m + m) d2]) U6 := by rw [hU6]; exact Kept.box (HX2.bx.puts 2 (.slice E2 (m + m) d2) (cs' := #[.int .i64 cap, .bool mk, .slice E2 (m + m) d2]) rfl)
    replace HS := HS.only ho (by have := Y5.out; omega)
    replace HX1 := HX1.only ho (by have := Y5.out; omega)
    have Z6 : Hid (U6.heap.size = w5.heap.size) := Lib.hid (by rw [hU6]; simp [World.setCell]); clear ho
    have Y6 := Lib.hid (And.intro Y5.out Z6.out); clear Y5 Z6
    obtain ⟨U7, hU7⟩ : ∃ W : World, W = (((U6.setCell ⟨w.heap.size, 0, none⟩ (.int .i64 cap)).setCell ⟨w.heap.size, 1, none⟩ (.bool mk)).setCell ⟨w.heap.size, 2, none⟩ (.slice E2 (m + m) d2)) := ⟨_, rfl⟩
    have ho : Only w.heap.size (w.heap.size + 1) U6 U7 := by rw [hU7]; exact ((((Only.refl _ _ _).set (p := ⟨w.heap.size, 0, none⟩) (Nat.le_refl _) (Nat.lt_succ_self _) _).set (p := ⟨w.heap.size, 1, none⟩) (Nat.le_refl _) (Nat.lt_succ_self _) _).set (p := ⟨w.heap.size, 2, none⟩) (Nat.le_refl _) (Nat.lt_succ_self _) _)
    have hOt := HOo.out.aside (Only.grown_ ho) (fun r hr e => by injection e with e; exact OwnF.ne_box HOo.out HX1.bx (by decide) (by rw [hr, e]))
    replace HOo := Lib.hid hOt; clear hOt
    replace HX1 : Kept w.heap.size (w.heap.size + 1) (BoxK w.heap.size 26 #[.int .i64 cap, .bool mk, .slice E2 (m + m) d2]) U7 := by rw [hU7]; exact Kept.box (((HX1.bx.puts 0 (.int .i64 cap) (cs' := #[.int .i64 cap, .bool false, .slice none 0 0]) rfl).puts 1 (.bool mk) (cs' := #[.int .i64 cap, .bool mk, .slice none 0 0]) rfl).puts 2 (.slice E2 (m + m) d2) (cs' := #[.int .i64 cap, .bool mk, .slice E2 (m + m) d2]) rfl)
    replace HS := HS.only ho (by have := Y6.out; omega)
    replace HX2 := HX2.only ho (by have := Y6.out; omega)
    have Z7 : Hid (U7.heap.size = U6.heap.size) := Lib.hid (by rw [hU7]; simp [World.setCell]); clear ho
    have Y7 := Lib.hid (And.intro Y6.out Z7.out); clear Y6 Z7
    have q_0 := HX1.look 0
    have q_1 := HX1.look 1
    have q_2 := HX1.look 2
    subst hU7 hU6
    exact bodyPost_ret (v := .agg #[.int .i64 cap, .bool mk, .slice E2 (m + m) d2]) (by simp [results, Try.results47, go_sem, q_0, q_1, q_2]) rfl ⟨cap, mk, E2, (m + m), d2, (ys ++ ys), rfl, (HOo.out.mono (B' := w.heap.size) (by have := Y7.out; omega)).kept rfl, (by omega), HS.more (by omega)⟩
  have e1 : (vn == 1) = false := by rw [beq_eq_false_iff_ne]; exact h1
  by_cases h2 : vn = 2
  · subst h2
    clear e0 h0 e1 h1
    by_cases hm0 : 0 < m
    · have hmi : (0 : Int) < m := by omega
      obtain ⟨ge, rfl, hg1, hg2⟩ := HO.ownF.form (by omega)
      have hne : ge ≠ w2.heap.size := fun e => OwnF.ne_box HO.ownF HX2.bx (by decide) (by simp [e])
      have Zge := Lib.hid (And.intro hg1 (And.intro hg2 hne)); clear hg1 hg2 hne
      have Y5 := Lib.hid (And.intro Y4.out Zge.out); clear Y4 Zge
      have c3_0 := HX2.look 2
      have l3_0 := HX1.bx.lt
      have l3_1 := HX2.bx.lt
      go_wp2_with fail
      clear c3_0 l3_0 l3_1
      have VA : Hid (Below w4.heap.size w4 (w4.alloc (.cells #[.int .i64 0, .int .i64 100000, .int .i64 100001, .int .i64 5] 2)).drew) := Lib.hid ((Below.refl _ _).alloc (Nat.le_refl _) _).drew
      have HSA := Lib.hid (HS.below VA.out).here
      have HLB : Hid (Box (w4.alloc (.cells #[.int .i64 0, .int .i64 100000, .int .i64 100001, .int .i64 5] 2)).drew w4.heap.size 2 #[.int .i64 0, .int .i64 100000, .int .i64 100001, .int .i64 5]) := Lib.hid (Box.made _ _ _)
      have Dg : Hid (¬ w4.heap.size = g) := Lib.hid (by have := Y5.out; omega)
      have Dv : Hid (g + 1 ≤ U1.heap.size) := Lib.hid (by have := Y5.out; omega)
      have Dq : Hid (g + 1 ≤ w2.heap.size) := Lib.hid (by have := Y5.out; omega)
      have c2 := HX2.look 2
      have cl := HX2.bx.lt
      have hpos : 0 < m := hm0
      have PC := Lib.hid (dPick (w := (w4.alloc (.cells #[.int .i64 0, .int .i64 100000, .int .i64 100001, .int .i64 5] 2)).drew) w4.heap.size 4 [0, 100000, 100001, 5] HSA.out (by omega) HLB.out rfl rfl (by omega) (by omega) Dg.out)
      go_region_law (first | ((show (if Region.wanted (Oper.mk (some 32) _ _ _ _ _) _ = true then _ else _)); go_simp; with_reducible refine PC.out.mono ?_; rintro e u1 ⟨vp, rfl, _, hs⟩; have ho := hs.fr; have HOU := (HO.below VA.out).only ho (.inr Dv.out); have HQU := (HX2.below VA.out).only ho (.inr Dq.out); have HSU := Lib.hid hs; have k2 := HQU.look 2; have kl := HQU.bx.lt; obtain ⟨kv, kc, kf, kb⟩ := HOU.ownF.head3 hpos; clear ho hs))
      all_goals
        obtain ⟨zs, hzs⟩ := HOU.ownF.rev0 hpos vp
        obtain ⟨X, hX⟩ : ∃ X : World, X = u1.setCell ⟨ge, 3, none⟩ (.int .i64 vp) := ⟨_, rfl⟩
        have hz2 : OwnF 35 4 tcell X (U1.heap.size) (some ⟨ge, 0, none⟩) m d zs := by rw [hX]; exact hzs
        have hoA : Only g (g + 1) w4 u1 := (Only.of_below VA.out _ _).trans HSU.out.fr
        have hoB : Only ge (ge + 1) u1 X := by rw [hX]; exact Only.set1 u1 (p := ⟨ge, 3, none⟩) (Nat.le_refl _) (Nat.lt_succ_self _) _
        have ho := hoA
        have Z5 := Lib.hid ho.size
        have Y6 := Lib.hid (And.intro Y5.out Z5.out); clear Y5 Z5
        replace HX1 := HX1.only ho (by have := Y6.out; omega)
        replace HX2 := HX2.only ho (by have := Y6.out; omega)
        replace HS := (HS.below VA.out).next HSU.out
        clear ho hoA
        have ho := hoB
        have Z6 := Lib.hid ho.size
        have Y7 := Lib.hid (And.intro Y6.out Z6.out); clear Y6 Z6
        replace HS := HS.only ho (by have := Y7.out; omega)
        replace HX1 := HX1.only ho (by have := Y7.out; omega)
        replace HX2 := HX2.only ho (by have := Y7.out; omega)
        clear ho hoB
        have HOX := hz2.kept rfl
        clear HO HOU HQU HSU hzs hz2 c2 cl k2 kl kc kf kb VA HSA HLB PC
        (try rw [← hX])
        clear hX
        have c4_0 := HX1.look 0
        have c4_1 := HX1.look 1
        have c4_2 := HX1.look 2
        have c4_3 := HX2.look 0
        have c4_4 := HX2.look 1
        have c4_5 := HX2.look 2
        have f4_0 := HX1.free 0
        have f4_1 := HX1.free 1
        have f4_2 := HX1.free 2
        have l4_0 := HX1.bx.lt
        have l4_1 := HX2.bx.lt
        have n4_0_1 : ¬ w.heap.size = w2.heap.size := (by have := Y7.out; omega)
        have m4_0_1 : ¬ w2.heap.size = w.heap.size := (by have := Y7.out; omega)
        go_wp2
        clear c4_0 c4_1 c4_2 c4_3 c4_4 c4_5 f4_0 f4_1 f4_2 l4_0 l4_1 n4_0_1 m4_0_1
        obtain ⟨U5, hU5⟩ : ∃ W : World, W = (((X.setCell ⟨w.heap.size, 0, none⟩ (.int .i64 cap)).setCell ⟨w.heap.size, 1, none⟩ (.bool mk)).setCell ⟨w.heap.size, 2, none⟩ (.slice (some ⟨ge, 0, none⟩) m d)) := ⟨_, rfl⟩
        have ho : Only w.heap.size (w.heap.size + 1) X U5 := by rw [hU5]; exact ((((Only.refl _ _ _).set (p := ⟨w.heap.size, 0, none⟩) (Nat.le_refl _) (Nat.lt_succ_self _) _).set (p := ⟨w.heap.size, 1, none⟩) (Nat.le_refl _) (Nat.lt_succ_self _) _).set (p := ⟨w.heap.size, 2, none⟩) (Nat.le_refl _) (Nat.lt_succ_self _) _)
        replace HX1 : Kept w.heap.size (w.heap.size + 1) (BoxK w.heap.size 26 #[.int .i64 cap, .bool mk, .slice (some ⟨ge, 0, none⟩) m d]) U5 := by rw [hU5]; exact Kept.box (((HX1.bx.puts 0 (.int .i64 cap) (cs' := #[.int .i64 cap, .bool false, .slice none 0 0]) rfl).puts 1 (.bool mk) (cs' := #[.int .i64 cap, .bool mk, .slice none 0 0]) rfl).puts 2 (.slice (some ⟨ge, 0, none⟩) m d) (cs' := #[.int .i64 cap, .bool mk, .slice (some ⟨ge, 0, none⟩) m d]) rfl)
        replace HS := HS.only ho (by have := Y7.out; omega)
        replace HX2 := HX2.only ho (by have := Y7.out; omega)
        replace HOX := HOX.only ho (by have := Y7.out; omega)
        have Z7 : Hid (U5.heap.size = X.heap.size) := Lib.hid (by rw [hU5]; simp [World.setCell]); clear ho
        have Y8 := Lib.hid (And.intro Y7.out Z7.out); clear Y7 Z7
        have q_0 := HX1.look 0
        have q_1 := HX1.look 1
        have q_2 := HX1.look 2
        subst hU5
        exact bodyPost_ret (v := .agg #[.int .i64 cap, .bool mk, .slice (some ⟨ge, 0, none⟩) m d]) (by simp [results, Try.results47, go_sem, q_0, q_1, q_2]) rfl ⟨cap, mk, (some ⟨ge, 0, none⟩), m, d, zs, rfl, OwnFK.widen HOX (by have := Y8.out; omega) (by have := HOX.le; omega) (Nat.le_refl _), (by omega), HS.more (by omega)⟩
    · have hmn : ¬ (0 : Int) < m := by omega
      have c3_0 := HX1.look 0
      have c3_1 := HX1.look 1
      have c3_2 := HX1.look 2
      have c3_3 := HX2.look 0
      have c3_4 := HX2.look 1
      have c3_5 := HX2.look 2
      have f3_0 := HX1.free 0
      have f3_1 := HX1.free 1
      have f3_2 := HX1.free 2
      have l3_0 := HX1.bx.lt
      have l3_1 := HX2.bx.lt
      have n3_0_1 : ¬ w.heap.size = w2.heap.size := (by have := Y4.out; omega)
      have m3_0_1 : ¬ w2.heap.size = w.heap.size := (by have := Y4.out; omega)
      go_wp2
      clear c3_0 c3_1 c3_2 c3_3 c3_4 c3_5 f3_0 f3_1 f3_2 l3_0 l3_1 n3_0_1 m3_0_1
      obtain ⟨U5, hU5⟩ : ∃ W : World, W = (((w4.setCell ⟨w.heap.size, 0, none⟩ (.int .i64 cap)).setCell ⟨w.heap.size, 1, none⟩ (.bool mk)).setCell ⟨w.heap.size, 2, none⟩ (.slice E m d)) := ⟨_, rfl⟩
      have ho : Only w.heap.size (w.heap.size + 1) w4 U5 := by rw [hU5]; exact ((((Only.refl _ _ _).set (p := ⟨w.heap.size, 0, none⟩) (Nat.le_refl _) (Nat.lt_succ_self _) _).set (p := ⟨w.heap.size, 1, none⟩) (Nat.le_refl _) (Nat.lt_succ_self _) _).set (p := ⟨w.heap.size, 2, none⟩) (Nat.le_refl _) (Nat.lt_succ_self _) _)
      replace HX1 : Kept w.heap.size (w.heap.size + 1) (BoxK w.heap.size 26 #[.int .i64 cap, .bool mk, .slice E m d]) U5 := by rw [hU5]; exact Kept.box (((HX1.bx.puts 0 (.int .i64 cap) (cs' := #[.int .i64 cap, .bool false, .slice none 0 0]) rfl).puts 1 (.bool mk) (cs' := #[.int .i64 cap, .bool mk, .slice none 0 0]) rfl).puts 2 (.slice E m d) (cs' := #[.int .i64 cap, .bool mk, .slice E m d]) rfl)
      replace HS := HS.only ho (by have := Y4.out; omega)
      replace HO := HO.only ho (by have := Y4.out; omega)
      replace HX2 := HX2.only ho (by have := Y4.out; omega)
      have Z5 : Hid (U5.heap.size = w4.heap.size) := Lib.hid (by rw [hU5]; simp [World.setCell]); clear ho
      have Y5 := Lib.hid (And.intro Y4.out Z5.out); clear Y4 Z5
      have q_0 := HX1.look 0
      have q_1 := HX1.look 1
      have q_2 := HX1.look 2
      subst hU5
      exact bodyPost_ret (v := .agg #[.int .i64 cap, .bool mk, .slice E m d]) (by simp [results, Try.results47, go_sem, q_0, q_1, q_2]) rfl ⟨cap, mk, E, m, d, ys, rfl, OwnFK.widen HO (by have := Y5.out; omega) (by have := HO.le; omega) (Nat.le_refl _), (by omega), HS.more (by omega)⟩
  have e2 : (vn == 2) = false := by rw [beq_eq_false_iff_ne]; exact h2
  · clear h0 h1 h2
    have c3_0 := HX1.look 0
    have c3_1 := HX1.look 1
    have c3_2 := HX1.look 2
    have c3_3 := HX2.look 0
    have c3_4 := HX2.look 1
    have c3_5 := HX2.look 2
    have f3_0 := HX1.free 0
    have f3_1 := HX1.free 1
    have f3_2 := HX1.free 2
    have l3_0 := HX1.bx.lt
    have l3_1 := HX2.bx.lt
    have n3_0_1 : ¬ w.heap.size = w2.heap.size := (by have := Y4.out; omega)
    have m3_0_1 : ¬ w2.heap.size = w.heap.size := (by have := Y4.out; omega)
    go_wp2
    clear c3_0 c3_1 c3_2 c3_3 c3_4 c3_5 f3_0 f3_1 f3_2 l3_0 l3_1 n3_0_1 m3_0_1
    obtain ⟨U5, hU5⟩ : ∃ W : World, W = (((w4.setCell ⟨w.heap.size, 0, none⟩ (.int .i64 cap)).setCell ⟨w.heap.size, 1, none⟩ (.bool mk)).setCell ⟨w.heap.size, 2, none⟩ (.slice E m d)) := ⟨_, rfl⟩
    have ho : Only w.heap.size (w.heap.size + 1) w4 U5 := by rw [hU5]; exact ((((Only.refl _ _ _).set (p := ⟨w.heap.size, 0, none⟩) (Nat.le_refl _) (Nat.lt_succ_self _) _).set (p := ⟨w.heap.size, 1, none⟩) (Nat.le_refl _) (Nat.lt_succ_self _) _).set (p := ⟨w.heap.size, 2, none⟩) (Nat.le_refl _) (Nat.lt_succ_self _) _)
    replace HX1 : Kept w.heap.size (w.heap.size + 1) (BoxK w.heap.size 26 #[.int .i64 cap, .bool mk, .slice E m d]) U5 := by rw [hU5]; exact Kept.box (((HX1.bx.puts 0 (.int .i64 cap) (cs' := #[.int .i64 cap, .bool false, .slice none 0 0]) rfl).puts 1 (.bool mk) (cs' := #[.int .i64 cap, .bool mk, .slice none 0 0]) rfl).puts 2 (.slice E m d) (cs' := #[.int .i64 cap, .bool mk, .slice E m d]) rfl)
    replace HS := HS.only ho (by have := Y4.out; omega)
    replace HO := HO.only ho (by have := Y4.out; omega)
    replace HX2 := HX2.only ho (by have := Y4.out; omega)
    have Z5 : Hid (U5.heap.size = w4.heap.size) := Lib.hid (by rw [hU5]; simp [World.setCell]); clear ho
    have Y5 := Lib.hid (And.intro Y4.out Z5.out); clear Y4 Z5
    have q_0 := HX1.look 0
    have q_1 := HX1.look 1
    have q_2 := HX1.look 2
    subst hU5
    exact bodyPost_ret (v := .agg #[.int .i64 cap, .bool mk, .slice E m d]) (by simp [results, Try.results47, go_sem, q_0, q_1, q_2]) rfl ⟨cap, mk, E, m, d, ys, rfl, OwnFK.widen HO (by have := Y5.out; omega) (by have := HO.le; omega) (Nat.le_refl _), (by omega), HS.more (by omega)⟩

theorem BIn.holdQ {w : World} {A : Option Addr} {n : Nat} {zs : List Int} (h : BIn w A n zs) : Kept 0 w.heap.size (fun w => BIn w A n zs) w := BIn.hold h

set_option maxRecDepth 100000 in
set_option maxHeartbeats 6400000 in
theorem drawDrain_any (A0 : Option Addr) (n0 c0 : Nat) (cs : List Int) (w : World) (ha : BIn w A0 n0 cs) (hb : Bytes cs) (hn : n0 ≤ 1048576) :
    Calls Try.prog 32 #[.slice A0 n0 c0] w fun e w' => ∃ (cap : Int) (mk : Bool) (E : Option Addr) (m d : Nat) (ys : List Tmr), e = .returned (.agg #[.int .i64 cap, .bool mk, .slice E m d]) ∧ Kept w.heap.size w'.heap.size (OwnFK 35 4 tcell (w.heap.size) (w'.heap.size) E m d ys) w' ∧ m ≤ 16 ∧ Below w.heap.size w w' := by
  have HB := Lib.hid (Below.refl w.heap.size w)
  have HD := ha.hold
  have HBY := Lib.hid hb
  clear ha hb
  go_enter Try.func32, Try.ntmps32
  go_wp2_with fail
  refine Calls.name ?_
  intro U1 hU1
  have hb : Below w.heap.size w U1 := by rw [hU1]; exact ((Below.refl _ _).alloc (Nat.le_refl _) _)
  have zz : Hid (w.heap.size + 1 = U1.heap.size) := Lib.hid (by rw [hU1]; simp)
  have HX1 : Kept w.heap.size (w.heap.size + 1) (BoxK w.heap.size 26 #[.int .i64 0, .bool false, .slice none 0 0]) U1 := by rw [hU1]; exact Kept.box (Box.made_at _ _ _ rfl)
  replace HD := HD.below hb
  replace HB := Lib.hid (below_step HB.out hb)
  clear hb
  have Z1 := zz; clear zz
  clear hU1
  refine (dSource A0 n0 c0 cs _ HD.out HBY.out hn).mono ?_
  rintro e w2 ⟨rfl, hs, hb⟩
  have Z2 := Lib.hid hb.size
  have Y1 := Lib.hid (And.intro Z1.out Z2.out); clear Z1 Z2
  replace HD := HD.below hb
  replace HX1 := HX1.below hb
  replace HB := Lib.hid (below_step HB.out hb)
  clear hb
  have HS := hs; clear hs
  have Z3 := Lib.hid HS.lt
  have Y2 := Lib.hid (And.intro Y1.out Z3.out); clear Y1 Z3
  have l2_0 := HX1.bx.lt
  go_wp2_with fail
  clear l2_0
  refine (l6Bent_any U1.heap.size A0 n0 c0 cs _ _ HS.here (by omega)).mono ?_
  rintro e w3 ⟨cap, mk, E, m, d, ys, rfl, hos, hm16, hs⟩
  have ho := hs.fr
  have Z4 := Lib.hid ho.size
  have Y3 := Lib.hid (And.intro Y2.out Z4.out); clear Y2 Z4
  replace HD := HD.only ho (by have := Y3.out; omega)
  replace HX1 := HX1.only ho (by have := Y3.out; omega)
  replace HB := Lib.hid (Below.only HB.out ho (by have := Y3.out; omega) HB.out.size)
  replace HS := HS.next hs; clear ho hs
  have HO := hos; clear hos
  clear HS
  have c3_0 := HX1.look 0
  have c3_1 := HX1.look 1
  have c3_2 := HX1.look 2
  have f3_0 := HX1.free 0
  have f3_1 := HX1.free 1
  have f3_2 := HX1.free 2
  have l3_0 := HX1.bx.lt
  go_wp2
  clear c3_0 c3_1 c3_2 f3_0 f3_1 f3_2 l3_0
  obtain ⟨U4, hU4⟩ : ∃ W : World, W = (((w3.setCell ⟨w.heap.size, 0, none⟩ (.int .i64 cap)).setCell ⟨w.heap.size, 1, none⟩ (.bool mk)).setCell ⟨w.heap.size, 2, none⟩ (.slice E m d)) := ⟨_, rfl⟩
  have ho : Only w.heap.size (w.heap.size + 1) w3 U4 := by rw [hU4]; exact ((((Only.refl _ _ _).set (p := ⟨w.heap.size, 0, none⟩) (Nat.le_refl _) (Nat.lt_succ_self _) _).set (p := ⟨w.heap.size, 1, none⟩) (Nat.le_refl _) (Nat.lt_succ_self _) _).set (p := ⟨w.heap.size, 2, none⟩) (Nat.le_refl _) (Nat.lt_succ_self _) _)
  replace HX1 : Kept w.heap.size (w.heap.size + 1) (BoxK w.heap.size 26 #[.int .i64 cap, .bool mk, .slice E m d]) U4 := by rw [hU4]; exact Kept.box (((HX1.bx.puts 0 (.int .i64 cap) (cs' := #[.int .i64 cap, .bool false, .slice none 0 0]) rfl).puts 1 (.bool mk) (cs' := #[.int .i64 cap, .bool mk, .slice none 0 0]) rfl).puts 2 (.slice E m d) (cs' := #[.int .i64 cap, .bool mk, .slice E m d]) rfl)
  replace HD := HD.only ho (by have := Y3.out; omega)
  replace HO := HO.only ho (by have := Y3.out; omega)
  replace HB := Lib.hid (Below.only HB.out ho (by have := Y3.out; omega) HB.out.size)
  have Z5 : Hid (U4.heap.size = w3.heap.size) := Lib.hid (by rw [hU4]; simp [World.setCell]); clear ho
  have Y4 := Lib.hid (And.intro Y3.out Z5.out); clear Y3 Z5
  have q_0 := HX1.look 0
  have q_1 := HX1.look 1
  have q_2 := HX1.look 2
  subst hU4
  exact bodyPost_ret (v := .agg #[.int .i64 cap, .bool mk, .slice E m d]) (by simp [results, Try.results32, go_sem, q_0, q_1, q_2]) rfl ⟨cap, mk, E, m, d, ys, rfl, OwnFK.widen HO (by have := Y4.out; omega) (by have := HO.le; omega) (Nat.le_refl _), hm16, HB.out⟩

set_option maxRecDepth 100000 in
set_option maxHeartbeats 6400000 in
theorem drawPop_any (A0 : Option Addr) (n0 c0 : Nat) (cs : List Int) (w : World) (ha : BIn w A0 n0 cs) (hb : Bytes cs) (hn : n0 ≤ 1048576) :
    Calls Try.prog 17 #[.slice A0 n0 c0] w fun e w' => ∃ (cap : Int) (mk : Bool) (E : Option Addr) (m d : Nat) (ys : List Tmr), e = .returned (.agg #[.int .i64 cap, .bool mk, .slice E m d]) ∧ Kept w.heap.size w'.heap.size (OwnFK 35 4 tcell (w.heap.size) (w'.heap.size) E m d ys) w' ∧ m ≤ 16 ∧ Below w.heap.size w w' := by
  have HB := Lib.hid (Below.refl w.heap.size w)
  have HD := ha.hold
  have HBY := Lib.hid hb
  clear ha hb
  go_enter Try.func17, Try.ntmps17
  go_wp2_with fail
  refine Calls.name ?_
  intro U1 hU1
  have hb : Below w.heap.size w U1 := by rw [hU1]; exact ((Below.refl _ _).alloc (Nat.le_refl _) _)
  have zz : Hid (w.heap.size + 1 = U1.heap.size) := Lib.hid (by rw [hU1]; simp)
  have HX1 : Kept w.heap.size (w.heap.size + 1) (BoxK w.heap.size 26 #[.int .i64 0, .bool false, .slice none 0 0]) U1 := by rw [hU1]; exact Kept.box (Box.made_at _ _ _ rfl)
  replace HD := HD.below hb
  replace HB := Lib.hid (below_step HB.out hb)
  clear hb
  have Z1 := zz; clear zz
  clear hU1
  refine (dSource A0 n0 c0 cs _ HD.out HBY.out hn).mono ?_
  rintro e w2 ⟨rfl, hs, hb⟩
  have Z2 := Lib.hid hb.size
  have Y1 := Lib.hid (And.intro Z1.out Z2.out); clear Z1 Z2
  replace HD := HD.below hb
  replace HX1 := HX1.below hb
  replace HB := Lib.hid (below_step HB.out hb)
  clear hb
  have HS := hs; clear hs
  have Z3 := Lib.hid HS.lt
  have Y2 := Lib.hid (And.intro Y1.out Z3.out); clear Y1 Z3
  have l2_0 := HX1.bx.lt
  go_wp2_with fail
  clear l2_0
  refine (l6Bent_any U1.heap.size A0 n0 c0 cs _ _ HS.here (by omega)).mono ?_
  rintro e w3 ⟨cap, mk, E, m, d, ys, rfl, hos, hm16, hs⟩
  have ho := hs.fr
  have Z4 := Lib.hid ho.size
  have Y3 := Lib.hid (And.intro Y2.out Z4.out); clear Y2 Z4
  replace HD := HD.only ho (by have := Y3.out; omega)
  replace HX1 := HX1.only ho (by have := Y3.out; omega)
  replace HB := Lib.hid (Below.only HB.out ho (by have := Y3.out; omega) HB.out.size)
  replace HS := HS.next hs; clear ho hs
  have HO := hos; clear hos
  clear HS
  have c3_0 := HX1.look 0
  have c3_1 := HX1.look 1
  have c3_2 := HX1.look 2
  have f3_0 := HX1.free 0
  have f3_1 := HX1.free 1
  have f3_2 := HX1.free 2
  have l3_0 := HX1.bx.lt
  go_wp2
  clear c3_0 c3_1 c3_2 f3_0 f3_1 f3_2 l3_0
  obtain ⟨U4, hU4⟩ : ∃ W : World, W = (((w3.setCell ⟨w.heap.size, 0, none⟩ (.int .i64 cap)).setCell ⟨w.heap.size, 1, none⟩ (.bool mk)).setCell ⟨w.heap.size, 2, none⟩ (.slice E m d)) := ⟨_, rfl⟩
  have ho : Only w.heap.size (w.heap.size + 1) w3 U4 := by rw [hU4]; exact ((((Only.refl _ _ _).set (p := ⟨w.heap.size, 0, none⟩) (Nat.le_refl _) (Nat.lt_succ_self _) _).set (p := ⟨w.heap.size, 1, none⟩) (Nat.le_refl _) (Nat.lt_succ_self _) _).set (p := ⟨w.heap.size, 2, none⟩) (Nat.le_refl _) (Nat.lt_succ_self _) _)
  replace HX1 : Kept w.heap.size (w.heap.size + 1) (BoxK w.heap.size 26 #[.int .i64 cap, .bool mk, .slice E m d]) U4 := by rw [hU4]; exact Kept.box (((HX1.bx.puts 0 (.int .i64 cap) (cs' := #[.int .i64 cap, .bool false, .slice none 0 0]) rfl).puts 1 (.bool mk) (cs' := #[.int .i64 cap, .bool mk, .slice none 0 0]) rfl).puts 2 (.slice E m d) (cs' := #[.int .i64 cap, .bool mk, .slice E m d]) rfl)
  replace HD := HD.only ho (by have := Y3.out; omega)
  replace HO := HO.only ho (by have := Y3.out; omega)
  replace HB := Lib.hid (Below.only HB.out ho (by have := Y3.out; omega) HB.out.size)
  have Z5 : Hid (U4.heap.size = w3.heap.size) := Lib.hid (by rw [hU4]; simp [World.setCell]); clear ho
  have Y4 := Lib.hid (And.intro Y3.out Z5.out); clear Y3 Z5
  have q_0 := HX1.look 0
  have q_1 := HX1.look 1
  have q_2 := HX1.look 2
  subst hU4
  exact bodyPost_ret (v := .agg #[.int .i64 cap, .bool mk, .slice E m d]) (by simp [results, Try.results17, go_sem, q_0, q_1, q_2]) rfl ⟨cap, mk, E, m, d, ys, rfl, OwnFK.widen HO (by have := Y4.out; omega) (by have := HO.le; omega) (Nat.le_refl _), hm16, HB.out⟩


end Go.Proofs.Ytomkgohhfllpgaa

namespace Go.Proofs.Ytomkgohhfllpgaa
open Go.RowKit
set_option linter.unusedVariables false

theorem OwnF.room {α : Type} {t : TypeId} {size : Nat} {f : α → List Value} {w : World} {B : Nat} {A : Option Addr} {n c : Nat} {ys : List α} (h : OwnF t size f w B A n c ys) : n ≤ c := by
  rcases h.2.2 with ⟨h', rfl⟩ | ⟨g', cap, cur, h1, _, _, h4, _⟩
  · exact Nat.zero_le _
  · simp only [Value.slice.injEq] at h1; omega

set_option maxRecDepth 100000 in
set_option maxHeartbeats 3200000 in
theorem popItemR_any (cap : Int) (mk : Bool) (q : Bool) (lo hi : Nat) (A : Option Addr) (n c : Nat) (ys : List Tmr) (w : World) (ha : Rep.timer.Sl q lo hi w A n ys) (hh : hi ≤ w.heap.size) (hn : n ≤ 1048576) (hc : n ≤ c) :
    Calls Try.prog 18 #[.agg #[.int .i64 cap, .bool mk, .slice A n c]] w fun e w' => ∃ O j k E m d, e = .returned (.agg #[.int .i64 (ppC cap mk ys), .int .i64 (ppX cap mk ys), .bool (ppP ys), .slice O j k, .bool (ppT cap mk ys), .slice E m d]) ∧ Kept w.heap.size w'.heap.size (QK w.heap.size w'.heap.size O j (ppU cap mk ys) E m (ppZ cap mk ys)) w' ∧ Below w.heap.size w w' ∧ j ≤ k := by
  have hl := ha.1
  by_cases h0 : ¬ qf cap ys = 0
  · have HB := Lib.hid (Below.refl w.heap.size w)
    have HA := Rep.Sl.kept ha hh
    have Zh := Lib.hid hh
    obtain ⟨r, hr⟩ : ∃ z, qf cap ys = z := ⟨_, rfl⟩
    have HR := Lib.hid hr
    have h0r : ¬ r = 0 := by rw [← hr]; exact h0
    have hr0 : (r != 0) = true := by simpa using h0r
    have HV : Hid (ppC cap mk ys = r ∧ ppX cap mk ys = 0 ∧ ppP ys = false ∧ ppU cap mk ys = [] ∧ ppT cap mk ys = false ∧ ppZ cap mk ys = []) := Lib.hid (by refine ⟨?_, ?_, ?_, ?_, ?_, ?_⟩ <;> simp [ppC, ppP, ppT, ppU, ppX, ppZ, hr, h0r])
    clear h0 hr h0r
    clear ha hl hh
    go_enter Try.func18, Try.ntmps18
    go_wp2_with fail
    refine Calls.name ?_
    intro U1 hU1
    have hb : Below w.heap.size w U1 := by rw [hU1]; exact (((Below.refl _ _).alloc (Nat.le_refl _) _).alloc (by simp <;> omega) _)
    have zz : Hid (w.heap.size + 2 = U1.heap.size) := Lib.hid (by rw [hU1]; simp)
    have HX1 : Kept w.heap.size (w.heap.size + 1) (BoxK w.heap.size 26 #[.int .i64 cap, .bool mk, .slice A n c]) U1 := by rw [hU1]; exact Kept.box ((Box.made_at _ _ _ rfl).over _)
    have HX2 : Kept (w.heap.size + 1) (w.heap.size + 1 + 1) (BoxK (w.heap.size + 1) 30 #[.int .i64 0, .int .i64 0, .bool false, .slice none 0 0, .bool false, .slice none 0 0]) U1 := by rw [hU1]; exact Kept.box (Box.made_at _ _ _ (by simp <;> omega))
    replace HA := HA.below hb
    replace HB := Lib.hid (below_step HB.out hb)
    clear hb
    have Z1 := zz; clear zz
    clear hU1
    refine (queueFault_any cap mk q lo hi A n c ys _ HA.sl HA.le hn hc).mono ?_
    rw [HR.out]
    rintro e w2 ⟨rfl, hb⟩
    have Z2 := Lib.hid hb.size
    replace HA := HA.below hb
    replace HX1 := HX1.below hb
    replace HX2 := HX2.below hb
    replace HB := Lib.hid (below_step HB.out hb)
    clear hb
    have c2_0 := HX2.look 0
    have c2_1 := HX2.look 1
    have c2_2 := HX2.look 2
    have c2_3 := HX2.look 3
    have c2_4 := HX2.look 4
    have c2_5 := HX2.look 5
    have f2_0 := HX2.free 0
    have f2_1 := HX2.free 1
    have f2_2 := HX2.free 2
    have f2_3 := HX2.free 3
    have f2_4 := HX2.free 4
    have f2_5 := HX2.free 5
    have l2_0 := HX1.bx.lt
    have l2_1 := HX2.bx.lt
    go_wp2
    clear c2_0 c2_1 c2_2 c2_3 c2_4 c2_5 f2_0 f2_1 f2_2 f2_3 f2_4 f2_5 l2_0 l2_1
    obtain ⟨U3, hU3⟩ : ∃ W : World, W = ((((((w2.setCell ⟨w.heap.size + 1, 0, none⟩ (.int .i64 r)).setCell ⟨w.heap.size + 1, 1, none⟩ (.int .i64 0)).setCell ⟨w.heap.size + 1, 2, none⟩ (.bool false)).setCell ⟨w.heap.size + 1, 3, none⟩ (.slice none 0 0)).setCell ⟨w.heap.size + 1, 4, none⟩ (.bool false)).setCell ⟨w.heap.size + 1, 5, none⟩ (.slice none 0 0)) := ⟨_, rfl⟩
    have ho : Only (w.heap.size + 1) (w.heap.size + 1 + 1) w2 U3 := by rw [hU3]; exact (((((((Only.refl _ _ _).set (p := ⟨w.heap.size + 1, 0, none⟩) (Nat.le_refl _) (Nat.lt_succ_self _) _).set (p := ⟨w.heap.size + 1, 1, none⟩) (Nat.le_refl _) (Nat.lt_succ_self _) _).set (p := ⟨w.heap.size + 1, 2, none⟩) (Nat.le_refl _) (Nat.lt_succ_self _) _).set (p := ⟨w.heap.size + 1, 3, none⟩) (Nat.le_refl _) (Nat.lt_succ_self _) _).set (p := ⟨w.heap.size + 1, 4, none⟩) (Nat.le_refl _) (Nat.lt_succ_self _) _).set (p := ⟨w.heap.size + 1, 5, none⟩) (Nat.le_refl _) (Nat.lt_succ_self _) _)
    replace HX2 : Kept (w.heap.size + 1) (w.heap.size + 1 + 1) (BoxK (w.heap.size + 1) 30 #[.int .i64 r, .int .i64 0, .bool false, .slice none 0 0, .bool false, .slice none 0 0]) U3 := by rw [hU3]; exact Kept.box ((((((HX2.bx.puts 0 (.int .i64 r) (cs' := #[.int .i64 r, .int .i64 0, .bool false, .slice none 0 0, .bool false, .slice none 0 0]) rfl).puts 1 (.int .i64 0) (cs' := #[.int .i64 r, .int .i64 0, .bool false, .slice none 0 0, .bool false, .slice none 0 0]) rfl).puts 2 (.bool false) (cs' := #[.int .i64 r, .int .i64 0, .bool false, .slice none 0 0, .bool false, .slice none 0 0]) rfl).puts 3 (.slice none 0 0) (cs' := #[.int .i64 r, .int .i64 0, .bool false, .slice none 0 0, .bool false, .slice none 0 0]) rfl).puts 4 (.bool false) (cs' := #[.int .i64 r, .int .i64 0, .bool false, .slice none 0 0, .bool false, .slice none 0 0]) rfl).puts 5 (.slice none 0 0) (cs' := #[.int .i64 r, .int .i64 0, .bool false, .slice none 0 0, .bool false, .slice none 0 0]) rfl)
    replace HA := HA.only ho (by have := Zh.out; have := Z1.out; have := Z2.out; omega)
    replace HX1 := HX1.only ho (by have := Zh.out; have := Z1.out; have := Z2.out; omega)
    replace HB := Lib.hid (Below.only HB.out ho (by have := Zh.out; have := Z1.out; have := Z2.out; omega) HB.out.size)
    have Z3 : Hid (U3.heap.size = w2.heap.size) := Lib.hid (by rw [hU3]; simp [World.setCell]); clear ho
    have q_0 := HX2.look 0
    have q_1 := HX2.look 1
    have q_2 := HX2.look 2
    have q_3 := HX2.look 3
    have q_4 := HX2.look 4
    have q_5 := HX2.look 5
    subst hU3
    exact bodyPost_ret (v := .agg #[.int .i64 r, .int .i64 0, .bool false, .slice none 0 0, .bool false, .slice none 0 0]) (by simp [results, Try.results18, go_sem, q_0, q_1, q_2, q_3, q_4, q_5]) rfl ⟨none, 0, 0, none, 0, 0, by rw [HV.out.1, HV.out.2.1, HV.out.2.2.1, HV.out.2.2.2.2.1], by rw [HV.out.2.2.2.1, HV.out.2.2.2.2.2]; exact QK.kept (QK.nil _ _ _ _ _) (Nat.le_refl _), HB.out, Nat.le_refl _⟩
  have h0 : qf cap ys = 0 := Classical.byContradiction h0
  cases mk with
  | true =>
    have HB := Lib.hid (Below.refl w.heap.size w)
    have HA := Rep.Sl.kept ha hh
    have Zh := Lib.hid hh
    have HR := Lib.hid h0
    have hq8 := qf_ok h0
    have hn8 : n ≤ 1000 := by have := hq8.2.2.1; omega
    have HV : Hid (ppC cap true ys = 0 ∧ ppX cap true ys = cap ∧ ppP ys = false ∧ ppU cap true ys = ys ∧ ppT cap true ys = true ∧ ppZ cap true ys = []) := Lib.hid (by refine ⟨?_, ?_, ?_, ?_, ?_, ?_⟩ <;> simp [ppC, ppX, ppP, ppU, ppT, ppZ, h0])
    clear h0 hq8
    clear ha hl hh
    go_enter Try.func18, Try.ntmps18
    go_wp2_with fail
    refine Calls.name ?_
    intro U1 hU1
    have hb : Below w.heap.size w U1 := by rw [hU1]; exact (((Below.refl _ _).alloc (Nat.le_refl _) _).alloc (by simp <;> omega) _)
    have zz : Hid (w.heap.size + 2 = U1.heap.size) := Lib.hid (by rw [hU1]; simp)
    have HX1 : Kept w.heap.size (w.heap.size + 1) (BoxK w.heap.size 26 #[.int .i64 cap, .bool true, .slice A n c]) U1 := by rw [hU1]; exact Kept.box ((Box.made_at _ _ _ rfl).over _)
    have HX2 : Kept (w.heap.size + 1) (w.heap.size + 1 + 1) (BoxK (w.heap.size + 1) 30 #[.int .i64 0, .int .i64 0, .bool false, .slice none 0 0, .bool false, .slice none 0 0]) U1 := by rw [hU1]; exact Kept.box (Box.made_at _ _ _ (by simp <;> omega))
    replace HA := HA.below hb
    replace HB := Lib.hid (below_step HB.out hb)
    clear hb
    have Z1 := zz; clear zz
    clear hU1
    refine (queueFault_any cap true q lo hi A n c ys _ HA.sl HA.le hn hc).mono ?_
    rw [HR.out]
    rintro e w2 ⟨rfl, hb⟩
    have Z2 := Lib.hid hb.size
    replace HA := HA.below hb
    replace HX1 := HX1.below hb
    replace HX2 := HX2.below hb
    replace HB := Lib.hid (below_step HB.out hb)
    clear hb
    have c2_0 := HX1.look 0
    have c2_1 := HX1.look 1
    have c2_2 := HX1.look 2
    have l2_0 := HX1.bx.lt
    have l2_1 := HX2.bx.lt
    go_wp2_with fail
    clear c2_0 c2_1 c2_2 l2_0 l2_1
    refine (backlogOf_any cap true q lo hi A n c ys _ HA.sl HA.le hn8).mono ?_
    rintro e w3 ⟨g, E0, d0, rfl, hg, ho, hle, hb⟩
    have Z3 := Lib.hid hb.size
    replace HA := HA.below hb
    replace HX1 := HX1.below hb
    replace HX2 := HX2.below hb
    replace HB := Lib.hid (below_step HB.out hb)
    clear hb
    have HG := hg; have HO := ho; have Zg := Lib.hid hle; clear hg ho hle
    have Zg2 := Lib.hid HG.le
    have l3_0 := HX1.bx.lt
    have l3_1 := HX2.bx.lt
    have l3_2 := HG.bx.lt
    go_wp2_with fail
    clear l3_0 l3_1 l3_2
    refine (takeMark_any cap true g E0 n d0 _ HG.bx).mono ?_
    rintro e w4 ⟨rfl, hx, ho⟩
    have Z4 := Lib.hid ho.size
    replace HA := HA.only ho (by have := Zh.out; have := Z1.out; have := Z2.out; have := Z3.out; have := Zg.out; have := Zg2.out; have := Z4.out; omega)
    replace HX1 := HX1.only ho (by have := Zh.out; have := Z1.out; have := Z2.out; have := Z3.out; have := Zg.out; have := Zg2.out; have := Z4.out; omega)
    replace HX2 := HX2.only ho (by have := Zh.out; have := Z1.out; have := Z2.out; have := Z3.out; have := Zg.out; have := Zg2.out; have := Z4.out; omega)
    replace HO := HO.only ho (by have := Zh.out; have := Z1.out; have := Z2.out; have := Z3.out; have := Zg.out; have := Zg2.out; have := Z4.out; omega)
    replace HB := Lib.hid (Below.only HB.out ho (by have := Zh.out; have := Z1.out; have := Z2.out; have := Z3.out; have := Zg.out; have := Zg2.out; have := Z4.out; omega) HB.out.size)
    clear ho
    replace HG := Kept.box hx; clear hx
    have l4_0 := HX1.bx.lt
    have l4_1 := HX2.bx.lt
    have l4_2 := HG.bx.lt
    go_wp2_with fail
    clear l4_0 l4_1 l4_2
    refine (queueOf_any cap false g E0 n d0 _ HG.bx).mono ?_
    rintro e w5 ⟨rfl, hb⟩
    have Z5 := Lib.hid hb.size
    replace HA := HA.below hb
    replace HX1 := HX1.below hb
    replace HX2 := HX2.below hb
    replace HG := HG.below hb
    replace HO := HO.below hb
    replace HB := Lib.hid (below_step HB.out hb)
    clear hb
    have c5_0 := HX2.look 0
    have c5_1 := HX2.look 1
    have c5_2 := HX2.look 2
    have c5_3 := HX2.look 3
    have c5_4 := HX2.look 4
    have c5_5 := HX2.look 5
    have f5_0 := HX2.free 0
    have f5_1 := HX2.free 1
    have f5_2 := HX2.free 2
    have f5_3 := HX2.free 3
    have f5_4 := HX2.free 4
    have f5_5 := HX2.free 5
    have l5_0 := HX1.bx.lt
    have l5_1 := HX2.bx.lt
    have l5_2 := HG.bx.lt
    go_wp2
    clear c5_0 c5_1 c5_2 c5_3 c5_4 c5_5 f5_0 f5_1 f5_2 f5_3 f5_4 f5_5 l5_0 l5_1 l5_2
    obtain ⟨U6, hU6⟩ : ∃ W : World, W = ((((((w5.setCell ⟨w.heap.size + 1, 0, none⟩ (.int .i64 0)).setCell ⟨w.heap.size + 1, 1, none⟩ (.int .i64 cap)).setCell ⟨w.heap.size + 1, 2, none⟩ (.bool false)).setCell ⟨w.heap.size + 1, 3, none⟩ (.slice E0 n d0)).setCell ⟨w.heap.size + 1, 4, none⟩ (.bool true)).setCell ⟨w.heap.size + 1, 5, none⟩ (.slice none 0 0)) := ⟨_, rfl⟩
    have ho : Only (w.heap.size + 1) (w.heap.size + 1 + 1) w5 U6 := by rw [hU6]; exact (((((((Only.refl _ _ _).set (p := ⟨w.heap.size + 1, 0, none⟩) (Nat.le_refl _) (Nat.lt_succ_self _) _).set (p := ⟨w.heap.size + 1, 1, none⟩) (Nat.le_refl _) (Nat.lt_succ_self _) _).set (p := ⟨w.heap.size + 1, 2, none⟩) (Nat.le_refl _) (Nat.lt_succ_self _) _).set (p := ⟨w.heap.size + 1, 3, none⟩) (Nat.le_refl _) (Nat.lt_succ_self _) _).set (p := ⟨w.heap.size + 1, 4, none⟩) (Nat.le_refl _) (Nat.lt_succ_self _) _).set (p := ⟨w.heap.size + 1, 5, none⟩) (Nat.le_refl _) (Nat.lt_succ_self _) _)
    replace HX2 : Kept (w.heap.size + 1) (w.heap.size + 1 + 1) (BoxK (w.heap.size + 1) 30 #[.int .i64 0, .int .i64 cap, .bool false, .slice E0 n d0, .bool true, .slice none 0 0]) U6 := by rw [hU6]; exact Kept.box ((((((HX2.bx.puts 0 (.int .i64 0) (cs' := #[.int .i64 0, .int .i64 0, .bool false, .slice none 0 0, .bool false, .slice none 0 0]) rfl).puts 1 (.int .i64 cap) (cs' := #[.int .i64 0, .int .i64 cap, .bool false, .slice none 0 0, .bool false, .slice none 0 0]) rfl).puts 2 (.bool false) (cs' := #[.int .i64 0, .int .i64 cap, .bool false, .slice none 0 0, .bool false, .slice none 0 0]) rfl).puts 3 (.slice E0 n d0) (cs' := #[.int .i64 0, .int .i64 cap, .bool false, .slice E0 n d0, .bool false, .slice none 0 0]) rfl).puts 4 (.bool true) (cs' := #[.int .i64 0, .int .i64 cap, .bool false, .slice E0 n d0, .bool true, .slice none 0 0]) rfl).puts 5 (.slice none 0 0) (cs' := #[.int .i64 0, .int .i64 cap, .bool false, .slice E0 n d0, .bool true, .slice none 0 0]) rfl)
    replace HA := HA.only ho (by have := Zh.out; have := Z1.out; have := Z2.out; have := Z3.out; have := Zg.out; have := Zg2.out; have := Z4.out; have := Z5.out; omega)
    replace HX1 := HX1.only ho (by have := Zh.out; have := Z1.out; have := Z2.out; have := Z3.out; have := Zg.out; have := Zg2.out; have := Z4.out; have := Z5.out; omega)
    replace HG := HG.only ho (by have := Zh.out; have := Z1.out; have := Z2.out; have := Z3.out; have := Zg.out; have := Zg2.out; have := Z4.out; have := Z5.out; omega)
    replace HO := HO.only ho (by have := Zh.out; have := Z1.out; have := Z2.out; have := Z3.out; have := Zg.out; have := Zg2.out; have := Z4.out; have := Z5.out; omega)
    replace HB := Lib.hid (Below.only HB.out ho (by have := Zh.out; have := Z1.out; have := Z2.out; have := Z3.out; have := Zg.out; have := Zg2.out; have := Z4.out; have := Z5.out; omega) HB.out.size)
    have Z6 : Hid (U6.heap.size = w5.heap.size) := Lib.hid (by rw [hU6]; simp [World.setCell]); clear ho
    have q_0 := HX2.look 0
    have q_1 := HX2.look 1
    have q_2 := HX2.look 2
    have q_3 := HX2.look 3
    have q_4 := HX2.look 4
    have q_5 := HX2.look 5
    subst hU6
    exact bodyPost_ret (v := .agg #[.int .i64 0, .int .i64 cap, .bool false, .slice E0 n d0, .bool true, .slice none 0 0]) (by simp [results, Try.results18, go_sem, q_0, q_1, q_2, q_3, q_4, q_5]) rfl ⟨E0, n, d0, none, 0, 0, by rw [HV.out.1, HV.out.2.1, HV.out.2.2.1, HV.out.2.2.2.2.1], by rw [HV.out.2.2.2.1, HV.out.2.2.2.2.2]; exact QK.kept (QK.of_own (HO.ownF.mono (by have := Zh.out; have := Z1.out; have := Z2.out; have := Z3.out; have := Zg.out; have := Zg2.out; have := Z4.out; have := Z5.out; have := Z6.out; omega)) (OwnF.nil_ _ _ _ _ _) (fun r _ h => by cases h)) (Nat.le_refl _), HB.out, OwnF.room HO.ownF⟩
  | false =>
  by_cases hn0 : n = 0
  · have HB := Lib.hid (Below.refl w.heap.size w)
    have HA := Rep.Sl.kept ha hh
    have Zh := Lib.hid hh
    have hy0 : ys = [] := List.eq_nil_of_length_eq_zero (by omega)
    have h0e : qf cap [] = 0 := by rw [← hy0]; exact h0
    have HR := Lib.hid h0
    have hq8 := qf_ok h0
    have hn8 : n ≤ 1000 := by have := hq8.2.2.1; omega
    have HV : Hid (ppC cap false ys = 4 ∧ ppX cap false ys = 0 ∧ ppP ys = false ∧ ppU cap false ys = [] ∧ ppT cap false ys = false ∧ ppZ cap false ys = []) := Lib.hid (by refine ⟨?_, ?_, ?_, ?_, ?_, ?_⟩ <;> simp [ppC, ppX, ppP, ppU, ppT, ppZ, hy0, h0e])
    have hn1 : ((n : Int) == 0) = true := by rw [hn0]; rfl
    clear h0 hq8 hy0 hn0 h0e
    clear ha hl hh
    go_enter Try.func18, Try.ntmps18
    go_wp2_with fail
    refine Calls.name ?_
    intro U1 hU1
    have hb : Below w.heap.size w U1 := by rw [hU1]; exact (((Below.refl _ _).alloc (Nat.le_refl _) _).alloc (by simp <;> omega) _)
    have zz : Hid (w.heap.size + 2 = U1.heap.size) := Lib.hid (by rw [hU1]; simp)
    have HX1 : Kept w.heap.size (w.heap.size + 1) (BoxK w.heap.size 26 #[.int .i64 cap, .bool false, .slice A n c]) U1 := by rw [hU1]; exact Kept.box ((Box.made_at _ _ _ rfl).over _)
    have HX2 : Kept (w.heap.size + 1) (w.heap.size + 1 + 1) (BoxK (w.heap.size + 1) 30 #[.int .i64 0, .int .i64 0, .bool false, .slice none 0 0, .bool false, .slice none 0 0]) U1 := by rw [hU1]; exact Kept.box (Box.made_at _ _ _ (by simp <;> omega))
    replace HA := HA.below hb
    replace HB := Lib.hid (below_step HB.out hb)
    clear hb
    have Z1 := zz; clear zz
    clear hU1
    refine (queueFault_any cap false q lo hi A n c ys _ HA.sl HA.le hn hc).mono ?_
    rw [HR.out]
    rintro e w2 ⟨rfl, hb⟩
    have Z2 := Lib.hid hb.size
    replace HA := HA.below hb
    replace HX1 := HX1.below hb
    replace HX2 := HX2.below hb
    replace HB := Lib.hid (below_step HB.out hb)
    clear hb
    have c2_0 := HX1.look 0
    have c2_1 := HX1.look 1
    have c2_2 := HX1.look 2
    have l2_0 := HX1.bx.lt
    have l2_1 := HX2.bx.lt
    go_wp2_with fail
    clear c2_0 c2_1 c2_2 l2_0 l2_1
    refine (backlogOf_any cap false q lo hi A n c ys _ HA.sl HA.le hn8).mono ?_
    rintro e w3 ⟨g, E0, d0, rfl, hg, ho, hle, hb⟩
    have Z3 := Lib.hid hb.size
    replace HA := HA.below hb
    replace HX1 := HX1.below hb
    replace HX2 := HX2.below hb
    replace HB := Lib.hid (below_step HB.out hb)
    clear hb
    have HG := hg; have HO := ho; have Zg := Lib.hid hle; clear hg ho hle
    have Zg2 := Lib.hid HG.le
    have l3_0 := HX1.bx.lt
    have l3_1 := HX2.bx.lt
    have l3_2 := HG.bx.lt
    go_wp2_with fail
    clear l3_0 l3_1 l3_2
    refine (takeMark_any cap false g E0 n d0 _ HG.bx).mono ?_
    rintro e w4 ⟨rfl, hx, ho⟩
    have Z4 := Lib.hid ho.size
    replace HA := HA.only ho (by have := Zh.out; have := Z1.out; have := Z2.out; have := Z3.out; have := Zg.out; have := Zg2.out; have := Z4.out; omega)
    replace HX1 := HX1.only ho (by have := Zh.out; have := Z1.out; have := Z2.out; have := Z3.out; have := Zg.out; have := Zg2.out; have := Z4.out; omega)
    replace HX2 := HX2.only ho (by have := Zh.out; have := Z1.out; have := Z2.out; have := Z3.out; have := Zg.out; have := Zg2.out; have := Z4.out; omega)
    replace HO := HO.only ho (by have := Zh.out; have := Z1.out; have := Z2.out; have := Z3.out; have := Zg.out; have := Zg2.out; have := Z4.out; omega)
    replace HB := Lib.hid (Below.only HB.out ho (by have := Zh.out; have := Z1.out; have := Z2.out; have := Z3.out; have := Zg.out; have := Zg2.out; have := Z4.out; omega) HB.out.size)
    clear ho
    replace HG := Kept.box hx; clear hx
    have c4_0 := HG.look 2
    have c4_1 := HX2.look 0
    have c4_2 := HX2.look 1
    have c4_3 := HX2.look 2
    have c4_4 := HX2.look 3
    have c4_5 := HX2.look 4
    have c4_6 := HX2.look 5
    have f4_0 := HX2.free 0
    have f4_1 := HX2.free 1
    have f4_2 := HX2.free 2
    have f4_3 := HX2.free 3
    have f4_4 := HX2.free 4
    have f4_5 := HX2.free 5
    have l4_0 := HX1.bx.lt
    have l4_1 := HX2.bx.lt
    have l4_2 := HG.bx.lt
    have n4_0_0 : ¬ (w.heap.size + 1) = g := (by have := Zh.out; have := Z1.out; have := Z2.out; have := Z3.out; have := Zg.out; have := Zg2.out; have := Z4.out; omega)
    have m4_0_0 : ¬ g = (w.heap.size + 1) := (by have := Zh.out; have := Z1.out; have := Z2.out; have := Z3.out; have := Zg.out; have := Zg2.out; have := Z4.out; omega)
    go_wp2
    clear c4_0 c4_1 c4_2 c4_3 c4_4 c4_5 c4_6 f4_0 f4_1 f4_2 f4_3 f4_4 f4_5 l4_0 l4_1 l4_2 n4_0_0 m4_0_0
    obtain ⟨U5, hU5⟩ : ∃ W : World, W = ((((((w4.setCell ⟨w.heap.size + 1, 0, none⟩ (.int .i64 4)).setCell ⟨w.heap.size + 1, 1, none⟩ (.int .i64 0)).setCell ⟨w.heap.size + 1, 2, none⟩ (.bool false)).setCell ⟨w.heap.size + 1, 3, none⟩ (.slice none 0 0)).setCell ⟨w.heap.size + 1, 4, none⟩ (.bool false)).setCell ⟨w.heap.size + 1, 5, none⟩ (.slice none 0 0)) := ⟨_, rfl⟩
    have ho : Only (w.heap.size + 1) (w.heap.size + 1 + 1) w4 U5 := by rw [hU5]; exact (((((((Only.refl _ _ _).set (p := ⟨w.heap.size + 1, 0, none⟩) (Nat.le_refl _) (Nat.lt_succ_self _) _).set (p := ⟨w.heap.size + 1, 1, none⟩) (Nat.le_refl _) (Nat.lt_succ_self _) _).set (p := ⟨w.heap.size + 1, 2, none⟩) (Nat.le_refl _) (Nat.lt_succ_self _) _).set (p := ⟨w.heap.size + 1, 3, none⟩) (Nat.le_refl _) (Nat.lt_succ_self _) _).set (p := ⟨w.heap.size + 1, 4, none⟩) (Nat.le_refl _) (Nat.lt_succ_self _) _).set (p := ⟨w.heap.size + 1, 5, none⟩) (Nat.le_refl _) (Nat.lt_succ_self _) _)
    replace HX2 : Kept (w.heap.size + 1) (w.heap.size + 1 + 1) (BoxK (w.heap.size + 1) 30 #[.int .i64 4, .int .i64 0, .bool false, .slice none 0 0, .bool false, .slice none 0 0]) U5 := by rw [hU5]; exact Kept.box ((((((HX2.bx.puts 0 (.int .i64 4) (cs' := #[.int .i64 4, .int .i64 0, .bool false, .slice none 0 0, .bool false, .slice none 0 0]) rfl).puts 1 (.int .i64 0) (cs' := #[.int .i64 4, .int .i64 0, .bool false, .slice none 0 0, .bool false, .slice none 0 0]) rfl).puts 2 (.bool false) (cs' := #[.int .i64 4, .int .i64 0, .bool false, .slice none 0 0, .bool false, .slice none 0 0]) rfl).puts 3 (.slice none 0 0) (cs' := #[.int .i64 4, .int .i64 0, .bool false, .slice none 0 0, .bool false, .slice none 0 0]) rfl).puts 4 (.bool false) (cs' := #[.int .i64 4, .int .i64 0, .bool false, .slice none 0 0, .bool false, .slice none 0 0]) rfl).puts 5 (.slice none 0 0) (cs' := #[.int .i64 4, .int .i64 0, .bool false, .slice none 0 0, .bool false, .slice none 0 0]) rfl)
    replace HA := HA.only ho (by have := Zh.out; have := Z1.out; have := Z2.out; have := Z3.out; have := Zg.out; have := Zg2.out; have := Z4.out; omega)
    replace HX1 := HX1.only ho (by have := Zh.out; have := Z1.out; have := Z2.out; have := Z3.out; have := Zg.out; have := Zg2.out; have := Z4.out; omega)
    replace HG := HG.only ho (by have := Zh.out; have := Z1.out; have := Z2.out; have := Z3.out; have := Zg.out; have := Zg2.out; have := Z4.out; omega)
    replace HO := HO.only ho (by have := Zh.out; have := Z1.out; have := Z2.out; have := Z3.out; have := Zg.out; have := Zg2.out; have := Z4.out; omega)
    replace HB := Lib.hid (Below.only HB.out ho (by have := Zh.out; have := Z1.out; have := Z2.out; have := Z3.out; have := Zg.out; have := Zg2.out; have := Z4.out; omega) HB.out.size)
    have Z5 : Hid (U5.heap.size = w4.heap.size) := Lib.hid (by rw [hU5]; simp [World.setCell]); clear ho
    have q_0 := HX2.look 0
    have q_1 := HX2.look 1
    have q_2 := HX2.look 2
    have q_3 := HX2.look 3
    have q_4 := HX2.look 4
    have q_5 := HX2.look 5
    subst hU5
    exact bodyPost_ret (v := .agg #[.int .i64 4, .int .i64 0, .bool false, .slice none 0 0, .bool false, .slice none 0 0]) (by simp [results, Try.results18, go_sem, q_0, q_1, q_2, q_3, q_4, q_5]) rfl ⟨none, 0, 0, none, 0, 0, by rw [HV.out.1, HV.out.2.1, HV.out.2.2.1, HV.out.2.2.2.2.1], by rw [HV.out.2.2.2.1, HV.out.2.2.2.2.2]; exact QK.kept (QK.nil _ _ _ _ _) (Nat.le_refl _), HB.out, Nat.le_refl _⟩
  · have HB := Lib.hid (Below.refl w.heap.size w)
    have HA := Rep.Sl.kept ha hh
    have Zh := Lib.hid hh
    have hy : ¬ ys = [] := fun e => hn0 (by rw [← hl, e]; rfl)
    have HR := Lib.hid h0
    have hq8 := qf_ok h0
    have hn8 : n ≤ 1000 := by have := hq8.2.2.1; omega
    have HV : Hid (ppC cap false ys = 0 ∧ ppX cap false ys = cap ∧ ppP ys = false ∧ ppU cap false ys = (ys.drop 1) ∧ ppT cap false ys = false ∧ ppZ cap false ys = (ys.take 1)) := Lib.hid (by refine ⟨?_, ?_, ?_, ?_, ?_, ?_⟩ <;> simp [ppC, ppX, ppP, ppU, ppT, ppZ, h0, hy])
    have hn1 : ((n : Int) == 0) = false := by rw [beq_eq_false_iff_ne]; omega
    have hpos : 1 ≤ n := by omega
    clear h0 hq8 hy hn0
    clear ha hl hh
    go_enter Try.func18, Try.ntmps18
    go_wp2_with fail
    refine Calls.name ?_
    intro U1 hU1
    have hb : Below w.heap.size w U1 := by rw [hU1]; exact (((Below.refl _ _).alloc (Nat.le_refl _) _).alloc (by simp <;> omega) _)
    have zz : Hid (w.heap.size + 2 = U1.heap.size) := Lib.hid (by rw [hU1]; simp)
    have HX1 : Kept w.heap.size (w.heap.size + 1) (BoxK w.heap.size 26 #[.int .i64 cap, .bool false, .slice A n c]) U1 := by rw [hU1]; exact Kept.box ((Box.made_at _ _ _ rfl).over _)
    have HX2 : Kept (w.heap.size + 1) (w.heap.size + 1 + 1) (BoxK (w.heap.size + 1) 30 #[.int .i64 0, .int .i64 0, .bool false, .slice none 0 0, .bool false, .slice none 0 0]) U1 := by rw [hU1]; exact Kept.box (Box.made_at _ _ _ (by simp <;> omega))
    replace HA := HA.below hb
    replace HB := Lib.hid (below_step HB.out hb)
    clear hb
    have Z1 := zz; clear zz
    clear hU1
    refine (queueFault_any cap false q lo hi A n c ys _ HA.sl HA.le hn hc).mono ?_
    rw [HR.out]
    rintro e w2 ⟨rfl, hb⟩
    have Z2 := Lib.hid hb.size
    replace HA := HA.below hb
    replace HX1 := HX1.below hb
    replace HX2 := HX2.below hb
    replace HB := Lib.hid (below_step HB.out hb)
    clear hb
    have c2_0 := HX1.look 0
    have c2_1 := HX1.look 1
    have c2_2 := HX1.look 2
    have l2_0 := HX1.bx.lt
    have l2_1 := HX2.bx.lt
    go_wp2_with fail
    clear c2_0 c2_1 c2_2 l2_0 l2_1
    refine (backlogOf_any cap false q lo hi A n c ys _ HA.sl HA.le hn8).mono ?_
    rintro e w3 ⟨g, E0, d0, rfl, hg, ho, hle, hb⟩
    have Z3 := Lib.hid hb.size
    replace HA := HA.below hb
    replace HX1 := HX1.below hb
    replace HX2 := HX2.below hb
    replace HB := Lib.hid (below_step HB.out hb)
    clear hb
    have HG := hg; have HO := ho; have Zg := Lib.hid hle; clear hg ho hle
    have Zg2 := Lib.hid HG.le
    have l3_0 := HX1.bx.lt
    have l3_1 := HX2.bx.lt
    have l3_2 := HG.bx.lt
    go_wp2_with fail
    clear l3_0 l3_1 l3_2
    refine (takeMark_any cap false g E0 n d0 _ HG.bx).mono ?_
    rintro e w4 ⟨rfl, hx, ho⟩
    have Z4 := Lib.hid ho.size
    replace HA := HA.only ho (by have := Zh.out; have := Z1.out; have := Z2.out; have := Z3.out; have := Zg.out; have := Zg2.out; have := Z4.out; omega)
    replace HX1 := HX1.only ho (by have := Zh.out; have := Z1.out; have := Z2.out; have := Z3.out; have := Zg.out; have := Zg2.out; have := Z4.out; omega)
    replace HX2 := HX2.only ho (by have := Zh.out; have := Z1.out; have := Z2.out; have := Z3.out; have := Zg.out; have := Zg2.out; have := Z4.out; omega)
    replace HO := HO.only ho (by have := Zh.out; have := Z1.out; have := Z2.out; have := Z3.out; have := Zg.out; have := Zg2.out; have := Z4.out; omega)
    replace HB := Lib.hid (Below.only HB.out ho (by have := Zh.out; have := Z1.out; have := Z2.out; have := Z3.out; have := Zg.out; have := Zg2.out; have := Z4.out; omega) HB.out.size)
    clear ho
    replace HG := Kept.box hx; clear hx
    have c4_0 := HG.look 2
    have l4_0 := HX1.bx.lt
    have l4_1 := HX2.bx.lt
    have l4_2 := HG.bx.lt
    go_wp2_with fail
    clear c4_0 l4_0 l4_1 l4_2
    have hlim := HO.lim
    refine (take_any cap false g (w2.heap.size) E0 n d0 (1) ys _ HG.bx HO.ownF (by omega) hn8 (by have := Zh.out; have := Z1.out; have := Z2.out; have := Z3.out; have := Zg.out; have := Zg2.out; have := Z4.out; omega) (by have := HG.le; have := Zh.out; have := Z1.out; have := Z2.out; have := Z3.out; have := Zg.out; have := Zg2.out; have := Z4.out; omega)).mono ?_
    rintro e w5 ⟨E, d, rfl, he, hx, ho2, hbb⟩
    have ho := Below.only_from hbb
    have Z5 := Lib.hid ho.size
    replace HA := HA.only ho (by have := Zh.out; have := Z1.out; have := Z2.out; have := Z3.out; have := Zg.out; have := Zg2.out; have := Z4.out; have := Z5.out; omega)
    replace HX1 := HX1.only ho (by have := Zh.out; have := Z1.out; have := Z2.out; have := Z3.out; have := Zg.out; have := Zg2.out; have := Z4.out; have := Z5.out; omega)
    replace HX2 := HX2.only ho (by have := Zh.out; have := Z1.out; have := Z2.out; have := Z3.out; have := Zg.out; have := Zg2.out; have := Z4.out; have := Z5.out; omega)
    replace HB := Lib.hid (Below.only HB.out ho (by have := Zh.out; have := Z1.out; have := Z2.out; have := Z3.out; have := Zg.out; have := Zg2.out; have := Z4.out; have := Z5.out; omega) HB.out.size)
    clear ho hbb
    have HG := Kept.box hx; have HO := ho2.keptTo hlim (Nat.le_of_lt hx.lt); have HE := he.kept rfl; clear hx ho2 he hlim
    have l5_0 := HX1.bx.lt
    have l5_1 := HX2.bx.lt
    have l5_2 := HG.bx.lt
    go_wp2_with fail
    clear l5_0 l5_1 l5_2
    refine (queueOf_any cap false g E0 (n - 1) d0 _ HG.bx).mono ?_
    rintro e w6 ⟨rfl, hb⟩
    have Z6 := Lib.hid hb.size
    replace HA := HA.below hb
    replace HX1 := HX1.below hb
    replace HX2 := HX2.below hb
    replace HG := HG.below hb
    replace HO := HO.below hb
    replace HE := HE.below hb
    replace HB := Lib.hid (below_step HB.out hb)
    clear hb
    have c6_0 := HX2.look 0
    have c6_1 := HX2.look 1
    have c6_2 := HX2.look 2
    have c6_3 := HX2.look 3
    have c6_4 := HX2.look 4
    have c6_5 := HX2.look 5
    have f6_0 := HX2.free 0
    have f6_1 := HX2.free 1
    have f6_2 := HX2.free 2
    have f6_3 := HX2.free 3
    have f6_4 := HX2.free 4
    have f6_5 := HX2.free 5
    have l6_0 := HX1.bx.lt
    have l6_1 := HX2.bx.lt
    have l6_2 := HG.bx.lt
    go_wp2
    clear c6_0 c6_1 c6_2 c6_3 c6_4 c6_5 f6_0 f6_1 f6_2 f6_3 f6_4 f6_5 l6_0 l6_1 l6_2
    obtain ⟨U7, hU7⟩ : ∃ W : World, W = ((((((w6.setCell ⟨w.heap.size + 1, 0, none⟩ (.int .i64 0)).setCell ⟨w.heap.size + 1, 1, none⟩ (.int .i64 cap)).setCell ⟨w.heap.size + 1, 2, none⟩ (.bool false)).setCell ⟨w.heap.size + 1, 3, none⟩ (.slice E0 (n - 1) d0)).setCell ⟨w.heap.size + 1, 4, none⟩ (.bool false)).setCell ⟨w.heap.size + 1, 5, none⟩ (.slice E 1 d)) := ⟨_, rfl⟩
    have ho : Only (w.heap.size + 1) (w.heap.size + 1 + 1) w6 U7 := by rw [hU7]; exact (((((((Only.refl _ _ _).set (p := ⟨w.heap.size + 1, 0, none⟩) (Nat.le_refl _) (Nat.lt_succ_self _) _).set (p := ⟨w.heap.size + 1, 1, none⟩) (Nat.le_refl _) (Nat.lt_succ_self _) _).set (p := ⟨w.heap.size + 1, 2, none⟩) (Nat.le_refl _) (Nat.lt_succ_self _) _).set (p := ⟨w.heap.size + 1, 3, none⟩) (Nat.le_refl _) (Nat.lt_succ_self _) _).set (p := ⟨w.heap.size + 1, 4, none⟩) (Nat.le_refl _) (Nat.lt_succ_self _) _).set (p := ⟨w.heap.size + 1, 5, none⟩) (Nat.le_refl _) (Nat.lt_succ_self _) _)
    replace HX2 : Kept (w.heap.size + 1) (w.heap.size + 1 + 1) (BoxK (w.heap.size + 1) 30 #[.int .i64 0, .int .i64 cap, .bool false, .slice E0 (n - 1) d0, .bool false, .slice E 1 d]) U7 := by rw [hU7]; exact Kept.box ((((((HX2.bx.puts 0 (.int .i64 0) (cs' := #[.int .i64 0, .int .i64 0, .bool false, .slice none 0 0, .bool false, .slice none 0 0]) rfl).puts 1 (.int .i64 cap) (cs' := #[.int .i64 0, .int .i64 cap, .bool false, .slice none 0 0, .bool false, .slice none 0 0]) rfl).puts 2 (.bool false) (cs' := #[.int .i64 0, .int .i64 cap, .bool false, .slice none 0 0, .bool false, .slice none 0 0]) rfl).puts 3 (.slice E0 (n - 1) d0) (cs' := #[.int .i64 0, .int .i64 cap, .bool false, .slice E0 (n - 1) d0, .bool false, .slice none 0 0]) rfl).puts 4 (.bool false) (cs' := #[.int .i64 0, .int .i64 cap, .bool false, .slice E0 (n - 1) d0, .bool false, .slice none 0 0]) rfl).puts 5 (.slice E 1 d) (cs' := #[.int .i64 0, .int .i64 cap, .bool false, .slice E0 (n - 1) d0, .bool false, .slice E 1 d]) rfl)
    replace HA := HA.only ho (by have := Zh.out; have := Z1.out; have := Z2.out; have := Z3.out; have := Zg.out; have := Zg2.out; have := Z4.out; have := Z5.out; have := Z6.out; omega)
    replace HX1 := HX1.only ho (by have := Zh.out; have := Z1.out; have := Z2.out; have := Z3.out; have := Zg.out; have := Zg2.out; have := Z4.out; have := Z5.out; have := Z6.out; omega)
    replace HG := HG.only ho (by have := Zh.out; have := Z1.out; have := Z2.out; have := Z3.out; have := Zg.out; have := Zg2.out; have := Z4.out; have := Z5.out; have := Z6.out; omega)
    replace HO := HO.only ho (by have := Zh.out; have := Z1.out; have := Z2.out; have := Z3.out; have := Zg.out; have := Zg2.out; have := Z4.out; have := Z5.out; have := Z6.out; omega)
    replace HE := HE.only ho (by have := Zh.out; have := Z1.out; have := Z2.out; have := Z3.out; have := Zg.out; have := Zg2.out; have := Z4.out; have := Z5.out; have := Z6.out; omega)
    replace HB := Lib.hid (Below.only HB.out ho (by have := Zh.out; have := Z1.out; have := Z2.out; have := Z3.out; have := Zg.out; have := Zg2.out; have := Z4.out; have := Z5.out; have := Z6.out; omega) HB.out.size)
    have Z7 : Hid (U7.heap.size = w6.heap.size) := Lib.hid (by rw [hU7]; simp [World.setCell]); clear ho
    have q_0 := HX2.look 0
    have q_1 := HX2.look 1
    have q_2 := HX2.look 2
    have q_3 := HX2.look 3
    have q_4 := HX2.look 4
    have q_5 := HX2.look 5
    subst hU7
    exact bodyPost_ret (v := .agg #[.int .i64 0, .int .i64 cap, .bool false, .slice E0 (n - 1) d0, .bool false, .slice E 1 d]) (by simp [results, Try.results18, go_sem, q_0, q_1, q_2, q_3, q_4, q_5]) rfl ⟨E0, n - 1, d0, E, 1, d, by rw [HV.out.1, HV.out.2.1, HV.out.2.2.1, HV.out.2.2.2.2.1], by rw [HV.out.2.2.2.1, HV.out.2.2.2.2.2]; exact QK.kept (QK.of_own (HO.ownF.mono (by have := Zh.out; have := Z1.out; have := Z2.out; have := Z3.out; have := Zg.out; have := Zg2.out; have := Z4.out; have := Z5.out; have := Z6.out; have := Z7.out; omega)) (HE.ownF.mono (by have := Zh.out; have := Z1.out; have := Z2.out; have := Z3.out; have := Zg.out; have := Zg2.out; have := Z4.out; have := Z5.out; have := Z6.out; have := Z7.out; omega)) (fun r h1 h2 => by have := HO.lim r h1; have := (HE.ownF.block r h2).1; have := Zh.out; have := Z1.out; have := Z2.out; have := Z3.out; have := Zg.out; have := Zg2.out; have := Z4.out; have := Z5.out; have := Z6.out; have := Z7.out; omega)) (Nat.le_refl _), HB.out, OwnF.room HO.ownF⟩


end Go.Proofs.Ytomkgohhfllpgaa

namespace Go.Proofs.Ytomkgohhfllpgaa
open Go.RowKit
set_option linter.unusedVariables false

attribute [local go_sem high] neq_item
set_option maxHeartbeats 1600000 in
theorem lwItems_yes (q1 q2 : Bool) (l1 h1 l2 h2 : Nat) (A B : Option Addr) (n c d : Nat) (ys : List Tmr) (w : World) (ha : Rep.timer.Sl q1 l1 h1 w A n ys) (hb : Rep.timer.Sl q2 l2 h2 w B n ys) (hh1 : h1 ≤ w.heap.size) (hh2 : h2 ≤ w.heap.size) (hn : n ≤ 1048576) :
    Calls Try.prog 25 #[.slice A n c, .slice B n d] w fun e w' => e = .returned (.bool true) ∧ Below w.heap.size w w' := by
  go_enter Try.func25, Try.ntmps25
  go_wp2
  go_loopw [5] (fun i wr => ∃ k : Nat, k ≤ n ∧ i = .int .i64 k ∧ Hid (Below w.heap.size w wr)) (fun i _ => n - (intOf i).toNat)
  case atStart => exact ⟨0, Nat.zero_le _, rfl, Below.refl _ _⟩
  case round =>
    obtain ⟨k, hk, rfl, HB⟩ := hrel
    by_cases hlt : k < n
    · obtain ⟨b, o, a, rfl, hya, a0, a1, a2, a3⟩ := Rep.timer_at (ha.below HB.out hh1) hlt
      obtain ⟨b', o', a', rfl, hya', b0, b1, b2, b3⟩ := Rep.timer_at (hb.below HB.out hh2) hlt
      obtain rfl : a' = a := by rw [hya] at hya'; injection hya' with e; exact e.symm
      have hlt' : (k : Int) < n := by omega
      have hself : tmrB a' a' = true := by simp [tmrB]
      clear hya hya'
      go_wp2
      go_quiet (fail)
      go_wp2
      go_roundw
      case rel => exact ⟨k + 1, by omega, by go_num, Lib.hid (below_drewN HB.out _)⟩
      case measure => simp [intOf]; omega
    · go_wp2
      go_ret
      exact ⟨rfl, HB.out⟩

end Go.Proofs.Ytomkgohhfllpgaa

namespace Go.Proofs.Ytomkgohhfllpgaa
open Go.RowKit
set_option linter.unusedVariables false

set_option maxRecDepth 100000 in
set_option maxHeartbeats 3200000 in
theorem specDrainQueue_any (cap : Int) (mk : Bool) (q : Bool) (lo hi : Nat) (A : Option Addr) (n c : Nat) (ys : List Tmr) (w : World) (ha : Rep.timer.Sl q lo hi w A n ys) (hh : hi ≤ w.heap.size) (hn : n ≤ 1048576) :
    Calls Try.prog 33 #[.agg #[.int .i64 cap, .bool mk, .slice A n c]] w fun e w' => ∃ O j k E m d, e = .returned (.agg #[.int .i64 (qf cap ys), .int .i64 (dqX cap ys), .bool (ppP ys), .slice O j k, .bool (dqT cap mk ys), .slice E m d]) ∧ Kept w.heap.size w'.heap.size (QK w.heap.size w'.heap.size O j (dqU ys) E m (dqZ cap ys)) w' ∧ Below w.heap.size w w' := by
  have hl := ha.1
  by_cases h0 : ¬ qf cap ys = 0
  · have HB := Lib.hid (Below.refl w.heap.size w)
    have HA := Rep.Sl.kept ha hh
    have Zh := Lib.hid hh
    obtain ⟨r, hr⟩ : ∃ z, qf cap ys = z := ⟨_, rfl⟩
    have HR := Lib.hid hr
    have h0r : ¬ r = 0 := by rw [← hr]; exact h0
    have hr0 : (r != 0) = true := by simpa using h0r
    have HV : Hid (qf cap ys = r ∧ dqX cap ys = 0 ∧ ppP ys = false ∧ dqU ys = [] ∧ dqT cap mk ys = false ∧ dqZ cap ys = []) := Lib.hid (by refine ⟨?_, ?_, ?_, ?_, ?_, ?_⟩ <;> simp [dqT, dqU, dqX, dqZ, ppP, hr, h0r])
    clear h0 hr h0r
    clear ha hl hh
    go_enter Try.func33, Try.ntmps33
    go_wp2_with fail
    refine Calls.name ?_
    intro U1 hU1
    have hb : Below w.heap.size w U1 := by rw [hU1]; exact (((Below.refl _ _).alloc (Nat.le_refl _) _).alloc (by simp <;> omega) _)
    have zz : Hid (w.heap.size + 2 = U1.heap.size) := Lib.hid (by rw [hU1]; simp)
    have HX1 : Kept w.heap.size (w.heap.size + 1) (BoxK w.heap.size 26 #[.int .i64 cap, .bool mk, .slice A n c]) U1 := by rw [hU1]; exact Kept.box ((Box.made_at _ _ _ rfl).over _)
    have HX2 : Kept (w.heap.size + 1) (w.heap.size + 1 + 1) (BoxK (w.heap.size + 1) 30 #[.int .i64 0, .int .i64 0, .bool false, .slice none 0 0, .bool false, .slice none 0 0]) U1 := by rw [hU1]; exact Kept.box (Box.made_at _ _ _ (by simp <;> omega))
    replace HA := HA.below hb
    replace HB := Lib.hid (below_step HB.out hb)
    clear hb
    have Z1 := zz; clear zz
    clear hU1
    refine (specQueueFault_any cap mk q lo hi A n c ys _ HA.sl HA.le hn).mono ?_
    rw [HR.out]
    rintro e w2 ⟨rfl, hb⟩
    have Z2 := Lib.hid hb.size
    replace HA := HA.below hb
    replace HX1 := HX1.below hb
    replace HX2 := HX2.below hb
    replace HB := Lib.hid (below_step HB.out hb)
    clear hb
    have c2_0 := HX2.look 0
    have c2_1 := HX2.look 1
    have c2_2 := HX2.look 2
    have c2_3 := HX2.look 3
    have c2_4 := HX2.look 4
    have c2_5 := HX2.look 5
    have f2_0 := HX2.free 0
    have f2_1 := HX2.free 1
    have f2_2 := HX2.free 2
    have f2_3 := HX2.free 3
    have f2_4 := HX2.free 4
    have f2_5 := HX2.free 5
    have l2_0 := HX1.bx.lt
    have l2_1 := HX2.bx.lt
    go_wp2
    clear c2_0 c2_1 c2_2 c2_3 c2_4 c2_5 f2_0 f2_1 f2_2 f2_3 f2_4 f2_5 l2_0 l2_1
    obtain ⟨U3, hU3⟩ : ∃ W : World, W = ((((((w2.setCell ⟨w.heap.size + 1, 0, none⟩ (.int .i64 r)).setCell ⟨w.heap.size + 1, 1, none⟩ (.int .i64 0)).setCell ⟨w.heap.size + 1, 2, none⟩ (.bool false)).setCell ⟨w.heap.size + 1, 3, none⟩ (.slice none 0 0)).setCell ⟨w.heap.size + 1, 4, none⟩ (.bool false)).setCell ⟨w.heap.size + 1, 5, none⟩ (.slice none 0 0)) := ⟨_, rfl⟩
    have ho : Only (w.heap.size + 1) (w.heap.size + 1 + 1) w2 U3 := by rw [hU3]; exact (((((((Only.refl _ _ _).set (p := ⟨w.heap.size + 1, 0, none⟩) (Nat.le_refl _) (Nat.lt_succ_self _) _).set (p := ⟨w.heap.size + 1, 1, none⟩) (Nat.le_refl _) (Nat.lt_succ_self _) _).set (p := ⟨w.heap.size + 1, 2, none⟩) (Nat.le_refl _) (Nat.lt_succ_self _) _).set (p := ⟨w.heap.size + 1, 3, none⟩) (Nat.le_refl _) (Nat.lt_succ_self _) _).set (p := ⟨w.heap.size + 1, 4, none⟩) (Nat.le_refl _) (Nat.lt_succ_self _) _).set (p := ⟨w.heap.size + 1, 5, none⟩) (Nat.le_refl _) (Nat.lt_succ_self _) _)
    replace HX2 : Kept (w.heap.size + 1) (w.heap.size + 1 + 1) (BoxK (w.heap.size + 1) 30 #[.int .i64 r, .int .i64 0, .bool false, .slice none 0 0, .bool false, .slice none 0 0]) U3 := by rw [hU3]; exact Kept.box ((((((HX2.bx.puts 0 (.int .i64 r) (cs' := #[.int .i64 r, .int .i64 0, .bool false, .slice none 0 0, .bool false, .slice none 0 0]) rfl).puts 1 (.int .i64 0) (cs' := #[.int .i64 r, .int .i64 0, .bool false, .slice none 0 0, .bool false, .slice none 0 0]) rfl).puts 2 (.bool false) (cs' := #[.int .i64 r, .int .i64 0, .bool false, .slice none 0 0, .bool false, .slice none 0 0]) rfl).puts 3 (.slice none 0 0) (cs' := #[.int .i64 r, .int .i64 0, .bool false, .slice none 0 0, .bool false, .slice none 0 0]) rfl).puts 4 (.bool false) (cs' := #[.int .i64 r, .int .i64 0, .bool false, .slice none 0 0, .bool false, .slice none 0 0]) rfl).puts 5 (.slice none 0 0) (cs' := #[.int .i64 r, .int .i64 0, .bool false, .slice none 0 0, .bool false, .slice none 0 0]) rfl)
    replace HA := HA.only ho (by have := Zh.out; have := Z1.out; have := Z2.out; omega)
    replace HX1 := HX1.only ho (by have := Zh.out; have := Z1.out; have := Z2.out; omega)
    replace HB := Lib.hid (Below.only HB.out ho (by have := Zh.out; have := Z1.out; have := Z2.out; omega) HB.out.size)
    have Z3 : Hid (U3.heap.size = w2.heap.size) := Lib.hid (by rw [hU3]; simp [World.setCell]); clear ho
    have q_0 := HX2.look 0
    have q_1 := HX2.look 1
    have q_2 := HX2.look 2
    have q_3 := HX2.look 3
    have q_4 := HX2.look 4
    have q_5 := HX2.look 5
    subst hU3
    exact bodyPost_ret (v := .agg #[.int .i64 r, .int .i64 0, .bool false, .slice none 0 0, .bool false, .slice none 0 0]) (by simp [results, Try.results33, go_sem, q_0, q_1, q_2, q_3, q_4, q_5]) rfl ⟨none, 0, 0, none, 0, 0, by rw [HV.out.1, HV.out.2.1, HV.out.2.2.1, HV.out.2.2.2.2.1], by rw [HV.out.2.2.2.1, HV.out.2.2.2.2.2]; exact QK.kept (QK.nil _ _ _ _ _) (Nat.le_refl _), HB.out⟩
  have h0 : qf cap ys = 0 := Classical.byContradiction h0
  · have HB := Lib.hid (Below.refl w.heap.size w)
    have HA := Rep.Sl.kept ha hh
    have Zh := Lib.hid hh
    have HR := Lib.hid h0
    have hq8 := qf_ok h0
    have hn8 : n ≤ 1000 := by have := hq8.2.2.1; omega
    have HV : Hid (qf cap ys = 0 ∧ dqX cap ys = cap ∧ ppP ys = false ∧ dqU ys = [] ∧ dqT cap mk ys = mk ∧ dqZ cap ys = ys) := Lib.hid (by refine ⟨?_, ?_, ?_, ?_, ?_, ?_⟩ <;> simp [dqX, ppP, dqU, dqT, dqZ, h0])
    clear h0 hq8
    clear ha hl hh
    go_enter Try.func33, Try.ntmps33
    go_wp2_with fail
    refine Calls.name ?_
    intro U1 hU1
    have hb : Below w.heap.size w U1 := by rw [hU1]; exact (((Below.refl _ _).alloc (Nat.le_refl _) _).alloc (by simp <;> omega) _)
    have zz : Hid (w.heap.size + 2 = U1.heap.size) := Lib.hid (by rw [hU1]; simp)
    have HX1 : Kept w.heap.size (w.heap.size + 1) (BoxK w.heap.size 26 #[.int .i64 cap, .bool mk, .slice A n c]) U1 := by rw [hU1]; exact Kept.box ((Box.made_at _ _ _ rfl).over _)
    have HX2 : Kept (w.heap.size + 1) (w.heap.size + 1 + 1) (BoxK (w.heap.size + 1) 30 #[.int .i64 0, .int .i64 0, .bool false, .slice none 0 0, .bool false, .slice none 0 0]) U1 := by rw [hU1]; exact Kept.box (Box.made_at _ _ _ (by simp <;> omega))
    replace HA := HA.below hb
    replace HB := Lib.hid (below_step HB.out hb)
    clear hb
    have Z1 := zz; clear zz
    clear hU1
    refine (specQueueFault_any cap mk q lo hi A n c ys _ HA.sl HA.le hn).mono ?_
    rw [HR.out]
    rintro e w2 ⟨rfl, hb⟩
    have Z2 := Lib.hid hb.size
    replace HA := HA.below hb
    replace HX1 := HX1.below hb
    replace HX2 := HX2.below hb
    replace HB := Lib.hid (below_step HB.out hb)
    clear hb
    have l2_0 := HX1.bx.lt
    have l2_1 := HX2.bx.lt
    go_wp2_with fail
    clear l2_0 l2_1
    have hbE : Below w2.heap.size w2 (w2.alloc (.cells #[] 35)).drew := ((Below.refl _ _).alloc (Nat.le_refl _) _).drew
    have HBE := Lib.hid hbE
    have HIN : Hid (InF 4 tcell (w2.alloc (.cells #[] 35)).drew A n ys) := Lib.hid (Rep.timer_inF (HA.below hbE).sl)
    have HEM : Hid (OwnF 35 4 tcell (w2.alloc (.cells #[] 35)).drew w2.heap.size (some ⟨w2.heap.size, 0, none⟩) 0 0 []) := Lib.hid (emptyF 35 4 tcell w2)
    clear hbE
    have s0 := HX1.look 0
    have s1 := HX1.look 1
    have s2 := HX1.look 2
    have lHX2 := HX2.bx.lt
    have lHX1 := HX1.bx.lt
    go_region_law (first | ((show (if Region.wanted (Oper.mk (some 18) _ _ _ _ _) _ = true then _ else _)); refine step_appI0 tcell_len tcell_one Try.underlying24 itemInfo rfl (by decide) (by decide) (by rfl) (.tmp 15) (.tmp 17) (by rfl) (B := w2.heap.size) (by rfl) HEM.out (by rfl) HIN.out (by omega) HBE.out.size ?_; intro E d u1 ho hgr; have HO := Lib.hid ho; have HU : Hid (Below w2.heap.size w2 u1) := Lib.hid (HBE.out.grown hgr HBE.out.size (fun r hr => by injection hr with hr; exact Nat.le_of_eq hr)); have HR1 := HX2.below HU.out; have HG1 := HX1.below HU.out; have x0 := HR1.look 0; have y0 := HR1.free 0; have x1 := HR1.look 1; have y1 := HR1.free 1; have x2 := HR1.look 2; have y2 := HR1.free 2; have x3 := HR1.look 3; have y3 := HR1.free 3; have x4 := HR1.look 4; have y4 := HR1.free 4; have x5 := HR1.look 5; have y5 := HR1.free 5; have xl := HR1.bx.lt; have k0 := HG1.look 0; have k1 := HG1.look 1; have k2 := HG1.look 2; clear ho hgr))
    all_goals
      have HO2 : Hid (OwnF 35 4 tcell u1 w2.heap.size E n d ys) := Lib.hid (by have h := HO.out; rwa [Nat.zero_add, List.nil_append] at h)
      clear HO s0 s1 s2 k0 k1 k2 xl HR1 HG1 x0 y0 x1 y1 x2 y2 x3 y3 x4 y4 x5 y5
      clear lHX2
      clear lHX1
      have hb : Below w2.heap.size w2 u1 := HU.out
      have Z3 := Lib.hid hb.size
      replace HA := HA.below hb
      replace HX1 := HX1.below hb
      replace HX2 := HX2.below hb
      replace HB := Lib.hid (below_step HB.out hb)
      clear hb
      have HO := HO2.out.kept rfl
      have l3_0 := HX1.bx.lt
      have l3_1 := HX2.bx.lt
      go_wp2
      clear l3_0 l3_1
      obtain ⟨U3, hU3⟩ : ∃ W : World, W = ((((((u1.setCell ⟨w.heap.size + 1, 0, none⟩ (.int .i64 0)).setCell ⟨w.heap.size + 1, 1, none⟩ (.int .i64 cap)).setCell ⟨w.heap.size + 1, 2, none⟩ (.bool false)).setCell ⟨w.heap.size + 1, 3, none⟩ (.slice none 0 0)).setCell ⟨w.heap.size + 1, 4, none⟩ (.bool mk)).setCell ⟨w.heap.size + 1, 5, none⟩ (.slice E n d)) := ⟨_, rfl⟩
      have ho : Only (w.heap.size + 1) (w.heap.size + 1 + 1) u1 U3 := by rw [hU3]; exact (((((((Only.refl _ _ _).set (p := ⟨w.heap.size + 1, 0, none⟩) (Nat.le_refl _) (Nat.lt_succ_self _) _).set (p := ⟨w.heap.size + 1, 1, none⟩) (Nat.le_refl _) (Nat.lt_succ_self _) _).set (p := ⟨w.heap.size + 1, 2, none⟩) (Nat.le_refl _) (Nat.lt_succ_self _) _).set (p := ⟨w.heap.size + 1, 3, none⟩) (Nat.le_refl _) (Nat.lt_succ_self _) _).set (p := ⟨w.heap.size + 1, 4, none⟩) (Nat.le_refl _) (Nat.lt_succ_self _) _).set (p := ⟨w.heap.size + 1, 5, none⟩) (Nat.le_refl _) (Nat.lt_succ_self _) _)
      replace HX2 : Kept (w.heap.size + 1) (w.heap.size + 1 + 1) (BoxK (w.heap.size + 1) 30 #[.int .i64 0, .int .i64 cap, .bool false, .slice none 0 0, .bool mk, .slice E n d]) U3 := by rw [hU3]; exact Kept.box ((((((HX2.bx.puts 0 (.int .i64 0) (cs' := #[.int .i64 0, .int .i64 0, .bool false, .slice none 0 0, .bool false, .slice none 0 0]) rfl).puts 1 (.int .i64 cap) (cs' := #[.int .i64 0, .int .i64 cap, .bool false, .slice none 0 0, .bool false, .slice none 0 0]) rfl).puts 2 (.bool false) (cs' := #[.int .i64 0, .int .i64 cap, .bool false, .slice none 0 0, .bool false, .slice none 0 0]) rfl).puts 3 (.slice none 0 0) (cs' := #[.int .i64 0, .int .i64 cap, .bool false, .slice none 0 0, .bool false, .slice none 0 0]) rfl).puts 4 (.bool mk) (cs' := #[.int .i64 0, .int .i64 cap, .bool false, .slice none 0 0, .bool mk, .slice none 0 0]) rfl).puts 5 (.slice E n d) (cs' := #[.int .i64 0, .int .i64 cap, .bool false, .slice none 0 0, .bool mk, .slice E n d]) rfl)
      replace HA := HA.only ho (by have := Zh.out; have := Z1.out; have := Z2.out; have := Z3.out; omega)
      replace HX1 := HX1.only ho (by have := Zh.out; have := Z1.out; have := Z2.out; have := Z3.out; omega)
      replace HO := HO.only ho (by have := Zh.out; have := Z1.out; have := Z2.out; have := Z3.out; omega)
      replace HB := Lib.hid (Below.only HB.out ho (by have := Zh.out; have := Z1.out; have := Z2.out; have := Z3.out; omega) HB.out.size)
      have Z4 : Hid (U3.heap.size = u1.heap.size) := Lib.hid (by rw [hU3]; simp [World.setCell]); clear ho
      have q_0 := HX2.look 0
      have q_1 := HX2.look 1
      have q_2 := HX2.look 2
      have q_3 := HX2.look 3
      have q_4 := HX2.look 4
      have q_5 := HX2.look 5
      subst hU3
      exact bodyPost_ret (v := .agg #[.int .i64 0, .int .i64 cap, .bool false, .slice none 0 0, .bool mk, .slice E n d]) (by simp [results, Try.results33, go_sem, q_0, q_1, q_2, q_3, q_4, q_5]) rfl ⟨none, 0, 0, E, n, d, by rw [HV.out.1, HV.out.2.1, HV.out.2.2.1, HV.out.2.2.2.2.1], by rw [HV.out.2.2.2.1, HV.out.2.2.2.2.2]; exact QK.kept (QK.of_own (OwnF.nil_ _ _ _ _ _) (HO.ownF.mono (by have := Zh.out; have := Z1.out; have := Z2.out; have := Z3.out; have := Z4.out; omega)) (fun r h => by cases h)) (Nat.le_refl _), HB.out⟩

end Go.Proofs.Ytomkgohhfllpgaa

namespace Go.Proofs.Ytomkgohhfllpgaa
open Go.RowKit
set_option linter.unusedVariables false

theorem fieldQ0 (W : World) (r x : Int) (p t : Bool) (O E : Option Addr) (j k m d : Nat) : (Instr.field 30 (.agg #[.int .i64 r, .int .i64 x, .bool p, .slice O j k, .bool t, .slice E m d]) 0).run Try.prog W = .ok (.int .i64 r) W := by kernel_rfl
theorem fieldQ2 (W : World) (r x : Int) (p t : Bool) (O E : Option Addr) (j k m d : Nat) : (Instr.field 30 (.agg #[.int .i64 r, .int .i64 x, .bool p, .slice O j k, .bool t, .slice E m d]) 2).run Try.prog W = .ok (.bool t) W := by kernel_rfl
theorem fieldQ3 (W : World) (r x : Int) (p t : Bool) (O E : Option Addr) (j k m d : Nat) : (Instr.field 30 (.agg #[.int .i64 r, .int .i64 x, .bool p, .slice O j k, .bool t, .slice E m d]) 3).run Try.prog W = .ok (.slice E m d) W := by kernel_rfl
attribute [local go_sem high] fieldQ0 fieldQ2 fieldQ3
theorem lwItems_two (q1 q2 : Bool) (l1 h1 l2 h2 : Nat) (A B : Option Addr) (n c m d : Nat) (ys zs : List Tmr) (e : ys = zs) (w : World) (ha : Rep.timer.Sl q1 l1 h1 w A n ys) (hb : Rep.timer.Sl q2 l2 h2 w B m zs) (hh1 : h1 ≤ w.heap.size) (hh2 : h2 ≤ w.heap.size) (hn : n ≤ 1048576) :
    Calls Try.prog 25 #[.slice A n c, .slice B m d] w fun e w' => e = .returned (.bool true) ∧ Below w.heap.size w w' := by
  subst e
  have h1' := ha.1
  have h2' := hb.1
  obtain rfl : m = n := by omega
  exact lwItems_yes q1 q2 l1 h1 l2 h2 A B _ c d ys w ha hb hh1 hh2 hn
theorem Kept.grown_ne {F : World → Prop} {g : Nat} {w w' : World} {row : Option Nat} (h : Kept g (g + 1) F w) (hg : w.grownBy w' row) (hr : row ≠ some g) : Kept g (g + 1) F w' :=
  ⟨Nat.le_trans h.1 hg.size, fun w2 k => h.2 w2 fun b h1 h2 => (k b h1 h2).trans (hg.block b (by have := h.1; omega) (fun e => hr (by rw [← e, show b = g by omega])))⟩
theorem timer_inF {q : Bool} {lo hi : Nat} {w : World} {A : Option Addr} {n : Nat} {ys : List Tmr} (h : Rep.timer.Sl q lo hi w A n ys) : InF 4 tcell w A n ys := Rep.Sl.inF (r := Rep.timer) tcell_len (fun _ _ _ _ _ _ h => h) h
theorem qf_drop {cap : Int} {ys : List Tmr} {z : Tmr} (h : qf cap (z :: ys) = 0) : qf cap ys = 0 := by
  obtain ⟨h1, h2, h8, h3, h4, h5⟩ := qf_ok h
  have h2' : (ys.length : Int) ≤ cap := by simp at h2; omega
  have h3' : allIn 1 100000 (revs ys) = true := by simp [allIn, revs] at h3 ⊢; exact h3.2
  have h4' : ups (revs ys) := ups_pw.2 ((List.pairwise_cons.1 (ups_pw.1 h4)).2)
  have h5' : twinB ys = false := by simp [twinB] at h5; exact h5.2
  unfold qf
  rw [if_neg (fun hn => hn h1), if_neg (by omega), if_neg (by simp [h3']), if_neg (fun hn => hn h4'), if_neg (by simp [h5'])]

set_option maxRecDepth 100000 in
set_option maxHeartbeats 6400000 in
theorem law_Drains (A0 : Option Addr) (n0 c0 : Nat) (cs : List Int) (w : World) (ha : BIn w A0 n0 cs) (hb : Bytes cs) (hm : n0 ≤ maxLen) :
    Calls Try.prog 4 #[.slice A0 n0 c0] w fun e w' => e = .returned (.bool true) ∧ Below w.heap.size w w' := by
  unfold maxLen at hm
  by_cases hbig : 1048576 < n0
  · have h1 : (1048576 : Int) < n0 := by omega
    go_enter Try.func4, Try.ntmps4
    go_wp2
    go_ret
    exact ⟨rfl, Below.refl _ _⟩
  have hn : n0 ≤ 1048576 := by omega
  clear hm hbig
  have HB := Lib.hid (Below.refl w.heap.size w)
  have HD := ha.hold
  have HBY := Lib.hid hb
  clear ha hb
  go_enter Try.func4, Try.ntmps4
  go_wp2_with fail
  refine (lwBig_no A0 n0 c0 _ hn).mono ?_
  rintro e w1 ⟨rfl, rfl⟩
  go_wp2_with fail
  refine (drawDrain_any A0 n0 c0 cs _ HD.out HBY.out hn).mono ?_
  rintro e w2 ⟨cap, mk, E, m, d, ys, rfl, hos, hm16, hb⟩
  have Z1 := Lib.hid hb.size
  replace HD := HD.below hb
  replace HB := Lib.hid (below_step HB.out hb)
  clear hb
  have hmd := hos.ownF.room
  have HA := Rep.Sl.kept (own_items hos.ownF) (Nat.le_refl _); clear hos
  clear HD HBY
  obtain ⟨dr, hr⟩ : ∃ z, qf cap ys = z := ⟨_, rfl⟩
  have HRdr := Lib.hid hr; clear hr
  obtain ⟨dx, hr⟩ : ∃ z, dqX cap ys = z := ⟨_, rfl⟩
  have HRdx := Lib.hid hr; clear hr
  obtain ⟨dp, hr⟩ : ∃ z, ppP ys = z := ⟨_, rfl⟩
  have HRdp := Lib.hid hr; clear hr
  obtain ⟨du, hr⟩ : ∃ z, dqU ys = z := ⟨_, rfl⟩
  have HRdu := Lib.hid hr; clear hr
  obtain ⟨dt, hr⟩ : ∃ z, dqT cap mk ys = z := ⟨_, rfl⟩
  have HRdt := Lib.hid hr; clear hr
  obtain ⟨dz, hr⟩ : ∃ z, dqZ cap ys = z := ⟨_, rfl⟩
  have HRdz := Lib.hid hr; clear hr
  go_wp2_with fail
  refine Calls.name ?_
  intro U3 hU3
  have hb : Below w2.heap.size w2 U3 := by rw [hU3]; exact ((Below.refl _ _).alloc (Nat.le_refl _) _)
  have zz : Hid (w2.heap.size + 1 = U3.heap.size) := Lib.hid (by rw [hU3]; simp)
  have HX1 : Kept w2.heap.size (w2.heap.size + 1) (BoxK w2.heap.size 26 #[.int .i64 cap, .bool mk, .slice E m d]) U3 := by rw [hU3]; exact Kept.box (Box.made_at _ _ _ rfl)
  replace HA := HA.below hb
  replace HB := Lib.hid (below_step HB.out hb)
  clear hb
  have Z2 := zz; clear zz
  have Y1 := Lib.hid (And.intro Z1.out Z2.out); clear Z1 Z2
  clear hU3
  refine (drainQueue_any cap mk _ _ _ E m d ys _ HA.sl HA.le (by omega) hmd).mono ?_
  rw [HRdr.out, HRdx.out, HRdp.out, HRdu.out, HRdt.out, HRdz.out]
  rintro e w4 ⟨O0, j0, k0, E0, m0, d0, rfl, hk, hb⟩
  have Z3 := Lib.hid hb.size
  have Y2 := Lib.hid (And.intro Y1.out Z3.out); clear Y1 Z3
  replace HA := HA.below hb
  replace HX1 := HX1.below hb
  replace HB := Lib.hid (below_step HB.out hb)
  clear hb
  have HO := hk; clear hk
  have hm8 : dr = 0 → m ≤ 8 := fun e => by have := (qf_ok (HRdr.out.trans e)).2.2.1; have := HA.sl.1; omega
  have hj0 : j0 ≤ 1048576 := by have h := HO.q_list.1; rw [show du = [] from HRdu.out.symm] at h; simp at h; omega
  have hm0 : m0 ≤ 1048576 := by have := HO.q_items.1; have := (dq_bd cap ys).2; rw [HRdz.out] at this; omega
  have l4_0 := HX1.bx.lt
  go_wp2_with fail
  clear l4_0
  have hrr : (dr != dr) = false := by simp
  have htt : (dt != dt) = false := by simp
  refine Code.wp_name ?_
  intro U5 hU5
  have hb : Below w4.heap.size w4 U5 := by rw [hU5]; exact ((Below.refl _ _).alloc (Nat.le_refl _) _)
  have zz : Hid (w4.heap.size + 1 = U5.heap.size) := Lib.hid (by rw [hU5]; simp)
  have HX2 : Kept w4.heap.size (w4.heap.size + 1) (BoxK w4.heap.size 30 #[.int .i64 dr, .int .i64 dx, .bool dp, .slice O0 j0 k0, .bool dt, .slice E0 m0 d0]) U5 := by rw [hU5]; exact Kept.box (Box.made_at _ _ _ rfl)
  replace HA := HA.below hb
  replace HX1 := HX1.below hb
  replace HO := HO.below hb
  replace HB := Lib.hid (below_step HB.out hb)
  clear hb
  have Z4 := zz; clear zz
  have Y3 := Lib.hid (And.intro Y2.out Z4.out); clear Y2 Z4
  clear hU5
  have SB : Hid (∀ W, Hid (Below U5.heap.size U5 W) → (fun W => W.cell? ⟨w2.heap.size, 0, none⟩ = some (.int .i64 cap) ∧ W.cell? ⟨w2.heap.size, 1, none⟩ = some (.bool mk) ∧ W.cell? ⟨w2.heap.size, 2, none⟩ = some (.slice E m d) ∧ W.cell? ⟨w4.heap.size, 0, none⟩ = some (.int .i64 dr) ∧ W.cell? ⟨w4.heap.size, 1, none⟩ = some (.int .i64 dx) ∧ W.cell? ⟨w4.heap.size, 2, none⟩ = some (.bool dp) ∧ W.cell? ⟨w4.heap.size, 3, none⟩ = some (.slice O0 j0 k0) ∧ W.cell? ⟨w4.heap.size, 4, none⟩ = some (.bool dt) ∧ W.cell? ⟨w4.heap.size, 5, none⟩ = some (.slice E0 m0 d0)) W) := fun W h => ⟨(HX1.below h.out).look 0, (HX1.below h.out).look 1, (HX1.below h.out).look 2, (HX2.below h.out).look 0, (HX2.below h.out).look 1, (HX2.below h.out).look 2, (HX2.below h.out).look 3, (HX2.below h.out).look 4, (HX2.below h.out).look 5⟩
  have V0 : Hid (Below U5.heap.size U5 U5.drew) := (Below.refl _ _).drew
  go_region_held3 (fun W => W.cell? ⟨w2.heap.size, 0, none⟩ = some (.int .i64 cap) ∧ W.cell? ⟨w2.heap.size, 1, none⟩ = some (.bool mk) ∧ W.cell? ⟨w2.heap.size, 2, none⟩ = some (.slice E m d) ∧ W.cell? ⟨w4.heap.size, 0, none⟩ = some (.int .i64 dr) ∧ W.cell? ⟨w4.heap.size, 1, none⟩ = some (.int .i64 dx) ∧ W.cell? ⟨w4.heap.size, 2, none⟩ = some (.bool dp) ∧ W.cell? ⟨w4.heap.size, 3, none⟩ = some (.slice O0 j0 k0) ∧ W.cell? ⟨w4.heap.size, 4, none⟩ = some (.bool dt) ∧ W.cell? ⟨w4.heap.size, 5, none⟩ = some (.slice E0 m0 d0)) (exact SB.out _ (by assumption))
    (first | (go_at_call 33; ((with_reducible refine (specDrainQueue_any cap mk _ _ _ E m d ys _ (HA.below V0.out).sl (HA.below V0.out).le (by omega)).mono ?_); rw [HRdr.out, HRdx.out, HRdp.out, HRdu.out, HRdt.out, HRdz.out]; rintro e u1_0 ⟨O2, j2, k2, E2, m2, d2, rfl, hk, hb⟩; have V1 := Lib.hid (below_step V0.out hb); clear hb; clear hk)) | (go_at_call 33; ((with_reducible refine (specDrainQueue_any cap mk _ _ _ E m d ys _ (HA.below V1.out).sl (HA.below V1.out).le (by omega)).mono ?_); rw [HRdr.out, HRdx.out, HRdp.out, HRdu.out, HRdt.out, HRdz.out]; rintro e u1_1 ⟨O3, j3, k3, E3, m3, d3, rfl, hk, hb⟩; have V2 := Lib.hid (below_step V1.out hb); clear hb; clear hk)) | (go_at_call 33; ((with_reducible refine (specDrainQueue_any cap mk _ _ _ E m d ys _ (HA.below V2.out).sl (HA.below V2.out).le (by omega)).mono ?_); rw [HRdr.out, HRdx.out, HRdp.out, HRdu.out, HRdt.out, HRdz.out]; rintro e u1_2 ⟨O4, j4, k4, E4, m4, d4, rfl, hk, hb⟩; have V3 := Lib.hid (below_step V2.out hb); clear hb; have HS4 := hk; clear hk)) | (go_at_call 25; ((with_reducible refine (lwItems_two _ _ _ _ _ _ E0 E4 m0 d0 m4 d4 dz dz rfl _ (HO.below V3.out).q_items HS4.q_items (HO.below V3.out).le HS4.le hm0).mono ?_); rintro e u1_3 ⟨rfl, hb⟩; have V4 := Lib.hid (below_step V3.out hb); clear hb)))
  have hb := V4.out
  clear SB V0 V1 V2 V3 V4
  have Z5 := Lib.hid hb.size
  have Y4 := Lib.hid (And.intro Y3.out Z5.out); clear Y3 Z5
  replace HA := HA.below hb
  replace HX1 := HX1.below hb
  replace HO := HO.below hb
  replace HX2 := HX2.below hb
  replace HB := Lib.hid (below_step HB.out hb)
  clear hb
  clear HS4 hrr htt
  by_cases hr0 : ¬ dr = 0
  · have hr1 : (dr != 0) = true := by simpa using hr0
    have c5_0 := HX2.look 0
    have l5_0 := HX1.bx.lt
    have l5_1 := HX2.bx.lt
    go_wp2
    clear c5_0 l5_0 l5_1
    go_ret
    exact ⟨rfl, HB.out⟩
  have hr0 : dr = 0 := Classical.byContradiction hr0
  replace hm8 := hm8 hr0
  have hq := HRdr.out.trans hr0
  have e1 : cap = dx := by rw [← HRdx.out]; unfold dqX; rw [if_pos hq]
  have e2 : false = dp := HRdp.out
  have e3 : [] = du := HRdu.out
  have e4 : mk = dt := by rw [← HRdt.out]; unfold dqT; rw [if_pos hq]
  have e5 : ys = dz := by rw [← HRdz.out]; unfold dqZ; rw [if_pos hq]
  have e6 : 0 = dr := hr0.symm
  clear hr0 HRdr HRdx HRdp HRdu HRdt HRdz
  subst e1 e2 e3 e4 e5 e6
  have HQF := Lib.hid hq; clear hq
  have c5_0 := HX1.look 0
  have c5_1 := HX1.look 1
  have c5_2 := HX1.look 2
  have c5_3 := HX2.look 0
  have l5_0 := HX1.bx.lt
  have l5_1 := HX2.bx.lt
  go_wp2
  clear c5_0 c5_1 c5_2 c5_3 l5_0 l5_1
  refine Code.wp_name ?_
  intro U6 hU6
  have hb : Below u1_3.heap.size u1_3 U6 := by rw [hU6]; exact (((Below.refl _ _).alloc (Nat.le_refl _) _).alloc (by simp <;> omega) _)
  have zz : Hid (u1_3.heap.size + 2 = U6.heap.size) := Lib.hid (by rw [hU6]; simp)
  have HX3 : Kept u1_3.heap.size (u1_3.heap.size + 1) (BoxK u1_3.heap.size 35 #[]) U6 := by rw [hU6]; exact Kept.box ((Box.made_at _ _ _ rfl).over _)
  have HX4 : Kept (u1_3.heap.size + 1) (u1_3.heap.size + 1 + 1) (BoxK (u1_3.heap.size + 1) 26 #[.int .i64 cap, .bool mk, .slice E m d]) U6 := by rw [hU6]; exact Kept.box (Box.made_at _ _ _ (by simp <;> omega))
  replace HA := HA.below hb
  replace HX1 := HX1.below hb
  replace HO := HO.below hb
  replace HX2 := HX2.below hb
  replace HB := Lib.hid (below_step HB.out hb)
  clear hb
  have Z6 := zz; clear zz
  have Y5 := Lib.hid (And.intro Y4.out Z6.out); clear Y4 Z6
  clear hU6
  have hle8 : ys.length ≤ 8 := (qf_ok HQF.out).2.2.1
  have hal := HA.sl.1
  have HI0 := (OwnF.of_box0 (size := 4) (f := tcell) HX3.bx).kept (hi := U6.heap.size) rfl
  go_loopw [5, 6, 8] (fun t5 t6 t8 wr => ∃ (i : Int) (bq mk1 : Bool) (I : Option Addr) (n1 c1 : Nat) (its zs : List Tmr) (O : Option Addr) (n c : Nat) (q : Bool) (lo hi : Nat), t5 = .slice I n1 c1 ∧ t6 = .bool bq ∧ t8 = .int .i64 i ∧ Hid (its ++ zs = ys) ∧ Hid ((mk1 = true ∧ mk = true ∧ bq = false ∧ its = [] ∧ i = 0) ∨ (mk1 = false ∧ mk = bq ∧ 0 ≤ i ∧ i ≤ its.length + 1)) ∧ Hid (Below w1.heap.size w1 wr) ∧ Kept (u1_3.heap.size + 1) (u1_3.heap.size + 1 + 1) (BoxK (u1_3.heap.size + 1) 26 #[.int .i64 cap, .bool mk1, .slice O n c]) wr ∧ Kept u1_3.heap.size wr.heap.size (OwnFK 35 4 tcell (u1_3.heap.size) (wr.heap.size) I n1 c1 its) wr ∧ Kept lo hi (SlK Rep.timer q lo hi O n zs) wr ∧ Hid (n ≤ c) ∧ Kept w4.heap.size (w4.heap.size + 1) (BoxK w4.heap.size 30 #[.int .i64 0, .int .i64 cap, .bool false, .slice O0 j0 k0, .bool mk, .slice E0 m0 d0]) wr ∧ Kept U3.heap.size w4.heap.size (QK U3.heap.size w4.heap.size O0 j0 [] E0 m0 ys) wr ∧ Hid (U6.heap.size ≤ wr.heap.size) ∧ Hid (qf cap zs = 0)) (fun _ _ t8 _ => (12 - intOf t8).toNat)
  case atStart => exact ⟨0, false, mk, _, 0, 0, [], ys, E, m, d, true, _, _, rfl, rfl, rfl, Lib.hid rfl, Lib.hid (by cases mk <;> simp), HB, HX4, HI0, HA, Lib.hid hmd, HX2, HO, Lib.hid (Nat.le_refl _), HQF⟩
  case round =>
    clear HX1 HX2 HX3 HX4 HO HA HB HI0 HQF hmd
    obtain ⟨i, bq, mk1, I, n1, c1, its, zs, O, n, c, q, lo, hi, rfl, rfl, rfl, HAP, HC, HB, HX7, HI, HZ, HNC, HX2, HO, HZW, HQF⟩ := hrel
    have Y99 := Lib.hid (And.intro Y5.out HZW.out); clear Y5 HZW
    have hap := HAP.out
    have hapl : its.length + zs.length = ys.length := by rw [← hap, List.length_append]
    clear hap
    have hn1 := HI.ownF.1
    have hnz := HZ.sl.1
    rcases HC.out with hc | hc
    · obtain ⟨ea, eb, ec, ed, ee⟩ := hc
      subst ea eb ec ed ee
      have hi12 : (0 : Int) < 12 := by omega
      have HV0 : Hid (ppC cap true zs = 0) := Lib.hid (by unfold ppC; rw [if_pos HQF.out]; simp)
      have HV1 : Hid (ppX cap true zs = cap) := Lib.hid (by unfold ppX ppC; rw [if_pos HQF.out]; simp)
      have HV2 : Hid (ppT cap true zs = true) := Lib.hid (by unfold ppT; rw [if_pos HQF.out])
      have HV3 : Hid (ppU cap true zs = zs) := Lib.hid (by unfold ppU; rw [if_pos HQF.out]; simp)
      have HV4 : Hid (ppZ cap true zs = []) := Lib.hid (by unfold ppZ; rw [if_pos HQF.out]; simp)
      have HV5 : Hid (ppP zs = false) := Lib.hid rfl
      have c6_0 := HX7.look 0
      have c6_1 := HX7.look 1
      have c6_2 := HX7.look 2
      have l6_0 := HX2.bx.lt
      have l6_1 := HX7.bx.lt
      go_wp2_with fail
      clear c6_0 c6_1 c6_2 l6_0 l6_1
      refine (popItemR_any cap true q lo hi O n c zs _ HZ.sl HZ.le (by omega) HNC.out).mono ?_
      rw [HV0.out, HV1.out, HV2.out, HV3.out, HV4.out, HV5.out]
      rintro e w7 ⟨O2, j2, k2, E2, m2, d2, rfl, hk, hb, hjk⟩
      have Z7 := Lib.hid hb.size
      have Y6 := Lib.hid (And.intro Y99.out Z7.out); clear Y99 Z7
      replace HX2 := HX2.below hb
      replace HX7 := HX7.below hb
      replace HI := HI.below hb
      replace HZ := HZ.below hb
      replace HO := HO.below hb
      replace HB := Lib.hid (below_step HB.out hb)
      clear hb
      have HN := hk; clear hk
      have HJK := Lib.hid hjk; clear hjk HV0 HV1 HV2 HV3 HV4 HV5 HZ
      have hj2 : j2 ≤ 8 := by have h := HN.q_list.1; (try simp at h); omega
      have hm2 : m2 ≤ 1 := by have h := HN.q_items.1; (try simp at h); omega
      have l7_0 := HX2.bx.lt
      have l7_1 := HX7.bx.lt
      go_wp2_with (first | (at_builtin; refine wpList_name ?_; intro U8 hU8; have hb : Below w7.heap.size w7 U8 := (by rw [hU8]; exact ((Below.refl _ _).alloc (Nat.le_refl _) _)); have zz : Hid (w7.heap.size + 1 = U8.heap.size) := Lib.hid (by rw [hU8]; simp); have HX5 : Kept w7.heap.size (w7.heap.size + 1) (BoxK w7.heap.size 30 #[.int .i64 0, .int .i64 cap, .bool false, .slice O2 j2 k2, .bool true, .slice E2 m2 d2]) U8 := (by rw [hU8]; exact Kept.box (Box.made_at _ _ _ rfl)); replace HX2 := HX2.below hb; replace HX7 := HX7.below hb; replace HI := HI.below hb; replace HO := HO.below hb; replace HN := HN.below hb; replace HB := Lib.hid (below_step HB.out hb); clear hb; have Z8 := zz; clear zz; have Y7 := Lib.hid (And.intro Y6.out Z8.out); clear Y6 Z8; clear hU8; refine wpList_appF0 tcell_len tcell_one Try.underlying24 itemInfo rfl (by decide) (by decide) rfl (.tmp 79) (.tmp 81) rfl (B := u1_3.heap.size) rfl HI.ownF rfl (timer_inF HN.q_items) (by omega) (by have := Y7.out; omega) ?_; intro I2 c2 w9 ho hg; have hq : Only u1_3.heap.size wr.heap.size U8 w9 := Only.of_grown hg (fun r hr => by have := HI.ownF.block r hr; have := HI.lim r hr; omega); replace HX7 := Kept.grown_ne HX7 hg (OwnF.ne_box HI.ownF HX7.bx (by decide)); have Z9 := Lib.hid hq.size; have Y8 := Lib.hid (And.intro Y7.out Z9.out); clear Y7 Z9; clear HI; replace HX2 := HX2.only hq (by have := Y8.out; omega); skip; replace HO := HO.only hq (by have := Y8.out; omega); replace HN := HN.only hq (by have := Y8.out; omega); replace HX5 := HX5.only hq (by have := Y8.out; omega); replace HB := Lib.hid (Below.only HB.out hq (by have := Y8.out; omega) HB.out.size); clear hq hg; skip; have HI2 := ho.kept rfl; clear ho; have c8_0 := HX5.look 1; have c8_1 := HX5.look 2; have c8_2 := HX5.look 3; have c8_3 := HX7.look 0; have c8_4 := HX7.look 1; have c8_5 := HX7.look 2; have f8_0 := HX7.free 0; have f8_1 := HX7.free 1; have f8_2 := HX7.free 2; have l8_0 := HX2.bx.lt; have l8_1 := HX7.bx.lt; have l8_2 := HX5.bx.lt; have n8_0_0 : ¬ (u1_3.heap.size + 1) = w7.heap.size := (by have := Y8.out; omega); have m8_0_0 : ¬ w7.heap.size = (u1_3.heap.size + 1) := (by have := Y8.out; omega)))
      clear l7_0 l7_1 c8_0 c8_1 c8_2 c8_3 c8_4 c8_5 f8_0 f8_1 f8_2 l8_0 l8_1 l8_2 n8_0_0 m8_0_0
      have HIo := Lib.hid HI2.ownF; clear HI2
      obtain ⟨U10, hU10⟩ : ∃ W : World, W = (((w9.setCell ⟨u1_3.heap.size + 1, 0, none⟩ (.int .i64 cap)).setCell ⟨u1_3.heap.size + 1, 1, none⟩ (.bool false)).setCell ⟨u1_3.heap.size + 1, 2, none⟩ (.slice O2 j2 k2)) := ⟨_, rfl⟩
      have ho : Only (u1_3.heap.size + 1) (u1_3.heap.size + 1 + 1) w9 U10 := by rw [hU10]; exact ((((Only.refl _ _ _).set (p := ⟨u1_3.heap.size + 1, 0, none⟩) (Nat.le_refl _) (Nat.lt_succ_self _) _).set (p := ⟨u1_3.heap.size + 1, 1, none⟩) (Nat.le_refl _) (Nat.lt_succ_self _) _).set (p := ⟨u1_3.heap.size + 1, 2, none⟩) (Nat.le_refl _) (Nat.lt_succ_self _) _)
      have hOt := HIo.out.aside (Only.grown_ ho) (fun r hr e => by injection e with e; exact OwnF.ne_box HIo.out HX7.bx (by decide) (by rw [hr, e]))
      replace HIo := Lib.hid hOt; clear hOt
      replace HX7 : Kept (u1_3.heap.size + 1) (u1_3.heap.size + 1 + 1) (BoxK (u1_3.heap.size + 1) 26 #[.int .i64 cap, .bool false, .slice O2 j2 k2]) U10 := by rw [hU10]; exact Kept.box (((HX7.bx.puts 0 (.int .i64 cap) (cs' := #[.int .i64 cap, .bool true, .slice O n c]) rfl).puts 1 (.bool false) (cs' := #[.int .i64 cap, .bool false, .slice O n c]) rfl).puts 2 (.slice O2 j2 k2) (cs' := #[.int .i64 cap, .bool false, .slice O2 j2 k2]) rfl)
      replace HX2 := HX2.only ho (by have := Y8.out; omega)
      replace HO := HO.only ho (by have := Y8.out; omega)
      replace HN := HN.only ho (by have := Y8.out; omega)
      replace HX5 := HX5.only ho (by have := Y8.out; omega)
      replace HB := Lib.hid (Below.only HB.out ho (by have := Y8.out; omega) HB.out.size)
      have Z10 : Hid (U10.heap.size = w9.heap.size) := Lib.hid (by rw [hU10]; simp [World.setCell]); clear ho
      have Y9 := Lib.hid (And.intro Y8.out Z10.out); clear Y8 Z10
      have HNL := Rep.Sl.kept HN.q_list HN.le
      subst hU10
      go_roundw
      case rel => exact ⟨0 + 1, true, false, I2, _, c2, _, zs, O2, j2, k2, true, _, _, rfl, rfl, by go_num, Lib.hid (by have := HAP.out; simpa using this), Lib.hid (.inr ⟨rfl, rfl, by omega, by simp⟩), HB, HX7, HIo.out.kept rfl, HNL, HJK, HX2, HO, Lib.hid (by have := Y9.out; omega), HQF⟩
      case measure => simp [intOf] <;> omega
    · cases mk with
      | true =>
        obtain ⟨ea, eb, hi0, hi1⟩ := hc
        subst ea eb
        have hi12 : i < 12 := by omega
        rcases zs with _ | ⟨z, zr⟩
        · simp only [List.length_nil] at hnz hapl
          have hn8 : n ≤ 8 := by omega
          clear hnz
          have HV0 : Hid (ppC cap false ([]) = 4) := Lib.hid (by unfold ppC; rw [if_pos HQF.out]; simp)
          have HV1 : Hid (ppX cap false ([]) = 0) := Lib.hid (by unfold ppX ppC; rw [if_pos HQF.out]; simp)
          have HV2 : Hid (ppT cap false ([]) = false) := Lib.hid (by unfold ppT; rw [if_pos HQF.out])
          have HV3 : Hid (ppU cap false ([]) = []) := Lib.hid (by unfold ppU; rw [if_pos HQF.out]; simp)
          have HV4 : Hid (ppZ cap false ([]) = []) := Lib.hid (by unfold ppZ; rw [if_pos HQF.out]; simp)
          have HV5 : Hid (ppP ([]) = false) := Lib.hid rfl
          have c6_0 := HX7.look 0
          have c6_1 := HX7.look 1
          have c6_2 := HX7.look 2
          have l6_0 := HX2.bx.lt
          have l6_1 := HX7.bx.lt
          go_wp2_with fail
          clear c6_0 c6_1 c6_2 l6_0 l6_1
          refine (popItemR_any cap false q lo hi O n c ([]) _ HZ.sl HZ.le (by omega) HNC.out).mono ?_
          rw [HV0.out, HV1.out, HV2.out, HV3.out, HV4.out, HV5.out]
          rintro e w7 ⟨O2, j2, k2, E2, m2, d2, rfl, hk, hb, hjk⟩
          have Z7 := Lib.hid hb.size
          have Y6 := Lib.hid (And.intro Y99.out Z7.out); clear Y99 Z7
          replace HX2 := HX2.below hb
          replace HX7 := HX7.below hb
          replace HI := HI.below hb
          replace HZ := HZ.below hb
          replace HO := HO.below hb
          replace HB := Lib.hid (below_step HB.out hb)
          clear hb
          have HN := hk; clear hk
          have HJK := Lib.hid hjk; clear hjk HV0 HV1 HV2 HV3 HV4 HV5
          have hj2 : j2 ≤ 8 := by have h := HN.q_list.1; (try simp at h); omega
          have hm2 : m2 ≤ 1 := by have h := HN.q_items.1; (try simp at h); omega
          have hay := HAP.out
          rw [List.append_nil] at hay
          have c7_0 := HX2.look 4
          have c7_1 := HX2.look 5
          have l7_0 := HX2.bx.lt
          have l7_1 := HX7.bx.lt
          go_wp2_with fail
          clear c7_0 c7_1 l7_0 l7_1
          refine Calls.name ?_
          intro U8 hU8
          have hb : Below w7.heap.size w7 U8 := by rw [hU8]; exact ((Below.refl _ _).alloc (Nat.le_refl _) _)
          have zz : Hid (w7.heap.size + 1 = U8.heap.size) := Lib.hid (by rw [hU8]; simp)
          have HX5 : Kept w7.heap.size (w7.heap.size + 1) (BoxK w7.heap.size 30 #[.int .i64 4, .int .i64 0, .bool false, .slice O2 j2 k2, .bool false, .slice E2 m2 d2]) U8 := by rw [hU8]; exact Kept.box (Box.made_at _ _ _ rfl)
          replace HX2 := HX2.below hb
          replace HX7 := HX7.below hb
          replace HI := HI.below hb
          replace HZ := HZ.below hb
          replace HO := HO.below hb
          replace HN := HN.below hb
          replace HB := Lib.hid (below_step HB.out hb)
          clear hb
          have Z8 := zz; clear zz
          have Y7 := Lib.hid (And.intro Y6.out Z8.out); clear Y6 Z8
          clear hU8
          refine (lwItems_two _ _ _ _ _ _ I E0 n1 c1 m0 d0 its ys hay _ (own_items HI.ownF) HO.q_items (by have := Y7.out; omega) HO.le (by omega)).mono ?_
          rintro e w9 ⟨rfl, hb⟩
          have Z9 := Lib.hid hb.size
          have Y8 := Lib.hid (And.intro Y7.out Z9.out); clear Y7 Z9
          replace HX2 := HX2.below hb
          replace HX7 := HX7.below hb
          replace HI := HI.below hb
          replace HZ := HZ.below hb
          replace HO := HO.below hb
          replace HN := HN.below hb
          replace HX5 := HX5.below hb
          replace HB := Lib.hid (below_step HB.out hb)
          clear hb
          have c8_0 := HX2.look 1
          have c8_1 := HX2.look 2
          have c8_2 := HX2.look 3
          have c8_3 := HX7.look 0
          have c8_4 := HX7.look 1
          have c8_5 := HX7.look 2
          have l8_0 := HX2.bx.lt
          have l8_1 := HX7.bx.lt
          have l8_2 := HX5.bx.lt
          go_wp2_with fail
          clear c8_0 c8_1 c8_2 c8_3 c8_4 c8_5 l8_0 l8_1 l8_2
          refine (sameQueues_any cap cap false false _ _ _ _ _ _ O O0 n j0 c k0 [] [] true _ HZ.sl HO.q_list HZ.le HO.le (by omega) (by omega) (by simp)).mono ?_
          rintro e w10 ⟨rfl, hb⟩
          have Z10 := Lib.hid hb.size
          have Y9 := Lib.hid (And.intro Y8.out Z10.out); clear Y8 Z10
          replace HX2 := HX2.below hb
          replace HX7 := HX7.below hb
          replace HI := HI.below hb
          replace HZ := HZ.below hb
          replace HO := HO.below hb
          replace HN := HN.below hb
          replace HX5 := HX5.below hb
          replace HB := Lib.hid (below_step HB.out hb)
          clear hb
          have l9_0 := HX2.bx.lt
          have l9_1 := HX7.bx.lt
          have l9_2 := HX5.bx.lt
          go_wp2
          clear l9_0 l9_1 l9_2
          go_ret
          exact ⟨rfl, HB.out⟩
        · simp only [List.length_cons] at hnz hapl
          have HV0 : Hid (ppC cap false (z :: zr) = 0) := Lib.hid (by unfold ppC; rw [if_pos HQF.out]; simp)
          have HV1 : Hid (ppX cap false (z :: zr) = cap) := Lib.hid (by unfold ppX ppC; rw [if_pos HQF.out]; simp)
          have HV2 : Hid (ppT cap false (z :: zr) = false) := Lib.hid (by unfold ppT; rw [if_pos HQF.out])
          have HV3 : Hid (ppU cap false (z :: zr) = zr) := Lib.hid (by unfold ppU; rw [if_pos HQF.out]; simp)
          have HV4 : Hid (ppZ cap false (z :: zr) = [z]) := Lib.hid (by unfold ppZ; rw [if_pos HQF.out]; simp)
          have HV5 : Hid (ppP (z :: zr) = false) := Lib.hid rfl
          have c6_0 := HX7.look 0
          have c6_1 := HX7.look 1
          have c6_2 := HX7.look 2
          have l6_0 := HX2.bx.lt
          have l6_1 := HX7.bx.lt
          go_wp2_with fail
          clear c6_0 c6_1 c6_2 l6_0 l6_1
          refine (popItemR_any cap false q lo hi O n c (z :: zr) _ HZ.sl HZ.le (by omega) HNC.out).mono ?_
          rw [HV0.out, HV1.out, HV2.out, HV3.out, HV4.out, HV5.out]
          rintro e w7 ⟨O2, j2, k2, E2, m2, d2, rfl, hk, hb, hjk⟩
          have Z7 := Lib.hid hb.size
          have Y6 := Lib.hid (And.intro Y99.out Z7.out); clear Y99 Z7
          replace HX2 := HX2.below hb
          replace HX7 := HX7.below hb
          replace HI := HI.below hb
          replace HZ := HZ.below hb
          replace HO := HO.below hb
          replace HB := Lib.hid (below_step HB.out hb)
          clear hb
          have HN := hk; clear hk
          have HJK := Lib.hid hjk; clear hjk HV0 HV1 HV2 HV3 HV4 HV5 HZ
          have hj2 : j2 ≤ 8 := by have h := HN.q_list.1; (try simp at h); omega
          have hm2 : m2 ≤ 1 := by have h := HN.q_items.1; (try simp at h); omega
          have l7_0 := HX2.bx.lt
          have l7_1 := HX7.bx.lt
          go_wp2_with (first | (at_builtin; refine wpList_name ?_; intro U8 hU8; have hb : Below w7.heap.size w7 U8 := (by rw [hU8]; exact ((Below.refl _ _).alloc (Nat.le_refl _) _)); have zz : Hid (w7.heap.size + 1 = U8.heap.size) := Lib.hid (by rw [hU8]; simp); have HX5 : Kept w7.heap.size (w7.heap.size + 1) (BoxK w7.heap.size 30 #[.int .i64 0, .int .i64 cap, .bool false, .slice O2 j2 k2, .bool false, .slice E2 m2 d2]) U8 := (by rw [hU8]; exact Kept.box (Box.made_at _ _ _ rfl)); replace HX2 := HX2.below hb; replace HX7 := HX7.below hb; replace HI := HI.below hb; replace HO := HO.below hb; replace HN := HN.below hb; replace HB := Lib.hid (below_step HB.out hb); clear hb; have Z8 := zz; clear zz; have Y7 := Lib.hid (And.intro Y6.out Z8.out); clear Y6 Z8; clear hU8; refine wpList_appF0 tcell_len tcell_one Try.underlying24 itemInfo rfl (by decide) (by decide) rfl (.tmp 79) (.tmp 81) rfl (B := u1_3.heap.size) rfl HI.ownF rfl (timer_inF HN.q_items) (by omega) (by have := Y7.out; omega) ?_; intro I2 c2 w9 ho hg; have hq : Only u1_3.heap.size wr.heap.size U8 w9 := Only.of_grown hg (fun r hr => by have := HI.ownF.block r hr; have := HI.lim r hr; omega); replace HX7 := Kept.grown_ne HX7 hg (OwnF.ne_box HI.ownF HX7.bx (by decide)); have Z9 := Lib.hid hq.size; have Y8 := Lib.hid (And.intro Y7.out Z9.out); clear Y7 Z9; clear HI; replace HX2 := HX2.only hq (by have := Y8.out; omega); skip; replace HO := HO.only hq (by have := Y8.out; omega); replace HN := HN.only hq (by have := Y8.out; omega); replace HX5 := HX5.only hq (by have := Y8.out; omega); replace HB := Lib.hid (Below.only HB.out hq (by have := Y8.out; omega) HB.out.size); clear hq hg; skip; have HI2 := ho.kept rfl; clear ho; have c8_0 := HX5.look 1; have c8_1 := HX5.look 2; have c8_2 := HX5.look 3; have c8_3 := HX7.look 0; have c8_4 := HX7.look 1; have c8_5 := HX7.look 2; have f8_0 := HX7.free 0; have f8_1 := HX7.free 1; have f8_2 := HX7.free 2; have l8_0 := HX2.bx.lt; have l8_1 := HX7.bx.lt; have l8_2 := HX5.bx.lt; have n8_0_0 : ¬ (u1_3.heap.size + 1) = w7.heap.size := (by have := Y8.out; omega); have m8_0_0 : ¬ w7.heap.size = (u1_3.heap.size + 1) := (by have := Y8.out; omega)))
          clear l7_0 l7_1 c8_0 c8_1 c8_2 c8_3 c8_4 c8_5 f8_0 f8_1 f8_2 l8_0 l8_1 l8_2 n8_0_0 m8_0_0
          have HIo := Lib.hid HI2.ownF; clear HI2
          obtain ⟨U10, hU10⟩ : ∃ W : World, W = (((w9.setCell ⟨u1_3.heap.size + 1, 0, none⟩ (.int .i64 cap)).setCell ⟨u1_3.heap.size + 1, 1, none⟩ (.bool false)).setCell ⟨u1_3.heap.size + 1, 2, none⟩ (.slice O2 j2 k2)) := ⟨_, rfl⟩
          have ho : Only (u1_3.heap.size + 1) (u1_3.heap.size + 1 + 1) w9 U10 := by rw [hU10]; exact ((((Only.refl _ _ _).set (p := ⟨u1_3.heap.size + 1, 0, none⟩) (Nat.le_refl _) (Nat.lt_succ_self _) _).set (p := ⟨u1_3.heap.size + 1, 1, none⟩) (Nat.le_refl _) (Nat.lt_succ_self _) _).set (p := ⟨u1_3.heap.size + 1, 2, none⟩) (Nat.le_refl _) (Nat.lt_succ_self _) _)
          have hOt := HIo.out.aside (Only.grown_ ho) (fun r hr e => by injection e with e; exact OwnF.ne_box HIo.out HX7.bx (by decide) (by rw [hr, e]))
          replace HIo := Lib.hid hOt; clear hOt
          replace HX7 : Kept (u1_3.heap.size + 1) (u1_3.heap.size + 1 + 1) (BoxK (u1_3.heap.size + 1) 26 #[.int .i64 cap, .bool false, .slice O2 j2 k2]) U10 := by rw [hU10]; exact Kept.box (((HX7.bx.puts 0 (.int .i64 cap) (cs' := #[.int .i64 cap, .bool false, .slice O n c]) rfl).puts 1 (.bool false) (cs' := #[.int .i64 cap, .bool false, .slice O n c]) rfl).puts 2 (.slice O2 j2 k2) (cs' := #[.int .i64 cap, .bool false, .slice O2 j2 k2]) rfl)
          replace HX2 := HX2.only ho (by have := Y8.out; omega)
          replace HO := HO.only ho (by have := Y8.out; omega)
          replace HN := HN.only ho (by have := Y8.out; omega)
          replace HX5 := HX5.only ho (by have := Y8.out; omega)
          replace HB := Lib.hid (Below.only HB.out ho (by have := Y8.out; omega) HB.out.size)
          have Z10 : Hid (U10.heap.size = w9.heap.size) := Lib.hid (by rw [hU10]; simp [World.setCell]); clear ho
          have Y9 := Lib.hid (And.intro Y8.out Z10.out); clear Y8 Z10
          have HNL := Rep.Sl.kept HN.q_list HN.le
          subst hU10
          go_roundw
          case rel => exact ⟨i + 1, true, false, I2, _, c2, _, zr, O2, j2, k2, true, _, _, rfl, rfl, by go_num, Lib.hid (by rw [List.append_assoc]; exact HAP.out), Lib.hid (.inr ⟨rfl, rfl, by omega, by rw [List.length_append]; simp; omega⟩), HB, HX7, HIo.out.kept rfl, HNL, HJK, HX2, HO, Lib.hid (by have := Y9.out; omega), Lib.hid (qf_drop HQF.out)⟩
          case measure => simp [intOf] <;> omega
      | false =>
        obtain ⟨ea, eb, hi0, hi1⟩ := hc
        subst ea eb
        have hi12 : i < 12 := by omega
        rcases zs with _ | ⟨z, zr⟩
        · simp only [List.length_nil] at hnz hapl
          have hn8 : n ≤ 8 := by omega
          clear hnz
          have HV0 : Hid (ppC cap false ([]) = 4) := Lib.hid (by unfold ppC; rw [if_pos HQF.out]; simp)
          have HV1 : Hid (ppX cap false ([]) = 0) := Lib.hid (by unfold ppX ppC; rw [if_pos HQF.out]; simp)
          have HV2 : Hid (ppT cap false ([]) = false) := Lib.hid (by unfold ppT; rw [if_pos HQF.out])
          have HV3 : Hid (ppU cap false ([]) = []) := Lib.hid (by unfold ppU; rw [if_pos HQF.out]; simp)
          have HV4 : Hid (ppZ cap false ([]) = []) := Lib.hid (by unfold ppZ; rw [if_pos HQF.out]; simp)
          have HV5 : Hid (ppP ([]) = false) := Lib.hid rfl
          have c6_0 := HX7.look 0
          have c6_1 := HX7.look 1
          have c6_2 := HX7.look 2
          have l6_0 := HX2.bx.lt
          have l6_1 := HX7.bx.lt
          go_wp2_with fail
          clear c6_0 c6_1 c6_2 l6_0 l6_1
          refine (popItemR_any cap false q lo hi O n c ([]) _ HZ.sl HZ.le (by omega) HNC.out).mono ?_
          rw [HV0.out, HV1.out, HV2.out, HV3.out, HV4.out, HV5.out]
          rintro e w7 ⟨O2, j2, k2, E2, m2, d2, rfl, hk, hb, hjk⟩
          have Z7 := Lib.hid hb.size
          have Y6 := Lib.hid (And.intro Y99.out Z7.out); clear Y99 Z7
          replace HX2 := HX2.below hb
          replace HX7 := HX7.below hb
          replace HI := HI.below hb
          replace HZ := HZ.below hb
          replace HO := HO.below hb
          replace HB := Lib.hid (below_step HB.out hb)
          clear hb
          have HN := hk; clear hk
          have HJK := Lib.hid hjk; clear hjk HV0 HV1 HV2 HV3 HV4 HV5
          have hj2 : j2 ≤ 8 := by have h := HN.q_list.1; (try simp at h); omega
          have hm2 : m2 ≤ 1 := by have h := HN.q_items.1; (try simp at h); omega
          have hay := HAP.out
          rw [List.append_nil] at hay
          have c7_0 := HX2.look 4
          have c7_1 := HX2.look 5
          have l7_0 := HX2.bx.lt
          have l7_1 := HX7.bx.lt
          go_wp2_with fail
          clear c7_0 c7_1 l7_0 l7_1
          refine Calls.name ?_
          intro U8 hU8
          have hb : Below w7.heap.size w7 U8 := by rw [hU8]; exact ((Below.refl _ _).alloc (Nat.le_refl _) _)
          have zz : Hid (w7.heap.size + 1 = U8.heap.size) := Lib.hid (by rw [hU8]; simp)
          have HX5 : Kept w7.heap.size (w7.heap.size + 1) (BoxK w7.heap.size 30 #[.int .i64 4, .int .i64 0, .bool false, .slice O2 j2 k2, .bool false, .slice E2 m2 d2]) U8 := by rw [hU8]; exact Kept.box (Box.made_at _ _ _ rfl)
          replace HX2 := HX2.below hb
          replace HX7 := HX7.below hb
          replace HI := HI.below hb
          replace HZ := HZ.below hb
          replace HO := HO.below hb
          replace HN := HN.below hb
          replace HB := Lib.hid (below_step HB.out hb)
          clear hb
          have Z8 := zz; clear zz
          have Y7 := Lib.hid (And.intro Y6.out Z8.out); clear Y6 Z8
          clear hU8
          refine (lwItems_two _ _ _ _ _ _ I E0 n1 c1 m0 d0 its ys hay _ (own_items HI.ownF) HO.q_items (by have := Y7.out; omega) HO.le (by omega)).mono ?_
          rintro e w9 ⟨rfl, hb⟩
          have Z9 := Lib.hid hb.size
          have Y8 := Lib.hid (And.intro Y7.out Z9.out); clear Y7 Z9
          replace HX2 := HX2.below hb
          replace HX7 := HX7.below hb
          replace HI := HI.below hb
          replace HZ := HZ.below hb
          replace HO := HO.below hb
          replace HN := HN.below hb
          replace HX5 := HX5.below hb
          replace HB := Lib.hid (below_step HB.out hb)
          clear hb
          have c8_0 := HX2.look 1
          have c8_1 := HX2.look 2
          have c8_2 := HX2.look 3
          have c8_3 := HX7.look 0
          have c8_4 := HX7.look 1
          have c8_5 := HX7.look 2
          have l8_0 := HX2.bx.lt
          have l8_1 := HX7.bx.lt
          have l8_2 := HX5.bx.lt
          go_wp2_with fail
          clear c8_0 c8_1 c8_2 c8_3 c8_4 c8_5 l8_0 l8_1 l8_2
          refine (sameQueues_any cap cap false false _ _ _ _ _ _ O O0 n j0 c k0 [] [] true _ HZ.sl HO.q_list HZ.le HO.le (by omega) (by omega) (by simp)).mono ?_
          rintro e w10 ⟨rfl, hb⟩
          have Z10 := Lib.hid hb.size
          have Y9 := Lib.hid (And.intro Y8.out Z10.out); clear Y8 Z10
          replace HX2 := HX2.below hb
          replace HX7 := HX7.below hb
          replace HI := HI.below hb
          replace HZ := HZ.below hb
          replace HO := HO.below hb
          replace HN := HN.below hb
          replace HX5 := HX5.below hb
          replace HB := Lib.hid (below_step HB.out hb)
          clear hb
          have l9_0 := HX2.bx.lt
          have l9_1 := HX7.bx.lt
          have l9_2 := HX5.bx.lt
          go_wp2
          clear l9_0 l9_1 l9_2
          go_ret
          exact ⟨rfl, HB.out⟩
        · simp only [List.length_cons] at hnz hapl
          have HV0 : Hid (ppC cap false (z :: zr) = 0) := Lib.hid (by unfold ppC; rw [if_pos HQF.out]; simp)
          have HV1 : Hid (ppX cap false (z :: zr) = cap) := Lib.hid (by unfold ppX ppC; rw [if_pos HQF.out]; simp)
          have HV2 : Hid (ppT cap false (z :: zr) = false) := Lib.hid (by unfold ppT; rw [if_pos HQF.out])
          have HV3 : Hid (ppU cap false (z :: zr) = zr) := Lib.hid (by unfold ppU; rw [if_pos HQF.out]; simp)
          have HV4 : Hid (ppZ cap false (z :: zr) = [z]) := Lib.hid (by unfold ppZ; rw [if_pos HQF.out]; simp)
          have HV5 : Hid (ppP (z :: zr) = false) := Lib.hid rfl
          have c6_0 := HX7.look 0
          have c6_1 := HX7.look 1
          have c6_2 := HX7.look 2
          have l6_0 := HX2.bx.lt
          have l6_1 := HX7.bx.lt
          go_wp2_with fail
          clear c6_0 c6_1 c6_2 l6_0 l6_1
          refine (popItemR_any cap false q lo hi O n c (z :: zr) _ HZ.sl HZ.le (by omega) HNC.out).mono ?_
          rw [HV0.out, HV1.out, HV2.out, HV3.out, HV4.out, HV5.out]
          rintro e w7 ⟨O2, j2, k2, E2, m2, d2, rfl, hk, hb, hjk⟩
          have Z7 := Lib.hid hb.size
          have Y6 := Lib.hid (And.intro Y99.out Z7.out); clear Y99 Z7
          replace HX2 := HX2.below hb
          replace HX7 := HX7.below hb
          replace HI := HI.below hb
          replace HZ := HZ.below hb
          replace HO := HO.below hb
          replace HB := Lib.hid (below_step HB.out hb)
          clear hb
          have HN := hk; clear hk
          have HJK := Lib.hid hjk; clear hjk HV0 HV1 HV2 HV3 HV4 HV5 HZ
          have hj2 : j2 ≤ 8 := by have h := HN.q_list.1; (try simp at h); omega
          have hm2 : m2 ≤ 1 := by have h := HN.q_items.1; (try simp at h); omega
          have l7_0 := HX2.bx.lt
          have l7_1 := HX7.bx.lt
          go_wp2_with (first | (at_builtin; refine wpList_name ?_; intro U8 hU8; have hb : Below w7.heap.size w7 U8 := (by rw [hU8]; exact ((Below.refl _ _).alloc (Nat.le_refl _) _)); have zz : Hid (w7.heap.size + 1 = U8.heap.size) := Lib.hid (by rw [hU8]; simp); have HX5 : Kept w7.heap.size (w7.heap.size + 1) (BoxK w7.heap.size 30 #[.int .i64 0, .int .i64 cap, .bool false, .slice O2 j2 k2, .bool false, .slice E2 m2 d2]) U8 := (by rw [hU8]; exact Kept.box (Box.made_at _ _ _ rfl)); replace HX2 := HX2.below hb; replace HX7 := HX7.below hb; replace HI := HI.below hb; replace HO := HO.below hb; replace HN := HN.below hb; replace HB := Lib.hid (below_step HB.out hb); clear hb; have Z8 := zz; clear zz; have Y7 := Lib.hid (And.intro Y6.out Z8.out); clear Y6 Z8; clear hU8; refine wpList_appF0 tcell_len tcell_one Try.underlying24 itemInfo rfl (by decide) (by decide) rfl (.tmp 79) (.tmp 81) rfl (B := u1_3.heap.size) rfl HI.ownF rfl (timer_inF HN.q_items) (by omega) (by have := Y7.out; omega) ?_; intro I2 c2 w9 ho hg; have hq : Only u1_3.heap.size wr.heap.size U8 w9 := Only.of_grown hg (fun r hr => by have := HI.ownF.block r hr; have := HI.lim r hr; omega); replace HX7 := Kept.grown_ne HX7 hg (OwnF.ne_box HI.ownF HX7.bx (by decide)); have Z9 := Lib.hid hq.size; have Y8 := Lib.hid (And.intro Y7.out Z9.out); clear Y7 Z9; clear HI; replace HX2 := HX2.only hq (by have := Y8.out; omega); skip; replace HO := HO.only hq (by have := Y8.out; omega); replace HN := HN.only hq (by have := Y8.out; omega); replace HX5 := HX5.only hq (by have := Y8.out; omega); replace HB := Lib.hid (Below.only HB.out hq (by have := Y8.out; omega) HB.out.size); clear hq hg; skip; have HI2 := ho.kept rfl; clear ho; have c8_0 := HX5.look 1; have c8_1 := HX5.look 2; have c8_2 := HX5.look 3; have c8_3 := HX7.look 0; have c8_4 := HX7.look 1; have c8_5 := HX7.look 2; have f8_0 := HX7.free 0; have f8_1 := HX7.free 1; have f8_2 := HX7.free 2; have l8_0 := HX2.bx.lt; have l8_1 := HX7.bx.lt; have l8_2 := HX5.bx.lt; have n8_0_0 : ¬ (u1_3.heap.size + 1) = w7.heap.size := (by have := Y8.out; omega); have m8_0_0 : ¬ w7.heap.size = (u1_3.heap.size + 1) := (by have := Y8.out; omega)))
          clear l7_0 l7_1 c8_0 c8_1 c8_2 c8_3 c8_4 c8_5 f8_0 f8_1 f8_2 l8_0 l8_1 l8_2 n8_0_0 m8_0_0
          have HIo := Lib.hid HI2.ownF; clear HI2
          obtain ⟨U10, hU10⟩ : ∃ W : World, W = (((w9.setCell ⟨u1_3.heap.size + 1, 0, none⟩ (.int .i64 cap)).setCell ⟨u1_3.heap.size + 1, 1, none⟩ (.bool false)).setCell ⟨u1_3.heap.size + 1, 2, none⟩ (.slice O2 j2 k2)) := ⟨_, rfl⟩
          have ho : Only (u1_3.heap.size + 1) (u1_3.heap.size + 1 + 1) w9 U10 := by rw [hU10]; exact ((((Only.refl _ _ _).set (p := ⟨u1_3.heap.size + 1, 0, none⟩) (Nat.le_refl _) (Nat.lt_succ_self _) _).set (p := ⟨u1_3.heap.size + 1, 1, none⟩) (Nat.le_refl _) (Nat.lt_succ_self _) _).set (p := ⟨u1_3.heap.size + 1, 2, none⟩) (Nat.le_refl _) (Nat.lt_succ_self _) _)
          have hOt := HIo.out.aside (Only.grown_ ho) (fun r hr e => by injection e with e; exact OwnF.ne_box HIo.out HX7.bx (by decide) (by rw [hr, e]))
          replace HIo := Lib.hid hOt; clear hOt
          replace HX7 : Kept (u1_3.heap.size + 1) (u1_3.heap.size + 1 + 1) (BoxK (u1_3.heap.size + 1) 26 #[.int .i64 cap, .bool false, .slice O2 j2 k2]) U10 := by rw [hU10]; exact Kept.box (((HX7.bx.puts 0 (.int .i64 cap) (cs' := #[.int .i64 cap, .bool false, .slice O n c]) rfl).puts 1 (.bool false) (cs' := #[.int .i64 cap, .bool false, .slice O n c]) rfl).puts 2 (.slice O2 j2 k2) (cs' := #[.int .i64 cap, .bool false, .slice O2 j2 k2]) rfl)
          replace HX2 := HX2.only ho (by have := Y8.out; omega)
          replace HO := HO.only ho (by have := Y8.out; omega)
          replace HN := HN.only ho (by have := Y8.out; omega)
          replace HX5 := HX5.only ho (by have := Y8.out; omega)
          replace HB := Lib.hid (Below.only HB.out ho (by have := Y8.out; omega) HB.out.size)
          have Z10 : Hid (U10.heap.size = w9.heap.size) := Lib.hid (by rw [hU10]; simp [World.setCell]); clear ho
          have Y9 := Lib.hid (And.intro Y8.out Z10.out); clear Y8 Z10
          have HNL := Rep.Sl.kept HN.q_list HN.le
          subst hU10
          go_roundw
          case rel => exact ⟨i + 1, false, false, I2, _, c2, _, zr, O2, j2, k2, true, _, _, rfl, rfl, by go_num, Lib.hid (by rw [List.append_assoc]; exact HAP.out), Lib.hid (.inr ⟨rfl, rfl, by omega, by rw [List.length_append]; simp; omega⟩), HB, HX7, HIo.out.kept rfl, HNL, HJK, HX2, HO, Lib.hid (by have := Y9.out; omega), Lib.hid (qf_drop HQF.out)⟩
          case measure => simp [intOf] <;> omega


end Go.Proofs.Ytomkgohhfllpgaa

namespace Go.Proofs.Ytomkgohhfllpgaa.fnDrains
open Go.ChangeShapes Go.WideShapes Go.ChangeAt Go.RowKit
open Go.ChangeMaps (open_string shut_string)
set_option linter.unusedVariables false

theorem own : ownKnob Try.prog.godebug = none := by kernel_rfl
theorem laidOut : laidOutB Try.prog = true := by kernel_rfl

/-- A slice of integers that came in: nil, or a row of cap cells. -/
def IsRow (k : IntKind) (w : World) (a : Option Addr) (len cap : Nat) (zs : List Int) : Prop :=
  (a = none ∧ len = 0 ∧ cap = 0 ∧ zs = []) ∨
  ∃ x, a = some x ∧ len ≤ cap ∧ cap ≤ maxLen ∧ zs.length = cap ∧ (∀ i, i < zs.length → w.cell? (x.add i) = some (.int k (zs.getD i 0))) ∧ ∀ n ∈ zs, (Lit.int k n).wf = true

theorem walk (a0 : Option Addr) (len0 cap0 : Nat) (z0 : List Int) (w : World) (w0 : IsRow .u8 w a0 len0 cap0 z0) :
    Calls Try.prog 4 #[.slice a0 len0 cap0] w fun e w' => e = .returned (.bool true) ∧ Below w.heap.size w w' := by
  obtain ⟨xs0, hx0, hy0, hm0⟩ := bin_of_row w0
  exact law_Drains a0 len0 cap0 xs0 w hx0 hy0 hm0

set_option maxRecDepth 100000 in
theorem lifted (os : Os) (started : os.Started) (H : Type) (enc : TypeId × Value → H) :
    ReturnsInHanded {} Try.checked os 4 .any (Rows.fnDrainsSpec.pre6 enc Try.prog Try.f4 Rows.fnDrainsRow.domain false) (Rows.fnDrainsSpec.post enc Try.prog Try.f4 false true false false) := by
  refine returnsInHanded_of_change (C := Try.checked) own started (by kernel_rfl) Try.func4
    (ChangeSpec.witness6 (enc := enc) (C := Try.checked) false ⟨#[], #[.slice none 0 0], []⟩ 8 (by kernel_rfl) (by kernel_rfl) (by kernel_rfl) (by kernel_rfl)) ?_
  intro W base args ds gs before hval0 hW hcnd _
  have hval : ∀ (j : Nat) t v, Try.f4.params[j]? = some t → args[j]? = some v → Value.okWide Try.prog W .any base t v := hval0
  have hW' := hW
  obtain ⟨p, q, hA0, hV, rfl, hfz, hnd⟩ := hW
  have hA : DataW.TrodAll enc Try.prog W 0 (fun _ => true) true Try.f4.params.toList args.toList ds p := hA0
  rw [Try.params4] at hA hval
  obtain ⟨v0, vs0, d0, ds0, p0, q0, hargs, rfl, rfl, h0, r0⟩ := trodAll_cons hA
  obtain ⟨rfl, rfl, rfl⟩ := trodAll_nil r0
  obtain rfl : args = #[v0] := by cases args; simp_all
  obtain ⟨rfl, rfl⟩ := trodVars_none hV
  obtain ⟨a0, len0, cap0, rfl⟩ := okWide_slice Try.underlying22 (hval 0 22 v0 rfl rfl)
  have k0 := h0
  have lt0 : ∀ x ∈ p0, x.block < W.heap.size := by obtain ⟨m, hm⟩ := k0; exact DataW.trod_lt m _ _ _ hm
  obtain ⟨z0, w0⟩ : ∃ zs, IsRow .u8 W a0 len0 cap0 zs := by
    obtain ⟨fuel, hf⟩ := h0
    rcases open_ints Try.underlying22 Try.underlying5 (by kernel_rfl) hf with ⟨hcs, _⟩ | ⟨x, l, c, zs, hcs, _, hl, hm, hz, _, hcell, hwz⟩
    · simp [Value.cells] at hcs
      obtain ⟨rfl, rfl, rfl⟩ := hcs
      exact ⟨[], .inl ⟨rfl, rfl, rfl, rfl⟩⟩
    · simp [Value.cells] at hcs
      obtain ⟨rfl, rfl, rfl⟩ := hcs
      exact ⟨zs, .inr ⟨_, rfl, hl, hm, by simpa using hz, hcell, hwz⟩⟩
  clear hA0 hval0
  refine (walk a0 len0 cap0 z0 W w0).mono fun e W' ⟨he, bel⟩ => ?_
  subst he
  exact ⟨_, rfl, _, _, _, [], _, [], hW', trodAll_mk1 (shut_bool Try.underlying4 _), (trodAll_cons_mk (Below.trod laidOut (by kernel_rfl) (of_decide_eq_true (by kernel_rfl)) k0 bel lt0) trodAll_mk0), rfl, bel.frame _, fun h => by cases h⟩

theorem over : Rows.fnDrainsRow.holds Try.pinned (OpenSpec.ofChange Rows.fnDrainsSpec) :=
  OpenClaim.holds_of_wide 4 Try.f4 rfl rfl rfl rfl rfl rfl rfl ⟨rfl, rfl, rfl, rfl, rfl⟩ rfl rfl rfl rfl rfl (by kernel_rfl) Try.func4 (by kernel_rfl)
    (of_decide_eq_true (by kernel_rfl)) (by unfold Func.isWrapper; first | (rw [if_pos (by decide +kernel)]; kernel_rfl) | (rw [if_neg (by decide +kernel)]; exact ⟨rfl, rfl⟩))
    (fun os started H enc _ => lifted os started H enc)

theorem proved : Rows.FnDrainsSaid := over
#print axioms proved
end Go.Proofs.Ytomkgohhfllpgaa.fnDrains
