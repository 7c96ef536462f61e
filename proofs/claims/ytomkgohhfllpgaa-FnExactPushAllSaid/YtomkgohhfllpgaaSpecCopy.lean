/-
  The model's l6Copy, PopItem, DrainQueue. No statement is proved here.
-/
import Derived.Test.YtomkgohhfllpgaaQDrain
import Derived.Test.YtomkgohhfllpgaaSpecQueueFault
namespace Go.Proofs.Ytomkgohhfllpgaa
open Go.RowKit
set_option linter.unusedVariables false

theorem step_appI0 {α : Type} {size bytes : Nat} {f : α → List Value} {ts t : TypeId} {z : Value} {ops : Array Oper} {o : Oper} {a : Act} {Q : Exit → Act → World → Prop} {w : World} {B : Nat} {A E : Option Addr} {n c m d : Nat} {zs ys : List α} {K : Act → World → Prop} {E' : Prop} (hf : ∀ a, (f a).length = size) (hone : ∀ a, ∀ u ∈ f a, u.oneCell' = true) (hu : Try.prog.underlying ts = some (.slice t))
    (hinfo : (Try.prog.info? t).map (fun i => (i.zero, i.size, i.bytes)) = some (some z, size, bytes)) (hzc : z.cells.size = size) (hsz : 0 < size) (hby : bytes ≤ 1048576)
    (hgd : o.guard = none) (s x : Operand) (ho : o.op = .call { callee := .builtin .append, args := #[s, x], argTypes := #[ts, ts] })
    (hs : a.eval s = .slice A n c) (hown : OwnF t size f w B A n c zs) (hx : a.eval x = .slice E m d) (hE : InF size f w E m ys) (hl : n + m ≤ 1048576) (hB : B ≤ w.heap.size)
    (h : ∀ A' c' w', OwnF t size f w' B A' (n + m) c' (zs ++ ys) → w.grownBy w' (A.map (·.block)) → K (a.put o.dst (.slice A' (n + m) c')) w') :
    if Region.wanted o (yielded ops a.tmps) = true then Oper.wp Try.prog o a w K Q else E' := by
  rw [if_pos (by simp [Region.wanted, hgd])]
  exact wp_appF0 hf hone hu hinfo hzc hsz hby s x ho hs hown hx hE hl hB h

/-- Items from the j-th on, with the block that they take. -/
theorem items_from {t : TypeId} {w : World} {B g n c : Nat} {ys : List Tmr} (h : OwnF t 4 tcell w B (some ⟨g, 0, none⟩) n c ys) (j : Nat) : ∃ bs, Rep.timer.FSl w (some ⟨g, j * 4, none⟩) (n - j) (ys.drop j) bs ∧ bs.Nodup ∧ ∀ x ∈ bs, x = g := by
  rcases Nat.eq_zero_or_pos (n - j) with h0 | h0
  · exact ⟨[], .inl ⟨h0, List.eq_nil_of_length_eq_zero (by rw [List.length_drop, h.1]; exact h0), rfl⟩, List.nodup_nil, fun x hx => by cases hx⟩
  · refine ⟨[g], .inr ⟨h0, g, rfl, by rw [List.length_drop, h.1], fun _ => ⟨g, j * 4, rfl, Nat.le_refl _, Nat.lt_succ_self _, fun _ i => World.ownsRow.frozenAt h.2 i, fun i a ha => ⟨tcell a, rfl, fun k u hk => ?_⟩⟩⟩, by simp, fun x hx => by simpa using hx⟩
    have hk4 : k < 4 := by have := (List.getElem?_eq_some_iff.1 hk).1; simpa [tcell] using this
    have hil := (List.getElem?_eq_some_iff.1 ha).1
    rw [List.length_drop] at hil
    rw [List.getElem?_drop] at ha
    have := World.ownsRow.cellAt h.2 ((j + i) * 4 + k) (by have := h.1; omega)
    show w.cell? ⟨g, j * 4 + i * 4 + k, none⟩ = some u
    rw [show j * 4 + i * 4 + k = (j + i) * 4 + k by omega, this, flat_get tcell_len ys (j + i) a ha k hk4, hk]

set_option maxRecDepth 100000 in
set_option maxHeartbeats 1600000 in
theorem l6Copy_any (cap : Int) (mk : Bool) (g : Nat) (q : Bool) (lo hi : Nat) (A : Option Addr) (n c : Nat) (ys : List Tmr) (w : World) (hg : Box w g 26 #[.int .i64 cap, .bool mk, .slice A n c]) (ha : Rep.timer.Sl q lo hi w A n ys) (hh : hi ≤ w.heap.size) (hn : n ≤ 1000) :
    Calls Try.prog 61 #[.pointer (some ⟨g, 0, none⟩)] w fun e w' => ∃ E d, e = .returned (.agg #[.int .i64 cap, .bool mk, .slice E n d]) ∧ Kept w.heap.size w'.heap.size (OwnFK 35 4 tcell w.heap.size w'.heap.size E n d ys) w' ∧ Below w.heap.size w w' := by
  obtain ⟨V, hV⟩ : ∃ V : World, V = w.alloc (.cells #[.int .i64 0, .bool false, .slice none 0 0] 26) := ⟨_, rfl⟩
  have hbV : Below w.heap.size w V := by rw [hV]; exact (Below.refl _ _).alloc (Nat.le_refl _) _
  have HX : Hid (Box V w.heap.size 26 #[.int .i64 0, .bool false, .slice none 0 0]) := Lib.hid (by rw [hV]; exact Box.made _ _ _)
  have HG := Lib.hid (hg.below hbV)
  have HZ : Hid (w.heap.size + 1 = V.heap.size ∧ g < w.heap.size) := Lib.hid ⟨by rw [hV]; simp, hg.lt⟩
  have HB := Lib.hid hbV
  have hbE : Below V.heap.size V (V.alloc (.cells #[] 35)).drew := ((Below.refl _ _).alloc (Nat.le_refl _) _).drew
  have HBE := Lib.hid hbE
  have HIN : Hid (InF 4 tcell (V.alloc (.cells #[] 35)).drew A n ys) := Lib.hid (Rep.timer_inF ((ha.below hbV hh).below hbE (Nat.le_trans hh hbV.size)))
  have HEM : Hid (OwnF 35 4 tcell (V.alloc (.cells #[] 35)).drew V.heap.size (some ⟨V.heap.size, 0, none⟩) 0 0 []) := Lib.hid (emptyF 35 4 tcell V)
  have c0 := HG.out.look 0
  have c1 := HG.out.look 1
  have c2 := HG.out.look 2
  have hgl := HG.out.lt
  clear hg ha hbV hbE
  go_enter Try.func61, Try.ntmps61
  go_upto_region 1 with (fail)
  rw [← hV]
  clear hV
  go_region_law (first | ((show (if Region.wanted (Oper.mk (some 16) _ _ _ _ _) _ = true then _ else _)); refine step_appI0 tcell_len tcell_one Try.underlying24 itemInfo rfl (by decide) (by decide) (by rfl) (.tmp 11) (.tmp 15) (by rfl) (B := V.heap.size) (by rfl) HEM.out (by rfl) HIN.out (by omega) HBE.out.size ?_; intro E d u1 ho hgr; have HO := Lib.hid ho; have HU : Hid (Below V.heap.size V u1) := Lib.hid (HBE.out.grown hgr HBE.out.size (fun r hr => by injection hr with hr; exact Nat.le_of_eq hr)); have HX1 := Lib.hid (HX.out.below HU.out); have HG1 := Lib.hid (HG.out.below HU.out); have x0 := HX1.out.look 0; have x1 := HX1.out.look 1; have x2 := HX1.out.look 2; have y0 := HX1.out.free 0; have y1 := HX1.out.free 1; have y2 := HX1.out.free 2; have xl := HX1.out.lt; have k0 := HG1.out.look 0; have k1 := HG1.out.look 1; have k2 := HG1.out.look 2; clear ho hgr))
  all_goals
    have HO2 : Hid (OwnF 35 4 tcell u1 V.heap.size E n d ys) := Lib.hid (by have h := HO.out; rwa [Nat.zero_add, List.nil_append] at h)
    obtain ⟨X, hX⟩ : ∃ X : World, X = (((u1.setCell ⟨w.heap.size, 0, none⟩ (.int .i64 cap)).setCell ⟨w.heap.size, 1, none⟩ (.bool mk)).setCell ⟨w.heap.size, 2, none⟩ (.slice E n d)) := ⟨_, rfl⟩
    have ho3 : Only w.heap.size (w.heap.size + 1) u1 X := by rw [hX]; exact (((Only.refl _ _ _).set (p := ⟨w.heap.size, 0, none⟩) (Nat.le_refl _) (Nat.lt_succ_self _) _).set (p := ⟨w.heap.size, 1, none⟩) (Nat.le_refl _) (Nat.lt_succ_self _) _).set (p := ⟨w.heap.size, 2, none⟩) (Nat.le_refl _) (Nat.lt_succ_self _) _
    have HX3 : Hid (Box X w.heap.size 26 #[.int .i64 cap, .bool mk, .slice E n d]) := Lib.hid (by rw [hX]; exact ((HX1.out.puts 0 (.int .i64 cap) (cs' := #[.int .i64 cap, .bool false, .slice none 0 0]) rfl).puts 1 (.bool mk) (cs' := #[.int .i64 cap, .bool mk, .slice none 0 0]) rfl).puts 2 (.slice E n d) (cs' := #[.int .i64 cap, .bool mk, .slice E n d]) rfl)
    have HO3 : Hid (OwnF 35 4 tcell X w.heap.size E n d ys) := Lib.hid ((HO2.out.aside (Only.grown_ ho3) (fun r hr e => by injection e with e; have := (HO2.out.block r hr).1; have := HZ.out.1; omega)).mono HB.out.size)
    have HB3 : Hid (Below w.heap.size w X) := Lib.hid (Below.only (below_step HB.out HU.out) ho3 (Nat.le_refl _) (Nat.le_of_lt xl))
    clear c0 c1 c2 hgl x0 x1 x2 y0 y1 y2 xl k0 k1 k2 ho3
    go_wp2
    have q0 := HX3.out.look 0
    have q1 := HX3.out.look 1
    have q2 := HX3.out.look 2
    subst hX
    exact bodyPost_ret (v := .agg #[.int .i64 cap, .bool mk, .slice E n d]) (by simp [results, Try.results61, go_sem, q0, q1, q2]) rfl ⟨E, d, rfl, HO3.out.kept rfl, HB3.out⟩

end Go.Proofs.Ytomkgohhfllpgaa
