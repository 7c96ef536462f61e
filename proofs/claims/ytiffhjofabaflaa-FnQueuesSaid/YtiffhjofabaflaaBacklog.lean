/-
  The program's backlog: backlogOf, queueOf, takeMark, take. No statement is proved here.
-/
import Derived.Test.YtiffhjofabaflaaDelete
namespace Go.Proofs.Ytiffhjofabaflaa
open Go.RowKit
set_option linter.unusedVariables false

/-- A row of the call's own while another block turns. -/
theorem OwnF.aside {α : Type} {t : TypeId} {size : Nat} {f : α → List Value} {w w' : World} {B : Nat} {A : Option Addr} {n c : Nat} {ys : List α} {row : Option Nat} (h : OwnF t size f w B A n c ys) (hg : w.grownBy w' row) (hr : ∀ r, A.map (·.block) = some r → row ≠ some r) : OwnF t size f w' B A n c ys :=
  ⟨h.1, World.ownsRow.kept h.2 hg (by
    cases A with
    | none => exact .inl rfl
    | some a => exact .inr (fun e => hr _ rfl e.symm))⟩

theorem OwnF.keptTo {α : Type} {t : TypeId} {size : Nat} {f : α → List Value} {w : World} {B hi : Nat} {A : Option Addr} {n c : Nat} {ys : List α} (h : OwnF t size f w B A n c ys) (hr : ∀ r, A.map (·.block) = some r → r < hi) (hs : hi ≤ w.heap.size) : Kept B hi (OwnFK t size f B hi A n c ys) w := by
  obtain ⟨h1, h2⟩ := h
  refine ⟨hs, fun w2 k => ⟨⟨h1, h2.1, ?_⟩, hr⟩⟩
  rcases h2.2 with h' | ⟨g, cap, cur, e1, e2, e3, e4⟩
  · exact .inl h'
  · refine .inr ⟨g, cap, cur, e1, e2, ?_, e4⟩
    have hA : A.map (·.block) = some g := by simp only [Value.slice.injEq] at e1; rw [e1.1]; rfl
    exact (k g e2 (hr g hA)).trans e3
theorem Below.only_from {B : Nat} {w w' : World} (h : Below B w w') : Only B w'.heap.size w w' := ⟨h.os, h.tape, h.output, h.size, fun b hb ho => h.block b (by have := h.size; omega)⟩
theorem qf_ok {cap : Int} {ys : List Tmr} (h : qf cap ys = 0) : (1 ≤ cap ∧ cap ≤ 8) ∧ (ys.length : Int) ≤ cap ∧ ys.length ≤ 8 ∧ allIn 1 100000 (revs ys) = true ∧ ups (revs ys) ∧ twinB ys = false := by
  unfold qf at h
  split at h
  · omega
  · split at h
    · omega
    · split at h
      · omega
      · split at h
        · omega
        · split at h
          · omega
          · rename_i h1 h2 h3 h4 h5
            have h1' : 1 ≤ cap ∧ cap ≤ 8 := Classical.byContradiction h1
            exact ⟨h1', by omega, by omega, by simpa using h3, Classical.byContradiction h4, by simpa using h5⟩

set_option maxRecDepth 100000 in
set_option maxHeartbeats 1600000 in
theorem backlogOf_any (cap : Int) (mk : Bool) (q : Bool) (lo hi : Nat) (A : Option Addr) (n c : Nat) (ys : List Tmr) (w : World) (ha : Rep.timer.Sl q lo hi w A n ys) (hh : hi ≤ w.heap.size) (hn : n ≤ 1000) :
    Calls Try.prog 123 #[.agg #[.int .i64 cap, .bool mk, .slice A n c]] w fun e w' => ∃ g E d, e = .returned (.pointer (some ⟨g, 0, none⟩)) ∧ Kept g (g + 1) (BoxK g 202 #[.int .i64 cap, .bool mk, .slice E n d]) w' ∧ Kept w.heap.size g (OwnFK 66 4 tcell w.heap.size g E n d ys) w' ∧ w.heap.size ≤ g ∧ Below w.heap.size w w' := by
  obtain ⟨V, hV⟩ : ∃ V : World, V = w.alloc (.cells #[.int .i64 cap, .bool mk, .slice A n c] 59) := ⟨_, rfl⟩
  have hbV : Below w.heap.size w V := by rw [hV]; exact (Below.refl _ _).alloc (Nat.le_refl _) _
  have HX : Kept w.heap.size (w.heap.size + 1) (BoxK w.heap.size 59 #[.int .i64 cap, .bool mk, .slice A n c]) V := by rw [hV]; exact Kept.box (Box.made _ _ _)
  have HA := (Rep.Sl.kept ha hh).below hbV
  have HB := Lib.hid hbV
  clear ha hbV
  go_enter Try.func123, Try.ntmps123
  go_upto_region 1 with (fail)
  rw [← hV]
  clear hV
  have SB : Hid (∀ W, Hid (Below V.heap.size V W) → (fun W : World => W.cell? ⟨w.heap.size, 0, none⟩ = some (.int .i64 cap) ∧ W.cell? ⟨w.heap.size, 1, none⟩ = some (.bool mk) ∧ W.cell? ⟨w.heap.size, 2, none⟩ = some (.slice A n c)) W) := fun W h => ⟨(HX.below h.out).look 0, (HX.below h.out).look 1, (HX.below h.out).look 2⟩
  have V0 : Hid (Below V.heap.size V V.drew) := (Below.refl _ _).drew
  go_region_held3 (fun W : World => W.cell? ⟨w.heap.size, 0, none⟩ = some (.int .i64 cap) ∧ W.cell? ⟨w.heap.size, 1, none⟩ = some (.bool mk) ∧ W.cell? ⟨w.heap.size, 2, none⟩ = some (.slice A n c)) (first | (with_reducible exact SB.out _ V0) | (with_reducible exact SB.out _ V1) | (with_reducible exact SB.out _ (VA _)))
    (first | (go_at_call 203; ((with_reducible refine (cloneItems_any q lo hi A n c ys _ (HA.below V0.out).sl (HA.below V0.out).le (by omega)).mono ?_); rintro e u1 ⟨E, d, rfl, ho, hb⟩; have V1 := Lib.hid (below_step V0.out hb); have HO := Lib.hid ho; have VA : ∀ o, Hid (Below V.heap.size V (u1.alloc o)) := (fun o => V1.out.alloc V1.out.size o); clear hb ho)))
  have HBX := Lib.hid (below_step HB.out V1.out)
  have HOX := Lib.hid ((HO.out.mono (B' := w.heap.size) HB.out.size))
  clear SB V0 V1 VA HX HA
  go_wp2
  go_ret
  have hbx : Below u1.heap.size u1 (u1.alloc (.cells #[.int .i64 cap, .bool mk, .slice E n d] 202)) := (Below.refl _ _).alloc (Nat.le_refl _) _
  exact ⟨u1.heap.size, E, d, rfl, Kept.box (Box.made _ _ _), (HOX.out.kept rfl).below hbx, HBX.out.size, below_step HBX.out hbx⟩

set_option maxRecDepth 100000 in
set_option maxHeartbeats 1600000 in
theorem queueOf_any (cap : Int) (mk : Bool) (g : Nat) (A : Option Addr) (n c : Nat) (w : World) (hg : Box w g 202 #[.int .i64 cap, .bool mk, .slice A n c]) :
    Calls Try.prog 127 #[.pointer (some ⟨g, 0, none⟩)] w fun e w' => e = .returned (.agg #[.int .i64 cap, .bool mk, .slice A n c]) ∧ Below w.heap.size w w' := by
  have HB := Lib.hid (Below.refl w.heap.size w)
  have HG := Kept.box hg
  have Zg := Lib.hid hg.lt
  clear hg
  go_enter Try.func127, Try.ntmps127
  have l1_0 := HG.bx.lt
  go_wp2_with fail
  clear l1_0
  refine Code.wp_name ?_
  intro U1 hU1
  have hb : Below w.heap.size w U1 := by rw [hU1]; exact ((Below.refl _ _).alloc (Nat.le_refl _) _)
  have zz : Hid (w.heap.size + 1 = U1.heap.size) := Lib.hid (by rw [hU1]; simp)
  have HX1 : Kept w.heap.size (w.heap.size + 1) (BoxK w.heap.size 59 #[.int .i64 0, .bool false, .slice none 0 0]) U1 := by rw [hU1]; exact Kept.box (Box.made_at _ _ _ rfl)
  replace HG := HG.below hb
  replace HB := Lib.hid (below_step HB.out hb)
  clear hb
  have Z1 := zz; clear zz
  clear hU1
  have SB : Hid (∀ W, Hid (Only w.heap.size (w.heap.size + 1) U1 W) → (fun W => W.cell? ⟨g, 0, none⟩ = some (.int .i64 cap) ∧ W.cell? ⟨g, 1, none⟩ = some (.bool mk) ∧ W.cell? ⟨g, 2, none⟩ = some (.slice A n c)) W) := fun W h => ⟨(HG.only h.out (by have := Zg.out; have := Z1.out; omega)).look 0, (HG.only h.out (by have := Zg.out; have := Z1.out; omega)).look 1, (HG.only h.out (by have := Zg.out; have := Z1.out; omega)).look 2⟩
  have V0 : Hid (Only w.heap.size (w.heap.size + 1) U1 U1.drew) := ⟨rfl, rfl, rfl, Nat.le_refl _, fun _ _ _ => rfl⟩
  have V1 : Hid (∀ z0 z1 z2, Hid (Only w.heap.size (w.heap.size + 1) U1 (((U1.setCell ⟨w.heap.size, 0, none⟩ z0).setCell ⟨w.heap.size, 1, none⟩ z1).setCell ⟨w.heap.size, 2, none⟩ z2).drew)) := fun z0 z1 z2 => Only.drew ((((Only.refl _ _ _).set (p := ⟨w.heap.size, 0, none⟩) (Nat.le_refl _) (Nat.lt_succ_self _) z0).set (p := ⟨w.heap.size, 1, none⟩) (Nat.le_refl _) (Nat.lt_succ_self _) z1).set (p := ⟨w.heap.size, 2, none⟩) (Nat.le_refl _) (Nat.lt_succ_self _) z2)
  have c2_0 := HX1.look 0
  have c2_1 := HX1.look 1
  have c2_2 := HX1.look 2
  have f2_0 := HX1.free 0
  have f2_1 := HX1.free 1
  have f2_2 := HX1.free 2
  have l2_0 := HG.bx.lt
  have l2_1 := HX1.bx.lt
  go_region_held3 (fun W => W.cell? ⟨g, 0, none⟩ = some (.int .i64 cap) ∧ W.cell? ⟨g, 1, none⟩ = some (.bool mk) ∧ W.cell? ⟨g, 2, none⟩ = some (.slice A n c)) (first | (with_reducible exact SB.out _ (V1.out _ _ _)) | (with_reducible exact SB.out _ V0))
    (fail)
  clear SB V0 V1 c2_0 c2_1 c2_2 f2_0 f2_1 f2_2 l2_0 l2_1
  have l3_0 := HG.bx.lt
  have l3_1 := HX1.bx.lt
  go_wp2
  clear l3_0 l3_1
  obtain ⟨U2, hU2⟩ : ∃ W : World, W = (((U1.setCell ⟨w.heap.size, 0, none⟩ (.int .i64 cap)).setCell ⟨w.heap.size, 1, none⟩ (.bool mk)).setCell ⟨w.heap.size, 2, none⟩ (.slice A n c)) := ⟨_, rfl⟩
  have ho : Only w.heap.size (w.heap.size + 1) U1 U2 := by rw [hU2]; exact ((((Only.refl _ _ _).set (p := ⟨w.heap.size, 0, none⟩) (Nat.le_refl _) (Nat.lt_succ_self _) _).set (p := ⟨w.heap.size, 1, none⟩) (Nat.le_refl _) (Nat.lt_succ_self _) _).set (p := ⟨w.heap.size, 2, none⟩) (Nat.le_refl _) (Nat.lt_succ_self _) _)
  replace HX1 : Kept w.heap.size (w.heap.size + 1) (BoxK w.heap.size 59 #[.int .i64 cap, .bool mk, .slice A n c]) U2 := by rw [hU2]; exact Kept.box (((HX1.bx.puts 0 (.int .i64 cap) (cs' := #[.int .i64 cap, .bool false, .slice none 0 0]) rfl).puts 1 (.bool mk) (cs' := #[.int .i64 cap, .bool mk, .slice none 0 0]) rfl).puts 2 (.slice A n c) (cs' := #[.int .i64 cap, .bool mk, .slice A n c]) rfl)
  replace HG := HG.only ho (by have := Zg.out; have := Z1.out; omega)
  replace HB := Lib.hid (Below.only HB.out ho (by have := Zg.out; have := Z1.out; omega) HB.out.size)
  have Z2 : Hid (U2.heap.size = U1.heap.size) := Lib.hid (by rw [hU2]; simp [World.setCell]); clear ho
  obtain ⟨U3, hU3⟩ : ∃ W : World, W = U2.drew := ⟨_, rfl⟩
  have hb : Below U2.heap.size U2 U3 := by rw [hU3]; exact (Below.refl _ _).drew
  have zz : Hid (U2.heap.size = U3.heap.size) := Lib.hid (by rw [hU3]; simp)
  replace HG := HG.below hb
  replace HX1 := HX1.below hb
  replace HB := Lib.hid (below_step HB.out hb)
  clear hb
  have Z3 := zz; clear zz
  have q_0 := HX1.look 0
  have q_1 := HX1.look 1
  have q_2 := HX1.look 2
  subst hU3 hU2
  exact bodyPost_ret (v := .agg #[.int .i64 cap, .bool mk, .slice A n c]) (by simp [results, Try.results127, go_sem, q_0, q_1, q_2]) rfl ⟨rfl, HB.out⟩

theorem takeMark_any (cap : Int) (mk : Bool) (g : Nat) (A : Option Addr) (n c : Nat) (w : World) (hg : Box w g 202 #[.int .i64 cap, .bool mk, .slice A n c]) :
    Calls Try.prog 128 #[.pointer (some ⟨g, 0, none⟩)] w fun e w' => e = .returned (.bool mk) ∧ Box w' g 202 #[.int .i64 cap, .bool false, .slice A n c] ∧ Only g (g + 1) w w' := by
  have c1 := hg.look 1
  have f1 := hg.free 1
  have hl := hg.lt
  have HG := Lib.hid hg
  clear hg
  go_enter Try.func128, Try.ntmps128
  go_wp2
  go_ret
  exact ⟨rfl, HG.out.puts 1 (.bool false) rfl, Only.set1 w (p := ⟨g, 1, none⟩) (Nat.le_refl _) (Nat.lt_succ_self _) _⟩

set_option maxRecDepth 100000 in
set_option maxHeartbeats 1600000 in
theorem take_any (cap : Int) (mk : Bool) (g B : Nat) (A : Option Addr) (n c j : Nat) (ys : List Tmr) (w : World) (hg : Box w g 202 #[.int .i64 cap, .bool mk, .slice A n c]) (ho : OwnF 66 4 tcell w B A n c ys) (hj : j ≤ n) (hn : n ≤ 1000) (hBg : B ≤ g) (hBw : B ≤ w.heap.size) :
    Calls Try.prog 129 #[.pointer (some ⟨g, 0, none⟩), .int .i64 j] w fun e w' => ∃ E d, e = .returned (.slice E j d) ∧ OwnF 66 4 tcell w' w.heap.size E j d (ys.take j) ∧ Box w' g 202 #[.int .i64 cap, .bool mk, .slice A (n - j) c] ∧ OwnF 66 4 tcell w' B A (n - j) c (ys.drop j) ∧ Below B w w' := by
  have hne : ∀ r, A.map (·.block) = some r → g ≠ r := fun r hr e => OwnF.ne_box ho hg (by decide) (by rw [hr, e])
  have hnc : n ≤ c := by
    rcases ho.2.2 with ⟨h', rfl⟩ | ⟨g', cap, cur, h1, _, _, h4, _⟩
    · exact Nat.zero_le _
    · simp only [Value.slice.injEq] at h1; omega
  have hjc : (j : Int) ≤ c := by omega
  have hja : ∀ r, A.map (·.block) = some r → r < w.heap.size := fun r hr => (ho.block r hr).2
  have c2 := hg.look 2
  have hl := hg.lt
  have HL := Lib.hid hg.lt
  have HG := Lib.hid hg
  have HO := Lib.hid ho
  have HNE := Lib.hid hne
  have HJA := Lib.hid hja
  have hs := (own_items ho).take hj
  clear hg ho hne hja
  go_enter Try.func129, Try.ntmps129
  go_wp2_with fail
  clear c2
  refine (cloneItems_any true _ _ A j c (ys.take j) _ hs (Nat.le_refl _) (by omega)).mono ?_
  rintro e w1 ⟨E, d, rfl, he, hb⟩
  have HE := Lib.hid he
  have HG1 := Lib.hid (HG.out.below hb)
  have HO1 := Lib.hid (HO.out.below hb)
  have HB := Lib.hid hb
  clear he hb hs HG HO
  have c2 := HG1.out.look 2
  have hl1 := HG1.out.lt
  go_wp2_with fail
  clear c2
  refine (deleteN_any B A n c j ys _ HO1.out hj hn).mono ?_
  rintro e w2 ⟨rfl, ho2, hgr⟩
  have HO2 := Lib.hid ho2
  have HG2 := Lib.hid (HG1.out.grown hgr (fun e => HNE.out g e rfl))
  have HE2 := Lib.hid (HE.out.aside hgr (fun r hr e => by have := (HE.out.block r hr).1; have := HJA.out r e; omega))
  have HB2 := Lib.hid ((HB.out.mono hBw).grown hgr (Nat.le_trans hBw HB.out.size) (fun r hr => (HO1.out.block r hr).1))
  have hsz := hgr.size
  clear ho2 hgr
  have c2 := HG2.out.look 2
  have f2 := HG2.out.free 2
  have hl2 := HG2.out.lt
  obtain ⟨X, hX⟩ : ∃ X : World, X = w2.setCell ⟨g, 2, none⟩ (.slice A (n - j) c) := ⟨_, rfl⟩
  have hgx : w2.grownBy X (some g) := by rw [hX]; exact setCell_grown _ _ _
  have HG3 : Hid (Box X g 202 #[.int .i64 cap, .bool mk, .slice A (n - j) c]) := Lib.hid (by rw [hX]; exact HG2.out.puts 2 (.slice A (n - j) c) rfl)
  have HO3 := Lib.hid (HO2.out.aside hgx (fun r hr e => HNE.out r hr (by injection e)))
  have HE3 := Lib.hid (HE2.out.aside hgx (fun r hr e => by injection e with e; have := (HE2.out.block r hr).1; have := HL.out; omega))
  have HB3 := Lib.hid (HB2.out.grown hgx (Nat.le_trans hBw (Nat.le_trans HB.out.size hsz)) (fun r hr => by injection hr with hr; omega))
  clear hgx
  go_wp2
  rw [← hX]
  go_ret
  exact ⟨E, d, rfl, HE3.out, HG3.out, HO3.out, HB3.out⟩


end Go.Proofs.Ytiffhjofabaflaa
