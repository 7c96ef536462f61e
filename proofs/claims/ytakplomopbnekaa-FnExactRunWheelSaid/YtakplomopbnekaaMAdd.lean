/-
  What is known of a wheel's timers: put, dropped, copied. No statement is proved here.
-/
import Derived.Test.YtakplomopbnekaaWheelLaws
import Derived.Test.YtakplomopbnekaaWheelOut
import Derived.Test.YtakplomopbnekaaDialWith
import Derived.Test.YtakplomopbnekaaDropMath
import Derived.Test.YtakplomopbnekaaWheelRes
import Derived.Test.YtakplomopbnekaaSpecFault2
import Derived.Maps.AppendAt
namespace Go.Proofs.Ytakplomopbnekaa
open Go.RowKit Go.Shelf
set_option linter.unusedVariables false

/-- A slice value whose items r tells, and which has room for them. -/
def Rep.rowsC {α : Type} (r : Rep α) : Rep (List α) where
  size := 1
  rel q lo hi w cs ys := ∃ A n c, cs = [.slice A n c] ∧ n ≤ c ∧ (A = none → c = 0) ∧ r.Sl q lo hi w A n ys
  len h := by obtain ⟨A, n, c, rfl, _⟩ := h; rfl
  keep h k := by obtain ⟨A, n, c, e, h1, h2, h3⟩ := h; exact ⟨A, n, c, e, h1, h2, h3.keep k⟩
  mono h l u := by obtain ⟨A, n, c, e, h1, h2, h3⟩ := h; exact ⟨A, n, c, e, h1, h2, h3.mono l u⟩
theorem Rep.Sl.unC {α : Type} {r : Rep α} {q : Bool} {lo hi : Nat} {w : World} {A : Option Addr} {n : Nat} {ys : List (List α)} (h : r.rowsC.Sl q lo hi w A n ys) : r.rows.Sl q lo hi w A n ys :=
  ⟨h.1, fun hn => by
    obtain ⟨b, o, e, l, u, f, hr⟩ := h.2 hn
    exact ⟨b, o, e, l, u, f, fun i y hy => by
      obtain ⟨cs, ⟨A', n', c', e', _, _, h3⟩, hc⟩ := hr i y hy
      exact ⟨cs, ⟨A', n', c', e', h3⟩, hc⟩⟩⟩

set_option maxHeartbeats 1600000 in
theorem toTimerSS_cap (q : Bool) (lo hi : Nat) (A : Option Addr) (n c : Nat) (ys : List (List Tmr)) (w : World) (ha : Rep.timer.rows.Sl q lo hi w A n ys) (hh : hi ≤ w.heap.size) (hn : n ≤ 1048576) (hm : ∀ y ∈ ys, y.length ≤ 1048576) :
    Calls Try.prog 101 #[.slice A n c] w fun e w' => e = .returned (.slice (some ⟨w.heap.size, 0, none⟩) n n) ∧
      (∃ bs, Rep.timer.FRows w' (some ⟨w.heap.size, 0, none⟩) n ys bs ∧ bs.Nodup ∧ ∀ b ∈ bs, w.heap.size ≤ b ∧ b < w'.heap.size) ∧ Rep.timer.rowsC.Sl false w.heap.size w'.heap.size w' (some ⟨w.heap.size, 0, none⟩) n ys ∧ Below w.heap.size w w' := by
  obtain ⟨i0, hi0, hz0, hz1, hz2⟩ := info_parts rowsInfo
  go_enter Try.func101, Try.ntmps101
  go_wp2_with (at_make; refine wpList_make_full _ rfl _ _ 24 rfl w.heap.size 29 i0 _ 1 Try.underlying24 hi0 hz0 hz1 .i64 .i64 _ _ n rfl rfl rfl rfl (by rw [hz2]; omega) (by unfold maxLen; omega) (Nat.le_refl _) ?_; intro w1 hown1 hg1)
  have hb1 := below_of_grown hg1
  clear hg1 hi0 hz0 hz1 hz2
  obtain ⟨B, HB⟩ : ∃ B, Hid (B = w.heap.size) := ⟨_, Lib.hid rfl⟩
  rw [← HB.out] at hown1 hb1 ⊢
  have HM := Lib.hid hm
  clear hm
  go_loopw [4] (fun i wr => ∃ k : Nat, k ≤ n ∧ i = .int .i64 k ∧ ∃ xs : List Value, wr.ownsRow B 29 1 (.slice (some ⟨B, 0, none⟩) n n) n xs ∧ Below B w wr ∧
      Hid (∃ fs : List (List Nat), fs.length = k ∧ fs.flatten.Nodup ∧ (∀ x ∈ fs.flatten, B < x ∧ x < wr.heap.size) ∧ ∀ (j : Nat) (x : List Tmr) (f : List Nat), ys[j]? = some x → fs[j]? = some f → ∃ E m c, xs[j]? = some (Value.slice E m c) ∧ Rep.timer.FSl wr E m x f ∧ m ≤ c ∧ (E = none → c = 0)))
    (fun i _ => n - (intOf i).toNat)
  case atStart => exact ⟨0, Nat.zero_le _, rfl, _, hown1, hb1, [], rfl, List.nodup_nil, fun x hx => absurd hx List.not_mem_nil, fun j x f _ hf => absurd hf (by simp)⟩
  case round =>
    obtain ⟨k, hk, rfl, xs, hown, hbw, HS⟩ := hrel
    by_cases hlt : k < n
    · obtain ⟨b, o, y, E, m, c', rfl, hya, ce, hy⟩ := Rep.rows_at (ha.below (by rw [← HB.out]; exact hbw) hh) hlt
      have hlt' : (k : Int) < n := by omega
      have HYA := Lib.hid hya
      have hym := HM.out y (List.mem_of_getElem? hya)
      have hml : y.length = m := hy.1
      have hhr : hi ≤ wr.heap.size := Nat.le_trans hh (by have := hbw.size; omega)
      have HY := Lib.hid hy
      have hBlt : B < wr.heap.size := (World.ownsRow.lt hown B rfl).2
      clear hya hy
      go_wp2_with fail
      refine (toTimerS_any q lo hi E m c' y _ HY.out hhr (by omega)).mono ?_
      rintro e w2 ⟨rfl, hs2, hlt2, hb2⟩
      have hown2 : w2.ownsRow B 29 1 (.slice (some ⟨B, 0, none⟩) n n) n xs := World.ownsRow.kept hown (grownBy_of_below hb2 none) (by simp [Value.ownBlock])
      have hbw2 : Below B w w2 := hbw.trans (hb2.mono (Nat.le_of_lt hBlt))
      have hl : xs.length = n := by simpa using hown2.1
      obtain ⟨v0, d0⟩ := own_some hown2 (j := k) (by omega)
      have f0 := World.ownsRow.frozenAt hown2 k
      obtain ⟨s1, g1⟩ := World.ownsRow.stored hown2 k (.slice (some ⟨wr.heap.size, 0, none⟩) m m)
      have HO := Lib.hid s1
      have HL := Lib.hid hl
      have HBW := Lib.hid hbw2
      have HN : Hid (Rep.timer.Sl true wr.heap.size (wr.heap.size + 1) w2 (some ⟨wr.heap.size, 0, none⟩) m y) := Lib.hid hs2
      have HB2 := Lib.hid hb2
      have HG1 := Lib.hid g1
      clear s1 g1 hl hbw2 hown hown2 hbw hb2 hs2
      go_wp2
      go_roundw
      case rel =>
        obtain ⟨U, hU⟩ : ∃ U : World, U = w2.setCell ⟨B, k, none⟩ (.slice (some ⟨wr.heap.size, 0, none⟩) m m) := ⟨_, rfl⟩
        have hsz : U.heap.size = w2.heap.size := by rw [hU]; simp [World.setCell]
        have ho : Only B (B + 1) w2 U := by rw [hU]; exact Only.set1 (p := ⟨B, k, none⟩) w2 (Nat.le_refl _) (Nat.lt_succ_self _) _
        obtain ⟨fs, hfl, hfd, hfr, hfs⟩ := HS.out
        obtain ⟨f, hf, hfd2, hfb⟩ := Rep.FSl.of_sl HN.out
        have hl := HL.out
        have hb2 := HB2.out
        have hszb := hb2.size
        refine ⟨k + 1, by omega, by go_num, _, HO.out, HBW.out.setCell (Nat.le_refl _) _, fs ++ [f], by simp [hfl], ?_, ?_, ?_⟩
        · rw [flat_snoc, List.nodup_append]
          refine ⟨hfd, hfd2, fun x hx y hy e => ?_⟩
          have h1 := hfr x hx
          have h2 := hfb y hy
          omega
        · intro x hx
          rw [← hU, hsz]
          rw [flat_snoc, List.mem_append] at hx
          rcases hx with hx | hx
          · have := hfr x hx; omega
          · have := hfb x hx; omega
        · intro j x g hx hg
          rw [← hU]
          by_cases e : j = k
          · subst e
            have hax : x = y := by have := HYA.out; rw [hx] at this; injection this
            subst hax
            have hgf : g = f := by rw [List.getElem?_append_right (by omega)] at hg; simp [hfl] at hg; exact hg.symm
            subst hgf
            refine ⟨some ⟨wr.heap.size, 0, none⟩, m, m, by rw [List.getElem?_set, if_pos rfl, if_pos (by omega)], hf.keep (fun z hz => ?_), Nat.le_refl _, (fun h => by cases h)⟩
            have := hfb z hz
            exact ho.block z (by omega) (.inr (by omega))
          · have hjk : j < k := by
              have := (List.getElem?_eq_some_iff.1 hg).1
              simp [hfl] at this; omega
            rw [List.getElem?_append_left (by omega)] at hg
            obtain ⟨E', m', c'', e1, e2, e3⟩ := hfs j x g hx hg
            refine ⟨E', m', c'', by rw [List.getElem?_set, if_neg (fun h => e h.symm)]; exact e1, e2.keep (fun z hz => ?_), e3⟩
            have h1 := hfr z (mem_flat_of_get hg hz)
            exact (ho.block z (by omega) (.inr (by omega))).trans (hb2.block z (by omega))
      case measure => simp [intOf]; omega
    · have HO := Lib.hid hown
      have hlen := ha.1
      clear hown
      go_wp2
      go_ret
      obtain rfl := HB.out
      have hlt2 : w.heap.size < wr.heap.size := (World.ownsRow.lt HO.out w.heap.size rfl).2
      obtain ⟨fs, hfl, hfd, hfr, hfs⟩ := HS.out
      have hkn : k = n := by omega
      subst hkn
      refine ⟨rfl, ?_, ?_, hbw⟩
      rotate_left
      · refine ⟨hlen, fun hk0 => ⟨w.heap.size, 0, rfl, Nat.le_refl _, hlt2, (fun h => by cases h), fun i y hy => ?_⟩⟩
        have hik : i < k := by have := (List.getElem?_eq_some_iff.1 hy).1; omega
        obtain ⟨E, m, c', e1, e2, e3, e4⟩ := hfs i y fs[i] hy (List.getElem?_eq_getElem (by omega))
        refine ⟨[.slice E m c'], ⟨E, m, c', rfl, e3, e4, ?_⟩, fun j u hj => ?_⟩
        · exact Rep.Sl.unq (e2.sl fun x hx => by have := hfr x (mem_flat_of_get (List.getElem?_eq_getElem (by omega)) hx); omega)
        · obtain rfl : j = 0 := by
            rcases j with _ | j
            · rfl
            · simp at hj
          simp only [List.getElem?_cons_zero, Option.some.injEq] at hj
          subst hj
          show wr.cell? ⟨w.heap.size, 0 + i * 1 + 0, none⟩ = _
          rw [show 0 + i * 1 + 0 = i by omega, World.ownsRow.cellAt HO.out i (by omega), e1]
      rcases Nat.eq_zero_or_pos k with h0 | h0
      · subst h0
        exact ⟨[], ⟨hlen, .inl ⟨rfl, rfl⟩⟩, List.nodup_nil, fun x hx => by cases hx⟩
      · refine ⟨w.heap.size :: fs.flatten, ⟨hlen, .inr ⟨h0, w.heap.size, 0, fs, rfl, rfl, hfl, fun i y f hy hf => ?_⟩⟩, List.nodup_cons.2 ⟨fun hx => ?_, hfd⟩, fun x hx => ?_⟩
        · obtain ⟨E, m, c', e1, e2, _⟩ := hfs i y f hy hf
          refine ⟨E, m, c', ?_, e2⟩
          have hin : i < k := by have := (List.getElem?_eq_some_iff.1 hf).1; omega
          rw [Nat.zero_add, World.ownsRow.cellAt HO.out i (by omega), e1]
        · have := hfr _ hx; omega
        · rcases List.mem_cons.1 hx with rfl | hx
          · omega
          · have := hfr _ hx; omega

set_option maxRecDepth 100000 in
set_option maxHeartbeats 1600000 in
theorem toWheel_cap (q : Bool) (lo hi : Nat) (A : Option Addr) (n c : Nat) (ys : List (List Tmr)) (now : Int) (w : World) (ha : Rep.timer.rows.Sl q lo hi w A n ys) (hh : hi ≤ w.heap.size) (hn : n ≤ 1048576) (hm : ∀ y ∈ ys, y.length ≤ 1048576) :
    Calls Try.prog 41 #[.agg #[.int .i64 now, .slice A n c]] w fun e w' => ∃ P, e = .returned (.agg #[.int .i64 now, .slice P n n]) ∧ Kept w.heap.size w'.heap.size (RowsK Rep.timer w.heap.size w'.heap.size P n ys) w' ∧ Kept w.heap.size w'.heap.size (SlK Rep.timer.rowsC false w.heap.size w'.heap.size P n ys) w' ∧ Below w.heap.size w w' := by
  have HB := Lib.hid (Below.refl w.heap.size w)
  have HA := Rep.Sl.kept ha hh
  have HM := Lib.hid hm
  clear ha hm
  go_enter Try.func41, Try.ntmps41
  go_wp2_with fail
  refine Calls.name ?_
  intro U1 hU1
  have hb : Below w.heap.size w U1 := by rw [hU1]; exact ((((Below.refl _ _).alloc (Nat.le_refl _) _).alloc (by simp <;> omega) _).alloc (by simp <;> omega) _)
  have zz : Hid (w.heap.size + 3 = U1.heap.size) := Lib.hid (by rw [hU1]; simp)
  have HX1 : Kept w.heap.size (w.heap.size + 1) (BoxK w.heap.size 59 #[.int .i64 now, .slice A n c]) U1 := by rw [hU1]; exact Kept.box (((Box.made_at _ _ _ rfl).over _).over _)
  have HX2 : Kept (w.heap.size + 1) (w.heap.size + 1 + 1) (BoxK (w.heap.size + 1) 26 #[.int .i64 0, .slice none 0 0]) U1 := by rw [hU1]; exact Kept.box ((Box.made_at _ _ _ (by simp <;> omega)).over _)
  have HX3 : Kept (w.heap.size + 1 + 1) (w.heap.size + 1 + 1 + 1) (BoxK (w.heap.size + 1 + 1) 26 #[.int .i64 now, .slice none 0 0]) U1 := by rw [hU1]; exact Kept.box (Box.made_at _ _ _ (by simp <;> omega))
  replace HA := HA.below hb
  replace HB := Lib.hid (below_step HB.out hb)
  clear hb
  have Z1 := zz; clear zz
  clear hU1
  refine (toTimerSS_cap q lo hi A n c ys _ HA.sl HA.le hn HM.out).mono ?_
  rintro e w2 ⟨rfl, ⟨bs, hs, hd, hin⟩, hcc, hb⟩
  have Z2 := Lib.hid hb.size
  replace HA := HA.below hb
  replace HX1 := HX1.below hb
  replace HX2 := HX2.below hb
  replace HX3 := HX3.below hb
  replace HB := Lib.hid (below_step HB.out hb)
  clear hb
  have HS := RowsK.kept ⟨bs, hs, hd, hin⟩ (Nat.le_refl _); clear hs hd hin
  have HCC := Rep.Sl.kept hcc (Nat.le_refl _); clear hcc
  have c2_0 := HX2.look 0
  have c2_1 := HX2.look 1
  have c2_2 := HX3.look 0
  have c2_3 := HX3.look 1
  have f2_0 := HX2.free 0
  have f2_1 := HX2.free 1
  have f2_2 := HX3.free 1
  have l2_0 := HX1.bx.lt
  have l2_1 := HX2.bx.lt
  have l2_2 := HX3.bx.lt
  have n2_0_1 : ¬ (w.heap.size + 1) = (w.heap.size + 1 + 1) := (by have := Z1.out; have := Z2.out; omega)
  have m2_0_1 : ¬ (w.heap.size + 1 + 1) = (w.heap.size + 1) := (by have := Z1.out; have := Z2.out; omega)
  go_wp2
  clear c2_0 c2_1 c2_2 c2_3 f2_0 f2_1 f2_2 l2_0 l2_1 l2_2 n2_0_1 m2_0_1
  obtain ⟨U3, hU3⟩ : ∃ W : World, W = (w2.setCell ⟨w.heap.size + 1 + 1, 1, none⟩ (.slice (some ⟨U1.heap.size, 0, none⟩) n n)) := ⟨_, rfl⟩
  have ho : Only (w.heap.size + 1 + 1) (w.heap.size + 1 + 1 + 1) w2 U3 := by rw [hU3]; exact ((Only.refl _ _ _).set (p := ⟨w.heap.size + 1 + 1, 1, none⟩) (Nat.le_refl _) (Nat.lt_succ_self _) _)
  replace HX3 : Kept (w.heap.size + 1 + 1) (w.heap.size + 1 + 1 + 1) (BoxK (w.heap.size + 1 + 1) 26 #[.int .i64 now, .slice (some ⟨U1.heap.size, 0, none⟩) n n]) U3 := by rw [hU3]; exact Kept.box (HX3.bx.puts 1 (.slice (some ⟨U1.heap.size, 0, none⟩) n n) (cs' := #[.int .i64 now, .slice (some ⟨U1.heap.size, 0, none⟩) n n]) rfl)
  replace HA := HA.only ho (by have := Z1.out; have := Z2.out; omega)
  replace HX1 := HX1.only ho (by have := Z1.out; have := Z2.out; omega)
  replace HX2 := HX2.only ho (by have := Z1.out; have := Z2.out; omega)
  replace HS := HS.only ho (by have := Z1.out; have := Z2.out; omega)
  replace HCC := HCC.only ho (by have := Z1.out; have := Z2.out; omega)
  replace HB := Lib.hid (Below.only HB.out ho (by have := Z1.out; have := Z2.out; omega) HB.out.size)
  have Z3 : Hid (U3.heap.size = w2.heap.size) := Lib.hid (by rw [hU3]; simp [World.setCell]); clear ho
  obtain ⟨U4, hU4⟩ : ∃ W : World, W = ((U3.setCell ⟨w.heap.size + 1, 0, none⟩ (.int .i64 now)).setCell ⟨w.heap.size + 1, 1, none⟩ (.slice (some ⟨U1.heap.size, 0, none⟩) n n)) := ⟨_, rfl⟩
  have ho : Only (w.heap.size + 1) (w.heap.size + 1 + 1) U3 U4 := by rw [hU4]; exact (((Only.refl _ _ _).set (p := ⟨w.heap.size + 1, 0, none⟩) (Nat.le_refl _) (Nat.lt_succ_self _) _).set (p := ⟨w.heap.size + 1, 1, none⟩) (Nat.le_refl _) (Nat.lt_succ_self _) _)
  replace HX2 : Kept (w.heap.size + 1) (w.heap.size + 1 + 1) (BoxK (w.heap.size + 1) 26 #[.int .i64 now, .slice (some ⟨U1.heap.size, 0, none⟩) n n]) U4 := by rw [hU4]; exact Kept.box ((HX2.bx.puts 0 (.int .i64 now) (cs' := #[.int .i64 now, .slice none 0 0]) rfl).puts 1 (.slice (some ⟨U1.heap.size, 0, none⟩) n n) (cs' := #[.int .i64 now, .slice (some ⟨U1.heap.size, 0, none⟩) n n]) rfl)
  replace HA := HA.only ho (by have := Z1.out; have := Z2.out; have := Z3.out; omega)
  replace HX1 := HX1.only ho (by have := Z1.out; have := Z2.out; have := Z3.out; omega)
  replace HX3 := HX3.only ho (by have := Z1.out; have := Z2.out; have := Z3.out; omega)
  replace HS := HS.only ho (by have := Z1.out; have := Z2.out; have := Z3.out; omega)
  replace HCC := HCC.only ho (by have := Z1.out; have := Z2.out; have := Z3.out; omega)
  replace HB := Lib.hid (Below.only HB.out ho (by have := Z1.out; have := Z2.out; have := Z3.out; omega) HB.out.size)
  have Z4 : Hid (U4.heap.size = U3.heap.size) := Lib.hid (by rw [hU4]; simp [World.setCell]); clear ho
  have q_0 := HX2.look 0
  have q_1 := HX2.look 1
  subst hU4 hU3
  exact bodyPost_ret (v := .agg #[.int .i64 now, .slice (some ⟨U1.heap.size, 0, none⟩) n n]) (by simp [results, Try.results41, go_sem, q_0, q_1]) rfl ⟨_, rfl, RowsK.kept (by obtain ⟨bs, h1, h2, h3⟩ := HS.out; exact ⟨bs, h1, h2, fun b hb => by have := h3 b hb; have := HS.le; have := HB.out.size; have := Z1.out; have := Z2.out; omega⟩) (Nat.le_refl _), Rep.Sl.kept (HCC.sl.mono (by have := HB.out.size; have := Z1.out; omega) (by have := HCC.le; omega)) (Nat.le_refl _), HB.out⟩

theorem rows_valuesC {q : Bool} {lo hi : Nat} {w : World} {A : Option Addr} {n : Nat} {ys : List (List Tmr)} (h : Rep.timer.rowsC.Sl q lo hi w A n ys) (hn : 0 < n) :
    ∃ b o, A = some ⟨b, o, none⟩ ∧ b < hi ∧ ∃ s : Nat → Value, ∀ k, k < n → w.cell? ⟨b, o + k, none⟩ = some (s k) ∧ ∃ E d, s k = .slice E (ys.getD k []).length d ∧ (ys.getD k []).length ≤ d ∧ (E = none → d = 0) ∧ Rep.timer.Sl q lo hi w E (ys.getD k []).length (ys.getD k []) := by
  obtain ⟨b, o, e, l, u, f, hr⟩ := h.2 hn
  refine ⟨b, o, e, u, fun k => (w.cell? ⟨b, o + k, none⟩).getD undef, fun k hk => ?_⟩
  have hkl : k < ys.length := by rw [h.1]; exact hk
  have hg : ys.getD k [] = ys[k] := by simp [List.getD, hkl]
  obtain ⟨cs, ⟨E, m, d, rfl, h1, h2, h3⟩, hc⟩ := hr k ys[k] (List.getElem?_eq_getElem hkl)
  have hcell : w.cell? ⟨b, o + k, none⟩ = some (.slice E m d) := by
    have := hc 0 _ rfl
    rwa [show Rep.timer.rowsC.size = 1 from rfl, Nat.mul_one, Nat.add_zero] at this
  have hm : ys[k].length = m := h3.1
  rw [hg]
  have hv : (w.cell? ⟨b, o + k, none⟩).getD undef = .slice E m d := by rw [hcell]; rfl
  exact ⟨hcell.trans (congrArg some hv.symm), E, d, hv.trans (by rw [hm]), by omega, h2, by rw [hm]; exact h3⟩
theorem dialOf_cap (now : Int) (q : Bool) (lo hi : Nat) (A : Option Addr) (c : Nat) (ys : List (List Tmr)) (w : World) (ha : Rep.timer.rowsC.Sl q lo hi w A 24 ys) (hh : hi ≤ w.heap.size) (hc : 24 ≤ c) :
    Calls Try.prog 71 #[.agg #[.int .i64 now, .slice A 24 c]] w fun e w' => ∃ s, e = .returned (.agg (dialCells now s)) ∧ DialC lo hi w s (fun k => ys.getD k []) ∧ Below w.heap.size w w' := by
  obtain ⟨b, o, rfl, hb, s, hs⟩ := rows_valuesC ha (by omega)
  refine (dialOf_any now _ c b o s w rfl (fun k hk => (hs k hk).1) (fun k hk => by obtain ⟨E, d, e, _⟩ := (hs k hk).2; rw [e]; rfl) hc).mono ?_
  rintro e w' ⟨rfl, hb'⟩
  refine ⟨s, rfl, fun k hk => ?_, hb'⟩
  obtain ⟨E, d, e, h1, h2, h3⟩ := (hs k hk).2
  exact ⟨E, d, e, h1, h2, h3.1, fun hn => by
    obtain ⟨b', o', e', l1, u1, _, hrow⟩ := h3.2 hn
    exact ⟨b', o', e', l1, u1, fun hf => (by cases hf), fun i a hi => by obtain ⟨cs, h1, h3⟩ := hrow i a hi; exact ⟨cs, h1, h3⟩⟩⟩

end Go.Proofs.Ytakplomopbnekaa

namespace Go.Proofs.Ytakplomopbnekaa
open Go.RowKit Go.Shelf
set_option linter.unusedVariables false

/-- What DropTimer answers. -/
def dtC (now : Int) (ys : List (List Tmr)) (k : Tmr) : Int := if faultW now ys ≠ 0 then faultW now ys else if (ys.flatten.any fun t => keyT t k) = true then 0 else 4
def dtN (now : Int) (ys : List (List Tmr)) (k : Tmr) : Int := if dtC now ys k = 0 then now else 0
def dtR (now : Int) (ys : List (List Tmr)) (k : Tmr) : List (List Tmr) := if dtC now ys k = 0 then ys.map (fun y => y.filter fun t => !keyT t k) else []
theorem dtC_ok {now : Int} {ys : List (List Tmr)} {k : Tmr} (h : dtC now ys k = 0) : faultW now ys = 0 := by
  unfold dtC at h
  by_cases hf : faultW now ys = 0
  · exact hf
  · rw [if_pos hf] at h; exact absurd h hf
theorem tot_map_filter (p : Tmr → Bool) (ys : List (List Tmr)) : tot (ys.map fun y => y.filter p) ≤ tot ys := by
  induction ys with
  | nil => simp [tot]
  | cons y r ih =>
    have := List.length_filter_le p y
    simp only [tot, List.map_cons, List.map_map, List.sum_cons, Function.comp_def] at ih ⊢
    omega
theorem dt_bd (now : Int) (ys : List (List Tmr)) (k : Tmr) : (dtR now ys k).length ≤ 1048576 ∧ (∀ y ∈ dtR now ys k, y.length ≤ 1048576) ∧ tot (dtR now ys k) ≤ 1048576 ∧ ([] : List Tmr).length ≤ 1048576 := by
  unfold dtR
  by_cases h : dtC now ys k = 0
  · obtain ⟨_, h1, h2⟩ := fault_ok (dtC_ok h)
    rw [if_pos h]
    have h3 := tot_map_filter (fun t => !keyT t k) ys
    refine ⟨by simp; omega, fun y hy => ?_, by omega, by simp⟩
    obtain ⟨i, hi, rfl⟩ := List.getElem_of_mem hy
    have := tot_at _ i _ (List.getElem?_eq_getElem hi)
    omega
  · rw [if_neg h]
    exact ⟨by simp, fun y hy => (by cases hy), by simp [tot], by simp⟩

section
attribute [local go_sem] Oper.semAt_some

set_option maxRecDepth 100000 in
set_option maxHeartbeats 4000000 in
theorem dropTimer_any (now : Int) (k : Tmr) (q : Bool) (lo hi : Nat) (A : Option Addr) (n c : Nat) (ys : List (List Tmr)) (w : World) (ha : Rep.timer.rows.Sl q lo hi w A n ys) (hh : hi ≤ w.heap.size) (hn : n ≤ 1048576) (hm : ∀ y ∈ ys, y.length ≤ 1048576) (hc : n ≤ c) :
    Calls Try.prog 18 #[.agg #[.int .i64 now, .slice A n c], .agg #[.int .i64 k.typ, .int .i64 k.id, .int .i64 k.adv]] w (WOut w (dtC now ys k) (dtN now ys k) (dtR now ys k) []) := by
  have HA := Rep.Sl.kept ha hh
  have hl := ha.1
  have HM := Lib.hid hm
  obtain ⟨r, hr⟩ : ∃ r, faultW now ys = r := ⟨_, rfl⟩
  have HRR := Lib.hid hr
  clear ha hm hr
  go_enter Try.func18, Try.ntmps18
  go_upto_region 1 with (fail)
  refine Code.wp_name ?_
  intro V hV
  have HX : Hid (Box V w.heap.size 26 #[.int .i64 now, .slice A n c]) := Lib.hid (by rw [hV]; exact ((Box.made _ _ _).over _).over _)
  have HK : Hid (Box V (w.heap.size + 1) 34 #[.int .i64 k.typ, .int .i64 k.id, .int .i64 k.adv]) := Lib.hid (by rw [hV]; exact (Box.made_at _ _ _ (by simp)).over _)
  have HR : Hid (Box V (w.heap.size + 2) 31 #[.int .i64 0, .int .i64 0, .slice none 0 0, .slice none 0 0]) := Lib.hid (by rw [hV]; exact Box.made_at _ _ _ (by simp))
  have HB : Hid (Below w.heap.size w V) := Lib.hid (by rw [hV]; exact (((Below.refl _ _).alloc (Nat.le_refl _) _).alloc (by simp) _).alloc (by simp; omega) _)
  have HZ : Hid (w.heap.size + 3 = V.heap.size) := Lib.hid (by rw [hV]; simp)
  clear hV
  have c0 := HX.out.look 0
  have c1 := HX.out.look 1
  have hxl := HX.out.lt
  go_wp2_with fail
  refine (wheelFault_any now q lo hi A n c ys _ (HA.below HB.out).sl (HA.below HB.out).le hn HM.out hc).mono ?_
  rw [HRR.out]
  rintro e w1 ⟨rfl, hb1⟩
  have HX1 := Lib.hid (HX.out.below hb1)
  have HK1 := Lib.hid (HK.out.below hb1)
  have HR1 := Lib.hid (HR.out.below hb1)
  have HB1 := Lib.hid (below_step HB.out hb1)
  have HZ1 : Hid (w.heap.size + 3 ≤ w1.heap.size) := Lib.hid (by have := HZ.out; have := hb1.size; omega)
  clear hb1 HX HR HB HZ HK c0 c1 hxl
  have c0 := HX1.out.look 0
  have c1 := HX1.out.look 1
  have hxl := HX1.out.lt
  by_cases hr0 : r = 0
  · subst hr0
    obtain ⟨hok, h24, h60⟩ := fault_ok HRR.out
    obtain rfl : n = 24 := by omega
    go_wp2_with fail
    refine (dialOf_rows now q lo hi A c ys _ (HA.below HB1.out).sl (HA.below HB1.out).le hc).mono ?_
    rintro e w2 ⟨s, rfl, hds, hb2⟩
    have HR2 := Lib.hid (HR1.out.below hb2)
    have HK2 := Lib.hid (HK1.out.below hb2)
    have HB2 := Lib.hid (below_step HB1.out hb2)
    have HZ2 : Hid (w.heap.size + 3 ≤ w2.heap.size) := Lib.hid (by have := HZ1.out; have := hb2.size; omega)
    have HS2 := Lib.hid (hds.below hb2 (HA.below HB1.out).le)
    have HONE : Hid (∀ k, k < 24 → (s k).oneCell' = true) := Lib.hid (fun k hk => by obtain ⟨E, d, e, _⟩ := hds k hk; rw [e]; rfl)
    clear hds hb2 HX1 HR1 HB1 HK1 c0 c1 hxl
    go_upto_region 5 with (refine wpList_store_dial (now := 0) (now' := now) (s := fun _ => .slice none 0 0) (s' := s) rfl _ _ rfl rfl rfl (Box.made w2 112 (dialCells 0 fun _ => .slice none 0 0)) HONE.out ?_)
    refine Code.wp_name ?_
    intro V3 hV3
    have HR3 : Hid (Box V3 (w.heap.size + 2) 31 #[.int .i64 0, .int .i64 0, .slice none 0 0, .slice none 0 0]) := Lib.hid (by rw [hV3]; exact (HR2.out.over _).grown (setRow_grown _ _ _) (by have := HZ2.out; simp; omega))
    have HK3 : Hid (Box V3 (w.heap.size + 1) 34 #[.int .i64 k.typ, .int .i64 k.id, .int .i64 k.adv]) := Lib.hid (by rw [hV3]; exact (HK2.out.over _).grown (setRow_grown _ _ _) (by have := HZ2.out; simp; omega))
    have HD3 : Hid (Box V3 w2.heap.size 112 (dialCells now s)) := Lib.hid (by rw [hV3]; exact (Box.made w2 _ _).setRow)
    have hb3 : Below w2.heap.size w2 V3 := by rw [hV3]; exact ((Below.refl _ _).alloc (Nat.le_refl _) _).grown (setRow_grown _ _ _) (by simp) (fun k e => by injection e with e; omega)
    have HB3 := Lib.hid (below_step HB2.out hb3)
    have HHI : Hid (hi ≤ w2.heap.size) := Lib.hid (Nat.le_trans hh HB2.out.size)
    have HS3 := Lib.hid (HS2.out.below hb3 HHI.out)
    have HZ3 : Hid (w2.heap.size + 1 = V3.heap.size) := Lib.hid (by rw [hV3]; simp [World.setRow])
    have HT : Hid (∀ k, k < 24 → (ys.getD k []).length ≤ 40000) := Lib.hid (fun k hk => by have := getD_tot (ys := ys) k; omega)
    have HH3 : Hid (hi ≤ V3.heap.size) := Lib.hid (by have := HHI.out; have := HZ3.out; omega)
    clear hV3 HR2 HB2 HS2 hb3 HK2
    obtain ⟨z, hz⟩ : ∃ z, (ys.flatten.any fun t => keyT t k) = z := ⟨_, rfl⟩
    have HZZ := Lib.hid hz
    clear hz
    have k0 := HK3.out.look 0
    have k1 := HK3.out.look 1
    have k2 := HK3.out.look 2
    have hkl := HK3.out.lt
    go_wp2_with (refine wpList_load_dial rfl _ rfl rfl HD3.out ?_)
    refine (has_any now s (fun k => ys.getD k []) lo hi k _ HS3.out HH3.out HT.out).mono ?_
    rw [rows24 hl, HZZ.out]
    rintro e w4 ⟨rfl, hb4⟩
    have HR4 := Lib.hid (HR3.out.below hb4)
    have HK4 := Lib.hid (HK3.out.below hb4)
    have HD4 := Lib.hid (HD3.out.below hb4)
    have HB4 := Lib.hid (below_step HB3.out hb4)
    have HS4 := Lib.hid (HS3.out.below hb4 HH3.out)
    have HH4 : Hid (hi ≤ w4.heap.size) := Lib.hid (Nat.le_trans HH3.out hb4.size)
    have HZ4 : Hid (w.heap.size + 3 ≤ w4.heap.size) := Lib.hid (by have := HZ3.out; have := HZ2.out; have := hb4.size; omega)
    clear hb4 HR3 HK3 HD3 HB3 HS3 k0 k1 k2 hkl HONE
    cases z with
    | true =>
      have hC : dtC now ys k = 0 := by unfold dtC; rw [if_neg (fun e => e HRR.out), if_pos HZZ.out]
      have HWO : Hid (dtC now ys k = 0 ∧ dtN now ys k = now ∧ dtR now ys k = ys.map (fun y => y.filter fun t => !keyT t k)) := Lib.hid ⟨hC, if_pos hC, if_pos hC⟩
      clear hC
      have k0 := HK4.out.look 0
      have k1 := HK4.out.look 1
      have k2 := HK4.out.look 2
      have hkl := HK4.out.lt
      go_wp2_with (refine wpList_load_dial rfl _ rfl rfl HD4.out ?_)
      refine (without_any now s (fun k => ys.getD k []) lo hi k _ HS4.out HH4.out (by rw [rows24 hl, show ys.flatten.length = tot ys by simp [tot]]; omega) HT.out (by rw [rows24 hl]; exact fault_in HRR.out)).mono ?_
      rw [rows24 hl]
      rintro e w5 ⟨s5, rfl, hdc, hb5⟩
      have HDC := Lib.hid hdc
      have HR5 := Lib.hid (HR4.out.below hb5)
      have HB5 := Lib.hid (below_step HB4.out hb5)
      have HZ5 : Hid (w.heap.size + 3 ≤ w5.heap.size) := Lib.hid (by have := HZ4.out; have := hb5.size; omega)
      clear hdc hb5 HR4 HK4 HD4 HB4 HS4 k0 k1 k2 hkl
      go_wp2_with fail
      refine (wheel_any now s5 _ _ _ _ HDC.out.din (Nat.le_refl _) (fun i _ => by
        have h1 := withAll_le now (ys.flatten.filter fun t => !keyT t k) i
        have h2 := List.length_filter_le (fun t => !keyT t k) ys.flatten
        have h3 : ys.flatten.length = tot ys := by simp [tot]
        omega)).mono ?_
      rw [rows_filter HRR.out]
      rintro e w6 ⟨P, pc, vs, rfl, hor, hrr, hb6⟩
      have HK0 := RowsO.resK hrr hor
      have HK6 := ResK.kept HK0 (Nat.le_refl _)
      have HR6 := HR5.out.below hb6
      have HB6 := below_step HB5.out hb6
      clear hb6 hor hrr HK0
      obtain ⟨hbx, hres⟩ := res_stored (g := w.heap.size + 2) HR6 (by omega) (by have := HZ5.out; omega) HB6 HK6 0 now pc 0
      have r0 := HR6.look 0
      have r1 := HR6.look 1
      have r2 := HR6.look 2
      have r3 := HR6.look 3
      have f0 := HR6.free 0
      have f1 := HR6.free 1
      have f2 := HR6.free 2
      have f3 := HR6.free 3
      have hrl := HR6.lt
      go_wp2
      clear r0 r1 r2 r3 f0 f1 f2 f3 hrl
      have q0 := hbx.look 0
      have q1 := hbx.look 1
      have q2 := hbx.look 2
      have q3 := hbx.look 3
      exact bodyPost_ret (v := .agg #[.int .i64 0, .int .i64 now, .slice P 24 pc, .slice none 0 0]) (by simp [results, Try.results18, go_sem, q0, q1, q2, q3]) rfl (by rw [HWO.out.1, HWO.out.2.1, HWO.out.2.2]; exact hres)
    | false =>
      have hC : dtC now ys k = 4 := by unfold dtC; rw [if_neg (fun e => e HRR.out), if_neg (by rw [HZZ.out]; simp)]
      have hC' : ¬ dtC now ys k = 0 := by rw [hC]; omega
      have HWO : Hid (dtC now ys k = 4 ∧ dtN now ys k = 0 ∧ dtR now ys k = []) := Lib.hid ⟨hC, if_neg hC', if_neg hC'⟩
      clear hC hC'
      have r0 := HR4.out.look 0
      have r1 := HR4.out.look 1
      have r2 := HR4.out.look 2
      have r3 := HR4.out.look 3
      have f0 := HR4.out.free 0
      have f1 := HR4.out.free 1
      have f2 := HR4.out.free 2
      have f3 := HR4.out.free 3
      have hrl := HR4.out.lt
      go_wp2
      clear r0 r1 r2 r3 f0 f1 f2 f3 hrl
      have hbx := (((HR4.out.puts 0 (.int .i64 4) (cs' := #[.int .i64 4, .int .i64 0, .slice none 0 0, .slice none 0 0]) rfl).puts 1 (.int .i64 0) (cs' := #[.int .i64 4, .int .i64 0, .slice none 0 0, .slice none 0 0]) rfl).puts 2 (.slice none 0 0) (cs' := #[.int .i64 4, .int .i64 0, .slice none 0 0, .slice none 0 0]) rfl).puts 3 (.slice none 0 0) (cs' := #[.int .i64 4, .int .i64 0, .slice none 0 0, .slice none 0 0]) rfl
      have q0 := hbx.look 0
      have q1 := hbx.look 1
      have q2 := hbx.look 2
      have q3 := hbx.look 3
      exact bodyPost_ret (v := .agg #[.int .i64 4, .int .i64 0, .slice none 0 0, .slice none 0 0]) (by simp [results, Try.results18, go_sem, q0, q1, q2, q3]) rfl (by rw [HWO.out.1, HWO.out.2.1, HWO.out.2.2]; refine WOut.zero ?_; exact (((HB4.out.setCell (by simp; try omega) _).setCell (by simp; try omega) _).setCell (by simp; try omega) _).setCell (by simp; try omega) _)
  · have hC : dtC now ys k = r := by unfold dtC; rw [HRR.out, if_pos hr0]
    have hC' : ¬ dtC now ys k = 0 := by rw [hC]; exact hr0
    have HWO : Hid (dtC now ys k = r ∧ dtN now ys k = 0 ∧ dtR now ys k = []) := Lib.hid ⟨hC, if_neg hC', if_neg hC'⟩
    have hr0' : (r != 0) = true := by rw [bne_iff_ne]; exact hr0
    clear hr0 hC hC'
    have r0 := HR1.out.look 0
    have r1 := HR1.out.look 1
    have r2 := HR1.out.look 2
    have r3 := HR1.out.look 3
    have f0 := HR1.out.free 0
    have f1 := HR1.out.free 1
    have f2 := HR1.out.free 2
    have f3 := HR1.out.free 3
    have hrl := HR1.out.lt
    go_wp2
    clear r0 r1 r2 r3 f0 f1 f2 f3 hrl
    have hbx := (((HR1.out.puts 0 (.int .i64 r) (cs' := #[.int .i64 r, .int .i64 0, .slice none 0 0, .slice none 0 0]) rfl).puts 1 (.int .i64 0) (cs' := #[.int .i64 r, .int .i64 0, .slice none 0 0, .slice none 0 0]) rfl).puts 2 (.slice none 0 0) (cs' := #[.int .i64 r, .int .i64 0, .slice none 0 0, .slice none 0 0]) rfl).puts 3 (.slice none 0 0) (cs' := #[.int .i64 r, .int .i64 0, .slice none 0 0, .slice none 0 0]) rfl
    have q0 := hbx.look 0
    have q1 := hbx.look 1
    have q2 := hbx.look 2
    have q3 := hbx.look 3
    exact bodyPost_ret (v := .agg #[.int .i64 r, .int .i64 0, .slice none 0 0, .slice none 0 0]) (by simp [results, Try.results18, go_sem, q0, q1, q2, q3]) rfl (by rw [HWO.out.1, HWO.out.2.1, HWO.out.2.2]; refine WOut.zero ?_; exact (((HB1.out.setCell (by simp; try omega) _).setCell (by simp; try omega) _).setCell (by simp; try omega) _).setCell (by simp; try omega) _)

end
end Go.Proofs.Ytakplomopbnekaa

namespace Go.Proofs.Ytakplomopbnekaa
open Go.RowKit Go.Shelf
set_option linter.unusedVariables false

/-- What AddTimer answers. -/
def atC (now : Int) (ys : List (List Tmr)) (t : Tmr) : Int :=
  if faultW now ys ≠ 0 then faultW now ys else if poC now t.due ≠ 0 then 3 else if (ys.flatten.any fun u => keyT u t) = true then 8 else if tot ys = 60 then 9 else 0
def atN (now : Int) (ys : List (List Tmr)) (t : Tmr) : Int := if atC now ys t = 0 then now else 0
def addR (now : Int) (ys : List (List Tmr)) (t : Tmr) : List (List Tmr) := ys.set (poV now t.due).toNat (ys.getD (poV now t.due).toNat [] ++ [t])
def atR (now : Int) (ys : List (List Tmr)) (t : Tmr) : List (List Tmr) := if atC now ys t = 0 then addR now ys t else []
theorem atC_0 {now : Int} {ys : List (List Tmr)} {t : Tmr} (h : atC now ys t = 0) : faultW now ys = 0 ∧ poC now t.due = 0 ∧ (ys.flatten.any fun u => keyT u t) = false ∧ ¬ tot ys = 60 := by
  unfold atC at h
  by_cases h1 : faultW now ys = 0
  · rw [if_neg (fun e => e h1)] at h
    by_cases h2 : poC now t.due = 0
    · rw [if_neg (fun e => e h2)] at h
      by_cases h3 : (ys.flatten.any fun u => keyT u t) = true
      · rw [if_pos h3] at h; omega
      · rw [if_neg h3] at h
        by_cases h4 : tot ys = 60
        · rw [if_pos h4] at h; omega
        · exact ⟨h1, h2, by simpa using h3, h4⟩
    · rw [if_pos h2] at h; omega
  · rw [if_pos h1] at h; exact absurd h h1
theorem tot_set {ys : List (List Tmr)} {k : Nat} {z : List Tmr} (hk : k < ys.length) : tot (ys.set k z) + (ys.getD k []).length = tot ys + z.length := by
  induction ys generalizing k with
  | nil => simp at hk
  | cons a r ih =>
    cases k with
    | zero => simp [tot]; omega
    | succ k =>
      have := ih (k := k) (by simpa using hk)
      simp only [tot, List.set_cons_succ, List.map_cons, List.sum_cons, List.getD_cons_succ] at this ⊢
      omega
theorem at_bd (now : Int) (ys : List (List Tmr)) (t : Tmr) : (atR now ys t).length ≤ 1048576 ∧ (∀ y ∈ atR now ys t, y.length ≤ 1048576) ∧ tot (atR now ys t) ≤ 1048576 ∧ ([] : List Tmr).length ≤ 1048576 := by
  unfold atR
  by_cases h : atC now ys t = 0
  · obtain ⟨hf, hp, _, _⟩ := atC_0 h
    obtain ⟨_, h1, h2⟩ := fault_ok hf
    obtain ⟨a, b, ha, hb, hpv⟩ := poV_split hp
    rw [if_pos h]
    have h3 : tot (addR now ys t) ≤ 61 := by
      have := tot_set (z := ys.getD (poV now t.due).toNat [] ++ [t]) (show (poV now t.due).toNat < ys.length by omega)
      unfold addR
      simp only [List.length_append, List.length_cons, List.length_nil] at this
      omega
    refine ⟨by unfold addR; rw [List.length_set]; omega, fun y hy => ?_, by omega, by simp⟩
    obtain ⟨i, hi, rfl⟩ := List.getElem_of_mem hy
    have := tot_at _ i _ (List.getElem?_eq_getElem hi)
    omega
  · rw [if_neg h]
    exact ⟨by simp, fun y hy => (by cases hy), by simp [tot], by simp⟩
theorem rows_put {now : Int} {ys : List (List Tmr)} {t : Tmr} (hl : ys.length = 24) (hp : poC now t.due = 0) : ((upto 24).map fun x => putY (fun k => ys.getD k []) (poV now t.due).toNat t x.1) = addR now ys t := by
  obtain ⟨a, b, ha, hb, hpv⟩ := poV_split hp
  have hp24 : (poV now t.due).toNat < 24 := by omega
  obtain ⟨p, hpp⟩ : ∃ p, (poV now t.due).toNat = p := ⟨_, rfl⟩
  unfold addR
  rw [hpp] at hp24 ⊢
  apply List.ext_getElem?
  intro i
  by_cases hi : i < 24
  · have hu : (upto 24)[i]? = some ⟨i, hi⟩ := by
      have h1 : i < (upto 24).length := by rw [upto_len (Nat.le_refl _)]; exact hi
      rw [List.getElem?_eq_getElem h1]
      rcases (show i = 0 ∨ i = 1 ∨ i = 2 ∨ i = 3 ∨ i = 4 ∨ i = 5 ∨ i = 6 ∨ i = 7 ∨ i = 8 ∨ i = 9 ∨ i = 10 ∨ i = 11 ∨ i = 12 ∨ i = 13 ∨ i = 14 ∨ i = 15 ∨ i = 16 ∨ i = 17 ∨ i = 18 ∨ i = 19 ∨ i = 20 ∨ i = 21 ∨ i = 22 ∨ i = 23 by omega) with h | h | h | h | h | h | h | h | h | h | h | h | h | h | h | h | h | h | h | h | h | h | h | h <;> subst h <;> rfl
    rw [List.getElem?_map, hu, List.getElem?_set]
    simp only [Option.map_some]
    unfold putY
    by_cases e : p = i
    · subst e
      rw [if_pos rfl, if_pos rfl, if_pos (by omega)]
    · rw [if_neg (fun h => e h.symm), if_neg e]
      rw [List.getElem?_eq_getElem (by omega)]
      simp [List.getD, (show i < ys.length by omega)]
  · rw [List.getElem?_eq_none (by simp [upto_len]; omega), List.getElem?_eq_none (by rw [List.length_set]; omega)]

section
attribute [local go_sem] Oper.semAt_some

set_option maxRecDepth 100000 in
set_option maxHeartbeats 4000000 in
theorem addTimer_any (now : Int) (t : Tmr) (q : Bool) (lo hi : Nat) (A : Option Addr) (n c : Nat) (ys : List (List Tmr)) (w : World) (ha : Rep.timer.rowsC.Sl q lo hi w A n ys) (hh : hi ≤ w.heap.size) (hn : n ≤ 1048576) (hm : ∀ y ∈ ys, y.length ≤ 1048576) (hc : n ≤ c) :
    Calls Try.prog 16 #[.agg #[.int .i64 now, .slice A n c], .agg #[.int .i64 t.typ, .int .i64 t.id, .int .i64 t.adv, .int .i64 t.due]] w (WOut w (atC now ys t) (atN now ys t) (atR now ys t) []) := by
  have HA := Rep.Sl.kept ha hh
  have hl := ha.1
  have HM := Lib.hid hm
  obtain ⟨r, hr⟩ : ∃ r, faultW now ys = r := ⟨_, rfl⟩
  have HRR := Lib.hid hr
  clear ha hm hr
  go_enter Try.func16, Try.ntmps16
  go_upto_region 1 with (fail)
  refine Code.wp_name ?_
  intro V hV
  have HX : Hid (Box V w.heap.size 26 #[.int .i64 now, .slice A n c]) := Lib.hid (by rw [hV]; exact ((Box.made _ _ _).over _).over _)
  have HK : Hid (Box V (w.heap.size + 1) 36 #[.int .i64 t.typ, .int .i64 t.id, .int .i64 t.adv, .int .i64 t.due]) := Lib.hid (by rw [hV]; exact (Box.made_at _ _ _ (by simp)).over _)
  have HR : Hid (Box V (w.heap.size + 2) 31 #[.int .i64 0, .int .i64 0, .slice none 0 0, .slice none 0 0]) := Lib.hid (by rw [hV]; exact Box.made_at _ _ _ (by simp))
  have HB : Hid (Below w.heap.size w V) := Lib.hid (by rw [hV]; exact (((Below.refl _ _).alloc (Nat.le_refl _) _).alloc (by simp) _).alloc (by simp; omega) _)
  have HZ : Hid (w.heap.size + 3 = V.heap.size) := Lib.hid (by rw [hV]; simp)
  clear hV
  have c0 := HX.out.look 0
  have c1 := HX.out.look 1
  have hxl := HX.out.lt
  go_wp2_with fail
  refine (wheelFault_any now q lo hi A n c ys _ (HA.below HB.out).sl.unC (HA.below HB.out).le hn HM.out hc).mono ?_
  rw [HRR.out]
  rintro e w1 ⟨rfl, hb1⟩
  have HX1 := Lib.hid (HX.out.below hb1)
  have HK1 := Lib.hid (HK.out.below hb1)
  have HR1 := Lib.hid (HR.out.below hb1)
  have HB1 := Lib.hid (below_step HB.out hb1)
  have HZ1 : Hid (w.heap.size + 3 ≤ w1.heap.size) := Lib.hid (by have := HZ.out; have := hb1.size; omega)
  clear hb1 HX HR HB HZ HK c0 c1 hxl
  have c0 := HX1.out.look 0
  have c1 := HX1.out.look 1
  have k3 := HK1.out.look 3
  have hxl := HX1.out.lt
  have hkl := HK1.out.lt
  by_cases hr0 : r = 0
  · subst hr0
    obtain ⟨hok, h24, h60⟩ := fault_ok HRR.out
    obtain rfl : n = 24 := by omega
    obtain ⟨pc, hpc⟩ : ∃ pc, poC now t.due = pc := ⟨_, rfl⟩
    have HPC := Lib.hid hpc
    clear hpc
    go_wp2_with fail
    refine (placeOf_any now t.due _).mono ?_
    rw [HPC.out]
    rintro e wp ⟨rfl, hbp⟩
    obtain ⟨pv, hpv⟩ : ∃ pv, poV now t.due = pv := ⟨_, rfl⟩
    have HPV := Lib.hid hpv
    rw [hpv]
    clear hpv
    clear c0 c1 k3 hxl hkl
    go_upto_region 5 with (fail)
    refine Code.wp_name ?_
    intro V1 hV1
    have hb1 : Below wp.heap.size wp V1 := by rw [hV1]; exact (Below.refl _ _).alloc (Nat.le_refl _) _
    have hb2 : Below w1.heap.size w1 V1 := below_step hbp hb1
    have HI : Hid (Box V1 wp.heap.size 52 #[.int .i64 pc, .int .i64 pv]) := Lib.hid (by rw [hV1]; exact Box.made _ _ _)
    have HXp := Lib.hid (HX1.out.below hb2)
    have HKp := Lib.hid (HK1.out.below hb2)
    have HRp := Lib.hid (HR1.out.below hb2)
    have HBp := Lib.hid (below_step HB1.out hb2)
    have HZp : Hid (w.heap.size + 3 ≤ V1.heap.size) := Lib.hid (by have := HZ1.out; have := hb2.size; omega)
    clear hb1 hb2 hbp hV1 HX1 HK1 HR1 HB1 HZ1
    have i0 := HI.out.look 0
    have hil := HI.out.lt
    by_cases hpc0 : pc = 0
    · subst hpc0
      have c0 := HXp.out.look 0
      have c1 := HXp.out.look 1
      have hxl := HXp.out.lt
      go_wp2_with fail
      clear i0 hil
      refine (dialOf_cap now q lo hi A c ys _ (HA.below HBp.out).sl (HA.below HBp.out).le hc).mono ?_
      rintro e w2 ⟨s, rfl, hds, hb2⟩
      have HR2 := Lib.hid (HRp.out.below hb2)
      have HK2 := Lib.hid (HKp.out.below hb2)
      have HB2 := Lib.hid (below_step HBp.out hb2)
      have HZ2 : Hid (w.heap.size + 3 ≤ w2.heap.size) := Lib.hid (by have := HZp.out; have := hb2.size; omega)
      have HS2 := Lib.hid (hds.below hb2 (HA.below HBp.out).le)
      have HONE : Hid (∀ k, k < 24 → (s k).oneCell' = true) := Lib.hid (fun k hk => by obtain ⟨E, d, e, _⟩ := hds k hk; rw [e]; rfl)
      clear hds hb2 HXp HRp HBp HKp HI c0 c1 hxl
      go_upto_region 8 with (refine wpList_store_dial (now := 0) (now' := now) (s := fun _ => .slice none 0 0) (s' := s) rfl _ _ rfl rfl rfl (Box.made w2 112 (dialCells 0 fun _ => .slice none 0 0)) HONE.out ?_)
      refine Code.wp_name ?_
      intro V3 hV3
      have HR3 : Hid (Box V3 (w.heap.size + 2) 31 #[.int .i64 0, .int .i64 0, .slice none 0 0, .slice none 0 0]) := Lib.hid (by rw [hV3]; exact (HR2.out.over _).grown (setRow_grown _ _ _) (by have := HZ2.out; simp; omega))
      have HK3 : Hid (Box V3 (w.heap.size + 1) 36 #[.int .i64 t.typ, .int .i64 t.id, .int .i64 t.adv, .int .i64 t.due]) := Lib.hid (by rw [hV3]; exact (HK2.out.over _).grown (setRow_grown _ _ _) (by have := HZ2.out; simp; omega))
      have HD3 : Hid (Box V3 w2.heap.size 112 (dialCells now s)) := Lib.hid (by rw [hV3]; exact (Box.made w2 _ _).setRow)
      have hb3 : Below w2.heap.size w2 V3 := by rw [hV3]; exact ((Below.refl _ _).alloc (Nat.le_refl _) _).grown (setRow_grown _ _ _) (by simp) (fun k e => by injection e with e; omega)
      have HB3 := Lib.hid (below_step HB2.out hb3)
      have HHI : Hid (hi ≤ w2.heap.size) := Lib.hid (Nat.le_trans hh HB2.out.size)
      have HS3 := Lib.hid (HS2.out.below hb3 HHI.out)
      have HZ3 : Hid (w2.heap.size + 1 = V3.heap.size) := Lib.hid (by rw [hV3]; simp [World.setRow])
      have HT : Hid (∀ k, k < 24 → (ys.getD k []).length ≤ 40000) := Lib.hid (fun k hk => by have := getD_tot (ys := ys) k; omega)
      have HH3 : Hid (hi ≤ V3.heap.size) := Lib.hid (by have := HHI.out; have := HZ3.out; omega)
      clear hV3 HR2 HB2 HS2 hb3 HK2
      obtain ⟨z, hz⟩ : ∃ z, (ys.flatten.any fun u => keyT u t) = z := ⟨_, rfl⟩
      have HZZ := Lib.hid hz
      clear hz
      have k0 := HK3.out.look 0
      have k1 := HK3.out.look 1
      have k2 := HK3.out.look 2
      have hkl := HK3.out.lt
      go_wp2_with (refine wpList_load_dial rfl _ rfl rfl HD3.out ?_)
      refine (has_any now s (fun k => ys.getD k []) lo hi t _ HS3.out.din HH3.out HT.out).mono ?_
      rw [rows24 hl, HZZ.out]
      rintro e w4 ⟨rfl, hb4⟩
      have HR4 := Lib.hid (HR3.out.below hb4)
      have HK4 := Lib.hid (HK3.out.below hb4)
      have HD4 := Lib.hid (HD3.out.below hb4)
      have HB4 := Lib.hid (below_step HB3.out hb4)
      have HS4 := Lib.hid (HS3.out.below hb4 HH3.out)
      have HH4 : Hid (hi ≤ w4.heap.size) := Lib.hid (Nat.le_trans HH3.out hb4.size)
      have HZ4 : Hid (w.heap.size + 3 ≤ w4.heap.size) := Lib.hid (by have := HZ3.out; have := HZ2.out; have := hb4.size; omega)
      clear hb4 HR3 HK3 HD3 HB3 HS3 k0 k1 k2 hkl HONE
      cases z with
      | false =>
        obtain ⟨m, hm⟩ : ∃ m, tot ys = m := ⟨_, rfl⟩
        have HMM := Lib.hid hm
        rw [hm] at h60
        clear hm
        go_wp2_with (refine wpList_load_dial rfl _ rfl rfl HD4.out ?_)
        refine (count_any now s (fun k => (ys.getD k []).length) _ (fun k hk => by obtain ⟨E, d, e, _⟩ := HS4.out k hk; exact ⟨E, d, e⟩) (fun k hk => by have := HT.out k hk; omega)).mono ?_
        rw [show cntP (fun k => (ys.getD k []).length) (upto 24) = m by rw [← HMM.out, ← rowsP_len, rows24 hl]; simp [tot]]
        rintro e w5 ⟨rfl, hb5⟩
        have HR5 := Lib.hid (HR4.out.below hb5)
        have HK5 := Lib.hid (HK4.out.below hb5)
        have HD5 := Lib.hid (HD4.out.below hb5)
        have HB5 := Lib.hid (below_step HB4.out hb5)
        have HS5 := Lib.hid (HS4.out.below hb5 HH4.out)
        have HH5 : Hid (hi ≤ w5.heap.size) := Lib.hid (Nat.le_trans HH4.out hb5.size)
        have HZ5 : Hid (w.heap.size + 3 ≤ w5.heap.size) := Lib.hid (by have := HZ4.out; have := hb5.size; omega)
        clear hb5 HR4 HK4 HD4 HB4 HS4
        by_cases hm60 : m = 60
        · have hC : atC now ys t = 9 := by unfold atC; rw [if_neg (fun e => e HRR.out), if_neg (fun e => e HPC.out), if_neg (by rw [HZZ.out]; simp), if_pos (by rw [HMM.out]; exact hm60)]
          have hC' : ¬ atC now ys t = 0 := by rw [hC]; omega
          have HWO : Hid (atC now ys t = 9 ∧ atN now ys t = 0 ∧ atR now ys t = []) := Lib.hid ⟨hC, if_neg hC', if_neg hC'⟩
          have he60 : ((m : Int) == 60) = true := by simp; omega
          clear hC hC' hm60
          have r0 := HR5.out.look 0
          have r1 := HR5.out.look 1
          have r2 := HR5.out.look 2
          have r3 := HR5.out.look 3
          have f0 := HR5.out.free 0
          have f1 := HR5.out.free 1
          have f2 := HR5.out.free 2
          have f3 := HR5.out.free 3
          have hrl := HR5.out.lt
          go_wp2
          clear r0 r1 r2 r3 f0 f1 f2 f3 hrl
          have hbx := (((HR5.out.puts 0 (.int .i64 9) (cs' := #[.int .i64 9, .int .i64 0, .slice none 0 0, .slice none 0 0]) rfl).puts 1 (.int .i64 0) (cs' := #[.int .i64 9, .int .i64 0, .slice none 0 0, .slice none 0 0]) rfl).puts 2 (.slice none 0 0) (cs' := #[.int .i64 9, .int .i64 0, .slice none 0 0, .slice none 0 0]) rfl).puts 3 (.slice none 0 0) (cs' := #[.int .i64 9, .int .i64 0, .slice none 0 0, .slice none 0 0]) rfl
          have q0 := hbx.look 0
          have q1 := hbx.look 1
          have q2 := hbx.look 2
          have q3 := hbx.look 3
          exact bodyPost_ret (v := .agg #[.int .i64 9, .int .i64 0, .slice none 0 0, .slice none 0 0]) (by simp [results, Try.results16, go_sem, q0, q1, q2, q3]) rfl (by rw [HWO.out.1, HWO.out.2.1, HWO.out.2.2]; refine WOut.zero ?_; exact (((HB5.out.setCell (by simp; try omega) _).setCell (by simp; try omega) _).setCell (by simp; try omega) _).setCell (by simp; try omega) _)
        · have hC : atC now ys t = 0 := by unfold atC; rw [if_neg (fun e => e HRR.out), if_neg (fun e => e HPC.out), if_neg (by rw [HZZ.out]; simp), if_neg (by rw [HMM.out]; exact hm60)]
          have HWO : Hid (atC now ys t = 0 ∧ atN now ys t = now ∧ atR now ys t = addR now ys t) := Lib.hid ⟨hC, if_pos hC, if_pos hC⟩
          have he60 : ((m : Int) == 60) = false := by simp; omega
          clear hC hm60
          have k0 := HK5.out.look 0
          have k1 := HK5.out.look 1
          have k2 := HK5.out.look 2
          have k3 := HK5.out.look 3
          have hkl := HK5.out.lt
          go_wp2_with (refine wpList_load_dial rfl _ rfl rfl HD5.out ?_)
          refine (with_any now s (fun k => ys.getD k []) 0 hi t _ (HS5.out.mono (Nat.zero_le _) (Nat.le_refl _)) (Nat.zero_le _) HH5.out HPC.out HT.out).mono ?_
          rintro e w6 ⟨s6, rfl, hdc, hb6⟩
          have HDC := Lib.hid hdc
          have HR6 := Lib.hid (HR5.out.below hb6)
          have HB6 := Lib.hid (below_step HB5.out hb6)
          have HZ6 : Hid (w.heap.size + 3 ≤ w6.heap.size) := Lib.hid (by have := HZ5.out; have := hb6.size; omega)
          clear hdc hb6 HR5 HK5 HD5 HB5 HS5 k0 k1 k2 k3 hkl
          go_wp2_with fail
          refine (wheel_any now s6 _ _ _ _ HDC.out.din (Nat.le_refl _) (fun i hi => by
            have h2 : (ys.getD i []).length ≤ tot ys := getD_tot (ys := ys) i
            have h3 := HMM.out
            show (if i = (poV now t.due).toNat then ys.getD i [] ++ [t] else ys.getD i []).length ≤ 40000
            split
            · rw [List.length_append, List.length_cons, List.length_nil]; omega
            · omega)).mono ?_
          rw [rows_put hl HPC.out]
          rintro e w7 ⟨P, pc, vs, rfl, hor, hrr, hb7⟩
          have HK0 := RowsO.resK hrr hor
          have HK7 := ResK.kept HK0 (Nat.le_refl _)
          have HR7 := HR6.out.below hb7
          have HB7 := below_step HB6.out hb7
          clear hb7 hor hrr HK0
          obtain ⟨hbx, hres⟩ := res_stored (g := w.heap.size + 2) HR7 (by omega) (by have := HZ6.out; omega) HB7 HK7 0 now pc 0
          have r0 := HR7.look 0
          have r1 := HR7.look 1
          have r2 := HR7.look 2
          have r3 := HR7.look 3
          have f0 := HR7.free 0
          have f1 := HR7.free 1
          have f2 := HR7.free 2
          have f3 := HR7.free 3
          have hrl := HR7.lt
          go_wp2
          clear r0 r1 r2 r3 f0 f1 f2 f3 hrl
          have q0 := hbx.look 0
          have q1 := hbx.look 1
          have q2 := hbx.look 2
          have q3 := hbx.look 3
          exact bodyPost_ret (v := .agg #[.int .i64 0, .int .i64 now, .slice P 24 pc, .slice none 0 0]) (by simp [results, Try.results16, go_sem, q0, q1, q2, q3]) rfl (by rw [HWO.out.1, HWO.out.2.1, HWO.out.2.2]; exact hres)
      | true =>
        have hC : atC now ys t = 8 := by unfold atC; rw [if_neg (fun e => e HRR.out), if_neg (fun e => e HPC.out), if_pos HZZ.out]
        have hC' : ¬ atC now ys t = 0 := by rw [hC]; omega
        have HWO : Hid (atC now ys t = 8 ∧ atN now ys t = 0 ∧ atR now ys t = []) := Lib.hid ⟨hC, if_neg hC', if_neg hC'⟩
        clear hC hC'
        have r0 := HR4.out.look 0
        have r1 := HR4.out.look 1
        have r2 := HR4.out.look 2
        have r3 := HR4.out.look 3
        have f0 := HR4.out.free 0
        have f1 := HR4.out.free 1
        have f2 := HR4.out.free 2
        have f3 := HR4.out.free 3
        have hrl := HR4.out.lt
        go_wp2
        clear r0 r1 r2 r3 f0 f1 f2 f3 hrl
        have hbx := (((HR4.out.puts 0 (.int .i64 8) (cs' := #[.int .i64 8, .int .i64 0, .slice none 0 0, .slice none 0 0]) rfl).puts 1 (.int .i64 0) (cs' := #[.int .i64 8, .int .i64 0, .slice none 0 0, .slice none 0 0]) rfl).puts 2 (.slice none 0 0) (cs' := #[.int .i64 8, .int .i64 0, .slice none 0 0, .slice none 0 0]) rfl).puts 3 (.slice none 0 0) (cs' := #[.int .i64 8, .int .i64 0, .slice none 0 0, .slice none 0 0]) rfl
        have q0 := hbx.look 0
        have q1 := hbx.look 1
        have q2 := hbx.look 2
        have q3 := hbx.look 3
        exact bodyPost_ret (v := .agg #[.int .i64 8, .int .i64 0, .slice none 0 0, .slice none 0 0]) (by simp [results, Try.results16, go_sem, q0, q1, q2, q3]) rfl (by rw [HWO.out.1, HWO.out.2.1, HWO.out.2.2]; refine WOut.zero ?_; exact (((HB4.out.setCell (by simp; try omega) _).setCell (by simp; try omega) _).setCell (by simp; try omega) _).setCell (by simp; try omega) _)
    · have hp3 : pc = 3 := by rw [← HPC.out] at hpc0 ⊢; unfold poC at hpc0 ⊢; by_cases hx : poOk now t.due; exact absurd (if_pos hx) hpc0; exact if_neg hx
      subst hp3
      have hC : atC now ys t = 3 := by unfold atC; rw [if_neg (fun e => e HRR.out), if_pos (by rw [HPC.out]; omega)]
      have hC' : ¬ atC now ys t = 0 := by rw [hC]; omega
      have HWO : Hid (atC now ys t = 3 ∧ atN now ys t = 0 ∧ atR now ys t = []) := Lib.hid ⟨hC, if_neg hC', if_neg hC'⟩
      clear hpc0 hC hC'
      have r0 := HRp.out.look 0
      have r1 := HRp.out.look 1
      have r2 := HRp.out.look 2
      have r3 := HRp.out.look 3
      have f0 := HRp.out.free 0
      have f1 := HRp.out.free 1
      have f2 := HRp.out.free 2
      have f3 := HRp.out.free 3
      have hrl := HRp.out.lt
      go_wp2
      clear r0 r1 r2 r3 f0 f1 f2 f3 hrl
      have hbx := (((HRp.out.puts 0 (.int .i64 3) (cs' := #[.int .i64 3, .int .i64 0, .slice none 0 0, .slice none 0 0]) rfl).puts 1 (.int .i64 0) (cs' := #[.int .i64 3, .int .i64 0, .slice none 0 0, .slice none 0 0]) rfl).puts 2 (.slice none 0 0) (cs' := #[.int .i64 3, .int .i64 0, .slice none 0 0, .slice none 0 0]) rfl).puts 3 (.slice none 0 0) (cs' := #[.int .i64 3, .int .i64 0, .slice none 0 0, .slice none 0 0]) rfl
      have q0 := hbx.look 0
      have q1 := hbx.look 1
      have q2 := hbx.look 2
      have q3 := hbx.look 3
      exact bodyPost_ret (v := .agg #[.int .i64 3, .int .i64 0, .slice none 0 0, .slice none 0 0]) (by simp [results, Try.results16, go_sem, q0, q1, q2, q3]) rfl (by rw [HWO.out.1, HWO.out.2.1, HWO.out.2.2]; refine WOut.zero ?_; exact (((HBp.out.setCell (by simp; try omega) _).setCell (by simp; try omega) _).setCell (by simp; try omega) _).setCell (by simp; try omega) _)
  · have hC : atC now ys t = r := by unfold atC; rw [HRR.out, if_pos hr0]
    have hC' : ¬ atC now ys t = 0 := by rw [hC]; exact hr0
    have HWO : Hid (atC now ys t = r ∧ atN now ys t = 0 ∧ atR now ys t = []) := Lib.hid ⟨hC, if_neg hC', if_neg hC'⟩
    have hr0' : (r != 0) = true := by rw [bne_iff_ne]; exact hr0
    clear hr0 hC hC' c0 c1 k3 hxl hkl
    have r0 := HR1.out.look 0
    have r1 := HR1.out.look 1
    have r2 := HR1.out.look 2
    have r3 := HR1.out.look 3
    have f0 := HR1.out.free 0
    have f1 := HR1.out.free 1
    have f2 := HR1.out.free 2
    have f3 := HR1.out.free 3
    have hrl := HR1.out.lt
    go_wp2
    clear r0 r1 r2 r3 f0 f1 f2 f3 hrl
    have hbx := (((HR1.out.puts 0 (.int .i64 r) (cs' := #[.int .i64 r, .int .i64 0, .slice none 0 0, .slice none 0 0]) rfl).puts 1 (.int .i64 0) (cs' := #[.int .i64 r, .int .i64 0, .slice none 0 0, .slice none 0 0]) rfl).puts 2 (.slice none 0 0) (cs' := #[.int .i64 r, .int .i64 0, .slice none 0 0, .slice none 0 0]) rfl).puts 3 (.slice none 0 0) (cs' := #[.int .i64 r, .int .i64 0, .slice none 0 0, .slice none 0 0]) rfl
    have q0 := hbx.look 0
    have q1 := hbx.look 1
    have q2 := hbx.look 2
    have q3 := hbx.look 3
    exact bodyPost_ret (v := .agg #[.int .i64 r, .int .i64 0, .slice none 0 0, .slice none 0 0]) (by simp [results, Try.results16, go_sem, q0, q1, q2, q3]) rfl (by rw [HWO.out.1, HWO.out.2.1, HWO.out.2.2]; refine WOut.zero ?_; exact (((HB1.out.setCell (by simp; try omega) _).setCell (by simp; try omega) _).setCell (by simp; try omega) _).setCell (by simp; try omega) _)

end
end Go.Proofs.Ytakplomopbnekaa

namespace Go.Proofs.Ytakplomopbnekaa
open Go.RowKit Go.Shelf
set_option linter.unusedVariables false

theorem scell_map (vs : List SlV) : vs.flatMap scell = vs.map fun v => .slice v.1 v.2.1 v.2.2 := by
  induction vs with
  | nil => rfl
  | cons v r ih => simp [scell, ih]
/-- A row is put into the outer list. -/
theorem OwnF.put1 {w : World} {B g c n : Nat} {vs : List SlV} (h : OwnF 29 1 scell w B (some ⟨g, 0, none⟩) n c vs) (k : Nat) (v : SlV) : OwnF 29 1 scell (w.setCell ⟨g, k, none⟩ (.slice v.1 v.2.1 v.2.2)) B (some ⟨g, 0, none⟩) n c (vs.set k v) := by
  refine ⟨by simpa using h.1, ?_⟩
  have := (World.ownsRow.stored h.2 k (.slice v.1 v.2.1 v.2.2)).1
  rw [scell_map] at this ⊢
  rw [List.map_set]
  exact this
theorem rows_step {ys : List (List Tmr)} {k N : Nat} {y : List Tmr} (hk : k < N) (hy : ys[k]? = some y) : (ys.take k ++ List.replicate (N - k) []).set k y = ys.take (k + 1) ++ List.replicate (N - (k + 1)) [] := by
  have hkl := (List.getElem?_eq_some_iff.1 hy).1
  have hlen : (ys.take k).length = k := by simp; omega
  rw [List.set_append_right _ _ (by omega), hlen, Nat.sub_self, show N - k = (N - (k + 1)) + 1 by omega, List.replicate_succ, List.set_cons_zero, List.take_succ_eq_append_getElem hkl, (List.getElem?_eq_some_iff.1 hy).2, List.append_assoc, List.singleton_append]

section
attribute [local go_sem] Oper.semAt_some

set_option maxRecDepth 100000 in
set_option maxHeartbeats 4000000 in
theorem l4Copy_any (q : Bool) (lo hi g : Nat) (A : Option Addr) (c : Nat) (now : Int) (ys : List (List Tmr)) (w : World) (hg : Box w g 26 #[.int .i64 now, .slice A 24 c]) (ha : Rep.timer.rows.Sl q lo hi w A 24 ys) (hh : hi ≤ w.heap.size) (hm : ∀ y ∈ ys, y.length ≤ 1048576) :
    Calls Try.prog 83 #[.pointer (some ⟨g, 0, none⟩)] w fun e w' => ∃ P pc vs, e = .returned (.agg #[.int .i64 now, .slice P 24 pc]) ∧ OwnF 29 1 scell w' w.heap.size P 24 pc vs ∧ RowsO w' w.heap.size vs ys ∧ Below w.heap.size w w' := by
  have HA := Rep.Sl.kept ha hh
  have HG := Lib.hid hg
  have HM := Lib.hid hm
  have hl := ha.1
  have hgl := hg.lt
  clear ha hg hm
  go_enter Try.func83, Try.ntmps83
  go_upto_region 1 with (fail)
  refine Code.wp_name ?_
  intro V hV
  have HR : Hid (Box V w.heap.size 26 #[.int .i64 0, .slice none 0 0]) := Lib.hid (by rw [hV]; exact Box.made _ _ _)
  have HB : Hid (Below w.heap.size w V) := Lib.hid (by rw [hV]; exact (Below.refl _ _).alloc (Nat.le_refl _) _)
  have HZ : Hid (w.heap.size + 1 = V.heap.size) := Lib.hid (by rw [hV]; simp)
  clear hV
  have HG1 := Lib.hid (HG.out.below HB.out)
  have c0 := HG1.out.look 0
  have c1 := HG1.out.look 1
  have hgl' := HG1.out.lt
  go_wp2_with fail
  refine (l4New_any now _).mono ?_
  rintro e w1 ⟨P, pc, rfl, ho1, hb1⟩
  clear c0 c1 hgl'
  have HR1 := Lib.hid (HR.out.below hb1)
  have HB1 := Lib.hid (below_step HB.out hb1)
  have HZ1 : Hid (w.heap.size + 1 ≤ w1.heap.size) := Lib.hid (by have := HZ.out; have := hb1.size; omega)
  obtain ⟨pg, rfl, hp1, hp2⟩ := ho1.form (by omega)
  have HP : Hid (w.heap.size < pg ∧ pg < w1.heap.size) := Lib.hid ⟨by have := HZ.out; omega, hp2⟩
  have HO1 := Lib.hid (ho1.mono (show w.heap.size ≤ V.heap.size from HB.out.size))
  have HQ1 := Lib.hid (@rowsNew w1 w.heap.size)
  clear HB HR hb1 ho1 hp1 hp2 HG1 HZ
  go_upto_region 2 with (fail)
  refine Code.wp_name ?_
  intro V2 hV2
  have hb2 : Below w1.heap.size w1 V2 := by rw [hV2]; exact (Below.refl _ _).alloc (Nat.le_refl _) _
  have HT2 : Hid (Box V2 w1.heap.size 26 #[.int .i64 now, .slice (some ⟨pg, 0, none⟩) 24 pc]) := Lib.hid (by rw [hV2]; exact Box.made _ _ _)
  have HR2 := Lib.hid (HR1.out.below hb2)
  have HB2 := Lib.hid (below_step HB1.out hb2)
  have HO2 := Lib.hid (HO1.out.below hb2)
  have HQ2 := Lib.hid (HQ1.out.below hb2)
  clear hV2 hb2 HR1 HB1 HO1 HQ1
  go_wp2
  go_loopw [4] (fun i wr => ∃ (k : Nat) (vs : List SlV), k ≤ 24 ∧ i = .int .i64 k ∧ Hid (Below w.heap.size w wr) ∧ Hid (Box wr w.heap.size 26 #[.int .i64 0, .slice none 0 0]) ∧ Hid (Box wr w1.heap.size 26 #[.int .i64 now, .slice (some ⟨pg, 0, none⟩) 24 pc]) ∧ Hid (OwnF 29 1 scell wr w.heap.size (some ⟨pg, 0, none⟩) 24 pc vs) ∧ Hid (RowsO wr w.heap.size vs (ys.take k ++ List.replicate (24 - k) []))) (fun i _ => 24 - (intOf i).toNat)
  case atStart => exact ⟨0, _, Nat.zero_le _, rfl, HB2, HR2, HT2, HO2, HQ2⟩
  case round =>
    obtain ⟨k, vs, hk, rfl, HB, HR, HT, HO, HQ⟩ := hrel
    have hG := HG.out.below HB.out
    have c1 := hG.look 1
    have hgl' := hG.lt
    by_cases hlt : k < 24
    · obtain ⟨b, o, y, F, m', c', rfl, hya, ce, hy⟩ := Rep.rows_at HA.sl hlt
      have hlt' : (k : Int) < 24 := by omega
      have hml : m' ≤ 1048576 := by rw [← hy.1]; exact HM.out y (List.mem_of_getElem? hya)
      have hbl := World.block_lt_of_cell? _ _ ce
      have HI := Lib.hid (Rep.timer_inF (hy.below HB.out hh))
      have HY := Lib.hid hya
      have HC := Lib.hid ce
      clear hya hy ce
      go_upto_region 5 with (fail)
      clear c1 hgl' hG
      have SB : Hid (∀ W, Hid (Below wr.heap.size wr W) → (fun W : World => W.cell? ⟨w1.heap.size, 1, none⟩ = some (.slice (some ⟨pg, 0, none⟩) 24 pc) ∧ W.cell? ⟨g, 1, none⟩ = some (.slice (some ⟨b, o, none⟩) 24 c) ∧ W.cell? ⟨b, o + k, none⟩ = some (.slice F m' c')) W) := fun W h => by
        have hbw := below_step HB.out h.out
        exact ⟨(HT.out.below h.out).look 1, (HG.out.below hbw).look 1, (hbw.cell (p := ⟨b, o + k, none⟩) hbl).trans HC.out⟩
      have V0 : Hid (Below wr.heap.size wr wr.drew) := (Below.refl _ _).drew
      refine wp_region_held_drew (S := (fun W : World => W.cell? ⟨w1.heap.size, 1, none⟩ = some (.slice (some ⟨pg, 0, none⟩) 24 pc) ∧ W.cell? ⟨g, 1, none⟩ = some (.slice (some ⟨b, o, none⟩) 24 c) ∧ W.cell? ⟨b, o + k, none⟩ = some (.slice F m' c'))) (by kernel_rfl) ?_ (fun hHeld => ?_)
      · (try dsimp only); exact SB.out _ V0
      refine wpAnyH_take (i := 0) (v := ?va0) rfl (by kernel_rfl) (by kernel_rfl) (by kernel_rfl) (fun _ _ _ h => h) (Or.inl ⟨by rfl, ?hya0⟩) (by assumption) ?resta0
      case hya0 => (intro W hSw; (try dsimp only at hSw); obtain ⟨hS1, hS2, hS3⟩ := hSw; (go_simp <;> with_reducible rfl))
      (try simp only [List.getElem_toArray, List.getElem_cons_zero, Act.put, List.setIfInBounds_toArray, List.set_cons_zero, List.set_cons_succ])
      refine wpAnyH_take (i := 1) (v := ?va1) rfl (by kernel_rfl) (by kernel_rfl) (by kernel_rfl) (fun _ _ _ h => h) (Or.inl ⟨by rfl, ?hya1⟩) (by assumption) ?resta1
      case hya1 => (intro W hSw; (try dsimp only at hSw); obtain ⟨hS1, hS2, hS3⟩ := hSw; (go_simp <;> with_reducible rfl))
      (try simp only [List.getElem_toArray, List.getElem_cons_succ, List.getElem_cons_zero, Act.put, List.setIfInBounds_toArray, List.set_cons_zero, List.set_cons_succ])
      refine wpAnyH_take (i := 2) (v := ?va2) rfl (by kernel_rfl) (by kernel_rfl) (by kernel_rfl) (fun _ _ _ h => h) (Or.inl ⟨by rfl, ?hya2⟩) (by assumption) ?resta2
      case hya2 => (intro W hSw; (try dsimp only at hSw); obtain ⟨hS1, hS2, hS3⟩ := hSw; (go_simp <;> with_reducible rfl))
      (try simp only [List.getElem_toArray, List.getElem_cons_succ, List.getElem_cons_zero, Act.put, List.setIfInBounds_toArray, List.set_cons_zero, List.set_cons_succ])
      refine wpAnyH_take (i := 4) (v := ?va4) rfl (by kernel_rfl) (by kernel_rfl) (by kernel_rfl) (fun _ _ _ h => h) (Or.inl ⟨by rfl, ?hya4⟩) (by assumption) ?resta4
      case hya4 => (intro W hSw; (try dsimp only at hSw); obtain ⟨hS1, hS2, hS3⟩ := hSw; (go_simp <;> with_reducible rfl))
      (try simp only [List.getElem_toArray, List.getElem_cons_succ, List.getElem_cons_zero, Act.put, List.setIfInBounds_toArray, List.set_cons_zero, List.set_cons_succ])
      refine wpAnyH_take (i := 5) (v := ?va5) rfl (by kernel_rfl) (by kernel_rfl) (by kernel_rfl) (fun _ _ _ h => h) (Or.inl ⟨by rfl, ?hya5⟩) (by assumption) ?resta5
      case hya5 => (intro W hSw; (try dsimp only at hSw); obtain ⟨hS1, hS2, hS3⟩ := hSw; (go_simp <;> with_reducible rfl))
      (try simp only [List.getElem_toArray, List.getElem_cons_succ, List.getElem_cons_zero, Act.put, List.setIfInBounds_toArray, List.set_cons_zero, List.set_cons_succ])
      refine wpAnyH_take (i := 6) (v := ?va6) rfl (by kernel_rfl) (by kernel_rfl) (by kernel_rfl) (fun _ _ _ h => h) (Or.inl ⟨by rfl, ?hya6⟩) (by assumption) ?resta6
      case hya6 => (intro W hSw; (try dsimp only at hSw); obtain ⟨hS1, hS2, hS3⟩ := hSw; (go_simp <;> with_reducible rfl))
      (try simp only [List.getElem_toArray, List.getElem_cons_succ, List.getElem_cons_zero, Act.put, List.setIfInBounds_toArray, List.set_cons_zero, List.set_cons_succ])
      refine wpAnyH_take (i := 7) (v := ?va7) rfl (by kernel_rfl) (by kernel_rfl) (by kernel_rfl) (fun _ _ _ h => h) (Or.inl ⟨by rfl, ?hya7⟩) (by assumption) ?resta7
      case hya7 => (intro W hSw; (try dsimp only at hSw); obtain ⟨hS1, hS2, hS3⟩ := hSw; (go_simp <;> with_reducible rfl))
      (try simp only [List.getElem_toArray, List.getElem_cons_succ, List.getElem_cons_zero, Act.put, List.setIfInBounds_toArray, List.set_cons_zero, List.set_cons_succ])
      refine wpAnyH_take (i := 8) (v := ?va8) rfl (by kernel_rfl) (by kernel_rfl) (by kernel_rfl) (fun _ _ _ h => h) (Or.inl ⟨by rfl, ?hya8⟩) (by assumption) ?resta8
      case hya8 => (intro W hSw; (try dsimp only at hSw); obtain ⟨hS1, hS2, hS3⟩ := hSw; (go_simp <;> with_reducible rfl))
      (try simp only [List.getElem_toArray, List.getElem_cons_succ, List.getElem_cons_zero, Act.put, List.setIfInBounds_toArray, List.set_cons_zero, List.set_cons_succ])
      refine wpAnyH_take (i := 9) (v := ?va9) rfl (by kernel_rfl) (by kernel_rfl) (by kernel_rfl) (fun _ _ _ h => h) (Or.inl ⟨by rfl, ?hya9⟩) (by assumption) ?resta9
      case hya9 => (intro W hSw; (try dsimp only at hSw); obtain ⟨hS1, hS2, hS3⟩ := hSw; (go_simp <;> with_reducible rfl))
      (try simp only [List.getElem_toArray, List.getElem_cons_succ, List.getElem_cons_zero, Act.put, List.setIfInBounds_toArray, List.set_cons_zero, List.set_cons_succ])
      refine wpAnyH_take (i := 10) (v := ?va10) rfl (by kernel_rfl) (by kernel_rfl) (by kernel_rfl) (fun _ _ _ h => h) (Or.inl ⟨by rfl, ?hya10⟩) (by assumption) ?resta10
      case hya10 => (intro W hSw; (try dsimp only at hSw); obtain ⟨hS1, hS2, hS3⟩ := hSw; (go_simp <;> with_reducible rfl))
      (try simp only [List.getElem_toArray, List.getElem_cons_succ, List.getElem_cons_zero, Act.put, List.setIfInBounds_toArray, List.set_cons_zero, List.set_cons_succ])
      have hE0 := emptyF 36 4 tcell wr.drew
      have hI0 : InF 4 tcell (wr.drew.alloc (.cells #[] 36)) F m' y := HI.out.below ((show Below wr.heap.size wr wr.drew from V0.out).alloc (Nat.le_refl _) _)
      refine wpAnyH_ready (rs := [3]) (by kernel_rfl) (by simp) ?_
      refine AllReadyH.cons rfl (fun K hK => ?_) AllReadyH.nil
      go_simp
      refine hK.out _ _ ?_ (fun hHeld => ?_)
      · (try dsimp only); exact SB.out _ (Lib.hid (V0.out.alloc (Nat.le_refl _) _))
      clear hK K
      (try simp only [List.getElem_toArray, List.getElem_cons_succ, List.getElem_cons_zero, Act.put, List.setIfInBounds_toArray, List.set_cons_zero, List.set_cons_succ])
      refine wpAnyH_ready (rs := [11]) (by kernel_rfl) (by simp) ?_
      refine AllReadyH.cons rfl (fun K hK => ?_) AllReadyH.nil
      refine step_appF0 tcell_len tcell_one Try.underlying29 timerInfo rfl (by decide) (by decide) rfl (.tmp 22) (.tmp 29) rfl (B := wr.heap.size) rfl hE0 rfl hI0 (by omega) (by simp) ?_
      intro A2 c2 u ho2 hg2
      rw [Nat.zero_add, List.nil_append] at ho2
      have V1 : Hid (Below wr.heap.size wr u) := Lib.hid ((V0.out.alloc (Nat.le_refl _) _).grown hg2 (by simp) (fun r e => by simp at e; omega))
      refine hK.out _ _ ?_ (fun hHeld => ?_)
      · (try dsimp only); exact SB.out _ V1
      clear hK K hE0 hI0 hg2
      (try simp only [List.getElem_toArray, List.getElem_cons_succ, List.getElem_cons_zero, Act.put, List.setIfInBounds_toArray, List.set_cons_zero, List.set_cons_succ])
      have hOu := HO.out.below V1.out
      have hvl : vs.length = 24 := hOu.1
      obtain ⟨v0, hv0⟩ : ∃ v, vs[k]? = some v := ⟨_, List.getElem?_eq_getElem (by omega)⟩
      have hpc := World.ownsRow.cellAt hOu.2 k (by omega)
      rw [scell_map, List.getElem?_map, hv0, Option.map_some] at hpc
      have hpf := World.ownsRow.frozenAt hOu.2 k
      have hul : pg < u.heap.size := by have := HP.out.2; have := HT.out.lt; have := V1.out.size; omega
      refine wpAnyH_take (i := 12) (v := ?va12) rfl (by kernel_rfl) (by kernel_rfl) (by kernel_rfl) (fun _ _ _ h => h) (Or.inl ⟨by rfl, ?hya12⟩) (by assumption) ?resta12
      case hya12 => (intro W hSw; (try dsimp only at hSw); obtain ⟨hS1, hS2, hS3⟩ := hSw; (go_simp <;> with_reducible rfl))
      (try simp only [List.getElem_toArray, List.getElem_cons_succ, List.getElem_cons_zero, Act.put, List.setIfInBounds_toArray, List.set_cons_zero, List.set_cons_succ])
      refine wpAnyH_ready (rs := [13]) (by kernel_rfl) (by simp) ?_
      refine AllReadyH.cons rfl (fun K hK => ?_) AllReadyH.nil
      clear hHeld
      go_simp
      have hbu := (below_step HB.out V1.out).setCell (p := ⟨pg, k, none⟩) (by have := HP.out.1; simp; omega) (.slice A2 m' c2)
      refine hK.out _ _ ?_ (fun hHeld => ?_)
      · (try dsimp only)
        exact ⟨((HT.out.below V1.out).aside (p := ⟨pg, k, none⟩) (by have := HP.out.2; simp; omega) _).look 1, (HG.out.below hbu).look 1, (hbu.cell (p := ⟨b, o + k, none⟩) hbl).trans HC.out⟩
      clear hK K
      (try simp only [List.getElem_toArray, List.getElem_cons_succ, List.getElem_cons_zero, Act.put, List.setIfInBounds_toArray, List.set_cons_zero, List.set_cons_succ])
      refine wpAnyH_done (by kernel_rfl) ?_ _
      have hRu := (HR.out.below V1.out).aside (p := ⟨pg, k, none⟩) (by have := HP.out.1; simp; omega) (.slice A2 m' c2)
      have hTu := (HT.out.below V1.out).aside (p := ⟨pg, k, none⟩) (by have := HP.out.2; simp; omega) (.slice A2 m' c2)
      have hOu2 := hOu.put1 k (A2, m', c2)
      have hQu := (HQ.out.below V1.out).set (v := (A2, m', c2)) (y := y) (w' := u.setCell ⟨pg, k, none⟩ (.slice A2 m' c2)) hv0
        ((ho2.mono (show w.heap.size ≤ wr.heap.size from HB.out.size)).grown (setCell_grown _ _ _) (.inr (fun e => by
          obtain ⟨cs1, h1⟩ := hOu.typ (r := pg) rfl
          obtain ⟨cs2, h2⟩ := ho2.typ (r := pg) e
          rw [h1] at h2; simp at h2)))
        (fun x hx r hr _ => (setCell_grown u ⟨pg, k, none⟩ (.slice A2 m' c2)).block r ((HQ.out.below V1.out).blk x hx r hr).2.1 (fun e => by
          obtain ⟨cs1, h1⟩ := hOu.typ (r := pg) rfl
          obtain ⟨_, _, cs2, h2⟩ := (HQ.out.below V1.out).blk x hx r hr
          injection e with e
          subst e
          rw [h1] at h2; simp at h2))
        (.inr fun x hx r hr e => by
          have h1 := (HQ.out.blk x hx r hr).2.1
          have h2 := (ho2.block r e).1
          omega)
      rw [rows_step hlt HY.out] at hQu
      clear hHeld hpc hpf hul hOu ho2
      go_wp2
      go_roundw
      case rel => exact ⟨k + 1, _, by omega, by go_num, Lib.hid hbu, Lib.hid hRu, Lib.hid hTu, Lib.hid hOu2, Lib.hid hQu⟩
      case measure => simp [intOf]; omega
    · have hk24 : k = 24 := by omega
      subst hk24
      have hQ := HQ.out
      rw [Nat.sub_self, List.replicate_zero, List.append_nil, List.take_of_length_le (by omega)] at hQ
      have hT := HT.out
      have hR := HR.out
      have t0 := hT.look 0
      have t1 := hT.look 1
      have htl := hT.lt
      have r0 := hR.look 0
      have r1 := hR.look 1
      have f0 := hR.free 0
      have f1 := hR.free 1
      have hrl := hR.lt
      go_wp2
      clear t0 t1 htl r0 r1 f0 f1
      have hbx := (hR.puts 0 (.int .i64 now) (cs' := #[.int .i64 now, .slice none 0 0]) rfl).puts 1 (.slice (some ⟨pg, 0, none⟩) 24 pc) (cs' := #[.int .i64 now, .slice (some ⟨pg, 0, none⟩) 24 pc]) rfl
      have q0 := hbx.look 0
      have q1 := hbx.look 1
      have hQ2 := hQ.same (w' := (wr.setCell ⟨w.heap.size, 0, none⟩ (.int .i64 now)).setCell ⟨w.heap.size, 1, none⟩ (.slice (some ⟨pg, 0, none⟩) 24 pc)) (fun v hv r hr => by
        have h1 := hQ.blk v hv r hr
        have hne : r ≠ w.heap.size := fun e => by
          obtain ⟨_, _, cs, h2⟩ := h1
          rw [e, show wr.heap[w.heap.size]? = _ from hR] at h2; simp at h2
        rw [Below.heap_setCell _ _ _ _ hne, Below.heap_setCell _ _ _ _ hne])
      refine bodyPost_ret (v := .agg #[.int .i64 now, .slice (some ⟨pg, 0, none⟩) 24 pc]) (by simp [results, Try.results83, go_sem, q0, q1]) rfl ⟨_, _, _, rfl, ?_, hQ2, (HB.out.setCell (by simp) _).setCell (by simp) _⟩
      exact (HO.out.grown (setCell_grown _ _ _) (.inr (by have := HP.out.1; simp; omega))).grown (setCell_grown _ _ _) (.inr (by have := HP.out.1; simp; omega))

set_option maxRecDepth 100000 in
set_option maxHeartbeats 4000000 in
theorem specTimersIn_any (now : Int) (q : Bool) (lo hi : Nat) (A : Option Addr) (n c : Nat) (ys : List (List Tmr)) (w : World) (ha : Rep.timer.rows.Sl q lo hi w A n ys) (hh : hi ≤ w.heap.size) (hn : n ≤ 1048576) (ht : tot ys ≤ 1048576) :
    Calls Try.prog 29 #[.agg #[.int .i64 now, .slice A n c]] w (WOut w (faultW now ys) (tiN now ys) (tiR now ys) (tiD now ys)) := by
  have HA := Rep.Sl.kept ha hh
  have hl := ha.1
  have HM : Hid (∀ y ∈ ys, y.length ≤ 1048576) := Lib.hid (fun y hy => by
    obtain ⟨i, hi, rfl⟩ := List.getElem_of_mem hy
    have := tot_at ys i _ (List.getElem?_eq_getElem hi)
    omega)
  obtain ⟨r, hr⟩ : ∃ r, faultW now ys = r := ⟨_, rfl⟩
  have HRR := Lib.hid hr
  have HTT := Lib.hid ht
  clear ha hr ht
  go_enter Try.func29, Try.ntmps29
  go_upto_region 1 with (fail)
  refine Code.wp_name ?_
  intro V hV
  have HX : Hid (Box V w.heap.size 26 #[.int .i64 now, .slice A n c]) := Lib.hid (by rw [hV]; exact (Box.made _ _ _).over _)
  have HR : Hid (Box V (w.heap.size + 1) 31 #[.int .i64 0, .int .i64 0, .slice none 0 0, .slice none 0 0]) := Lib.hid (by rw [hV]; exact Box.made_at _ _ _ (by simp))
  have HB : Hid (Below w.heap.size w V) := Lib.hid (by rw [hV]; exact ((Below.refl _ _).alloc (Nat.le_refl _) _).alloc (by simp) _)
  have HZ : Hid (w.heap.size + 2 = V.heap.size) := Lib.hid (by rw [hV]; simp)
  clear hV
  have c0 := HX.out.look 0
  have c1 := HX.out.look 1
  have hxl := HX.out.lt
  go_wp2_with fail
  refine (specWheelFault_any now q lo hi A n c ys _ (HA.below HB.out).sl (HA.below HB.out).le hn HTT.out).mono ?_
  rw [HRR.out]
  rintro e w1 ⟨rfl, hb1⟩
  have HX1 := Lib.hid (HX.out.below hb1)
  have HR1 := Lib.hid (HR.out.below hb1)
  have HB1 := Lib.hid (below_step HB.out hb1)
  have HZ1 : Hid (w.heap.size + 2 ≤ w1.heap.size) := Lib.hid (by have := HZ.out; have := hb1.size; omega)
  clear hb1 HX HR HB HZ c0 c1 hxl
  have hxl := HX1.out.lt
  have hrl := HR1.out.lt
  by_cases hr0 : r = 0
  · subst hr0
    obtain ⟨hok, h24, h60⟩ := fault_ok HRR.out
    obtain rfl : n = 24 := by omega
    have HWO : Hid (tiN now ys = now ∧ tiR now ys = ys ∧ tiD now ys = ys.flatten) := Lib.hid ⟨if_pos HRR.out, if_pos HRR.out, if_pos HRR.out⟩
    go_wp2_with fail
    refine (l4Copy_any q lo hi w.heap.size A c now ys _ HX1.out (HA.below HB1.out).sl (HA.below HB1.out).le HM.out).mono ?_
    rintro e w2 ⟨P, pc, vs, rfl, hor, hrr, hb2⟩
    have HX2 := Lib.hid (HX1.out.below hb2)
    have HR2 := Lib.hid (HR1.out.below hb2)
    have HB2 := Lib.hid (below_step HB1.out hb2)
    clear hxl hrl
    go_wp2_with fail
    refine (l4All_any q lo hi w.heap.size A 24 c now ys _ HX2.out (HA.below HB2.out).sl (HA.below HB2.out).le (by omega) HTT.out).mono ?_
    rintro e w3 ⟨E, m, d, rfl, hoe, hb3⟩
    have hor2 := hor.below hb3
    have hrr2 := hrr.below hb3
    have hoe2 := hoe.mono (show w1.heap.size ≤ w2.heap.size from hb2.size)
    have HK0 := RowsO.resK2 hrr2 hor2 hoe2 (fun v hv r hr e => by
      have h1 := (hrr.blk v hv r hr).2.1
      have h2 := (hoe.block r e).1
      omega)
    have HK := ResK.kept HK0 (Nat.le_refl _)
    have HR6 := HR2.out.below hb3
    have HB6 := below_step HB2.out hb3
    clear hb3 hor hrr hoe hor2 hrr2 hoe2 HK0 hb2
    obtain ⟨hbx, hres⟩ := res_stored (g := w.heap.size + 1) HR6 (by omega) (by have := HZ1.out; omega) HB6 HK 0 now pc d
    have r0 := HR6.look 0
    have r1 := HR6.look 1
    have r2 := HR6.look 2
    have r3 := HR6.look 3
    have f0 := HR6.free 0
    have f1 := HR6.free 1
    have f2 := HR6.free 2
    have f3 := HR6.free 3
    have hrl := HR6.lt
    go_wp2
    clear r0 r1 r2 r3 f0 f1 f2 f3 hrl
    have q0 := hbx.look 0
    have q1 := hbx.look 1
    have q2 := hbx.look 2
    have q3 := hbx.look 3
    exact bodyPost_ret (v := .agg #[.int .i64 0, .int .i64 now, .slice P 24 pc, .slice E m d]) (by simp [results, Try.results29, go_sem, q0, q1, q2, q3]) rfl (by rw [HRR.out, HWO.out.1, HWO.out.2.1, HWO.out.2.2]; exact hres)
  · have HWO : Hid (tiN now ys = 0 ∧ tiR now ys = [] ∧ tiD now ys = []) := Lib.hid (by have h : ¬ faultW now ys = 0 := by rw [HRR.out]; exact hr0
                                                                                       exact ⟨if_neg h, if_neg h, if_neg h⟩)
    have hr0' : (r != 0) = true := by rw [bne_iff_ne]; exact hr0
    clear hr0
    have r0 := HR1.out.look 0
    have r1 := HR1.out.look 1
    have r2 := HR1.out.look 2
    have r3 := HR1.out.look 3
    have f0 := HR1.out.free 0
    have f1 := HR1.out.free 1
    have f2 := HR1.out.free 2
    have f3 := HR1.out.free 3
    go_wp2
    clear r0 r1 r2 r3 f0 f1 f2 f3
    have hbx := (((HR1.out.puts 0 (.int .i64 r) (cs' := #[.int .i64 r, .int .i64 0, .slice none 0 0, .slice none 0 0]) rfl).puts 1 (.int .i64 0) (cs' := #[.int .i64 r, .int .i64 0, .slice none 0 0, .slice none 0 0]) rfl).puts 2 (.slice none 0 0) (cs' := #[.int .i64 r, .int .i64 0, .slice none 0 0, .slice none 0 0]) rfl).puts 3 (.slice none 0 0) (cs' := #[.int .i64 r, .int .i64 0, .slice none 0 0, .slice none 0 0]) rfl
    have q0 := hbx.look 0
    have q1 := hbx.look 1
    have q2 := hbx.look 2
    have q3 := hbx.look 3
    exact bodyPost_ret (v := .agg #[.int .i64 r, .int .i64 0, .slice none 0 0, .slice none 0 0]) (by simp [results, Try.results29, go_sem, q0, q1, q2, q3]) rfl (by rw [HRR.out, HWO.out.1, HWO.out.2.1, HWO.out.2.2]; refine WOut.zero ?_; exact (((HB1.out.setCell (by simp) _).setCell (by simp) _).setCell (by simp) _).setCell (by simp) _)

end
end Go.Proofs.Ytakplomopbnekaa

namespace Go.Proofs.Ytakplomopbnekaa
open Go.RowKit Go.Shelf
set_option linter.unusedVariables false

theorem InF.take {w : World} {A : Option Addr} {n : Nat} {ys : List Tmr} (h : InF 4 tcell w A n ys) (j : Nat) (hj : j ≤ n) : InF 4 tcell w A j (ys.take j) := by
  refine ⟨by simp [h.1]; omega, fun hp => ?_⟩
  obtain ⟨b, o, e, h2⟩ := h.2 (by omega)
  refine ⟨b, o, e, fun i u hu => h2 i u ?_⟩
  have hs : ys.flatMap tcell = (ys.take j).flatMap tcell ++ (ys.drop j).flatMap tcell := by rw [← List.flatMap_append, List.take_append_drop]
  rw [hs, List.getElem?_append_left (List.getElem?_eq_some_iff.1 hu).1]
  exact hu
theorem InF.drop {w : World} {b o n : Nat} {ys : List Tmr} (h : InF 4 tcell w (some ⟨b, o, none⟩) n ys) (j : Nat) (hj : j ≤ n) : InF 4 tcell w (some ⟨b, o + j * 4, none⟩) (n - j) (ys.drop j) := by
  refine ⟨by simp [h.1], fun hp => ?_⟩
  obtain ⟨b', o', e, h2⟩ := h.2 (by omega)
  injection e with e
  injection e with e1 e2
  subst e1 e2
  refine ⟨b, o + j * 4, rfl, fun i u hu => ?_⟩
  have hs : ys.flatMap tcell = (ys.take j).flatMap tcell ++ (ys.drop j).flatMap tcell := by rw [← List.flatMap_append, List.take_append_drop]
  have hl : ((ys.take j).flatMap tcell).length = j * 4 := by rw [flat_len tcell_len, List.length_take]; have := h.1; rw [Nat.min_eq_left (by omega)]
  have := h2 (j * 4 + i) u (by rw [hs, List.getElem?_append_right (by omega), hl, Nat.add_sub_cancel_left]; exact hu)
  rwa [← Nat.add_assoc] at this
/-- What l4Drop leaves of a slot. -/
def dropK (k : Tmr) (y : List Tmr) : List Tmr := if 0 ≤ findV y k then y.take (findV y k).toNat ++ y.drop ((findV y k).toNat + 1) else y
theorem findV_cases (y : List Tmr) (k : Tmr) : findV y k = -1 ∨ ∃ j : Nat, j < y.length ∧ findV y k = j := by
  unfold findV
  by_cases h : y.any (fun t => keyT t k) = true
  · rw [if_pos h]
    obtain ⟨t, ht, hk⟩ := List.any_eq_true.1 h
    exact .inr ⟨_, List.findIdx_lt_length_of_exists ⟨t, ht, hk⟩, rfl⟩
  · rw [if_neg h]; exact .inl rfl
theorem rows_at_i {k : Tmr} {ys : List (List Tmr)} {i : Nat} {y : List Tmr} (hy : ys[i]? = some y) : ((ys.take i).map (dropK k) ++ ys.drop i)[i]? = some y := by
  have hi := (List.getElem?_eq_some_iff.1 hy).1
  have hl : ((ys.take i).map (dropK k)).length = i := by simp; omega
  rw [List.getElem?_append_right (by omega), hl, Nat.sub_self, List.getElem?_drop]
  simpa using hy
theorem rows_set_i {k : Tmr} {ys : List (List Tmr)} {i : Nat} {y : List Tmr} (hy : ys[i]? = some y) : ((ys.take i).map (dropK k) ++ ys.drop i).set i (dropK k y) = (ys.take (i + 1)).map (dropK k) ++ ys.drop (i + 1) := by
  have hi := (List.getElem?_eq_some_iff.1 hy).1
  have hl : ((ys.take i).map (dropK k)).length = i := by simp; omega
  rw [List.set_append_right _ _ (by omega), hl, Nat.sub_self, List.drop_eq_getElem_cons hi, List.set_cons_zero, List.take_succ_eq_append_getElem hi, List.map_append, (List.getElem?_eq_some_iff.1 hy).2, List.append_assoc]
  rfl
theorem rows_same_i {k : Tmr} {ys : List (List Tmr)} {i : Nat} {y : List Tmr} (hy : ys[i]? = some y) (hd : dropK k y = y) : (ys.take i).map (dropK k) ++ ys.drop i = (ys.take (i + 1)).map (dropK k) ++ ys.drop (i + 1) := by
  rw [← rows_set_i hy, hd]
  obtain ⟨h1, h2⟩ := List.getElem?_eq_some_iff.1 (rows_at_i (k := k) hy)
  have := List.set_getElem_self h1
  rw [h2] at this
  exact this.symm

/-- A row of the own rows is put anew, in a fresh block. -/
theorem drop_put {w u u2 : World} {B g pg pc i n c : Nat} {now : Int} {k : Tmr} {vs : List SlV} {rows : List (List Tmr)} {y y' : List Tmr} {v : SlV} {E : Option Addr} (hBp : B ≤ pg) (hne : pg ≠ g) (hz : w.heap.size + 1 ≤ u.heap.size) (hB : B ≤ w.heap.size)
    (hq : RowsO u B vs rows) (ho : OwnF 29 1 scell u B (some ⟨pg, 0, none⟩) 24 pc vs) (hg : Box u g 26 #[.int .i64 now, .slice (some ⟨pg, 0, none⟩) 24 pc]) (hk : Box u w.heap.size 34 #[.int .i64 k.typ, .int .i64 k.id, .int .i64 k.adv]) (hb : Below B w u)
    (hu : Below u.heap.size u u2) (hv : vs[i]? = some v) (hy : rows[i]? = some y) (hn : OwnF 36 4 tcell u2 u.heap.size E n c y') :
    RowsO (u2.setCell ⟨pg, i, none⟩ (.slice E n c)) B (vs.set i (E, n, c)) (rows.set i y') ∧ OwnF 29 1 scell (u2.setCell ⟨pg, i, none⟩ (.slice E n c)) B (some ⟨pg, 0, none⟩) 24 pc (vs.set i (E, n, c)) ∧
    Box (u2.setCell ⟨pg, i, none⟩ (.slice E n c)) g 26 #[.int .i64 now, .slice (some ⟨pg, 0, none⟩) 24 pc] ∧ Box (u2.setCell ⟨pg, i, none⟩ (.slice E n c)) w.heap.size 34 #[.int .i64 k.typ, .int .i64 k.id, .int .i64 k.adv] ∧
    Below B w (u2.setCell ⟨pg, i, none⟩ (.slice E n c)) ∧ w.heap.size + 1 ≤ (u2.setCell ⟨pg, i, none⟩ (.slice E n c)).heap.size := by
  have hOu := ho.below hu
  have hQu := hq.below hu
  have hKu := hk.below hu
  have hbu := hb.size
  have hks : pg ≠ w.heap.size := fun e => by
    obtain ⟨cs, h1⟩ := hOu.typ (r := pg) rfl
    rw [e, show u2.heap[w.heap.size]? = _ from hKu] at h1; simp at h1
  have hg' := setCell_grown u2 ⟨pg, i, none⟩ (.slice E n c)
  refine ⟨hQu.set (v := (E, n, c)) (y := y') hv ((hn.mono (show B ≤ u.heap.size by omega)).grown hg' (.inr (fun e => ?_))) (fun x hx r hr _ => hg'.block r (hQu.blk x hx r hr).2.1 (fun e => ?_)) (.inr fun x hx r hr e => ?_), hOu.put1 i (E, n, c), (hg.below hu).aside (p := ⟨pg, i, none⟩) hne _, hKu.aside (p := ⟨pg, i, none⟩) hks _, (hb.trans (hu.mono (by omega))).setCell (p := ⟨pg, i, none⟩) hBp _, by have := hu.size; simp [World.setCell]; omega⟩
  · obtain ⟨cs1, h1⟩ := hOu.typ (r := pg) rfl
    obtain ⟨cs2, h2⟩ := hn.typ (r := pg) e
    rw [h1] at h2; simp at h2
  · obtain ⟨cs1, h1⟩ := hOu.typ (r := pg) rfl
    obtain ⟨_, _, cs2, h2⟩ := hQu.blk x hx r hr
    injection e with e
    subst e
    rw [h1] at h2; simp at h2
  · have h1 := (hq.blk x hx r hr).2.1
    have h2 := (hn.block r e).1
    omega

section
attribute [local go_sem] Oper.semAt_some

set_option maxRecDepth 100000 in
set_option maxHeartbeats 8000000 in
theorem l4Drop_any (B g pg pc : Nat) (now : Int) (vs : List SlV) (ys : List (List Tmr)) (k : Tmr) (w : World) (hg : Box w g 26 #[.int .i64 now, .slice (some ⟨pg, 0, none⟩) 24 pc]) (ho : OwnF 29 1 scell w B (some ⟨pg, 0, none⟩) 24 pc vs) (hr : RowsO w B vs ys) (hB : B ≤ w.heap.size) (hm : ∀ y ∈ ys, y.length ≤ 40000) :
    Calls Try.prog 88 #[.pointer (some ⟨g, 0, none⟩), .agg #[.int .i64 k.typ, .int .i64 k.id, .int .i64 k.adv]] w fun e w' => ∃ vs', e = .returned (.tuple #[]) ∧ Box w' g 26 #[.int .i64 now, .slice (some ⟨pg, 0, none⟩) 24 pc] ∧ OwnF 29 1 scell w' B (some ⟨pg, 0, none⟩) 24 pc vs' ∧ RowsO w' B vs' (ys.map (dropK k)) ∧ Below B w w' := by
  have HG := Lib.hid hg
  have HO := Lib.hid ho
  have HQ := Lib.hid hr
  have HM := Lib.hid hm
  have hyl : ys.length = 24 := by rw [← hr.len]; exact ho.1
  have hpb := ho.block pg rfl
  have hgne : pg ≠ g := fun e => by
    obtain ⟨cs, h1⟩ := ho.typ (r := pg) rfl
    rw [e, show w.heap[g]? = _ from hg] at h1; simp at h1
  have HP : Hid (B ≤ pg ∧ pg < w.heap.size ∧ pg ≠ g) := Lib.hid ⟨hpb.1, hpb.2, hgne⟩
  clear hg ho hr hm hpb hgne
  go_enter Try.func88, Try.ntmps88
  go_upto_region 1 with (fail)
  refine Code.wp_name ?_
  intro V hV
  have hbV : Below w.heap.size w V := by rw [hV]; exact (Below.refl _ _).alloc (Nat.le_refl _) _
  have HK1 : Hid (Box V w.heap.size 34 #[.int .i64 k.typ, .int .i64 k.id, .int .i64 k.adv]) := Lib.hid (by rw [hV]; exact Box.made _ _ _)
  have HG1 := Lib.hid (HG.out.below hbV)
  have HO1 := Lib.hid (HO.out.below hbV)
  have HQ1 := Lib.hid (HQ.out.below hbV)
  have HB1 : Hid (Below B w V) := Lib.hid (hbV.mono hB)
  have HZ1 : Hid (w.heap.size + 1 ≤ V.heap.size) := Lib.hid (by rw [hV]; simp)
  clear hV hbV HG HO HQ
  go_wp2
  go_loopw [4] (fun i wr => ∃ (j : Nat) (vs : List SlV), j ≤ 24 ∧ i = .int .i64 j ∧ Hid (Below B w wr) ∧ Hid (w.heap.size + 1 ≤ wr.heap.size) ∧ Hid (Box wr w.heap.size 34 #[.int .i64 k.typ, .int .i64 k.id, .int .i64 k.adv]) ∧ Hid (Box wr g 26 #[.int .i64 now, .slice (some ⟨pg, 0, none⟩) 24 pc]) ∧ Hid (OwnF 29 1 scell wr B (some ⟨pg, 0, none⟩) 24 pc vs) ∧ Hid (RowsO wr B vs ((ys.take j).map (dropK k) ++ ys.drop j))) (fun i _ => 24 - (intOf i).toNat)
  case atStart => exact ⟨0, vs, Nat.zero_le _, rfl, HB1, HZ1, HK1, HG1, HO1, HQ1⟩
  case round =>
    obtain ⟨i, vs, hi, rfl, HB, HZW, HK, HG, HO, HQ⟩ := hrel
    have c1 := HG.out.look 1
    have hgl := HG.out.lt
    by_cases hlt : i < 24
    · have hlt' : (i : Int) < 24 := by omega
      obtain ⟨y, hya⟩ : ∃ y, ys[i]? = some y := ⟨_, List.getElem?_eq_getElem (by omega)⟩
      have hvl : vs.length = 24 := HO.out.1
      obtain ⟨v0, hv0⟩ : ∃ v, vs[i]? = some v := ⟨_, List.getElem?_eq_getElem (by omega)⟩
      obtain ⟨E, m, c⟩ := v0
      have HY := Lib.hid hya
      have HV := Lib.hid hv0
      have hor : OwnT wr B (E, m, c) y := HQ.out.row i _ _ hv0 (rows_at_i hya)
      have HOR := Lib.hid hor
      have hym : y.length = m := hor.1
      have hml : m ≤ 40000 := by rw [← hym]; exact HM.out y (List.mem_of_getElem? hya)
      have hcell : wr.cell? ⟨pg, i, none⟩ = some (.slice E m c) := by
        have h := World.ownsRow.cellAt HO.out.2 i (by omega)
        rw [scell_map, List.getElem?_map, hv0] at h
        exact h
      have HC := Lib.hid hcell
      have hpl := World.block_lt_of_cell? _ _ hcell
      clear hya hv0 hor hcell hvl
      go_upto_region 4 with (fail)
      clear c1 hgl
      have SB : Hid (∀ W, Hid (Below wr.heap.size wr W) → (fun W : World => W.cell? ⟨g, 1, none⟩ = some (.slice (some ⟨pg, 0, none⟩) 24 pc) ∧ W.cell? ⟨pg, i, none⟩ = some (.slice E m c) ∧ W.cell? ⟨w.heap.size, 0, none⟩ = some (.int .i64 k.typ) ∧ W.cell? ⟨w.heap.size, 1, none⟩ = some (.int .i64 k.id) ∧ W.cell? ⟨w.heap.size, 2, none⟩ = some (.int .i64 k.adv)) W) := fun W h =>
        ⟨(HG.out.below h.out).look 1, (h.out.cell (p := ⟨pg, i, none⟩) hpl).trans HC.out, (HK.out.below h.out).look 0, (HK.out.below h.out).look 1, (HK.out.below h.out).look 2⟩
      have V0 : Hid (Below wr.heap.size wr wr.drew) := (Below.refl _ _).drew
      refine wp_region_held_drew (S := (fun W : World => W.cell? ⟨g, 1, none⟩ = some (.slice (some ⟨pg, 0, none⟩) 24 pc) ∧ W.cell? ⟨pg, i, none⟩ = some (.slice E m c) ∧ W.cell? ⟨w.heap.size, 0, none⟩ = some (.int .i64 k.typ) ∧ W.cell? ⟨w.heap.size, 1, none⟩ = some (.int .i64 k.id) ∧ W.cell? ⟨w.heap.size, 2, none⟩ = some (.int .i64 k.adv))) (by kernel_rfl) ?_ (fun hHeld => ?_)
      · (try dsimp only); exact SB.out _ V0
      refine wpAnyH_take (i := 0) (v := ?vt1_0) rfl (by kernel_rfl) (by kernel_rfl) (by kernel_rfl) (fun _ _ _ h => h) (Or.inl ⟨by rfl, ?hyt1_0⟩) (by assumption) ?restt1_0
      case hyt1_0 => (intro W hSw; (try dsimp only at hSw); obtain ⟨hS1, hS2, hS3, hS4, hS5⟩ := hSw; (go_simp <;> with_reducible rfl))
      (try simp only [List.getElem_toArray, List.getElem_cons_zero, Act.put, List.setIfInBounds_toArray, List.set_cons_zero, List.set_cons_succ])
      refine wpAnyH_take (i := 1) (v := ?vt2_1) rfl (by kernel_rfl) (by kernel_rfl) (by kernel_rfl) (fun _ _ _ h => h) (Or.inl ⟨by rfl, ?hyt2_1⟩) (by assumption) ?restt2_1
      case hyt2_1 => (intro W hSw; (try dsimp only at hSw); obtain ⟨hS1, hS2, hS3, hS4, hS5⟩ := hSw; (go_simp <;> with_reducible rfl))
      (try simp only [List.getElem_toArray, List.getElem_cons_succ, List.getElem_cons_zero, Act.put, List.setIfInBounds_toArray, List.set_cons_zero, List.set_cons_succ])
      refine wpAnyH_take (i := 2) (v := ?vt3_2) rfl (by kernel_rfl) (by kernel_rfl) (by kernel_rfl) (fun _ _ _ h => h) (Or.inl ⟨by rfl, ?hyt3_2⟩) (by assumption) ?restt3_2
      case hyt3_2 => (intro W hSw; (try dsimp only at hSw); obtain ⟨hS1, hS2, hS3, hS4, hS5⟩ := hSw; (go_simp <;> with_reducible rfl))
      (try simp only [List.getElem_toArray, List.getElem_cons_succ, List.getElem_cons_zero, Act.put, List.setIfInBounds_toArray, List.set_cons_zero, List.set_cons_succ])
      refine wpAnyH_take (i := 3) (v := ?vt4_3) rfl (by kernel_rfl) (by kernel_rfl) (by kernel_rfl) (fun _ _ _ h => h) (Or.inl ⟨by rfl, ?hyt4_3⟩) (by assumption) ?restt4_3
      case hyt4_3 => (intro W hSw; (try dsimp only at hSw); obtain ⟨hS1, hS2, hS3, hS4, hS5⟩ := hSw; (go_simp <;> with_reducible rfl))
      (try simp only [List.getElem_toArray, List.getElem_cons_succ, List.getElem_cons_zero, Act.put, List.setIfInBounds_toArray, List.set_cons_zero, List.set_cons_succ])
      refine wpAnyH_take (i := 4) (v := ?vt5_4) rfl (by kernel_rfl) (by kernel_rfl) (by kernel_rfl) (fun _ _ _ h => h) (Or.inl ⟨by rfl, ?hyt5_4⟩) (by assumption) ?restt5_4
      case hyt5_4 => (intro W hSw; (try dsimp only at hSw); obtain ⟨hS1, hS2, hS3, hS4, hS5⟩ := hSw; (go_simp <;> with_reducible rfl))
      (try simp only [List.getElem_toArray, List.getElem_cons_succ, List.getElem_cons_zero, Act.put, List.setIfInBounds_toArray, List.set_cons_zero, List.set_cons_succ])
      refine wpAnyH_take (i := 5) (v := ?vt6_5) rfl (by kernel_rfl) (by kernel_rfl) (by kernel_rfl) (fun _ _ _ h => h) (Or.inl ⟨by rfl, ?hyt6_5⟩) (by assumption) ?restt6_5
      case hyt6_5 => (intro W hSw; (try dsimp only at hSw); obtain ⟨hS1, hS2, hS3, hS4, hS5⟩ := hSw; (go_simp <;> with_reducible rfl))
      (try simp only [List.getElem_toArray, List.getElem_cons_succ, List.getElem_cons_zero, Act.put, List.setIfInBounds_toArray, List.set_cons_zero, List.set_cons_succ])
      refine wpAnyH_take (i := 6) (v := ?vt7_6) rfl (by kernel_rfl) (by kernel_rfl) (by kernel_rfl) (fun _ _ _ h => h) (Or.inl ⟨by rfl, ?hyt7_6⟩) (by assumption) ?restt7_6
      case hyt7_6 => (intro W hSw; (try dsimp only at hSw); obtain ⟨hS1, hS2, hS3, hS4, hS5⟩ := hSw; (go_simp <;> with_reducible rfl))
      (try simp only [List.getElem_toArray, List.getElem_cons_succ, List.getElem_cons_zero, Act.put, List.setIfInBounds_toArray, List.set_cons_zero, List.set_cons_succ])
      refine wpAnyH_take (i := 7) (v := ?vt8_7) rfl (by kernel_rfl) (by kernel_rfl) (by kernel_rfl) (fun _ _ _ h => h) (Or.inl ⟨by rfl, ?hyt8_7⟩) (by assumption) ?restt8_7
      case hyt8_7 => (intro W hSw; (try dsimp only at hSw); obtain ⟨hS1, hS2, hS3, hS4, hS5⟩ := hSw; (go_simp <;> with_reducible rfl))
      (try simp only [List.getElem_toArray, List.getElem_cons_succ, List.getElem_cons_zero, Act.put, List.setIfInBounds_toArray, List.set_cons_zero, List.set_cons_succ])
      refine wpAnyH_ready (rs := [8]) (by kernel_rfl) (by simp) ?_
      refine AllReadyH.cons rfl (fun K hK => ?_) AllReadyH.nil
      go_simp
      refine (l4Find_any true _ _ E m c y k _ ((Rep.Sl.kept (own_timers HOR.out) (Nat.le_refl _)).below V0.out).sl ((Rep.Sl.kept (own_timers HOR.out) (Nat.le_refl _)).below V0.out).le (by omega)).mono ?_
      rintro e u0 ⟨rfl, hb⟩
      have V1 := Lib.hid (below_step V0.out hb)
      clear hb
      refine hK.out _ _ ?_ (fun hHeld => ?_)
      · (try dsimp only); exact SB.out _ V1
      clear hK K
      (try simp only [List.getElem_toArray, List.getElem_cons_succ, List.getElem_cons_zero, Act.put, List.setIfInBounds_toArray, List.set_cons_zero, List.set_cons_succ])
      refine wpAnyH_take (i := 9) (v := ?vt9_9) rfl (by kernel_rfl) (by kernel_rfl) (by kernel_rfl) (fun _ _ _ h => h) (Or.inl ⟨by rfl, ?hyt9_9⟩) (by assumption) ?restt9_9
      case hyt9_9 => (intro W hSw; (try dsimp only at hSw); obtain ⟨hS1, hS2, hS3, hS4, hS5⟩ := hSw; (go_simp <;> with_reducible rfl))
      (try simp only [List.getElem_toArray, List.getElem_cons_succ, List.getElem_cons_zero, Act.put, List.setIfInBounds_toArray, List.set_cons_zero, List.set_cons_succ])
      refine wpAnyH_done (by kernel_rfl) ?_ _
      have HB1 := Lib.hid (HB.out.trans (V1.out.mono (Nat.le_trans hB HB.out.size)))
      have HZ1 : Hid (w.heap.size + 1 ≤ u0.heap.size) := Lib.hid (Nat.le_trans HZW.out V1.out.size)
      have HK1 := Lib.hid (HK.out.below V1.out)
      have HG1 := Lib.hid (HG.out.below V1.out)
      have HO1 := Lib.hid (HO.out.below V1.out)
      have HQ1 := Lib.hid (HQ.out.below V1.out)
      have HOR1 := Lib.hid (HOR.out.below V1.out)
      have HC1 := Lib.hid ((V1.out.cell (p := ⟨pg, i, none⟩) hpl).trans HC.out)
      clear SB V0 V1 HB HZW HK HG HO HQ HOR HC hHeld hpl
      rcases findV_cases y k with hf | ⟨j, hj, hf⟩
      · have HD : Hid (dropK k y = y) := Lib.hid (by unfold dropK; rw [hf, if_neg (by omega)])
        rw [hf]
        clear hf
        go_wp2
        go_roundw
        case rel => exact ⟨i + 1, vs, by omega, by go_num, HB1, HZ1, HK1, HG1, HO1, Lib.hid (by rw [← rows_same_i HY.out HD.out]; exact HQ1.out)⟩
        case measure => simp [intOf]; omega
      · have HD : Hid (dropK k y = y.take j ++ y.drop (j + 1)) := Lib.hid (by unfold dropK; rw [hf, if_pos (Int.natCast_nonneg j), Int.toNat_natCast])
        rw [hf]
        clear hf
        have hjm : j < m := by omega
        have hj0 : (0 : Int) ≤ j := by omega
        obtain ⟨pb, rfl, hpb1, hpb2⟩ := HOR1.out.form (show 0 < m by omega)
        have hmc : m ≤ c := by
          rcases HOR1.out.2.2 with ⟨h', _⟩ | ⟨g', cap', cur, h', _, _, hnc, _⟩
          · cases h'
          · simp only [Value.slice.injEq] at h'
            have h3 : c = cap' := h'.2.2
            have h4 : m ≤ cap' := hnc
            omega
        have hpl := World.block_lt_of_cell? _ _ HC1.out
        have hpc := HC1.out
        have HI : Hid (InF 4 tcell u0 (some ⟨pb, 0, none⟩) m y) := Lib.hid (OwnF.inF tcell_len HOR1.out)
        go_upto_region 6 with (fail)
        have SB : Hid (∀ W, Hid (Below u0.heap.size u0 W) → (fun W : World => W.cell? ⟨g, 1, none⟩ = some (.slice (some ⟨pg, 0, none⟩) 24 pc)) W) := fun W h => (HG1.out.below h.out).look 1
        have V0 : Hid (Below u0.heap.size u0 u0.drew) := (Below.refl _ _).drew
        have VA : Hid (Below u0.heap.size u0 (u0.drew.alloc (.cells #[] 36))) := V0.out.alloc (Nat.le_refl _) _
        have hE0 := emptyF 36 4 tcell u0.drew
        have hI0 := (HI.out.take j (by omega)).below VA.out
        have hw : IntKind.i64.wrap ((j : Int) + 1) = (j : Int) + 1 := IntWalk.i64_in _ (by omega)
        obtain ⟨AS, hAS⟩ : ∃ AS, (if c = j + 1 then some (⟨pb, 0, none⟩ : Addr) else some ⟨pb, (j + 1) * 4, none⟩) = AS := ⟨_, rfl⟩
        have HAS := Lib.hid hAS
        clear hAS
        have HI2 : Hid (InF 4 tcell u0 AS (m - (j + 1)) (y.drop (j + 1))) := Lib.hid (by
          rw [← HAS.out]
          by_cases hc : c = j + 1
          · rw [if_pos hc]
            exact ⟨by simp [hym], fun h => absurd h (by omega)⟩
          · rw [if_neg hc]
            have := HI.out.drop (j + 1) (by omega)
            rwa [Nat.zero_add] at this)
        refine wp_region_held_drew (S := (fun W : World => W.cell? ⟨g, 1, none⟩ = some (.slice (some ⟨pg, 0, none⟩) 24 pc))) (by kernel_rfl) ?_ (fun hHeld => ?_)
        · (try dsimp only); exact SB.out _ V0
        refine wpAnyH_take (i := 0) (v := ?vt101_0) rfl (by kernel_rfl) (by kernel_rfl) (by kernel_rfl) (fun _ _ _ h => h) (Or.inl ⟨by rfl, ?hyt101_0⟩) (by assumption) ?restt101_0
        case hyt101_0 => (intro W hSw; (try dsimp only at hSw); have hS1 := hSw; (go_simp <;> with_reducible rfl))
        (try simp only [List.getElem_toArray, List.getElem_cons_zero, Act.put, List.setIfInBounds_toArray, List.set_cons_zero, List.set_cons_succ])
        refine wpAnyH_take (i := 1) (v := ?vt102_1) rfl (by kernel_rfl) (by kernel_rfl) (by kernel_rfl) (fun _ _ _ h => h) (Or.inl ⟨by rfl, ?hyt102_1⟩) (by assumption) ?restt102_1
        case hyt102_1 => (intro W hSw; (try dsimp only at hSw); have hS1 := hSw; (go_simp <;> with_reducible rfl))
        (try simp only [List.getElem_toArray, List.getElem_cons_succ, List.getElem_cons_zero, Act.put, List.setIfInBounds_toArray, List.set_cons_zero, List.set_cons_succ])
        refine wpAnyH_take (i := 2) (v := ?vt103_2) rfl (by kernel_rfl) (by kernel_rfl) (by kernel_rfl) (fun _ _ _ h => h) (Or.inl ⟨by rfl, ?hyt103_2⟩) (by assumption) ?restt103_2
        case hyt103_2 => (intro W hSw; (try dsimp only at hSw); have hS1 := hSw; (go_simp <;> with_reducible rfl))
        (try simp only [List.getElem_toArray, List.getElem_cons_succ, List.getElem_cons_zero, Act.put, List.setIfInBounds_toArray, List.set_cons_zero, List.set_cons_succ])
        refine wpAnyH_take (i := 3) (v := ?vt104_3) rfl (by kernel_rfl) (by kernel_rfl) (by kernel_rfl) (fun _ _ _ h => h) (Or.inl ⟨by rfl, ?hyt104_3⟩) (by assumption) ?restt104_3
        case hyt104_3 => (intro W hSw; (try dsimp only at hSw); have hS1 := hSw; (go_simp <;> with_reducible rfl))
        (try simp only [List.getElem_toArray, List.getElem_cons_succ, List.getElem_cons_zero, Act.put, List.setIfInBounds_toArray, List.set_cons_zero, List.set_cons_succ])
        refine wpAnyH_take (i := 4) (v := ?vt105_4) rfl (by kernel_rfl) (by kernel_rfl) (by kernel_rfl) (fun _ _ _ h => h) (Or.inl ⟨by rfl, ?hyt105_4⟩) (by assumption) ?restt105_4
        case hyt105_4 => (intro W hSw; (try dsimp only at hSw); have hS1 := hSw; (go_simp <;> with_reducible rfl))
        (try simp only [List.getElem_toArray, List.getElem_cons_succ, List.getElem_cons_zero, Act.put, List.setIfInBounds_toArray, List.set_cons_zero, List.set_cons_succ])
        refine wpAnyH_take (i := 6) (v := ?vt106_6) rfl (by kernel_rfl) (by kernel_rfl) (by kernel_rfl) (fun _ _ _ h => h) (Or.inl ⟨by rfl, ?hyt106_6⟩) (by assumption) ?restt106_6
        case hyt106_6 => (intro W hSw; (try dsimp only at hSw); have hS1 := hSw; (go_simp <;> with_reducible rfl))
        (try simp only [List.getElem_toArray, List.getElem_cons_succ, List.getElem_cons_zero, Act.put, List.setIfInBounds_toArray, List.set_cons_zero, List.set_cons_succ])
        refine wpAnyH_take (i := 7) (v := ?vt107_7) rfl (by kernel_rfl) (by kernel_rfl) (by kernel_rfl) (fun _ _ _ h => h) (Or.inl ⟨by rfl, ?hyt107_7⟩) (by assumption) ?restt107_7
        case hyt107_7 => (intro W hSw; (try dsimp only at hSw); have hS1 := hSw; (go_simp <;> with_reducible rfl))
        (try simp only [List.getElem_toArray, List.getElem_cons_succ, List.getElem_cons_zero, Act.put, List.setIfInBounds_toArray, List.set_cons_zero, List.set_cons_succ])
        refine wpAnyH_take (i := 8) (v := ?vt108_8) rfl (by kernel_rfl) (by kernel_rfl) (by kernel_rfl) (fun _ _ _ h => h) (Or.inl ⟨by rfl, ?hyt108_8⟩) (by assumption) ?restt108_8
        case hyt108_8 => (intro W hSw; (try dsimp only at hSw); have hS1 := hSw; (go_simp <;> with_reducible rfl))
        (try simp only [List.getElem_toArray, List.getElem_cons_succ, List.getElem_cons_zero, Act.put, List.setIfInBounds_toArray, List.set_cons_zero, List.set_cons_succ])
        refine wpAnyH_take (i := 9) (v := ?vt109_9) rfl (by kernel_rfl) (by kernel_rfl) (by kernel_rfl) (fun _ _ _ h => h) (Or.inl ⟨by rfl, ?hyt109_9⟩) (by assumption) ?restt109_9
        case hyt109_9 => (intro W hSw; (try dsimp only at hSw); have hS1 := hSw; (go_simp <;> with_reducible rfl))
        (try simp only [List.getElem_toArray, List.getElem_cons_succ, List.getElem_cons_zero, Act.put, List.setIfInBounds_toArray, List.set_cons_zero, List.set_cons_succ])
        refine wpAnyH_take (i := 10) (v := ?vt110_10) rfl (by kernel_rfl) (by kernel_rfl) (by kernel_rfl) (fun _ _ _ h => h) (Or.inl ⟨by rfl, ?hyt110_10⟩) (by assumption) ?restt110_10
        case hyt110_10 => (intro W hSw; (try dsimp only at hSw); have hS1 := hSw; (go_simp <;> with_reducible rfl))
        (try simp only [List.getElem_toArray, List.getElem_cons_succ, List.getElem_cons_zero, Act.put, List.setIfInBounds_toArray, List.set_cons_zero, List.set_cons_succ])
        refine wpAnyH_take (i := 11) (v := ?vt111_11) rfl (by kernel_rfl) (by kernel_rfl) (by kernel_rfl) (fun _ _ _ h => h) (Or.inl ⟨by rfl, ?hyt111_11⟩) (by assumption) ?restt111_11
        case hyt111_11 => (intro W hSw; (try dsimp only at hSw); have hS1 := hSw; (go_simp <;> with_reducible rfl))
        (try simp only [List.getElem_toArray, List.getElem_cons_succ, List.getElem_cons_zero, Act.put, List.setIfInBounds_toArray, List.set_cons_zero, List.set_cons_succ])
        refine wpAnyH_take (i := 13) (v := ?vt112_13) rfl (by kernel_rfl) (by kernel_rfl) (by kernel_rfl) (fun _ _ _ h => h) (Or.inl ⟨by rfl, ?hyt112_13⟩) (by assumption) ?restt112_13
        case hyt112_13 => (intro W hSw; (try dsimp only at hSw); have hS1 := hSw; (go_simp <;> with_reducible rfl))
        (try simp only [List.getElem_toArray, List.getElem_cons_succ, List.getElem_cons_zero, Act.put, List.setIfInBounds_toArray, List.set_cons_zero, List.set_cons_succ])
        refine wpAnyH_take (i := 16) (v := ?vt113_16) rfl (by kernel_rfl) (by kernel_rfl) (by kernel_rfl) (fun _ _ _ h => h) (Or.inl ⟨by rfl, ?hyt113_16⟩) (by assumption) ?restt113_16
        case hyt113_16 => (intro W hSw; (try dsimp only at hSw); have hS1 := hSw; (go_simp <;> with_reducible rfl))
        (try simp only [List.getElem_toArray, List.getElem_cons_succ, List.getElem_cons_zero, Act.put, List.setIfInBounds_toArray, List.set_cons_zero, List.set_cons_succ])
        refine wpAnyH_take (i := 17) (v := ?vt114_17) rfl (by kernel_rfl) (by kernel_rfl) (by kernel_rfl) (fun _ _ _ h => h) (Or.inl ⟨by rfl, ?hyt114_17⟩) (by assumption) ?restt114_17
        case hyt114_17 => (intro W hSw; (try dsimp only at hSw); have hS1 := hSw; (go_simp <;> with_reducible rfl))
        (try simp only [List.getElem_toArray, List.getElem_cons_succ, List.getElem_cons_zero, Act.put, List.setIfInBounds_toArray, List.set_cons_zero, List.set_cons_succ])
        refine wpAnyH_take (i := 18) (v := ?vt115_18) rfl (by kernel_rfl) (by kernel_rfl) (by kernel_rfl) (fun _ _ _ h => h) (Or.inl ⟨by rfl, ?hyt115_18⟩) (by assumption) ?restt115_18
        case hyt115_18 => (intro W hSw; (try dsimp only at hSw); have hS1 := hSw; (go_simp <;> with_reducible rfl))
        (try simp only [List.getElem_toArray, List.getElem_cons_succ, List.getElem_cons_zero, Act.put, List.setIfInBounds_toArray, List.set_cons_zero, List.set_cons_succ])
        refine wpAnyH_take (i := 19) (v := ?vt116_19) rfl (by kernel_rfl) (by kernel_rfl) (by kernel_rfl) (fun _ _ _ h => h) (Or.inl ⟨by rfl, ?hyt116_19⟩) (by assumption) ?restt116_19
        case hyt116_19 => (intro W hSw; (try dsimp only at hSw); have hS1 := hSw; (go_simp <;> with_reducible rfl))
        (try simp only [List.getElem_toArray, List.getElem_cons_succ, List.getElem_cons_zero, Act.put, List.setIfInBounds_toArray, List.set_cons_zero, List.set_cons_succ])
        refine wpAnyH_take (i := 20) (v := ?vt117_20) rfl (by kernel_rfl) (by kernel_rfl) (by kernel_rfl) (fun _ _ _ h => h) (Or.inl ⟨by rfl, ?hyt117_20⟩) (by assumption) ?restt117_20
        case hyt117_20 => (intro W hSw; (try dsimp only at hSw); have hS1 := hSw; (go_simp <;> with_reducible rfl))
        (try simp only [List.getElem_toArray, List.getElem_cons_succ, List.getElem_cons_zero, Act.put, List.setIfInBounds_toArray, List.set_cons_zero, List.set_cons_succ])
        refine wpAnyH_take (i := 21) (v := ?vt118_21) rfl (by kernel_rfl) (by kernel_rfl) (by kernel_rfl) (fun _ _ _ h => h) (Or.inl ⟨by rfl, ?hyt118_21⟩) (by assumption) ?restt118_21
        case hyt118_21 => (intro W hSw; (try dsimp only at hSw); have hS1 := hSw; (go_simp <;> with_reducible rfl))
        (try simp only [List.getElem_toArray, List.getElem_cons_succ, List.getElem_cons_zero, Act.put, List.setIfInBounds_toArray, List.set_cons_zero, List.set_cons_succ])
        refine wpAnyH_take (i := 23) (v := ?vt119_23) rfl (by kernel_rfl) (by kernel_rfl) (by kernel_rfl) (fun _ _ _ h => h) (Or.inl ⟨by rfl, ?hyt119_23⟩) (by assumption) ?restt119_23
        case hyt119_23 => (intro W hSw; (try dsimp only at hSw); have hS1 := hSw; (go_simp <;> with_reducible rfl))
        (try simp only [List.getElem_toArray, List.getElem_cons_succ, List.getElem_cons_zero, Act.put, List.setIfInBounds_toArray, List.set_cons_zero, List.set_cons_succ])
        refine wpAnyH_take (i := 24) (v := .int .i64 ((j : Int) + 1)) rfl (by kernel_rfl) (by kernel_rfl) (by kernel_rfl) (fun _ _ _ h => h) (Or.inl ⟨by rfl, ?hyt120_24⟩) (by assumption) ?restt120_24
        case hyt120_24 => (intro W hSw; go_simp <;> exact hw)
        (try simp only [List.getElem_toArray, List.getElem_cons_succ, List.getElem_cons_zero, Act.put, List.setIfInBounds_toArray, List.set_cons_zero, List.set_cons_succ])
        refine wpAnyH_ready (rs := [5, 12, 22]) (by kernel_rfl) (by simp) ?_
        refine AllReadyH.cons rfl (fun K hK => ?_) (AllReadyH.cons rfl (fun K hK => ?_) (AllReadyH.cons rfl (fun K hK => ?_) AllReadyH.nil))
        · go_simp
          refine hK.out _ _ ?_ (fun hHeld => ?_)
          · (try dsimp only); exact SB.out _ VA
          clear hK K
          (try simp only [List.getElem_toArray, List.getElem_cons_succ, List.getElem_cons_zero, Act.put, List.setIfInBounds_toArray, List.set_cons_zero, List.set_cons_succ])
          refine wpAnyH_ready (rs := [12, 22]) (by kernel_rfl) (by simp) ?_
          refine AllReadyH.cons rfl (fun K hK => ?_) (AllReadyH.cons rfl (fun K hK => ?_) AllReadyH.nil)
          · go_simp
            refine hK.out _ _ ?_ (fun hHeld => ?_)
            · (try dsimp only); exact SB.out _ VA
            clear hK K
            (try simp only [List.getElem_toArray, List.getElem_cons_succ, List.getElem_cons_zero, Act.put, List.setIfInBounds_toArray, List.set_cons_zero, List.set_cons_succ])
            refine wpAnyH_take (i := 14) (v := .slice (some ⟨pb, 0, none⟩) j c) rfl (by kernel_rfl) (by kernel_rfl) (by kernel_rfl) (fun _ _ _ h => h) (Or.inl ⟨by rfl, ?hyt121_14⟩) (by assumption) ?restt121_14
            case hyt121_14 => (intro W hSw; go_simp; intro h; omega)
            (try simp only [List.getElem_toArray, List.getElem_cons_succ, List.getElem_cons_zero, Act.put, List.setIfInBounds_toArray, List.set_cons_zero, List.set_cons_succ])
            refine wpAnyH_ready (rs := [15, 22]) (by kernel_rfl) (by simp) ?_
            refine AllReadyH.cons rfl (fun K hK => ?_) (AllReadyH.cons rfl (fun K hK => ?_) AllReadyH.nil)
            · refine step_appF0 tcell_len tcell_one Try.underlying29 timerInfo rfl (by decide) (by decide) rfl (.tmp 31) (.tmp 40) rfl (B := u0.heap.size) rfl hE0 rfl hI0 (by omega) (by simp) ?_
              intro A2 c2 u1 ho2 hg2
              rw [Nat.zero_add, List.nil_append] at ho2
              (try simp only [Nat.zero_add])
              have V1 : Hid (Below u0.heap.size u0 u1) := Lib.hid (VA.out.grown hg2 (by simp) (fun r e => by simp at e; omega))
              have hpc1 : u1.cell? ⟨pg, i, none⟩ = some (.slice (some ⟨pb, 0, none⟩) m c) := (V1.out.cell (p := ⟨pg, i, none⟩) hpl).trans HC1.out
              have hI1 := HI2.out.below V1.out
              refine hK.out _ _ ?_ (fun hHeld => ?_)
              · (try dsimp only); exact SB.out _ V1
              clear hK K
              (try simp only [List.getElem_toArray, List.getElem_cons_succ, List.getElem_cons_zero, Act.put, List.setIfInBounds_toArray, List.set_cons_zero, List.set_cons_succ])
              refine wpAnyH_ready (rs := [22]) (by kernel_rfl) (by simp) ?_
              refine AllReadyH.cons rfl (fun K hK => ?_) AllReadyH.nil
              go_simp
              refine hK.out _ _ ?_ (fun hHeld => ?_)
              · (try dsimp only); exact SB.out _ V1
              clear hK K
              (try simp only [List.getElem_toArray, List.getElem_cons_succ, List.getElem_cons_zero, Act.put, List.setIfInBounds_toArray, List.set_cons_zero, List.set_cons_succ])
              refine wpAnyH_take (i := 25) (v := .slice AS (m - (j + 1)) (c - (j + 1))) rfl (by kernel_rfl) (by kernel_rfl) (by kernel_rfl) (fun _ _ _ h => h) (Or.inl ⟨by rfl, ?hyt122_25⟩) (by assumption) ?restt122_25
              case hyt122_25 => (intro W hSw; go_simp; rw [if_pos (show (0 : Int) ≤ (j : Int) + 1 ∧ (j : Int) + 1 ≤ m by omega), HAS.out])
              (try simp only [List.getElem_toArray, List.getElem_cons_succ, List.getElem_cons_zero, Act.put, List.setIfInBounds_toArray, List.set_cons_zero, List.set_cons_succ])
              refine wpAnyH_ready (rs := [26]) (by kernel_rfl) (by simp) ?_
              refine AllReadyH.cons rfl (fun K hK => ?_) AllReadyH.nil
              refine step_appF0 tcell_len tcell_one Try.underlying29 timerInfo rfl (by decide) (by decide) rfl (.tmp 41) (.tmp 51) rfl (B := u0.heap.size) rfl ho2 rfl hI1 (by omega) V1.out.size ?_
              intro A3 c3 u2 ho3 hg3
              have V2 : Hid (Below u0.heap.size u0 u2) := Lib.hid (V1.out.grown hg3 V1.out.size (fun r e => (ho2.block r e).1))
              refine hK.out _ _ ?_ (fun hHeld => ?_)
              · (try dsimp only); exact SB.out _ V2
              clear hK K
              (try simp only [List.getElem_toArray, List.getElem_cons_succ, List.getElem_cons_zero, Act.put, List.setIfInBounds_toArray, List.set_cons_zero, List.set_cons_succ])
              refine wpAnyH_take (i := 27) (v := ?vt123_27) rfl (by kernel_rfl) (by kernel_rfl) (by kernel_rfl) (fun _ _ _ h => h) (Or.inl ⟨by rfl, ?hyt123_27⟩) (by assumption) ?restt123_27
              case hyt123_27 => (intro W hSw; (try dsimp only at hSw); have hS1 := hSw; (go_simp <;> with_reducible rfl))
              (try simp only [List.getElem_toArray, List.getElem_cons_succ, List.getElem_cons_zero, Act.put, List.setIfInBounds_toArray, List.set_cons_zero, List.set_cons_succ])
              refine wpAnyH_ready (rs := [28]) (by kernel_rfl) (by simp) ?_
              refine AllReadyH.cons rfl (fun K hK => ?_) AllReadyH.nil
              have hO2 := HO1.out.below V2.out
              have hpc2 := (V2.out.cell (p := ⟨pg, i, none⟩) hpl).trans HC1.out
              have hpf2 := World.ownsRow.frozenAt hO2.2 i
              have hul2 := World.block_lt_of_cell? _ _ hpc2
              clear hHeld
              go_simp
              refine hK.out _ _ ?_ (fun hHeld => ?_)
              · (try dsimp only); exact ((HG1.out.below V2.out).aside (p := ⟨pg, i, none⟩) (by have := HP.out.2.2; simp; omega) _).look 1
              clear hK K
              (try simp only [List.getElem_toArray, List.getElem_cons_succ, List.getElem_cons_zero, Act.put, List.setIfInBounds_toArray, List.set_cons_zero, List.set_cons_succ])
              refine wpAnyH_done (by kernel_rfl) ?_ _
              rw [← HD.out] at ho3
              obtain ⟨hRO, hOU, hGU, hKU, hBU, hsz⟩ := drop_put (i := i) HP.out.1 HP.out.2.2 HZ1.out hB HQ1.out HO1.out HG1.out HK1.out HB1.out V2.out HV.out (rows_at_i HY.out) ho3
              rw [rows_set_i HY.out] at hRO
              go_wp2
              go_roundw
              case rel => exact ⟨i + 1, _, by omega, by go_num, Lib.hid hBU, Lib.hid hsz, Lib.hid hKU, Lib.hid hGU, Lib.hid hOU, Lib.hid hRO⟩
              case measure => simp [intOf]; omega
            · go_simp
              refine hK.out _ _ ?_ (fun hHeld => ?_)
              · (try dsimp only); exact SB.out _ VA
              clear hK K
              (try simp only [List.getElem_toArray, List.getElem_cons_succ, List.getElem_cons_zero, Act.put, List.setIfInBounds_toArray, List.set_cons_zero, List.set_cons_succ])
              refine wpAnyH_take (i := 25) (v := .slice AS (m - (j + 1)) (c - (j + 1))) rfl (by kernel_rfl) (by kernel_rfl) (by kernel_rfl) (fun _ _ _ h => h) (Or.inl ⟨by rfl, ?hyt124_25⟩) (by assumption) ?restt124_25
              case hyt124_25 => (intro W hSw; go_simp; rw [if_pos (show (0 : Int) ≤ (j : Int) + 1 ∧ (j : Int) + 1 ≤ m by omega), HAS.out])
              (try simp only [List.getElem_toArray, List.getElem_cons_succ, List.getElem_cons_zero, Act.put, List.setIfInBounds_toArray, List.set_cons_zero, List.set_cons_succ])
              refine wpAnyH_ready (rs := [15]) (by kernel_rfl) (by simp) ?_
              refine AllReadyH.cons rfl (fun K hK => ?_) AllReadyH.nil
              refine step_appF0 tcell_len tcell_one Try.underlying29 timerInfo rfl (by decide) (by decide) rfl (.tmp 31) (.tmp 40) rfl (B := u0.heap.size) rfl hE0 rfl hI0 (by omega) (by simp) ?_
              intro A2 c2 u1 ho2 hg2
              rw [Nat.zero_add, List.nil_append] at ho2
              (try simp only [Nat.zero_add])
              have V1 : Hid (Below u0.heap.size u0 u1) := Lib.hid (VA.out.grown hg2 (by simp) (fun r e => by simp at e; omega))
              have hpc1 : u1.cell? ⟨pg, i, none⟩ = some (.slice (some ⟨pb, 0, none⟩) m c) := (V1.out.cell (p := ⟨pg, i, none⟩) hpl).trans HC1.out
              have hI1 := HI2.out.below V1.out
              refine hK.out _ _ ?_ (fun hHeld => ?_)
              · (try dsimp only); exact SB.out _ V1
              clear hK K
              (try simp only [List.getElem_toArray, List.getElem_cons_succ, List.getElem_cons_zero, Act.put, List.setIfInBounds_toArray, List.set_cons_zero, List.set_cons_succ])
              refine wpAnyH_ready (rs := [26]) (by kernel_rfl) (by simp) ?_
              refine AllReadyH.cons rfl (fun K hK => ?_) AllReadyH.nil
              refine step_appF0 tcell_len tcell_one Try.underlying29 timerInfo rfl (by decide) (by decide) rfl (.tmp 41) (.tmp 51) rfl (B := u0.heap.size) rfl ho2 rfl hI1 (by omega) V1.out.size ?_
              intro A3 c3 u2 ho3 hg3
              have V2 : Hid (Below u0.heap.size u0 u2) := Lib.hid (V1.out.grown hg3 V1.out.size (fun r e => (ho2.block r e).1))
              refine hK.out _ _ ?_ (fun hHeld => ?_)
              · (try dsimp only); exact SB.out _ V2
              clear hK K
              (try simp only [List.getElem_toArray, List.getElem_cons_succ, List.getElem_cons_zero, Act.put, List.setIfInBounds_toArray, List.set_cons_zero, List.set_cons_succ])
              refine wpAnyH_take (i := 27) (v := ?vt125_27) rfl (by kernel_rfl) (by kernel_rfl) (by kernel_rfl) (fun _ _ _ h => h) (Or.inl ⟨by rfl, ?hyt125_27⟩) (by assumption) ?restt125_27
              case hyt125_27 => (intro W hSw; (try dsimp only at hSw); have hS1 := hSw; (go_simp <;> with_reducible rfl))
              (try simp only [List.getElem_toArray, List.getElem_cons_succ, List.getElem_cons_zero, Act.put, List.setIfInBounds_toArray, List.set_cons_zero, List.set_cons_succ])
              refine wpAnyH_ready (rs := [28]) (by kernel_rfl) (by simp) ?_
              refine AllReadyH.cons rfl (fun K hK => ?_) AllReadyH.nil
              have hO2 := HO1.out.below V2.out
              have hpc2 := (V2.out.cell (p := ⟨pg, i, none⟩) hpl).trans HC1.out
              have hpf2 := World.ownsRow.frozenAt hO2.2 i
              have hul2 := World.block_lt_of_cell? _ _ hpc2
              clear hHeld
              go_simp
              refine hK.out _ _ ?_ (fun hHeld => ?_)
              · (try dsimp only); exact ((HG1.out.below V2.out).aside (p := ⟨pg, i, none⟩) (by have := HP.out.2.2; simp; omega) _).look 1
              clear hK K
              (try simp only [List.getElem_toArray, List.getElem_cons_succ, List.getElem_cons_zero, Act.put, List.setIfInBounds_toArray, List.set_cons_zero, List.set_cons_succ])
              refine wpAnyH_done (by kernel_rfl) ?_ _
              rw [← HD.out] at ho3
              obtain ⟨hRO, hOU, hGU, hKU, hBU, hsz⟩ := drop_put (i := i) HP.out.1 HP.out.2.2 HZ1.out hB HQ1.out HO1.out HG1.out HK1.out HB1.out V2.out HV.out (rows_at_i HY.out) ho3
              rw [rows_set_i HY.out] at hRO
              go_wp2
              go_roundw
              case rel => exact ⟨i + 1, _, by omega, by go_num, Lib.hid hBU, Lib.hid hsz, Lib.hid hKU, Lib.hid hGU, Lib.hid hOU, Lib.hid hRO⟩
              case measure => simp [intOf]; omega
          · go_simp
            refine hK.out _ _ ?_ (fun hHeld => ?_)
            · (try dsimp only); exact SB.out _ VA
            clear hK K
            (try simp only [List.getElem_toArray, List.getElem_cons_succ, List.getElem_cons_zero, Act.put, List.setIfInBounds_toArray, List.set_cons_zero, List.set_cons_succ])
            refine wpAnyH_take (i := 25) (v := .slice AS (m - (j + 1)) (c - (j + 1))) rfl (by kernel_rfl) (by kernel_rfl) (by kernel_rfl) (fun _ _ _ h => h) (Or.inl ⟨by rfl, ?hyt126_25⟩) (by assumption) ?restt126_25
            case hyt126_25 => (intro W hSw; go_simp; rw [if_pos (show (0 : Int) ≤ (j : Int) + 1 ∧ (j : Int) + 1 ≤ m by omega), HAS.out])
            (try simp only [List.getElem_toArray, List.getElem_cons_succ, List.getElem_cons_zero, Act.put, List.setIfInBounds_toArray, List.set_cons_zero, List.set_cons_succ])
            refine wpAnyH_ready (rs := [12]) (by kernel_rfl) (by simp) ?_
            refine AllReadyH.cons rfl (fun K hK => ?_) AllReadyH.nil
            go_simp
            refine hK.out _ _ ?_ (fun hHeld => ?_)
            · (try dsimp only); exact SB.out _ VA
            clear hK K
            (try simp only [List.getElem_toArray, List.getElem_cons_succ, List.getElem_cons_zero, Act.put, List.setIfInBounds_toArray, List.set_cons_zero, List.set_cons_succ])
            refine wpAnyH_take (i := 14) (v := .slice (some ⟨pb, 0, none⟩) j c) rfl (by kernel_rfl) (by kernel_rfl) (by kernel_rfl) (fun _ _ _ h => h) (Or.inl ⟨by rfl, ?hyt127_14⟩) (by assumption) ?restt127_14
            case hyt127_14 => (intro W hSw; go_simp; intro h; omega)
            (try simp only [List.getElem_toArray, List.getElem_cons_succ, List.getElem_cons_zero, Act.put, List.setIfInBounds_toArray, List.set_cons_zero, List.set_cons_succ])
            refine wpAnyH_ready (rs := [15]) (by kernel_rfl) (by simp) ?_
            refine AllReadyH.cons rfl (fun K hK => ?_) AllReadyH.nil
            refine step_appF0 tcell_len tcell_one Try.underlying29 timerInfo rfl (by decide) (by decide) rfl (.tmp 31) (.tmp 40) rfl (B := u0.heap.size) rfl hE0 rfl hI0 (by omega) (by simp) ?_
            intro A2 c2 u1 ho2 hg2
            rw [Nat.zero_add, List.nil_append] at ho2
            (try simp only [Nat.zero_add])
            have V1 : Hid (Below u0.heap.size u0 u1) := Lib.hid (VA.out.grown hg2 (by simp) (fun r e => by simp at e; omega))
            have hpc1 : u1.cell? ⟨pg, i, none⟩ = some (.slice (some ⟨pb, 0, none⟩) m c) := (V1.out.cell (p := ⟨pg, i, none⟩) hpl).trans HC1.out
            have hI1 := HI2.out.below V1.out
            refine hK.out _ _ ?_ (fun hHeld => ?_)
            · (try dsimp only); exact SB.out _ V1
            clear hK K
            (try simp only [List.getElem_toArray, List.getElem_cons_succ, List.getElem_cons_zero, Act.put, List.setIfInBounds_toArray, List.set_cons_zero, List.set_cons_succ])
            refine wpAnyH_ready (rs := [26]) (by kernel_rfl) (by simp) ?_
            refine AllReadyH.cons rfl (fun K hK => ?_) AllReadyH.nil
            refine step_appF0 tcell_len tcell_one Try.underlying29 timerInfo rfl (by decide) (by decide) rfl (.tmp 41) (.tmp 51) rfl (B := u0.heap.size) rfl ho2 rfl hI1 (by omega) V1.out.size ?_
            intro A3 c3 u2 ho3 hg3
            have V2 : Hid (Below u0.heap.size u0 u2) := Lib.hid (V1.out.grown hg3 V1.out.size (fun r e => (ho2.block r e).1))
            refine hK.out _ _ ?_ (fun hHeld => ?_)
            · (try dsimp only); exact SB.out _ V2
            clear hK K
            (try simp only [List.getElem_toArray, List.getElem_cons_succ, List.getElem_cons_zero, Act.put, List.setIfInBounds_toArray, List.set_cons_zero, List.set_cons_succ])
            refine wpAnyH_take (i := 27) (v := ?vt128_27) rfl (by kernel_rfl) (by kernel_rfl) (by kernel_rfl) (fun _ _ _ h => h) (Or.inl ⟨by rfl, ?hyt128_27⟩) (by assumption) ?restt128_27
            case hyt128_27 => (intro W hSw; (try dsimp only at hSw); have hS1 := hSw; (go_simp <;> with_reducible rfl))
            (try simp only [List.getElem_toArray, List.getElem_cons_succ, List.getElem_cons_zero, Act.put, List.setIfInBounds_toArray, List.set_cons_zero, List.set_cons_succ])
            refine wpAnyH_ready (rs := [28]) (by kernel_rfl) (by simp) ?_
            refine AllReadyH.cons rfl (fun K hK => ?_) AllReadyH.nil
            have hO2 := HO1.out.below V2.out
            have hpc2 := (V2.out.cell (p := ⟨pg, i, none⟩) hpl).trans HC1.out
            have hpf2 := World.ownsRow.frozenAt hO2.2 i
            have hul2 := World.block_lt_of_cell? _ _ hpc2
            clear hHeld
            go_simp
            refine hK.out _ _ ?_ (fun hHeld => ?_)
            · (try dsimp only); exact ((HG1.out.below V2.out).aside (p := ⟨pg, i, none⟩) (by have := HP.out.2.2; simp; omega) _).look 1
            clear hK K
            (try simp only [List.getElem_toArray, List.getElem_cons_succ, List.getElem_cons_zero, Act.put, List.setIfInBounds_toArray, List.set_cons_zero, List.set_cons_succ])
            refine wpAnyH_done (by kernel_rfl) ?_ _
            rw [← HD.out] at ho3
            obtain ⟨hRO, hOU, hGU, hKU, hBU, hsz⟩ := drop_put (i := i) HP.out.1 HP.out.2.2 HZ1.out hB HQ1.out HO1.out HG1.out HK1.out HB1.out V2.out HV.out (rows_at_i HY.out) ho3
            rw [rows_set_i HY.out] at hRO
            go_wp2
            go_roundw
            case rel => exact ⟨i + 1, _, by omega, by go_num, Lib.hid hBU, Lib.hid hsz, Lib.hid hKU, Lib.hid hGU, Lib.hid hOU, Lib.hid hRO⟩
            case measure => simp [intOf]; omega
        · go_simp
          refine hK.out _ _ ?_ (fun hHeld => ?_)
          · (try dsimp only); exact SB.out _ V0
          clear hK K
          (try simp only [List.getElem_toArray, List.getElem_cons_succ, List.getElem_cons_zero, Act.put, List.setIfInBounds_toArray, List.set_cons_zero, List.set_cons_succ])
          refine wpAnyH_take (i := 14) (v := .slice (some ⟨pb, 0, none⟩) j c) rfl (by kernel_rfl) (by kernel_rfl) (by kernel_rfl) (fun _ _ _ h => h) (Or.inl ⟨by rfl, ?hyt129_14⟩) (by assumption) ?restt129_14
          case hyt129_14 => (intro W hSw; go_simp; intro h; omega)
          (try simp only [List.getElem_toArray, List.getElem_cons_succ, List.getElem_cons_zero, Act.put, List.setIfInBounds_toArray, List.set_cons_zero, List.set_cons_succ])
          refine wpAnyH_ready (rs := [5, 22]) (by kernel_rfl) (by simp) ?_
          refine AllReadyH.cons rfl (fun K hK => ?_) (AllReadyH.cons rfl (fun K hK => ?_) AllReadyH.nil)
          · go_simp
            refine hK.out _ _ ?_ (fun hHeld => ?_)
            · (try dsimp only); exact SB.out _ VA
            clear hK K
            (try simp only [List.getElem_toArray, List.getElem_cons_succ, List.getElem_cons_zero, Act.put, List.setIfInBounds_toArray, List.set_cons_zero, List.set_cons_succ])
            refine wpAnyH_ready (rs := [15, 22]) (by kernel_rfl) (by simp) ?_
            refine AllReadyH.cons rfl (fun K hK => ?_) (AllReadyH.cons rfl (fun K hK => ?_) AllReadyH.nil)
            · refine step_appF0 tcell_len tcell_one Try.underlying29 timerInfo rfl (by decide) (by decide) rfl (.tmp 31) (.tmp 40) rfl (B := u0.heap.size) rfl hE0 rfl hI0 (by omega) (by simp) ?_
              intro A2 c2 u1 ho2 hg2
              rw [Nat.zero_add, List.nil_append] at ho2
              (try simp only [Nat.zero_add])
              have V1 : Hid (Below u0.heap.size u0 u1) := Lib.hid (VA.out.grown hg2 (by simp) (fun r e => by simp at e; omega))
              have hpc1 : u1.cell? ⟨pg, i, none⟩ = some (.slice (some ⟨pb, 0, none⟩) m c) := (V1.out.cell (p := ⟨pg, i, none⟩) hpl).trans HC1.out
              have hI1 := HI2.out.below V1.out
              refine hK.out _ _ ?_ (fun hHeld => ?_)
              · (try dsimp only); exact SB.out _ V1
              clear hK K
              (try simp only [List.getElem_toArray, List.getElem_cons_succ, List.getElem_cons_zero, Act.put, List.setIfInBounds_toArray, List.set_cons_zero, List.set_cons_succ])
              refine wpAnyH_ready (rs := [22]) (by kernel_rfl) (by simp) ?_
              refine AllReadyH.cons rfl (fun K hK => ?_) AllReadyH.nil
              go_simp
              refine hK.out _ _ ?_ (fun hHeld => ?_)
              · (try dsimp only); exact SB.out _ V1
              clear hK K
              (try simp only [List.getElem_toArray, List.getElem_cons_succ, List.getElem_cons_zero, Act.put, List.setIfInBounds_toArray, List.set_cons_zero, List.set_cons_succ])
              refine wpAnyH_take (i := 25) (v := .slice AS (m - (j + 1)) (c - (j + 1))) rfl (by kernel_rfl) (by kernel_rfl) (by kernel_rfl) (fun _ _ _ h => h) (Or.inl ⟨by rfl, ?hyt130_25⟩) (by assumption) ?restt130_25
              case hyt130_25 => (intro W hSw; go_simp; rw [if_pos (show (0 : Int) ≤ (j : Int) + 1 ∧ (j : Int) + 1 ≤ m by omega), HAS.out])
              (try simp only [List.getElem_toArray, List.getElem_cons_succ, List.getElem_cons_zero, Act.put, List.setIfInBounds_toArray, List.set_cons_zero, List.set_cons_succ])
              refine wpAnyH_ready (rs := [26]) (by kernel_rfl) (by simp) ?_
              refine AllReadyH.cons rfl (fun K hK => ?_) AllReadyH.nil
              refine step_appF0 tcell_len tcell_one Try.underlying29 timerInfo rfl (by decide) (by decide) rfl (.tmp 41) (.tmp 51) rfl (B := u0.heap.size) rfl ho2 rfl hI1 (by omega) V1.out.size ?_
              intro A3 c3 u2 ho3 hg3
              have V2 : Hid (Below u0.heap.size u0 u2) := Lib.hid (V1.out.grown hg3 V1.out.size (fun r e => (ho2.block r e).1))
              refine hK.out _ _ ?_ (fun hHeld => ?_)
              · (try dsimp only); exact SB.out _ V2
              clear hK K
              (try simp only [List.getElem_toArray, List.getElem_cons_succ, List.getElem_cons_zero, Act.put, List.setIfInBounds_toArray, List.set_cons_zero, List.set_cons_succ])
              refine wpAnyH_take (i := 27) (v := ?vt131_27) rfl (by kernel_rfl) (by kernel_rfl) (by kernel_rfl) (fun _ _ _ h => h) (Or.inl ⟨by rfl, ?hyt131_27⟩) (by assumption) ?restt131_27
              case hyt131_27 => (intro W hSw; (try dsimp only at hSw); have hS1 := hSw; (go_simp <;> with_reducible rfl))
              (try simp only [List.getElem_toArray, List.getElem_cons_succ, List.getElem_cons_zero, Act.put, List.setIfInBounds_toArray, List.set_cons_zero, List.set_cons_succ])
              refine wpAnyH_ready (rs := [28]) (by kernel_rfl) (by simp) ?_
              refine AllReadyH.cons rfl (fun K hK => ?_) AllReadyH.nil
              have hO2 := HO1.out.below V2.out
              have hpc2 := (V2.out.cell (p := ⟨pg, i, none⟩) hpl).trans HC1.out
              have hpf2 := World.ownsRow.frozenAt hO2.2 i
              have hul2 := World.block_lt_of_cell? _ _ hpc2
              clear hHeld
              go_simp
              refine hK.out _ _ ?_ (fun hHeld => ?_)
              · (try dsimp only); exact ((HG1.out.below V2.out).aside (p := ⟨pg, i, none⟩) (by have := HP.out.2.2; simp; omega) _).look 1
              clear hK K
              (try simp only [List.getElem_toArray, List.getElem_cons_succ, List.getElem_cons_zero, Act.put, List.setIfInBounds_toArray, List.set_cons_zero, List.set_cons_succ])
              refine wpAnyH_done (by kernel_rfl) ?_ _
              rw [← HD.out] at ho3
              obtain ⟨hRO, hOU, hGU, hKU, hBU, hsz⟩ := drop_put (i := i) HP.out.1 HP.out.2.2 HZ1.out hB HQ1.out HO1.out HG1.out HK1.out HB1.out V2.out HV.out (rows_at_i HY.out) ho3
              rw [rows_set_i HY.out] at hRO
              go_wp2
              go_roundw
              case rel => exact ⟨i + 1, _, by omega, by go_num, Lib.hid hBU, Lib.hid hsz, Lib.hid hKU, Lib.hid hGU, Lib.hid hOU, Lib.hid hRO⟩
              case measure => simp [intOf]; omega
            · go_simp
              refine hK.out _ _ ?_ (fun hHeld => ?_)
              · (try dsimp only); exact SB.out _ VA
              clear hK K
              (try simp only [List.getElem_toArray, List.getElem_cons_succ, List.getElem_cons_zero, Act.put, List.setIfInBounds_toArray, List.set_cons_zero, List.set_cons_succ])
              refine wpAnyH_take (i := 25) (v := .slice AS (m - (j + 1)) (c - (j + 1))) rfl (by kernel_rfl) (by kernel_rfl) (by kernel_rfl) (fun _ _ _ h => h) (Or.inl ⟨by rfl, ?hyt132_25⟩) (by assumption) ?restt132_25
              case hyt132_25 => (intro W hSw; go_simp; rw [if_pos (show (0 : Int) ≤ (j : Int) + 1 ∧ (j : Int) + 1 ≤ m by omega), HAS.out])
              (try simp only [List.getElem_toArray, List.getElem_cons_succ, List.getElem_cons_zero, Act.put, List.setIfInBounds_toArray, List.set_cons_zero, List.set_cons_succ])
              refine wpAnyH_ready (rs := [15]) (by kernel_rfl) (by simp) ?_
              refine AllReadyH.cons rfl (fun K hK => ?_) AllReadyH.nil
              refine step_appF0 tcell_len tcell_one Try.underlying29 timerInfo rfl (by decide) (by decide) rfl (.tmp 31) (.tmp 40) rfl (B := u0.heap.size) rfl hE0 rfl hI0 (by omega) (by simp) ?_
              intro A2 c2 u1 ho2 hg2
              rw [Nat.zero_add, List.nil_append] at ho2
              (try simp only [Nat.zero_add])
              have V1 : Hid (Below u0.heap.size u0 u1) := Lib.hid (VA.out.grown hg2 (by simp) (fun r e => by simp at e; omega))
              have hpc1 : u1.cell? ⟨pg, i, none⟩ = some (.slice (some ⟨pb, 0, none⟩) m c) := (V1.out.cell (p := ⟨pg, i, none⟩) hpl).trans HC1.out
              have hI1 := HI2.out.below V1.out
              refine hK.out _ _ ?_ (fun hHeld => ?_)
              · (try dsimp only); exact SB.out _ V1
              clear hK K
              (try simp only [List.getElem_toArray, List.getElem_cons_succ, List.getElem_cons_zero, Act.put, List.setIfInBounds_toArray, List.set_cons_zero, List.set_cons_succ])
              refine wpAnyH_ready (rs := [26]) (by kernel_rfl) (by simp) ?_
              refine AllReadyH.cons rfl (fun K hK => ?_) AllReadyH.nil
              refine step_appF0 tcell_len tcell_one Try.underlying29 timerInfo rfl (by decide) (by decide) rfl (.tmp 41) (.tmp 51) rfl (B := u0.heap.size) rfl ho2 rfl hI1 (by omega) V1.out.size ?_
              intro A3 c3 u2 ho3 hg3
              have V2 : Hid (Below u0.heap.size u0 u2) := Lib.hid (V1.out.grown hg3 V1.out.size (fun r e => (ho2.block r e).1))
              refine hK.out _ _ ?_ (fun hHeld => ?_)
              · (try dsimp only); exact SB.out _ V2
              clear hK K
              (try simp only [List.getElem_toArray, List.getElem_cons_succ, List.getElem_cons_zero, Act.put, List.setIfInBounds_toArray, List.set_cons_zero, List.set_cons_succ])
              refine wpAnyH_take (i := 27) (v := ?vt133_27) rfl (by kernel_rfl) (by kernel_rfl) (by kernel_rfl) (fun _ _ _ h => h) (Or.inl ⟨by rfl, ?hyt133_27⟩) (by assumption) ?restt133_27
              case hyt133_27 => (intro W hSw; (try dsimp only at hSw); have hS1 := hSw; (go_simp <;> with_reducible rfl))
              (try simp only [List.getElem_toArray, List.getElem_cons_succ, List.getElem_cons_zero, Act.put, List.setIfInBounds_toArray, List.set_cons_zero, List.set_cons_succ])
              refine wpAnyH_ready (rs := [28]) (by kernel_rfl) (by simp) ?_
              refine AllReadyH.cons rfl (fun K hK => ?_) AllReadyH.nil
              have hO2 := HO1.out.below V2.out
              have hpc2 := (V2.out.cell (p := ⟨pg, i, none⟩) hpl).trans HC1.out
              have hpf2 := World.ownsRow.frozenAt hO2.2 i
              have hul2 := World.block_lt_of_cell? _ _ hpc2
              clear hHeld
              go_simp
              refine hK.out _ _ ?_ (fun hHeld => ?_)
              · (try dsimp only); exact ((HG1.out.below V2.out).aside (p := ⟨pg, i, none⟩) (by have := HP.out.2.2; simp; omega) _).look 1
              clear hK K
              (try simp only [List.getElem_toArray, List.getElem_cons_succ, List.getElem_cons_zero, Act.put, List.setIfInBounds_toArray, List.set_cons_zero, List.set_cons_succ])
              refine wpAnyH_done (by kernel_rfl) ?_ _
              rw [← HD.out] at ho3
              obtain ⟨hRO, hOU, hGU, hKU, hBU, hsz⟩ := drop_put (i := i) HP.out.1 HP.out.2.2 HZ1.out hB HQ1.out HO1.out HG1.out HK1.out HB1.out V2.out HV.out (rows_at_i HY.out) ho3
              rw [rows_set_i HY.out] at hRO
              go_wp2
              go_roundw
              case rel => exact ⟨i + 1, _, by omega, by go_num, Lib.hid hBU, Lib.hid hsz, Lib.hid hKU, Lib.hid hGU, Lib.hid hOU, Lib.hid hRO⟩
              case measure => simp [intOf]; omega
          · go_simp
            refine hK.out _ _ ?_ (fun hHeld => ?_)
            · (try dsimp only); exact SB.out _ V0
            clear hK K
            (try simp only [List.getElem_toArray, List.getElem_cons_succ, List.getElem_cons_zero, Act.put, List.setIfInBounds_toArray, List.set_cons_zero, List.set_cons_succ])
            refine wpAnyH_take (i := 25) (v := .slice AS (m - (j + 1)) (c - (j + 1))) rfl (by kernel_rfl) (by kernel_rfl) (by kernel_rfl) (fun _ _ _ h => h) (Or.inl ⟨by rfl, ?hyt134_25⟩) (by assumption) ?restt134_25
            case hyt134_25 => (intro W hSw; go_simp; rw [if_pos (show (0 : Int) ≤ (j : Int) + 1 ∧ (j : Int) + 1 ≤ m by omega), HAS.out])
            (try simp only [List.getElem_toArray, List.getElem_cons_succ, List.getElem_cons_zero, Act.put, List.setIfInBounds_toArray, List.set_cons_zero, List.set_cons_succ])
            refine wpAnyH_ready (rs := [5]) (by kernel_rfl) (by simp) ?_
            refine AllReadyH.cons rfl (fun K hK => ?_) AllReadyH.nil
            go_simp
            refine hK.out _ _ ?_ (fun hHeld => ?_)
            · (try dsimp only); exact SB.out _ VA
            clear hK K
            (try simp only [List.getElem_toArray, List.getElem_cons_succ, List.getElem_cons_zero, Act.put, List.setIfInBounds_toArray, List.set_cons_zero, List.set_cons_succ])
            refine wpAnyH_ready (rs := [15]) (by kernel_rfl) (by simp) ?_
            refine AllReadyH.cons rfl (fun K hK => ?_) AllReadyH.nil
            refine step_appF0 tcell_len tcell_one Try.underlying29 timerInfo rfl (by decide) (by decide) rfl (.tmp 31) (.tmp 40) rfl (B := u0.heap.size) rfl hE0 rfl hI0 (by omega) (by simp) ?_
            intro A2 c2 u1 ho2 hg2
            rw [Nat.zero_add, List.nil_append] at ho2
            (try simp only [Nat.zero_add])
            have V1 : Hid (Below u0.heap.size u0 u1) := Lib.hid (VA.out.grown hg2 (by simp) (fun r e => by simp at e; omega))
            have hpc1 : u1.cell? ⟨pg, i, none⟩ = some (.slice (some ⟨pb, 0, none⟩) m c) := (V1.out.cell (p := ⟨pg, i, none⟩) hpl).trans HC1.out
            have hI1 := HI2.out.below V1.out
            refine hK.out _ _ ?_ (fun hHeld => ?_)
            · (try dsimp only); exact SB.out _ V1
            clear hK K
            (try simp only [List.getElem_toArray, List.getElem_cons_succ, List.getElem_cons_zero, Act.put, List.setIfInBounds_toArray, List.set_cons_zero, List.set_cons_succ])
            refine wpAnyH_ready (rs := [26]) (by kernel_rfl) (by simp) ?_
            refine AllReadyH.cons rfl (fun K hK => ?_) AllReadyH.nil
            refine step_appF0 tcell_len tcell_one Try.underlying29 timerInfo rfl (by decide) (by decide) rfl (.tmp 41) (.tmp 51) rfl (B := u0.heap.size) rfl ho2 rfl hI1 (by omega) V1.out.size ?_
            intro A3 c3 u2 ho3 hg3
            have V2 : Hid (Below u0.heap.size u0 u2) := Lib.hid (V1.out.grown hg3 V1.out.size (fun r e => (ho2.block r e).1))
            refine hK.out _ _ ?_ (fun hHeld => ?_)
            · (try dsimp only); exact SB.out _ V2
            clear hK K
            (try simp only [List.getElem_toArray, List.getElem_cons_succ, List.getElem_cons_zero, Act.put, List.setIfInBounds_toArray, List.set_cons_zero, List.set_cons_succ])
            refine wpAnyH_take (i := 27) (v := ?vt135_27) rfl (by kernel_rfl) (by kernel_rfl) (by kernel_rfl) (fun _ _ _ h => h) (Or.inl ⟨by rfl, ?hyt135_27⟩) (by assumption) ?restt135_27
            case hyt135_27 => (intro W hSw; (try dsimp only at hSw); have hS1 := hSw; (go_simp <;> with_reducible rfl))
            (try simp only [List.getElem_toArray, List.getElem_cons_succ, List.getElem_cons_zero, Act.put, List.setIfInBounds_toArray, List.set_cons_zero, List.set_cons_succ])
            refine wpAnyH_ready (rs := [28]) (by kernel_rfl) (by simp) ?_
            refine AllReadyH.cons rfl (fun K hK => ?_) AllReadyH.nil
            have hO2 := HO1.out.below V2.out
            have hpc2 := (V2.out.cell (p := ⟨pg, i, none⟩) hpl).trans HC1.out
            have hpf2 := World.ownsRow.frozenAt hO2.2 i
            have hul2 := World.block_lt_of_cell? _ _ hpc2
            clear hHeld
            go_simp
            refine hK.out _ _ ?_ (fun hHeld => ?_)
            · (try dsimp only); exact ((HG1.out.below V2.out).aside (p := ⟨pg, i, none⟩) (by have := HP.out.2.2; simp; omega) _).look 1
            clear hK K
            (try simp only [List.getElem_toArray, List.getElem_cons_succ, List.getElem_cons_zero, Act.put, List.setIfInBounds_toArray, List.set_cons_zero, List.set_cons_succ])
            refine wpAnyH_done (by kernel_rfl) ?_ _
            rw [← HD.out] at ho3
            obtain ⟨hRO, hOU, hGU, hKU, hBU, hsz⟩ := drop_put (i := i) HP.out.1 HP.out.2.2 HZ1.out hB HQ1.out HO1.out HG1.out HK1.out HB1.out V2.out HV.out (rows_at_i HY.out) ho3
            rw [rows_set_i HY.out] at hRO
            go_wp2
            go_roundw
            case rel => exact ⟨i + 1, _, by omega, by go_num, Lib.hid hBU, Lib.hid hsz, Lib.hid hKU, Lib.hid hGU, Lib.hid hOU, Lib.hid hRO⟩
            case measure => simp [intOf]; omega
        · go_simp
          refine hK.out _ _ ?_ (fun hHeld => ?_)
          · (try dsimp only); exact SB.out _ V0
          clear hK K
          (try simp only [List.getElem_toArray, List.getElem_cons_succ, List.getElem_cons_zero, Act.put, List.setIfInBounds_toArray, List.set_cons_zero, List.set_cons_succ])
          refine wpAnyH_take (i := 25) (v := .slice AS (m - (j + 1)) (c - (j + 1))) rfl (by kernel_rfl) (by kernel_rfl) (by kernel_rfl) (fun _ _ _ h => h) (Or.inl ⟨by rfl, ?hyt136_25⟩) (by assumption) ?restt136_25
          case hyt136_25 => (intro W hSw; go_simp; rw [if_pos (show (0 : Int) ≤ (j : Int) + 1 ∧ (j : Int) + 1 ≤ m by omega), HAS.out])
          (try simp only [List.getElem_toArray, List.getElem_cons_succ, List.getElem_cons_zero, Act.put, List.setIfInBounds_toArray, List.set_cons_zero, List.set_cons_succ])
          refine wpAnyH_ready (rs := [5, 12]) (by kernel_rfl) (by simp) ?_
          refine AllReadyH.cons rfl (fun K hK => ?_) (AllReadyH.cons rfl (fun K hK => ?_) AllReadyH.nil)
          · go_simp
            refine hK.out _ _ ?_ (fun hHeld => ?_)
            · (try dsimp only); exact SB.out _ VA
            clear hK K
            (try simp only [List.getElem_toArray, List.getElem_cons_succ, List.getElem_cons_zero, Act.put, List.setIfInBounds_toArray, List.set_cons_zero, List.set_cons_succ])
            refine wpAnyH_ready (rs := [12]) (by kernel_rfl) (by simp) ?_
            refine AllReadyH.cons rfl (fun K hK => ?_) AllReadyH.nil
            go_simp
            refine hK.out _ _ ?_ (fun hHeld => ?_)
            · (try dsimp only); exact SB.out _ VA
            clear hK K
            (try simp only [List.getElem_toArray, List.getElem_cons_succ, List.getElem_cons_zero, Act.put, List.setIfInBounds_toArray, List.set_cons_zero, List.set_cons_succ])
            refine wpAnyH_take (i := 14) (v := .slice (some ⟨pb, 0, none⟩) j c) rfl (by kernel_rfl) (by kernel_rfl) (by kernel_rfl) (fun _ _ _ h => h) (Or.inl ⟨by rfl, ?hyt137_14⟩) (by assumption) ?restt137_14
            case hyt137_14 => (intro W hSw; go_simp; intro h; omega)
            (try simp only [List.getElem_toArray, List.getElem_cons_succ, List.getElem_cons_zero, Act.put, List.setIfInBounds_toArray, List.set_cons_zero, List.set_cons_succ])
            refine wpAnyH_ready (rs := [15]) (by kernel_rfl) (by simp) ?_
            refine AllReadyH.cons rfl (fun K hK => ?_) AllReadyH.nil
            refine step_appF0 tcell_len tcell_one Try.underlying29 timerInfo rfl (by decide) (by decide) rfl (.tmp 31) (.tmp 40) rfl (B := u0.heap.size) rfl hE0 rfl hI0 (by omega) (by simp) ?_
            intro A2 c2 u1 ho2 hg2
            rw [Nat.zero_add, List.nil_append] at ho2
            (try simp only [Nat.zero_add])
            have V1 : Hid (Below u0.heap.size u0 u1) := Lib.hid (VA.out.grown hg2 (by simp) (fun r e => by simp at e; omega))
            have hpc1 : u1.cell? ⟨pg, i, none⟩ = some (.slice (some ⟨pb, 0, none⟩) m c) := (V1.out.cell (p := ⟨pg, i, none⟩) hpl).trans HC1.out
            have hI1 := HI2.out.below V1.out
            refine hK.out _ _ ?_ (fun hHeld => ?_)
            · (try dsimp only); exact SB.out _ V1
            clear hK K
            (try simp only [List.getElem_toArray, List.getElem_cons_succ, List.getElem_cons_zero, Act.put, List.setIfInBounds_toArray, List.set_cons_zero, List.set_cons_succ])
            refine wpAnyH_ready (rs := [26]) (by kernel_rfl) (by simp) ?_
            refine AllReadyH.cons rfl (fun K hK => ?_) AllReadyH.nil
            refine step_appF0 tcell_len tcell_one Try.underlying29 timerInfo rfl (by decide) (by decide) rfl (.tmp 41) (.tmp 51) rfl (B := u0.heap.size) rfl ho2 rfl hI1 (by omega) V1.out.size ?_
            intro A3 c3 u2 ho3 hg3
            have V2 : Hid (Below u0.heap.size u0 u2) := Lib.hid (V1.out.grown hg3 V1.out.size (fun r e => (ho2.block r e).1))
            refine hK.out _ _ ?_ (fun hHeld => ?_)
            · (try dsimp only); exact SB.out _ V2
            clear hK K
            (try simp only [List.getElem_toArray, List.getElem_cons_succ, List.getElem_cons_zero, Act.put, List.setIfInBounds_toArray, List.set_cons_zero, List.set_cons_succ])
            refine wpAnyH_take (i := 27) (v := ?vt138_27) rfl (by kernel_rfl) (by kernel_rfl) (by kernel_rfl) (fun _ _ _ h => h) (Or.inl ⟨by rfl, ?hyt138_27⟩) (by assumption) ?restt138_27
            case hyt138_27 => (intro W hSw; (try dsimp only at hSw); have hS1 := hSw; (go_simp <;> with_reducible rfl))
            (try simp only [List.getElem_toArray, List.getElem_cons_succ, List.getElem_cons_zero, Act.put, List.setIfInBounds_toArray, List.set_cons_zero, List.set_cons_succ])
            refine wpAnyH_ready (rs := [28]) (by kernel_rfl) (by simp) ?_
            refine AllReadyH.cons rfl (fun K hK => ?_) AllReadyH.nil
            have hO2 := HO1.out.below V2.out
            have hpc2 := (V2.out.cell (p := ⟨pg, i, none⟩) hpl).trans HC1.out
            have hpf2 := World.ownsRow.frozenAt hO2.2 i
            have hul2 := World.block_lt_of_cell? _ _ hpc2
            clear hHeld
            go_simp
            refine hK.out _ _ ?_ (fun hHeld => ?_)
            · (try dsimp only); exact ((HG1.out.below V2.out).aside (p := ⟨pg, i, none⟩) (by have := HP.out.2.2; simp; omega) _).look 1
            clear hK K
            (try simp only [List.getElem_toArray, List.getElem_cons_succ, List.getElem_cons_zero, Act.put, List.setIfInBounds_toArray, List.set_cons_zero, List.set_cons_succ])
            refine wpAnyH_done (by kernel_rfl) ?_ _
            rw [← HD.out] at ho3
            obtain ⟨hRO, hOU, hGU, hKU, hBU, hsz⟩ := drop_put (i := i) HP.out.1 HP.out.2.2 HZ1.out hB HQ1.out HO1.out HG1.out HK1.out HB1.out V2.out HV.out (rows_at_i HY.out) ho3
            rw [rows_set_i HY.out] at hRO
            go_wp2
            go_roundw
            case rel => exact ⟨i + 1, _, by omega, by go_num, Lib.hid hBU, Lib.hid hsz, Lib.hid hKU, Lib.hid hGU, Lib.hid hOU, Lib.hid hRO⟩
            case measure => simp [intOf]; omega
          · go_simp
            refine hK.out _ _ ?_ (fun hHeld => ?_)
            · (try dsimp only); exact SB.out _ V0
            clear hK K
            (try simp only [List.getElem_toArray, List.getElem_cons_succ, List.getElem_cons_zero, Act.put, List.setIfInBounds_toArray, List.set_cons_zero, List.set_cons_succ])
            refine wpAnyH_take (i := 14) (v := .slice (some ⟨pb, 0, none⟩) j c) rfl (by kernel_rfl) (by kernel_rfl) (by kernel_rfl) (fun _ _ _ h => h) (Or.inl ⟨by rfl, ?hyt139_14⟩) (by assumption) ?restt139_14
            case hyt139_14 => (intro W hSw; go_simp; intro h; omega)
            (try simp only [List.getElem_toArray, List.getElem_cons_succ, List.getElem_cons_zero, Act.put, List.setIfInBounds_toArray, List.set_cons_zero, List.set_cons_succ])
            refine wpAnyH_ready (rs := [5]) (by kernel_rfl) (by simp) ?_
            refine AllReadyH.cons rfl (fun K hK => ?_) AllReadyH.nil
            go_simp
            refine hK.out _ _ ?_ (fun hHeld => ?_)
            · (try dsimp only); exact SB.out _ VA
            clear hK K
            (try simp only [List.getElem_toArray, List.getElem_cons_succ, List.getElem_cons_zero, Act.put, List.setIfInBounds_toArray, List.set_cons_zero, List.set_cons_succ])
            refine wpAnyH_ready (rs := [15]) (by kernel_rfl) (by simp) ?_
            refine AllReadyH.cons rfl (fun K hK => ?_) AllReadyH.nil
            refine step_appF0 tcell_len tcell_one Try.underlying29 timerInfo rfl (by decide) (by decide) rfl (.tmp 31) (.tmp 40) rfl (B := u0.heap.size) rfl hE0 rfl hI0 (by omega) (by simp) ?_
            intro A2 c2 u1 ho2 hg2
            rw [Nat.zero_add, List.nil_append] at ho2
            (try simp only [Nat.zero_add])
            have V1 : Hid (Below u0.heap.size u0 u1) := Lib.hid (VA.out.grown hg2 (by simp) (fun r e => by simp at e; omega))
            have hpc1 : u1.cell? ⟨pg, i, none⟩ = some (.slice (some ⟨pb, 0, none⟩) m c) := (V1.out.cell (p := ⟨pg, i, none⟩) hpl).trans HC1.out
            have hI1 := HI2.out.below V1.out
            refine hK.out _ _ ?_ (fun hHeld => ?_)
            · (try dsimp only); exact SB.out _ V1
            clear hK K
            (try simp only [List.getElem_toArray, List.getElem_cons_succ, List.getElem_cons_zero, Act.put, List.setIfInBounds_toArray, List.set_cons_zero, List.set_cons_succ])
            refine wpAnyH_ready (rs := [26]) (by kernel_rfl) (by simp) ?_
            refine AllReadyH.cons rfl (fun K hK => ?_) AllReadyH.nil
            refine step_appF0 tcell_len tcell_one Try.underlying29 timerInfo rfl (by decide) (by decide) rfl (.tmp 41) (.tmp 51) rfl (B := u0.heap.size) rfl ho2 rfl hI1 (by omega) V1.out.size ?_
            intro A3 c3 u2 ho3 hg3
            have V2 : Hid (Below u0.heap.size u0 u2) := Lib.hid (V1.out.grown hg3 V1.out.size (fun r e => (ho2.block r e).1))
            refine hK.out _ _ ?_ (fun hHeld => ?_)
            · (try dsimp only); exact SB.out _ V2
            clear hK K
            (try simp only [List.getElem_toArray, List.getElem_cons_succ, List.getElem_cons_zero, Act.put, List.setIfInBounds_toArray, List.set_cons_zero, List.set_cons_succ])
            refine wpAnyH_take (i := 27) (v := ?vt140_27) rfl (by kernel_rfl) (by kernel_rfl) (by kernel_rfl) (fun _ _ _ h => h) (Or.inl ⟨by rfl, ?hyt140_27⟩) (by assumption) ?restt140_27
            case hyt140_27 => (intro W hSw; (try dsimp only at hSw); have hS1 := hSw; (go_simp <;> with_reducible rfl))
            (try simp only [List.getElem_toArray, List.getElem_cons_succ, List.getElem_cons_zero, Act.put, List.setIfInBounds_toArray, List.set_cons_zero, List.set_cons_succ])
            refine wpAnyH_ready (rs := [28]) (by kernel_rfl) (by simp) ?_
            refine AllReadyH.cons rfl (fun K hK => ?_) AllReadyH.nil
            have hO2 := HO1.out.below V2.out
            have hpc2 := (V2.out.cell (p := ⟨pg, i, none⟩) hpl).trans HC1.out
            have hpf2 := World.ownsRow.frozenAt hO2.2 i
            have hul2 := World.block_lt_of_cell? _ _ hpc2
            clear hHeld
            go_simp
            refine hK.out _ _ ?_ (fun hHeld => ?_)
            · (try dsimp only); exact ((HG1.out.below V2.out).aside (p := ⟨pg, i, none⟩) (by have := HP.out.2.2; simp; omega) _).look 1
            clear hK K
            (try simp only [List.getElem_toArray, List.getElem_cons_succ, List.getElem_cons_zero, Act.put, List.setIfInBounds_toArray, List.set_cons_zero, List.set_cons_succ])
            refine wpAnyH_done (by kernel_rfl) ?_ _
            rw [← HD.out] at ho3
            obtain ⟨hRO, hOU, hGU, hKU, hBU, hsz⟩ := drop_put (i := i) HP.out.1 HP.out.2.2 HZ1.out hB HQ1.out HO1.out HG1.out HK1.out HB1.out V2.out HV.out (rows_at_i HY.out) ho3
            rw [rows_set_i HY.out] at hRO
            go_wp2
            go_roundw
            case rel => exact ⟨i + 1, _, by omega, by go_num, Lib.hid hBU, Lib.hid hsz, Lib.hid hKU, Lib.hid hGU, Lib.hid hOU, Lib.hid hRO⟩
            case measure => simp [intOf]; omega
    · have hi24 : i = 24 := by omega
      subst hi24
      have hQ := HQ.out
      rw [List.drop_eq_nil_of_le (by omega), List.append_nil, List.take_of_length_le (by omega)] at hQ
      have HQF := Lib.hid hQ
      clear hQ HQ
      go_wp2
      exact ⟨rfl, .tuple #[], by simp [results, Try.results88, go_sem], vs, rfl, HG.out, HO.out, HQF.out, HB.out⟩

end
end Go.Proofs.Ytakplomopbnekaa

namespace Go.Proofs.Ytakplomopbnekaa
open Go.RowKit Go.Shelf
set_option linter.unusedVariables false

theorem keyT_iff {a b : Tmr} : keyT a b = true ↔ a.typ = b.typ ∧ a.id = b.id ∧ a.adv = b.adv := by simp [keyT]
theorem twin_app {a b : List Tmr} (h : twinB (a ++ b) = false) : twinB a = false ∧ twinB b = false := by
  induction a with
  | nil => exact ⟨rfl, h⟩
  | cons t r ih =>
    simp only [List.cons_append, twinB, Bool.or_eq_false_iff, List.any_append] at h ⊢
    exact ⟨⟨h.1.1, (ih h.2).1⟩, (ih h.2).2⟩
theorem twin_rows {ys : List (List Tmr)} (h : twinB ys.flatten = false) : ∀ y ∈ ys, twinB y = false := by
  induction ys with
  | nil => intro y hy; cases hy
  | cons a r ih =>
    rw [List.flatten_cons] at h
    intro y hy
    rcases List.mem_cons.1 hy with rfl | hy
    · exact (twin_app h).1
    · exact ih (twin_app h).2 y hy
theorem dropK_cons_hit {t k : Tmr} {r : List Tmr} (h : keyT t k = true) : dropK k (t :: r) = r := by
  have hf : findV (t :: r) k = 0 := by unfold findV; simp [h, List.findIdx_cons]
  unfold dropK
  rw [hf, if_pos (by omega)]
  simp
theorem dropK_cons_miss {t k : Tmr} {r : List Tmr} (h : keyT t k = false) : dropK k (t :: r) = t :: dropK k r := by
  unfold dropK
  rcases findV_cases r k with hf | ⟨j, hj, hf⟩
  · have hf2 : findV (t :: r) k = -1 := by
      have hn := findV_neg.1 (show findV r k < 0 by omega)
      unfold findV
      rw [if_neg]
      simp only [List.any_cons, h, hn]
      simp
    rw [hf, hf2, if_neg (by omega), if_neg (by omega)]
  · have hf2 : findV (t :: r) k = ((j + 1 : Nat) : Int) := by
      have hn : r.any (fun t => keyT t k) = true := by
        cases hh : r.any (fun t => keyT t k) with
        | true => rfl
        | false => have := findV_neg.2 hh; omega
      have hj2 : r.findIdx (fun t => keyT t k) = j := by unfold findV at hf; rw [if_pos hn] at hf; omega
      unfold findV
      rw [if_pos (by simp [List.any_cons, h, hn]), List.findIdx_cons, h, hj2]
      rfl
    rw [hf, hf2, if_pos (by omega), if_pos (by omega), Int.toNat_natCast, Int.toNat_natCast]
    rfl
theorem dropK_filter {k : Tmr} : ∀ {y : List Tmr}, twinB y = false → dropK k y = y.filter fun t => !keyT t k
  | [], _ => by unfold dropK; split <;> simp
  | t :: r, h => by
    simp only [twinB, Bool.or_eq_false_iff] at h
    by_cases hk : keyT t k = true
    · rw [dropK_cons_hit hk, List.filter_cons_of_neg (by simp [hk])]
      refine (List.filter_eq_self.2 fun u hu => ?_).symm
      cases hu2 : keyT u k with
      | false => rfl
      | true =>
        have h1 := keyT_iff.1 hk
        have h2 := keyT_iff.1 hu2
        have h3 : keyT t u = true := keyT_iff.2 ⟨h1.1.trans h2.1.symm, h1.2.1.trans h2.2.1.symm, h1.2.2.trans h2.2.2.symm⟩
        have h4 := List.any_eq_false.1 h.1 u hu
        exact absurd h3 h4
    · have hk' : keyT t k = false := by simpa using hk
      rw [dropK_cons_miss hk', List.filter_cons_of_pos (by simp [hk']), dropK_filter h.2]
theorem rows_dropK {now : Int} {ys : List (List Tmr)} {k : Tmr} (h : faultW now ys = 0) : ys.map (dropK k) = ys.map fun y => y.filter fun t => !keyT t k :=
  List.map_congr_left fun y hy => dropK_filter (twin_rows (fault_rows h).2 y hy)

section
attribute [local go_sem] Oper.semAt_some

set_option maxRecDepth 100000 in
set_option maxHeartbeats 4000000 in
theorem specDropTimer_any (now : Int) (k : Tmr) (q : Bool) (lo hi : Nat) (A : Option Addr) (n c : Nat) (ys : List (List Tmr)) (w : World) (ha : Rep.timer.rows.Sl q lo hi w A n ys) (hh : hi ≤ w.heap.size) (hn : n ≤ 1048576) (ht : tot ys ≤ 1048576) :
    Calls Try.prog 23 #[.agg #[.int .i64 now, .slice A n c], .agg #[.int .i64 k.typ, .int .i64 k.id, .int .i64 k.adv]] w (WOut w (dtC now ys k) (dtN now ys k) (dtR now ys k) []) := by
  have HA := Rep.Sl.kept ha hh
  have hl := ha.1
  have HM : Hid (∀ y ∈ ys, y.length ≤ 1048576) := Lib.hid (fun y hy => by
    obtain ⟨i, hi, rfl⟩ := List.getElem_of_mem hy
    have := tot_at ys i _ (List.getElem?_eq_getElem hi)
    omega)
  obtain ⟨r, hr⟩ : ∃ r, faultW now ys = r := ⟨_, rfl⟩
  have HRR := Lib.hid hr
  have HTT := Lib.hid ht
  clear ha hr ht
  go_enter Try.func23, Try.ntmps23
  go_upto_region 1 with (fail)
  refine Code.wp_name ?_
  intro V hV
  have HX : Hid (Box V w.heap.size 26 #[.int .i64 now, .slice A n c]) := Lib.hid (by rw [hV]; exact ((Box.made _ _ _).over _).over _)
  have HK : Hid (Box V (w.heap.size + 1) 34 #[.int .i64 k.typ, .int .i64 k.id, .int .i64 k.adv]) := Lib.hid (by rw [hV]; exact (Box.made_at _ _ _ (by simp)).over _)
  have HR : Hid (Box V (w.heap.size + 2) 31 #[.int .i64 0, .int .i64 0, .slice none 0 0, .slice none 0 0]) := Lib.hid (by rw [hV]; exact Box.made_at _ _ _ (by simp))
  have HB : Hid (Below w.heap.size w V) := Lib.hid (by rw [hV]; exact (((Below.refl _ _).alloc (Nat.le_refl _) _).alloc (by simp) _).alloc (by simp; omega) _)
  have HZ : Hid (w.heap.size + 3 = V.heap.size) := Lib.hid (by rw [hV]; simp)
  clear hV
  have c0 := HX.out.look 0
  have c1 := HX.out.look 1
  have hxl := HX.out.lt
  go_wp2_with fail
  refine (specWheelFault_any now q lo hi A n c ys _ (HA.below HB.out).sl (HA.below HB.out).le hn HTT.out).mono ?_
  rw [HRR.out]
  rintro e w1 ⟨rfl, hb1⟩
  have HX1 := Lib.hid (HX.out.below hb1)
  have HK1 := Lib.hid (HK.out.below hb1)
  have HR1 := Lib.hid (HR.out.below hb1)
  have HB1 := Lib.hid (below_step HB.out hb1)
  have HZ1 : Hid (w.heap.size + 3 ≤ w1.heap.size) := Lib.hid (by have := HZ.out; have := hb1.size; omega)
  clear hb1 HX HR HB HZ HK c0 c1 hxl
  have hxl := HX1.out.lt
  by_cases hr0 : r = 0
  · subst hr0
    obtain ⟨hok, h24, h60⟩ := fault_ok HRR.out
    obtain rfl : n = 24 := by omega
    obtain ⟨z, hz⟩ : ∃ z, findV ys.flatten k = z := ⟨_, rfl⟩
    have HZZ := Lib.hid hz
    clear hz
    go_upto_region 4 with (fail)
    clear hxl
    have HAW := HA.below HB1.out
    have SB : Hid (∀ W, Hid (Below w1.heap.size w1 W) → (fun W : World => W.cell? ⟨w.heap.size + 1, 0, none⟩ = some (.int .i64 k.typ) ∧ W.cell? ⟨w.heap.size + 1, 1, none⟩ = some (.int .i64 k.id) ∧ W.cell? ⟨w.heap.size + 1, 2, none⟩ = some (.int .i64 k.adv)) W) := fun W h =>
      ⟨(HK1.out.below h.out).look 0, (HK1.out.below h.out).look 1, (HK1.out.below h.out).look 2⟩
    have V0 : Hid (Below w1.heap.size w1 w1.drew) := (Below.refl _ _).drew
    refine wp_region_held_drew (S := (fun W : World => W.cell? ⟨w.heap.size + 1, 0, none⟩ = some (.int .i64 k.typ) ∧ W.cell? ⟨w.heap.size + 1, 1, none⟩ = some (.int .i64 k.id) ∧ W.cell? ⟨w.heap.size + 1, 2, none⟩ = some (.int .i64 k.adv))) (by kernel_rfl) ?_ (fun hHeld => ?_)
    · (try dsimp only); exact SB.out _ V0
    refine wpAnyH_take (i := 1) (v := ?vt1_1) rfl (by kernel_rfl) (by kernel_rfl) (by kernel_rfl) (fun _ _ _ h => h) (Or.inl ⟨by rfl, ?hyt1_1⟩) (by assumption) ?restt1_1
    case hyt1_1 => (intro W hSw; (try dsimp only at hSw); obtain ⟨hS1, hS2, hS3⟩ := hSw; (go_simp <;> with_reducible rfl))
    (try simp only [List.getElem_toArray, List.getElem_cons_succ, List.getElem_cons_zero, Act.put, List.setIfInBounds_toArray, List.set_cons_zero, List.set_cons_succ])
    refine wpAnyH_ready (rs := [0]) (by kernel_rfl) (by simp) ?_
    refine AllReadyH.cons rfl (fun K hK => ?_) AllReadyH.nil
    go_simp
    refine (l4All_any q lo hi w.heap.size A 24 c now ys _ (HX1.out.below V0.out) (HAW.below V0.out).sl (HAW.below V0.out).le (by omega) HTT.out).mono ?_
    rintro e u2 ⟨E, m, d, rfl, hoe, hb⟩
    have V1 := Lib.hid (below_step V0.out hb)
    clear hb
    have HO2 := Rep.Sl.kept (own_timers hoe) (Nat.le_refl _)
    have hml : m ≤ 1048576 := by have h1 := hoe.1; rw [show ys.flatten.length = tot ys by simp [tot]] at h1; omega
    clear hoe
    refine hK.out _ _ ?_ (fun hHeld => ?_)
    · (try dsimp only); exact SB.out _ V1
    clear hK K
    (try simp only [List.getElem_toArray, List.getElem_cons_succ, List.getElem_cons_zero, Act.put, List.setIfInBounds_toArray, List.set_cons_zero, List.set_cons_succ])
    refine wpAnyH_ready (rs := [2]) (by kernel_rfl) (by simp) ?_
    refine AllReadyH.cons rfl (fun K hK => ?_) AllReadyH.nil
    go_simp
    refine (l4Find_any true _ _ E m d ys.flatten k _ HO2.sl HO2.le hml).mono ?_
    rw [HZZ.out]
    rintro e w3 ⟨rfl, hb⟩
    have V2 := Lib.hid (below_step V1.out hb)
    clear hb HO2
    refine hK.out _ _ ?_ (fun hHeld => ?_)
    · (try dsimp only); exact SB.out _ V2
    clear hK K
    (try simp only [List.getElem_toArray, List.getElem_cons_succ, List.getElem_cons_zero, Act.put, List.setIfInBounds_toArray, List.set_cons_zero, List.set_cons_succ])
    refine wpAnyH_take (i := 3) (v := ?vt2_3) rfl (by kernel_rfl) (by kernel_rfl) (by kernel_rfl) (fun _ _ _ h => h) (Or.inl ⟨by rfl, ?hyt2_3⟩) (by assumption) ?restt2_3
    case hyt2_3 => (intro W hSw; (try dsimp only at hSw); obtain ⟨hS1, hS2, hS3⟩ := hSw; (go_simp <;> with_reducible rfl))
    (try simp only [List.getElem_toArray, List.getElem_cons_succ, List.getElem_cons_zero, Act.put, List.setIfInBounds_toArray, List.set_cons_zero, List.set_cons_succ])
    refine wpAnyH_done (by kernel_rfl) ?_ _
    have HX3 := Lib.hid (HX1.out.below V2.out)
    have HK3 := Lib.hid (HK1.out.below V2.out)
    have HR3 := Lib.hid (HR1.out.below V2.out)
    have HB3 := Lib.hid (below_step HB1.out V2.out)
    have HZ3 : Hid (w.heap.size + 3 ≤ w3.heap.size) := Lib.hid (Nat.le_trans HZ1.out V2.out.size)
    clear SB V0 V1 V2 HX1 HK1 HR1 HB1 HAW hHeld
    by_cases hz0 : z < 0
    · have hC : dtC now ys k = 4 := by
        unfold dtC
        rw [if_neg (fun e => e HRR.out), if_neg]
        rw [findV_neg.1 (show findV ys.flatten k < 0 by rw [HZZ.out]; exact hz0)]
        simp
      have hC' : ¬ dtC now ys k = 0 := by rw [hC]; omega
      have HWO : Hid (dtC now ys k = 4 ∧ dtN now ys k = 0 ∧ dtR now ys k = []) := Lib.hid ⟨hC, if_neg hC', if_neg hC'⟩
      clear hC hC'
      have r0 := HR3.out.look 0
      have r1 := HR3.out.look 1
      have r2 := HR3.out.look 2
      have r3 := HR3.out.look 3
      have f0 := HR3.out.free 0
      have f1 := HR3.out.free 1
      have f2 := HR3.out.free 2
      have f3 := HR3.out.free 3
      have hrl := HR3.out.lt
      go_wp2
      clear r0 r1 r2 r3 f0 f1 f2 f3 hrl
      have hbx := (((HR3.out.puts 0 (.int .i64 4) (cs' := #[.int .i64 4, .int .i64 0, .slice none 0 0, .slice none 0 0]) rfl).puts 1 (.int .i64 0) (cs' := #[.int .i64 4, .int .i64 0, .slice none 0 0, .slice none 0 0]) rfl).puts 2 (.slice none 0 0) (cs' := #[.int .i64 4, .int .i64 0, .slice none 0 0, .slice none 0 0]) rfl).puts 3 (.slice none 0 0) (cs' := #[.int .i64 4, .int .i64 0, .slice none 0 0, .slice none 0 0]) rfl
      have q0 := hbx.look 0
      have q1 := hbx.look 1
      have q2 := hbx.look 2
      have q3 := hbx.look 3
      exact bodyPost_ret (v := .agg #[.int .i64 4, .int .i64 0, .slice none 0 0, .slice none 0 0]) (by simp [results, Try.results23, go_sem, q0, q1, q2, q3]) rfl (by rw [HWO.out.1, HWO.out.2.1, HWO.out.2.2]; refine WOut.zero ?_; exact (((HB3.out.setCell (by simp; try omega) _).setCell (by simp; try omega) _).setCell (by simp; try omega) _).setCell (by simp; try omega) _)
    · have hany : (ys.flatten.any fun t => keyT t k) = true := by
        cases h : (ys.flatten.any fun t => keyT t k) with
        | true => rfl
        | false => have := findV_neg.2 h; rw [HZZ.out] at this; exact absurd this hz0
      have hC : dtC now ys k = 0 := by unfold dtC; rw [if_neg (fun e => e HRR.out), if_pos hany]
      have HWO : Hid (dtC now ys k = 0 ∧ dtN now ys k = now ∧ dtR now ys k = ys.map (fun y => y.filter fun t => !keyT t k)) := Lib.hid ⟨hC, if_pos hC, if_pos hC⟩
      clear hC hany
      have hxl := HX3.out.lt
      go_wp2_with fail
      refine (l4Copy_any q lo hi w.heap.size A c now ys _ HX3.out (HA.below HB3.out).sl (HA.below HB3.out).le HM.out).mono ?_
      rintro e w4 ⟨P, pc, vs, rfl, hor, hrr, hb4⟩
      obtain ⟨pg, rfl, hp1, hp2⟩ := hor.form (by omega)
      have HK4 := Lib.hid (HK3.out.below hb4)
      have HR4 := Lib.hid (HR3.out.below hb4)
      have HB4 := Lib.hid (below_step HB3.out hb4)
      have HO4 := Lib.hid hor
      have HQ4 := Lib.hid hrr
      have HS4 := Lib.hid hb4.size
      clear hb4 hor hrr HX3 HK3 HR3 hxl
      go_upto_region 7 with (fail)
      refine Code.wp_name ?_
      intro V5 hV5
      have hb5 : Below w4.heap.size w4 V5 := by rw [hV5]; exact (Below.refl _ _).alloc (Nat.le_refl _) _
      have HG5 : Hid (Box V5 w4.heap.size 26 #[.int .i64 now, .slice (some ⟨pg, 0, none⟩) 24 pc]) := Lib.hid (by rw [hV5]; exact Box.made _ _ _)
      have HK5 := Lib.hid (HK4.out.below hb5)
      have HR5 := Lib.hid (HR4.out.below hb5)
      have HB5 := Lib.hid (below_step HB4.out hb5)
      have HO5 := Lib.hid (HO4.out.below hb5)
      have HQ5 := Lib.hid (HQ4.out.below hb5)
      have HS5 : Hid (w3.heap.size ≤ V5.heap.size) := Lib.hid (Nat.le_trans HS4.out hb5.size)
      clear hV5 hb5 HK4 HR4 HB4 HO4 HQ4
      have k0 := HK5.out.look 0
      have k1 := HK5.out.look 1
      have k2 := HK5.out.look 2
      have hkl := HK5.out.lt
      go_wp2_with fail
      refine (l4Drop_any w3.heap.size w4.heap.size pg pc now vs ys k V5 HG5.out HO5.out HQ5.out HS5.out (fun y hy => by
        obtain ⟨i, hi, rfl⟩ := List.getElem_of_mem hy
        have := tot_at ys i _ (List.getElem?_eq_getElem hi)
        omega)).mono ?_
      rintro e w6 ⟨vs6, rfl, hg6, ho6, hq6, hb6⟩
      have hz3 := HZ3.out
      have HK0 := RowsO.resK hq6 ho6
      have HK6 := ResK.kept HK0 (Nat.le_refl _)
      have hR6 : Box w6 (w.heap.size + 2) 31 #[.int .i64 0, .int .i64 0, .slice none 0 0, .slice none 0 0] := (hb6.block (w.heap.size + 2) (by omega)).trans HR5.out
      have HB6 := HB5.out.trans (hb6.mono (show w.heap.size ≤ w3.heap.size by omega))
      rw [rows_dropK HRR.out] at HK6
      clear hq6 ho6 hb6 HK0 k0 k1 k2 hkl
      obtain ⟨hbx, hres⟩ := res_stored (g := w.heap.size + 2) hR6 (by omega) (by omega) HB6 HK6 0 now pc 0
      have g0 := hg6.look 0
      have g1 := hg6.look 1
      have hgl := hg6.lt
      have r0 := hR6.look 0
      have r1 := hR6.look 1
      have r2 := hR6.look 2
      have r3 := hR6.look 3
      have f0 := hR6.free 0
      have f1 := hR6.free 1
      have f2 := hR6.free 2
      have f3 := hR6.free 3
      have hrl := hR6.lt
      go_wp2
      clear r0 r1 r2 r3 f0 f1 f2 f3 hrl g0 g1 hgl
      have q0 := hbx.look 0
      have q1 := hbx.look 1
      have q2 := hbx.look 2
      have q3 := hbx.look 3
      exact bodyPost_ret (v := .agg #[.int .i64 0, .int .i64 now, .slice (some ⟨pg, 0, none⟩) 24 pc, .slice none 0 0]) (by simp [results, Try.results23, go_sem, q0, q1, q2, q3]) rfl (by rw [HWO.out.1, HWO.out.2.1, HWO.out.2.2]; exact hres)
  · have hC : dtC now ys k = r := by unfold dtC; rw [HRR.out, if_pos hr0]
    have hC' : ¬ dtC now ys k = 0 := by rw [hC]; exact hr0
    have HWO : Hid (dtC now ys k = r ∧ dtN now ys k = 0 ∧ dtR now ys k = []) := Lib.hid ⟨hC, if_neg hC', if_neg hC'⟩
    have hr0' : (r != 0) = true := by rw [bne_iff_ne]; exact hr0
    clear hr0 hC hC'
    have r0 := HR1.out.look 0
    have r1 := HR1.out.look 1
    have r2 := HR1.out.look 2
    have r3 := HR1.out.look 3
    have f0 := HR1.out.free 0
    have f1 := HR1.out.free 1
    have f2 := HR1.out.free 2
    have f3 := HR1.out.free 3
    have hrl := HR1.out.lt
    go_wp2
    clear r0 r1 r2 r3 f0 f1 f2 f3 hrl
    have hbx := (((HR1.out.puts 0 (.int .i64 r) (cs' := #[.int .i64 r, .int .i64 0, .slice none 0 0, .slice none 0 0]) rfl).puts 1 (.int .i64 0) (cs' := #[.int .i64 r, .int .i64 0, .slice none 0 0, .slice none 0 0]) rfl).puts 2 (.slice none 0 0) (cs' := #[.int .i64 r, .int .i64 0, .slice none 0 0, .slice none 0 0]) rfl).puts 3 (.slice none 0 0) (cs' := #[.int .i64 r, .int .i64 0, .slice none 0 0, .slice none 0 0]) rfl
    have q0 := hbx.look 0
    have q1 := hbx.look 1
    have q2 := hbx.look 2
    have q3 := hbx.look 3
    exact bodyPost_ret (v := .agg #[.int .i64 r, .int .i64 0, .slice none 0 0, .slice none 0 0]) (by simp [results, Try.results23, go_sem, q0, q1, q2, q3]) rfl (by rw [HWO.out.1, HWO.out.2.1, HWO.out.2.2]; refine WOut.zero ?_; exact (((HB1.out.setCell (by simp; try omega) _).setCell (by simp; try omega) _).setCell (by simp; try omega) _).setCell (by simp; try omega) _)

end
end Go.Proofs.Ytakplomopbnekaa

namespace Go.Proofs.Ytakplomopbnekaa
open Go.RowKit Go.Shelf
set_option linter.unusedVariables false

/-- append of flat items at a step, which tells where the answer lies. -/
theorem step_appAt {α : Type} {size bytes : Nat} {f : α → List Value} {ts t : TypeId} {z : Value} {ops : Array Oper} {o : Oper} {a : Act} {Q : Exit → Act → World → Prop} {w : World} {B : Nat} {A : Option Addr} {ad : Addr} {n c m d : Nat} {zs ys : List α} {K : Act → World → Prop} {E' : Prop} (hf : ∀ a, (f a).length = size) (hone : ∀ a, ∀ u ∈ f a, u.oneCell' = true) (hu : Try.prog.underlying ts = some (.slice t))
    (hinfo : (Try.prog.info? t).map (fun i => (i.zero, i.size, i.bytes)) = some (some z, size, bytes)) (hzc : z.cells.size = size) (hsz : 0 < size) (hby : bytes ≤ 1048576)
    (hgd : o.guard = none) (s x : Operand) (ho : o.op = .call { callee := .builtin .append, args := #[s, x], argTypes := #[ts, ts] })
    (hs : a.eval s = .slice A n c) (hown : OwnF t size f w B A n c zs) (hx : a.eval x = .slice (some ad) m d) (hyl : ys.length = m) (hE : ∀ j u, (ys.flatMap f)[j]? = some u → w.cell? (ad.add j) = some u) (hl : n + m ≤ 1048576) (hB : B ≤ w.heap.size)
    (h : ∀ A' c' w', OwnF t size f w' B A' (n + m) c' (zs ++ ys) → w.grownBy w' (A.map (·.block)) → (A'.map (·.block) = A.map (·.block) ∨ A'.map (·.block) = some w.heap.size) → K (a.put o.dst (.slice A' (n + m) c')) w') :
    if Region.wanted o (yielded ops a.tmps) = true then Oper.wp Try.prog o a w K Q else E' := by
  rw [if_pos (by simp [Region.wanted, hgd])]
  obtain ⟨i0, hi, hz0, hz1, hz2⟩ := info_parts hinfo
  have hrow : ∀ (A : Option Addr) (n c : Nat), (Value.slice A n c).ownBlock = A.map (·.block) := fun A n c => by cases A <;> rfl
  have hbytes : (n + m) * bytes ≤ 140737488355328 := Nat.le_trans (Nat.mul_le_mul hl hby) (by decide)
  obtain ⟨v', w', hrun, h2, h3, _, h4⟩ := run_append_own_at (P := Try.prog) (w := w) B ts o.type t i0 z size bytes hu hi hz0 hz1 hz2 hzc hsz (.slice A n c) n (zs.flatMap f) hown.2 ad m d (ys.flatMap f) (by rw [flat_len hf, hyl]) hE (fun u hu => by
      obtain ⟨a, _, h2⟩ := List.mem_flatMap.1 hu
      exact hone a u h2) (by unfold maxLen; omega) hbytes hB
  obtain ⟨A', c', rfl⟩ := own_form_any h2
  rw [hrow, hrow] at h4
  unfold Oper.wp execOp
  simp only [ho, resolve, invoke, builtin, Sem.run_bind, Sem.run_pure, Result.andThen_ok, List.map_toArray, List.map_cons, List.map_nil, hs, hx, hrun]
  exact h A' c' w' ⟨by rw [List.length_append, hown.1, hyl], by rw [List.flatMap_append]; exact h2⟩ (by rw [← hrow A n c]; exact h3) h4

/-- What may turn when timers are put into rows of the call's own. -/
structure PutOnly (pg : Nat) (vs vs' : List SlV) (w w' : World) : Prop where
  os : w'.os = w.os
  tape : w'.tape = w.tape
  output : w'.output = w.output
  size : w.heap.size ≤ w'.heap.size
  block : ∀ r, r < w.heap.size → r ≠ pg → (∀ u ∈ vs, u.blk ≠ some r) → w'.heap[r]? = w.heap[r]?
  news : ∀ v ∈ vs', ∀ r, v.blk = some r → (∃ u ∈ vs, u.blk = some r) ∨ w.heap.size ≤ r
theorem PutOnly.refl (pg : Nat) (vs : List SlV) (w : World) : PutOnly pg vs vs w w := ⟨rfl, rfl, rfl, Nat.le_refl _, fun _ _ _ _ => rfl, fun v hv r hr => .inl ⟨v, hv, hr⟩⟩
theorem PutOnly.trans {pg : Nat} {vs vs' vs'' : List SlV} {a b c : World} (h : PutOnly pg vs vs' a b) (k : PutOnly pg vs' vs'' b c) : PutOnly pg vs vs'' a c :=
  ⟨k.os.trans h.os, k.tape.trans h.tape, k.output.trans h.output, Nat.le_trans h.size k.size, fun r hr hp hu => (k.block r (Nat.lt_of_lt_of_le hr h.size) hp (fun v hv hb => by
      rcases h.news v hv r hb with ⟨u, hu', e⟩ | h'
      · exact hu u hu' e
      · omega)).trans (h.block r hr hp hu), fun v hv r hr => by
    rcases k.news v hv r hr with ⟨u, hu, e⟩ | h'
    · exact h.news u hu r e
    · exact .inr (Nat.le_trans h.size h')⟩
theorem PutOnly.of_below {pg : Nat} {vs : List SlV} {w w' : World} (h : Below w.heap.size w w') : PutOnly pg vs vs w w' := ⟨h.os, h.tape, h.output, h.size, fun r hr _ _ => h.block r hr, fun v hv r hr => .inl ⟨v, hv, hr⟩⟩
theorem PutOnly.below {pg B : Nat} {vs vs' : List SlV} {ys : List (List Tmr)} {w w' : World} (h : PutOnly pg vs vs' w w') (hB : B ≤ w.heap.size) (hp : B ≤ pg) (hq : RowsO w B vs ys) : Below B w w' :=
  ⟨h.os, h.tape, h.output, h.size, fun r hr => h.block r (by omega) (by omega) fun u hu e => by have := (hq.blk u hu r e).1; omega⟩
theorem PutOnly.box {pg B : Nat} {vs vs' : List SlV} {ys : List (List Tmr)} {w w' : World} (h : PutOnly pg vs vs' w w') (hq : RowsO w B vs ys) {g : Nat} {ty : TypeId} {cs : Array Value} (hb : Box w g ty cs) (h1 : g ≠ pg) (h2 : ty ≠ 36) : Box w' g ty cs :=
  (h.block g hb.lt h1 fun u hu e => by
    obtain ⟨_, _, cs2, h3⟩ := hq.blk u hu g e
    unfold Box at hb
    rw [hb] at h3
    simp at h3
    exact h2 h3.2).trans hb

theorem put_row {u u2 : World} {B g pg pc p n c c2 : Nat} {now : Int} {t : Tmr} {vs : List SlV} {rows : List (List Tmr)} {y : List Tmr} {A0 A2 : Option Addr}
    (hq : RowsO u B vs rows) (ho : OwnF 29 1 scell u B (some ⟨pg, 0, none⟩) 24 pc vs) (hg : Box u g 26 #[.int .i64 now, .slice (some ⟨pg, 0, none⟩) 24 pc])
    (hv : vs[p]? = some (A0, n, c)) (hn : OwnF 36 4 tcell u2 B A2 (n + 1) c2 (y ++ [t])) (hgr : u.grownBy u2 (A0.map (·.block))) (hab : A2.map (·.block) = A0.map (·.block) ∨ A2.map (·.block) = some u.heap.size) :
    RowsO (u2.setCell ⟨pg, p, none⟩ (.slice A2 (n + 1) c2)) B (vs.set p (A2, n + 1, c2)) (rows.set p (y ++ [t])) ∧ OwnF 29 1 scell (u2.setCell ⟨pg, p, none⟩ (.slice A2 (n + 1) c2)) B (some ⟨pg, 0, none⟩) 24 pc (vs.set p (A2, n + 1, c2)) ∧
    Box (u2.setCell ⟨pg, p, none⟩ (.slice A2 (n + 1) c2)) g 26 #[.int .i64 now, .slice (some ⟨pg, 0, none⟩) 24 pc] ∧ PutOnly pg vs (vs.set p (A2, n + 1, c2)) u (u2.setCell ⟨pg, p, none⟩ (.slice A2 (n + 1) c2)) := by
  have hmem : (A0, n, c) ∈ vs := List.mem_of_getElem? hv
  have hrowT : ∀ x ∈ vs, ∀ r, x.blk = some r → r ≠ pg := fun x hx r hr e => by
    obtain ⟨cs1, h1⟩ := ho.typ (r := pg) rfl
    obtain ⟨_, _, cs2, h2⟩ := hq.blk x hx r hr
    rw [e, h1] at h2; simp at h2
  have hA0 : A0.map (·.block) ≠ some pg := fun e => hrowT _ hmem pg e rfl
  have ho2 : OwnF 29 1 scell u2 B (some ⟨pg, 0, none⟩) 24 pc vs := ho.grown hgr (.inr (fun e => hA0 e.symm))
  have hg' := setCell_grown u2 ⟨pg, p, none⟩ (.slice A2 (n + 1) c2)
  have hgg : g ≠ pg := fun e => by
    obtain ⟨cs1, h1⟩ := ho.typ (r := pg) rfl
    rw [← e, show u.heap[g]? = _ from hg] at h1; simp at h1
  have hgA : A0.map (·.block) ≠ some g := fun e => by
    obtain ⟨_, _, cs2, h2⟩ := hq.blk _ hmem g e
    rw [show u.heap[g]? = _ from hg] at h2; simp at h2
  refine ⟨hq.set (v := (A2, n + 1, c2)) (y := y ++ [t]) hv (hn.grown hg' (.inr (fun e => ?_))) (fun x hx r hr hne => ?_) ?_, ho2.put1 p (A2, n + 1, c2), (hg.grown hgr hgA).aside (p := ⟨pg, p, none⟩) (fun e => hgg e.symm) _, ⟨hgr.os, hgr.tape, hgr.output, by have := hgr.size; simp [World.setCell]; omega, fun r hr h1 h2 => ?_, fun v hvv r hr => ?_⟩⟩
  · obtain ⟨cs1, h1⟩ := ho2.typ (r := pg) rfl
    obtain ⟨cs2, h2⟩ := hn.typ (r := pg) e
    rw [h1] at h2; simp at h2
  · have hrl := (hq.blk x hx r hr).2.1
    exact (hg'.block r (Nat.lt_of_lt_of_le hrl hgr.size) (fun e => hrowT x hx r hr (by injection e))).trans (hgr.block r hrl (fun e => hne e.symm))
  · rcases hab with h | h
    · exact .inl h
    · refine .inr fun x hx r hr e => ?_
      have h1 := (hq.blk x hx r hr).2.1
      have h2 : some u.heap.size = some r := h.symm.trans e
      injection h2 with h2; omega
  · exact (hg'.block r (Nat.lt_of_lt_of_le hr hgr.size) (fun e => h1 (by injection e))).trans (hgr.block r hr (fun e => h2 _ hmem e.symm))
  · rcases List.mem_or_eq_of_mem_set hvv with h | h
    · exact .inl ⟨v, h, hr⟩
    · subst h
      rcases hab with h | h
      · exact .inl ⟨_, hmem, h.symm.trans hr⟩
      · right
        have h2 : some u.heap.size = some r := h.symm.trans hr
        injection h2 with h2; omega

section
attribute [local go_sem] Oper.semAt_some

set_option maxRecDepth 100000 in
set_option maxHeartbeats 8000000 in
theorem l4Put_any (B g pg pc : Nat) (now : Int) (vs : List SlV) (ys : List (List Tmr)) (t : Tmr) (w : World) (hg : Box w g 26 #[.int .i64 now, .slice (some ⟨pg, 0, none⟩) 24 pc]) (ho : OwnF 29 1 scell w B (some ⟨pg, 0, none⟩) 24 pc vs) (hr : RowsO w B vs ys) (hB : B ≤ w.heap.size) (hm : ∀ y ∈ ys, y.length ≤ 40000) (hp : poC now t.due = 0) :
    Calls Try.prog 87 #[.pointer (some ⟨g, 0, none⟩), .agg #[.int .i64 t.typ, .int .i64 t.id, .int .i64 t.adv, .int .i64 t.due]] w fun e w' => ∃ vs', e = .returned (.tuple #[]) ∧ Box w' g 26 #[.int .i64 now, .slice (some ⟨pg, 0, none⟩) 24 pc] ∧ OwnF 29 1 scell w' B (some ⟨pg, 0, none⟩) 24 pc vs' ∧ RowsO w' B vs' (addR now ys t) ∧ PutOnly pg vs vs' w w' := by
  have hok : poOk now t.due := by
    unfold poC at hp
    by_cases h : poOk now t.due
    · exact h
    · rw [if_neg h] at hp; omega
  have hpv : poV now t.due = placeV now t.due := if_pos hok
  obtain ⟨qq, rr, hq3, hr8, hpq⟩ := poV_split hp
  obtain ⟨p, hpp⟩ : ∃ p, 8 * qq + rr = p := ⟨_, rfl⟩
  have HPV : Hid (placeV now t.due = (p : Int)) := Lib.hid (by rw [← hpv, hpq, hpp])
  have HPN : Hid ((poV now t.due).toNat = p) := Lib.hid (by rw [hpq, hpp]; omega)
  have hp24 : p < 24 := by omega
  obtain ⟨hb0, hb1, hb2, hb3⟩ := hok
  have HM := Lib.hid hm
  have hyl : ys.length = 24 := by rw [← hr.len]; exact ho.1
  have hpb := ho.block pg rfl
  have hgne : pg ≠ g := fun e => by
    obtain ⟨cs, h1⟩ := ho.typ (r := pg) rfl
    rw [e, show w.heap[g]? = _ from hg] at h1; simp at h1
  have HP : Hid (B ≤ pg ∧ pg < w.heap.size ∧ pg ≠ g) := Lib.hid ⟨hpb.1, hpb.2, hgne⟩
  obtain ⟨y, hya⟩ : ∃ y, ys[p]? = some y := ⟨_, List.getElem?_eq_getElem (by omega)⟩
  obtain ⟨v0, hv0⟩ : ∃ v, vs[p]? = some v := ⟨_, List.getElem?_eq_getElem (by have := ho.1; omega)⟩
  obtain ⟨E, m, c⟩ := v0
  have hor : OwnT w B (E, m, c) y := hr.row p _ _ hv0 hya
  have hml : m ≤ 40000 := by rw [← show y.length = m from hor.1]; exact hm y (List.mem_of_getElem? hya)
  have HAR : Hid (addR now ys t = ys.set p (y ++ [t])) := Lib.hid (by unfold addR; rw [HPN.out]; simp [List.getD, hya])
  have HG := Lib.hid hg
  have HO := Lib.hid ho
  have HQ := Lib.hid hr
  have HOR := Lib.hid hor
  have HV := Lib.hid hv0
  clear hg ho hr hm hpb hgne hya hv0 hor hpv hpq hpp hq3 hr8 hp
  go_enter Try.func87, Try.ntmps87
  go_upto_region 1 with (fail)
  refine Code.wp_name ?_
  intro V hV
  have hbV : Below w.heap.size w V := by rw [hV]; exact (Below.refl _ _).alloc (Nat.le_refl _) _
  have HT1 : Hid (Box V w.heap.size 36 #[.int .i64 t.typ, .int .i64 t.id, .int .i64 t.adv, .int .i64 t.due]) := Lib.hid (by rw [hV]; exact Box.made _ _ _)
  have HG1 := Lib.hid (HG.out.below hbV)
  have HBV := Lib.hid hbV
  clear hV hbV
  have SB : Hid (∀ W, Hid (Below V.heap.size V W) → (fun W : World => W.cell? ⟨g, 0, none⟩ = some (.int .i64 now) ∧ W.cell? ⟨w.heap.size, 3, none⟩ = some (.int .i64 t.due)) W) := fun W h => ⟨(HG1.out.below h.out).look 0, (HT1.out.below h.out).look 3⟩
  have V0 : Hid (Below V.heap.size V V.drew) := (Below.refl _ _).drew
  go_region_held3 (fun W : World => W.cell? ⟨g, 0, none⟩ = some (.int .i64 now) ∧ W.cell? ⟨w.heap.size, 3, none⟩ = some (.int .i64 t.due)) (exact SB.out _ (by assumption))
    (first | (go_at_call 98; ((with_reducible refine (l4Place_any now t.due _ hb0 (by omega) (by omega) (by omega)).mono ?_); rw [HPV.out]; rintro e u ⟨rfl, hbu⟩; have U0 := Lib.hid (below_step V0.out hbu); clear hbu)))
  obtain ⟨W1, hW1⟩ : ∃ W1, W1 = u := ⟨_, rfl⟩
  subst hW1
  have HB1 := Lib.hid (below_step HBV.out U0.out)
  have HT2 := Lib.hid (HT1.out.below U0.out)
  have HG2 := Lib.hid (HG.out.below HB1.out)
  have HO2 := Lib.hid (HO.out.below HB1.out)
  have HQ2 := Lib.hid (HQ.out.below HB1.out)
  have HR2 := Lib.hid (HOR.out.below HB1.out)
  have HZ2 : Hid (w.heap.size < W1.heap.size ∧ B ≤ W1.heap.size) := Lib.hid ⟨HT2.out.lt, Nat.le_trans hB HB1.out.size⟩
  have HQ0 := HQ
  clear SB V0 U0 HG HO HQ HOR HT1 HG1 HBV
  have hcell : W1.cell? ⟨pg, p, none⟩ = some (.slice E m c) := by
    have h := World.ownsRow.cellAt HO2.out.2 p (by omega)
    rw [scell_map, List.getElem?_map, HV.out] at h
    exact h
  have HC := Lib.hid hcell
  have hpl : pg < W1.heap.size := World.block_lt_of_cell? _ _ hcell
  have hp24' : (p : Int) < 24 := by omega
  clear hcell
  have HRT : Hid (E.map (·.block) ≠ some w.heap.size) := Lib.hid (fun e => by
    have h1 := (HQ0.out.blk _ (List.mem_of_getElem? HV.out) _ e).2.1
    omega)
  have HRG : Hid (E.map (·.block) ≠ some g) := Lib.hid (fun e => by
    obtain ⟨_, _, cs2, h2⟩ := HQ2.out.blk _ (List.mem_of_getElem? HV.out) g e
    rw [show W1.heap[g]? = _ from HG2.out] at h2; simp at h2)
  have HRP : Hid (E.map (·.block) ≠ some pg) := Lib.hid (fun e => by
    obtain ⟨cs1, h1⟩ := HO2.out.typ (r := pg) rfl
    obtain ⟨_, _, cs2, h2⟩ := HQ2.out.blk _ (List.mem_of_getElem? HV.out) pg e
    rw [h1] at h2; simp at h2)
  have HPT : Hid (pg ≠ w.heap.size) := Lib.hid (by have := HP.out.2.1; omega)
  go_upto_region 2 with (fail)
  have SB : Hid (∀ W, Hid (Below W1.heap.size W1 W) → (fun W : World => W.cell? ⟨g, 1, none⟩ = some (.slice (some ⟨pg, 0, none⟩) 24 pc) ∧ W.cell? ⟨w.heap.size, 0, none⟩ = some (.int .i64 t.typ) ∧ W.cell? ⟨w.heap.size, 1, none⟩ = some (.int .i64 t.id) ∧ W.cell? ⟨w.heap.size, 2, none⟩ = some (.int .i64 t.adv) ∧ W.cell? ⟨w.heap.size, 3, none⟩ = some (.int .i64 t.due)) W) := fun W h =>
    ⟨(HG2.out.below h.out).look 1, (HT2.out.below h.out).look 0, (HT2.out.below h.out).look 1, (HT2.out.below h.out).look 2, (HT2.out.below h.out).look 3⟩
  have V0 : Hid (Below W1.heap.size W1 W1.drew) := (Below.refl _ _).drew
  have VA : Hid (Below W1.heap.size W1 (W1.drew.alloc (.cells #[.int .i64 t.typ, .int .i64 t.id, .int .i64 t.adv, .int .i64 t.due] 36))) := V0.out.alloc (Nat.le_refl _) _
  have HLT : Hid (Box (W1.drew.alloc (.cells #[.int .i64 t.typ, .int .i64 t.id, .int .i64 t.adv, .int .i64 t.due] 36)) W1.heap.size 36 #[.int .i64 t.typ, .int .i64 t.id, .int .i64 t.adv, .int .i64 t.due]) := Lib.hid (Box.made W1.drew _ _)
  have HRA := Lib.hid (HR2.out.below VA.out)
  have HCA : Hid ((W1.drew.alloc (.cells #[.int .i64 t.typ, .int .i64 t.id, .int .i64 t.adv, .int .i64 t.due] 36)).cell? ⟨pg, p, none⟩ = some (.slice E m c)) := Lib.hid ((VA.out.cell (p := ⟨pg, p, none⟩) hpl).trans HC.out)
  have hc0 := HC.out
  refine wp_region_held_drew (S := (fun W : World => W.cell? ⟨g, 1, none⟩ = some (.slice (some ⟨pg, 0, none⟩) 24 pc) ∧ W.cell? ⟨w.heap.size, 0, none⟩ = some (.int .i64 t.typ) ∧ W.cell? ⟨w.heap.size, 1, none⟩ = some (.int .i64 t.id) ∧ W.cell? ⟨w.heap.size, 2, none⟩ = some (.int .i64 t.adv) ∧ W.cell? ⟨w.heap.size, 3, none⟩ = some (.int .i64 t.due))) (by kernel_rfl) ?_ (fun hHeld => ?_)
  · (try dsimp only); exact SB.out _ V0
  refine wpAnyH_take (i := 0) (v := ?vt1_0) rfl (by kernel_rfl) (by kernel_rfl) (by kernel_rfl) (fun _ _ _ h => h) (Or.inl ⟨by rfl, ?hyt1_0⟩) (by assumption) ?restt1_0
  case hyt1_0 => (intro W hSw; (try dsimp only at hSw); obtain ⟨hS1, hS2, hS3, hS4, hS5⟩ := hSw; (go_simp <;> with_reducible rfl))
  (try simp only [List.getElem_toArray, List.getElem_cons_zero, Act.put, List.setIfInBounds_toArray, List.set_cons_zero, List.set_cons_succ])
  refine wpAnyH_take (i := 1) (v := ?vt2_1) rfl (by kernel_rfl) (by kernel_rfl) (by kernel_rfl) (fun _ _ _ h => h) (Or.inl ⟨by rfl, ?hyt2_1⟩) (by assumption) ?restt2_1
  case hyt2_1 => (intro W hSw; (try dsimp only at hSw); obtain ⟨hS1, hS2, hS3, hS4, hS5⟩ := hSw; (go_simp <;> with_reducible rfl))
  (try simp only [List.getElem_toArray, List.getElem_cons_succ, List.getElem_cons_zero, Act.put, List.setIfInBounds_toArray, List.set_cons_zero, List.set_cons_succ])
  refine wpAnyH_take (i := 2) (v := ?vt3_2) rfl (by kernel_rfl) (by kernel_rfl) (by kernel_rfl) (fun _ _ _ h => h) (Or.inl ⟨by rfl, ?hyt3_2⟩) (by assumption) ?restt3_2
  case hyt3_2 => (intro W hSw; (try dsimp only at hSw); obtain ⟨hS1, hS2, hS3, hS4, hS5⟩ := hSw; (go_simp <;> with_reducible rfl))
  (try simp only [List.getElem_toArray, List.getElem_cons_succ, List.getElem_cons_zero, Act.put, List.setIfInBounds_toArray, List.set_cons_zero, List.set_cons_succ])
  refine wpAnyH_take (i := 3) (v := ?vt4_3) rfl (by kernel_rfl) (by kernel_rfl) (by kernel_rfl) (fun _ _ _ h => h) (Or.inl ⟨by rfl, ?hyt4_3⟩) (by assumption) ?restt4_3
  case hyt4_3 => (intro W hSw; (try dsimp only at hSw); obtain ⟨hS1, hS2, hS3, hS4, hS5⟩ := hSw; (go_simp <;> with_reducible rfl))
  (try simp only [List.getElem_toArray, List.getElem_cons_succ, List.getElem_cons_zero, Act.put, List.setIfInBounds_toArray, List.set_cons_zero, List.set_cons_succ])
  refine wpAnyH_take (i := 4) (v := ?vt5_4) rfl (by kernel_rfl) (by kernel_rfl) (by kernel_rfl) (fun _ _ _ h => h) (Or.inl ⟨by rfl, ?hyt5_4⟩) (by assumption) ?restt5_4
  case hyt5_4 => (intro W hSw; (try dsimp only at hSw); obtain ⟨hS1, hS2, hS3, hS4, hS5⟩ := hSw; (go_simp <;> with_reducible rfl))
  (try simp only [List.getElem_toArray, List.getElem_cons_succ, List.getElem_cons_zero, Act.put, List.setIfInBounds_toArray, List.set_cons_zero, List.set_cons_succ])
  refine wpAnyH_take (i := 5) (v := ?vt6_5) rfl (by kernel_rfl) (by kernel_rfl) (by kernel_rfl) (fun _ _ _ h => h) (Or.inl ⟨by rfl, ?hyt6_5⟩) (by assumption) ?restt6_5
  case hyt6_5 => (intro W hSw; (try dsimp only at hSw); obtain ⟨hS1, hS2, hS3, hS4, hS5⟩ := hSw; (go_simp <;> with_reducible rfl))
  (try simp only [List.getElem_toArray, List.getElem_cons_succ, List.getElem_cons_zero, Act.put, List.setIfInBounds_toArray, List.set_cons_zero, List.set_cons_succ])
  refine wpAnyH_take (i := 6) (v := ?vt7_6) rfl (by kernel_rfl) (by kernel_rfl) (by kernel_rfl) (fun _ _ _ h => h) (Or.inl ⟨by rfl, ?hyt7_6⟩) (by assumption) ?restt7_6
  case hyt7_6 => (intro W hSw; (try dsimp only at hSw); obtain ⟨hS1, hS2, hS3, hS4, hS5⟩ := hSw; (go_simp <;> with_reducible rfl))
  (try simp only [List.getElem_toArray, List.getElem_cons_succ, List.getElem_cons_zero, Act.put, List.setIfInBounds_toArray, List.set_cons_zero, List.set_cons_succ])
  refine wpAnyH_take (i := 7) (v := ?vt8_7) rfl (by kernel_rfl) (by kernel_rfl) (by kernel_rfl) (fun _ _ _ h => h) (Or.inl ⟨by rfl, ?hyt8_7⟩) (by assumption) ?restt8_7
  case hyt8_7 => (intro W hSw; (try dsimp only at hSw); obtain ⟨hS1, hS2, hS3, hS4, hS5⟩ := hSw; (go_simp <;> with_reducible rfl))
  (try simp only [List.getElem_toArray, List.getElem_cons_succ, List.getElem_cons_zero, Act.put, List.setIfInBounds_toArray, List.set_cons_zero, List.set_cons_succ])
  refine wpAnyH_take (i := 8) (v := ?vt9_8) rfl (by kernel_rfl) (by kernel_rfl) (by kernel_rfl) (fun _ _ _ h => h) (Or.inl ⟨by rfl, ?hyt9_8⟩) (by assumption) ?restt9_8
  case hyt9_8 => (intro W hSw; (try dsimp only at hSw); obtain ⟨hS1, hS2, hS3, hS4, hS5⟩ := hSw; (go_simp <;> with_reducible rfl))
  (try simp only [List.getElem_toArray, List.getElem_cons_succ, List.getElem_cons_zero, Act.put, List.setIfInBounds_toArray, List.set_cons_zero, List.set_cons_succ])
  refine wpAnyH_take (i := 9) (v := ?vt10_9) rfl (by kernel_rfl) (by kernel_rfl) (by kernel_rfl) (fun _ _ _ h => h) (Or.inl ⟨by rfl, ?hyt10_9⟩) (by assumption) ?restt10_9
  case hyt10_9 => (intro W hSw; (try dsimp only at hSw); obtain ⟨hS1, hS2, hS3, hS4, hS5⟩ := hSw; (go_simp <;> with_reducible rfl))
  (try simp only [List.getElem_toArray, List.getElem_cons_succ, List.getElem_cons_zero, Act.put, List.setIfInBounds_toArray, List.set_cons_zero, List.set_cons_succ])
  refine wpAnyH_take (i := 10) (v := ?vt11_10) rfl (by kernel_rfl) (by kernel_rfl) (by kernel_rfl) (fun _ _ _ h => h) (Or.inl ⟨by rfl, ?hyt11_10⟩) (by assumption) ?restt11_10
  case hyt11_10 => (intro W hSw; (try dsimp only at hSw); obtain ⟨hS1, hS2, hS3, hS4, hS5⟩ := hSw; (go_simp <;> with_reducible rfl))
  (try simp only [List.getElem_toArray, List.getElem_cons_succ, List.getElem_cons_zero, Act.put, List.setIfInBounds_toArray, List.set_cons_zero, List.set_cons_succ])
  refine wpAnyH_take (i := 12) (v := ?vt12_12) rfl (by kernel_rfl) (by kernel_rfl) (by kernel_rfl) (fun _ _ _ h => h) (Or.inl ⟨by rfl, ?hyt12_12⟩) (by assumption) ?restt12_12
  case hyt12_12 => (intro W hSw; (try dsimp only at hSw); obtain ⟨hS1, hS2, hS3, hS4, hS5⟩ := hSw; (go_simp <;> with_reducible rfl))
  (try simp only [List.getElem_toArray, List.getElem_cons_succ, List.getElem_cons_zero, Act.put, List.setIfInBounds_toArray, List.set_cons_zero, List.set_cons_succ])
  refine wpAnyH_ready (rs := [11, 13]) (by kernel_rfl) (by simp) ?_
  refine AllReadyH.cons rfl (fun K hK => ?_) (AllReadyH.cons rfl (fun K hK => ?_) AllReadyH.nil)
  · go_simp
    refine hK.out _ _ ?_ (fun hHeld => ?_)
    · (try dsimp only); exact SB.out _ V0
    clear hK K
    (try simp only [List.getElem_toArray, List.getElem_cons_succ, List.getElem_cons_zero, Act.put, List.setIfInBounds_toArray, List.set_cons_zero, List.set_cons_succ])
    refine wpAnyH_ready (rs := [13]) (by kernel_rfl) (by simp) ?_
    refine AllReadyH.cons rfl (fun K hK => ?_) AllReadyH.nil
    go_simp
    refine hK.out _ _ ?_ (fun hHeld => ?_)
    · (try dsimp only); exact SB.out _ VA
    clear hK K
    (try simp only [List.getElem_toArray, List.getElem_cons_succ, List.getElem_cons_zero, Act.put, List.setIfInBounds_toArray, List.set_cons_zero, List.set_cons_succ])
    refine wpAnyH_ready (rs := [14]) (by kernel_rfl) (by simp) ?_
    refine AllReadyH.cons rfl (fun K hK => ?_) AllReadyH.nil
    refine step_appAt tcell_len tcell_one Try.underlying29 timerInfo rfl (by decide) (by decide) rfl (.tmp 23) (.tmp 25) rfl (B := B) rfl HRA.out rfl (ys := [t]) rfl (fun j v hj => by rw [Addr.add_lit, Nat.zero_add]; exact (HLT.out.look j).trans (by simpa [tcell] using hj)) (by omega) (Nat.le_trans HZ2.out.2 VA.out.size) ?_
    intro A2 c2 u2 ho2 hg2 hab
    have HPR := Lib.hid (put_row (p := p) (HQ2.out.below VA.out) (HO2.out.below VA.out) (HG2.out.below VA.out) HV.out ho2 hg2 hab)
    have hTu : Box u2 w.heap.size 36 #[.int .i64 t.typ, .int .i64 t.id, .int .i64 t.adv, .int .i64 t.due] := (HT2.out.below VA.out).grown hg2 HRT.out
    have hGu : Box u2 g 26 #[.int .i64 now, .slice (some ⟨pg, 0, none⟩) 24 pc] := (HG2.out.below VA.out).grown hg2 HRG.out
    have hOu : OwnF 29 1 scell u2 B (some ⟨pg, 0, none⟩) 24 pc vs := (HO2.out.below VA.out).grown hg2 (.inr (fun e => HRP.out e.symm))
    have hpc2 : u2.cell? ⟨pg, p, none⟩ = some (.slice E m c) := by have h := World.ownsRow.cellAt hOu.2 p (by omega); rw [scell_map, List.getElem?_map, HV.out] at h; exact h
    have hpf2 := World.ownsRow.frozenAt hOu.2 p
    have hul2 := World.block_lt_of_cell? _ _ hpc2
    refine hK.out _ _ ?_ (fun hHeld => ?_)
    · (try dsimp only); exact ⟨hGu.look 1, hTu.look 0, hTu.look 1, hTu.look 2, hTu.look 3⟩
    clear hK K
    (try simp only [List.getElem_toArray, List.getElem_cons_succ, List.getElem_cons_zero, Act.put, List.setIfInBounds_toArray, List.set_cons_zero, List.set_cons_succ])
    refine wpAnyH_take (i := 15) (v := ?vt13_15) rfl (by kernel_rfl) (by kernel_rfl) (by kernel_rfl) (fun _ _ _ h => h) (Or.inl ⟨by rfl, ?hyt13_15⟩) (by assumption) ?restt13_15
    case hyt13_15 => (intro W hSw; (try dsimp only at hSw); obtain ⟨hS1, hS2, hS3, hS4, hS5⟩ := hSw; (go_simp <;> with_reducible rfl))
    (try simp only [List.getElem_toArray, List.getElem_cons_succ, List.getElem_cons_zero, Act.put, List.setIfInBounds_toArray, List.set_cons_zero, List.set_cons_succ])
    refine wpAnyH_ready (rs := [16]) (by kernel_rfl) (by simp) ?_
    refine AllReadyH.cons rfl (fun K hK => ?_) AllReadyH.nil
    clear hHeld
    go_simp
    refine hK.out _ _ ?_ (fun hHeld => ?_)
    · (try dsimp only); exact ⟨(hGu.aside (p := ⟨pg, p, none⟩) HP.out.2.2 _).look 1, (hTu.aside (p := ⟨pg, p, none⟩) HPT.out _).look 0, (hTu.aside (p := ⟨pg, p, none⟩) HPT.out _).look 1, (hTu.aside (p := ⟨pg, p, none⟩) HPT.out _).look 2, (hTu.aside (p := ⟨pg, p, none⟩) HPT.out _).look 3⟩
    clear hK K
    (try simp only [List.getElem_toArray, List.getElem_cons_succ, List.getElem_cons_zero, Act.put, List.setIfInBounds_toArray, List.set_cons_zero, List.set_cons_succ])
    refine wpAnyH_done (by kernel_rfl) ?_ _
    obtain ⟨hRO, hOU, hGU, hPO⟩ := HPR.out
    have hPO2 := ((PutOnly.of_below (HB1.out.trans (VA.out.mono HB1.out.size))).trans hPO : PutOnly pg vs _ w _)
    rw [← HAR.out] at hRO
    have HRES := Lib.hid (And.intro hGU (And.intro hOU (And.intro hRO hPO2)))
    clear hRO hOU hGU hPO hPO2 HPR hTu hGu hOu hpc2 hpf2 hul2 ho2 hg2 hab hc0
    go_wp2
    exact ⟨rfl, .tuple #[], by simp [results, Try.results87, go_sem], rfl, HRES.out.1, _, HRES.out.2⟩
  · go_simp
    refine hK.out _ _ ?_ (fun hHeld => ?_)
    · (try dsimp only); exact SB.out _ VA
    clear hK K
    (try simp only [List.getElem_toArray, List.getElem_cons_succ, List.getElem_cons_zero, Act.put, List.setIfInBounds_toArray, List.set_cons_zero, List.set_cons_succ])
    refine wpAnyH_ready (rs := [11]) (by kernel_rfl) (by simp) ?_
    refine AllReadyH.cons rfl (fun K hK => ?_) AllReadyH.nil
    go_simp
    refine hK.out _ _ ?_ (fun hHeld => ?_)
    · (try dsimp only); exact SB.out _ VA
    clear hK K
    (try simp only [List.getElem_toArray, List.getElem_cons_succ, List.getElem_cons_zero, Act.put, List.setIfInBounds_toArray, List.set_cons_zero, List.set_cons_succ])
    refine wpAnyH_ready (rs := [14]) (by kernel_rfl) (by simp) ?_
    refine AllReadyH.cons rfl (fun K hK => ?_) AllReadyH.nil
    refine step_appAt tcell_len tcell_one Try.underlying29 timerInfo rfl (by decide) (by decide) rfl (.tmp 23) (.tmp 25) rfl (B := B) rfl HRA.out rfl (ys := [t]) rfl (fun j v hj => by rw [Addr.add_lit, Nat.zero_add]; exact (HLT.out.look j).trans (by simpa [tcell] using hj)) (by omega) (Nat.le_trans HZ2.out.2 VA.out.size) ?_
    intro A2 c2 u2 ho2 hg2 hab
    have HPR := Lib.hid (put_row (p := p) (HQ2.out.below VA.out) (HO2.out.below VA.out) (HG2.out.below VA.out) HV.out ho2 hg2 hab)
    have hTu : Box u2 w.heap.size 36 #[.int .i64 t.typ, .int .i64 t.id, .int .i64 t.adv, .int .i64 t.due] := (HT2.out.below VA.out).grown hg2 HRT.out
    have hGu : Box u2 g 26 #[.int .i64 now, .slice (some ⟨pg, 0, none⟩) 24 pc] := (HG2.out.below VA.out).grown hg2 HRG.out
    have hOu : OwnF 29 1 scell u2 B (some ⟨pg, 0, none⟩) 24 pc vs := (HO2.out.below VA.out).grown hg2 (.inr (fun e => HRP.out e.symm))
    have hpc2 : u2.cell? ⟨pg, p, none⟩ = some (.slice E m c) := by have h := World.ownsRow.cellAt hOu.2 p (by omega); rw [scell_map, List.getElem?_map, HV.out] at h; exact h
    have hpf2 := World.ownsRow.frozenAt hOu.2 p
    have hul2 := World.block_lt_of_cell? _ _ hpc2
    refine hK.out _ _ ?_ (fun hHeld => ?_)
    · (try dsimp only); exact ⟨hGu.look 1, hTu.look 0, hTu.look 1, hTu.look 2, hTu.look 3⟩
    clear hK K
    (try simp only [List.getElem_toArray, List.getElem_cons_succ, List.getElem_cons_zero, Act.put, List.setIfInBounds_toArray, List.set_cons_zero, List.set_cons_succ])
    refine wpAnyH_take (i := 15) (v := ?vt14_15) rfl (by kernel_rfl) (by kernel_rfl) (by kernel_rfl) (fun _ _ _ h => h) (Or.inl ⟨by rfl, ?hyt14_15⟩) (by assumption) ?restt14_15
    case hyt14_15 => (intro W hSw; (try dsimp only at hSw); obtain ⟨hS1, hS2, hS3, hS4, hS5⟩ := hSw; (go_simp <;> with_reducible rfl))
    (try simp only [List.getElem_toArray, List.getElem_cons_succ, List.getElem_cons_zero, Act.put, List.setIfInBounds_toArray, List.set_cons_zero, List.set_cons_succ])
    refine wpAnyH_ready (rs := [16]) (by kernel_rfl) (by simp) ?_
    refine AllReadyH.cons rfl (fun K hK => ?_) AllReadyH.nil
    clear hHeld
    go_simp
    refine hK.out _ _ ?_ (fun hHeld => ?_)
    · (try dsimp only); exact ⟨(hGu.aside (p := ⟨pg, p, none⟩) HP.out.2.2 _).look 1, (hTu.aside (p := ⟨pg, p, none⟩) HPT.out _).look 0, (hTu.aside (p := ⟨pg, p, none⟩) HPT.out _).look 1, (hTu.aside (p := ⟨pg, p, none⟩) HPT.out _).look 2, (hTu.aside (p := ⟨pg, p, none⟩) HPT.out _).look 3⟩
    clear hK K
    (try simp only [List.getElem_toArray, List.getElem_cons_succ, List.getElem_cons_zero, Act.put, List.setIfInBounds_toArray, List.set_cons_zero, List.set_cons_succ])
    refine wpAnyH_done (by kernel_rfl) ?_ _
    obtain ⟨hRO, hOU, hGU, hPO⟩ := HPR.out
    have hPO2 := ((PutOnly.of_below (HB1.out.trans (VA.out.mono HB1.out.size))).trans hPO : PutOnly pg vs _ w _)
    rw [← HAR.out] at hRO
    have HRES := Lib.hid (And.intro hGU (And.intro hOU (And.intro hRO hPO2)))
    clear hRO hOU hGU hPO hPO2 HPR hTu hGu hOu hpc2 hpf2 hul2 ho2 hg2 hab hc0
    go_wp2
    exact ⟨rfl, .tuple #[], by simp [results, Try.results87, go_sem], rfl, HRES.out.1, _, HRES.out.2⟩

end
end Go.Proofs.Ytakplomopbnekaa

