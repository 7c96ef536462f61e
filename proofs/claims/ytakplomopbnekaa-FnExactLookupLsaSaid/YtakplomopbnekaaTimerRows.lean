/-
  What the laws' helpers do with slices of slices of timers. No statement is proved here.
-/
import Derived.Test.YtakplomopbnekaaTimer
import Derived.Test.YtakplomopbnekaaFoot
namespace Go.Proofs.Ytakplomopbnekaa
open Go.RowKit
set_option linter.unusedVariables false

theorem rowsInfo : (Try.prog.info? 29).map (fun i => (i.zero, i.size, i.bytes)) = some (some (.slice none 0 0), 1, 24) := by kernel_rfl

theorem flat_snoc (fs : List (List Nat)) (f : List Nat) : (fs ++ [f]).flatten = fs.flatten ++ f := by simp

set_option maxHeartbeats 1600000 in
theorem toTimerSS_any (q : Bool) (lo hi : Nat) (A : Option Addr) (n c : Nat) (ys : List (List Tmr)) (w : World) (ha : Rep.timer.rows.Sl q lo hi w A n ys) (hh : hi ≤ w.heap.size) (hn : n ≤ 1048576) (hm : ∀ y ∈ ys, y.length ≤ 1048576) :
    Calls Try.prog 101 #[.slice A n c] w fun e w' => e = .returned (.slice (some ⟨w.heap.size, 0, none⟩) n n) ∧
      (∃ bs, Rep.timer.FRows w' (some ⟨w.heap.size, 0, none⟩) n ys bs ∧ bs.Nodup ∧ ∀ b ∈ bs, w.heap.size ≤ b ∧ b < w'.heap.size) ∧ Below w.heap.size w w' := by
  obtain ⟨i0, hi0, hz0, hz1, hz2⟩ := info_parts rowsInfo
  go_enter Try.func101, Try.ntmps101
  go_wp2_with (at_make; refine wpList_make_full _ rfl _ _ 24 rfl w.heap.size 29 i0 _ 1 Try.underlying24 hi0 hz0 hz1 .i64 .i64 _ _ n rfl rfl rfl rfl (by rw [hz2]; omega) (by unfold maxLen; omega) (Nat.le_refl _) ?_; intro w1 hown1 hg1)
  have hb1 := below_of_grown hg1
  clear hg1 hi0 hz0 hz1 hz2
  obtain ⟨B, HB⟩ : ∃ B, Hid (B = w.heap.size) := ⟨_, Lib.hid rfl⟩
  rw [← HB.out] at hown1 hb1 ⊢
  have HM := Lib.hid hm
  clear hm
  go_loopw [4] (fun i wr => ∃ k : Nat, k ≤ n ∧ i = .int .i64 k ∧ ∃ xs : List Value, wr.ownsRow B 29 1 (.slice (some ⟨B, 0, none⟩) n n) n xs ∧ Below B w wr ∧
      Hid (∃ fs : List (List Nat), fs.length = k ∧ fs.flatten.Nodup ∧ (∀ x ∈ fs.flatten, B < x ∧ x < wr.heap.size) ∧ ∀ (j : Nat) (x : List Tmr) (f : List Nat), ys[j]? = some x → fs[j]? = some f → ∃ E m c, xs[j]? = some (Value.slice E m c) ∧ Rep.timer.FSl wr E m x f))
    (fun i _ => n - (intOf i).toNat)
  case atStart => exact ⟨0, Nat.zero_le _, rfl, _, hown1, hb1, [], rfl, List.nodup_nil, fun x hx => absurd hx List.not_mem_nil, fun j x f _ hf => absurd hf (by simp)⟩
  case round =>
    obtain ⟨k, hk, rfl, xs, hown, hbw, HS⟩ := hrel
    by_cases hlt : k < n
    · obtain ⟨b, o, y, E, m, c', rfl, hya, ce, hy⟩ := Rep.rows_at (ha.below (by rw [← HB.out]; exact hbw) hh) hlt
      have hlt' : (k : Int) < n := by omega
      have HYA := Lib.hid hya
      have hym := HM.out y (List.mem_of_getElem? hya)
      have hml : y.length = m := hy.1
      have hhr : hi ≤ wr.heap.size := Nat.le_trans hh (by have := hbw.size; omega)
      have HY := Lib.hid hy
      have hBlt : B < wr.heap.size := (World.ownsRow.lt hown B rfl).2
      clear hya hy
      go_wp2_with fail
      refine (toTimerS_any q lo hi E m c' y _ HY.out hhr (by omega)).mono ?_
      rintro e w2 ⟨rfl, hs2, hlt2, hb2⟩
      have hown2 : w2.ownsRow B 29 1 (.slice (some ⟨B, 0, none⟩) n n) n xs := World.ownsRow.kept hown (grownBy_of_below hb2 none) (by simp [Value.ownBlock])
      have hbw2 : Below B w w2 := hbw.trans (hb2.mono (Nat.le_of_lt hBlt))
      have hl : xs.length = n := by simpa using hown2.1
      obtain ⟨v0, d0⟩ := own_some hown2 (j := k) (by omega)
      have f0 := World.ownsRow.frozenAt hown2 k
      obtain ⟨s1, g1⟩ := World.ownsRow.stored hown2 k (.slice (some ⟨wr.heap.size, 0, none⟩) m m)
      have HO := Lib.hid s1
      have HL := Lib.hid hl
      have HBW := Lib.hid hbw2
      have HN : Hid (Rep.timer.Sl true wr.heap.size (wr.heap.size + 1) w2 (some ⟨wr.heap.size, 0, none⟩) m y) := Lib.hid hs2
      have HB2 := Lib.hid hb2
      have HG1 := Lib.hid g1
      clear s1 g1 hl hbw2 hown hown2 hbw hb2 hs2
      go_wp2
      go_roundw
      case rel =>
        obtain ⟨U, hU⟩ : ∃ U : World, U = w2.setCell ⟨B, k, none⟩ (.slice (some ⟨wr.heap.size, 0, none⟩) m m) := ⟨_, rfl⟩
        have hsz : U.heap.size = w2.heap.size := by rw [hU]; simp [World.setCell]
        have ho : Only B (B + 1) w2 U := by rw [hU]; exact Only.set1 (p := ⟨B, k, none⟩) w2 (Nat.le_refl _) (Nat.lt_succ_self _) _
        obtain ⟨fs, hfl, hfd, hfr, hfs⟩ := HS.out
        obtain ⟨f, hf, hfd2, hfb⟩ := Rep.FSl.of_sl HN.out
        have hl := HL.out
        have hb2 := HB2.out
        have hszb := hb2.size
        refine ⟨k + 1, by omega, by go_num, _, HO.out, HBW.out.setCell (Nat.le_refl _) _, fs ++ [f], by simp [hfl], ?_, ?_, ?_⟩
        · rw [flat_snoc, List.nodup_append]
          refine ⟨hfd, hfd2, fun x hx y hy e => ?_⟩
          have h1 := hfr x hx
          have h2 := hfb y hy
          omega
        · intro x hx
          rw [← hU, hsz]
          rw [flat_snoc, List.mem_append] at hx
          rcases hx with hx | hx
          · have := hfr x hx; omega
          · have := hfb x hx; omega
        · intro j x g hx hg
          rw [← hU]
          by_cases e : j = k
          · subst e
            have hax : x = y := by have := HYA.out; rw [hx] at this; injection this
            subst hax
            have hgf : g = f := by rw [List.getElem?_append_right (by omega)] at hg; simp [hfl] at hg; exact hg.symm
            subst hgf
            refine ⟨some ⟨wr.heap.size, 0, none⟩, m, m, by rw [List.getElem?_set, if_pos rfl, if_pos (by omega)], hf.keep fun z hz => ?_⟩
            have := hfb z hz
            exact ho.block z (by omega) (.inr (by omega))
          · have hjk : j < k := by
              have := (List.getElem?_eq_some_iff.1 hg).1
              simp [hfl] at this; omega
            rw [List.getElem?_append_left (by omega)] at hg
            obtain ⟨E', m', c'', e1, e2⟩ := hfs j x g hx hg
            refine ⟨E', m', c'', by rw [List.getElem?_set, if_neg (fun h => e h.symm)]; exact e1, e2.keep fun z hz => ?_⟩
            have h1 := hfr z (mem_flat_of_get hg hz)
            exact (ho.block z (by omega) (.inr (by omega))).trans (hb2.block z (by omega))
      case measure => simp [intOf]; omega
    · have HO := Lib.hid hown
      have hlen := ha.1
      clear hown
      go_wp2
      go_ret
      obtain rfl := HB.out
      have hlt2 : w.heap.size < wr.heap.size := (World.ownsRow.lt HO.out w.heap.size rfl).2
      obtain ⟨fs, hfl, hfd, hfr, hfs⟩ := HS.out
      have hkn : k = n := by omega
      subst hkn
      refine ⟨rfl, ?_, hbw⟩
      rcases Nat.eq_zero_or_pos k with h0 | h0
      · subst h0
        exact ⟨[], ⟨hlen, .inl ⟨rfl, rfl⟩⟩, List.nodup_nil, fun x hx => by cases hx⟩
      · refine ⟨w.heap.size :: fs.flatten, ⟨hlen, .inr ⟨h0, w.heap.size, 0, fs, rfl, rfl, hfl, fun i y f hy hf => ?_⟩⟩, List.nodup_cons.2 ⟨fun hx => ?_, hfd⟩, fun x hx => ?_⟩
        · obtain ⟨E, m, c', e1, e2⟩ := hfs i y f hy hf
          refine ⟨E, m, c', ?_, e2⟩
          have hin : i < k := by have := (List.getElem?_eq_some_iff.1 hf).1; omega
          rw [Nat.zero_add, World.ownsRow.cellAt HO.out i (by omega), e1]
        · have := hfr _ hx; omega
        · rcases List.mem_cons.1 hx with rfl | hx
          · omega
          · have := hfr _ hx; omega

end Go.Proofs.Ytakplomopbnekaa
