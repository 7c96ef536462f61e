/-
  The model's SameLsas tells whether two advertisements are the same. No statement is proved here.
-/
import Derived.Test.YtiffhjofabaflaaSameLsa
namespace Go.Proofs.Ytiffhjofabaflaa
open Go.RowKit

set_option maxHeartbeats 6400000 in
theorem specSameLsas_any (x y : LsaM) (q q' : Bool) (lo hi lo' hi' : Nat) (A B A' B' : Option Addr) (n c m d n' c' m' d' : Nat) (w : World) (hx : LsaIn q lo hi w A n B m x) (hy : LsaIn q' lo' hi' w A' n' B' m' y) (hh : hi ≤ w.heap.size) (hh' : hi' ≤ w.heap.size) (hn : n ≤ 1048576) (hm : m ≤ 1048576) (hn' : n' ≤ 1048576) (hm' : m' ≤ 1048576) :
    Calls Try.prog 158 #[lsaV x A B n c m d, lsaV y A' B' n' c' m' d'] w fun e w' => e = .returned (.bool (decide (x = y))) ∧ Below w.heap.size w w' := by
  have hV : Below w.heap.size w ((w.alloc (.cells #[.int .i64 x.age, .int .i64 x.options, .int .i64 x.typ, .int .i64 x.id, .int .i64 x.adv, .int .i64 x.seq, .slice A n c, .slice B m d, .int .i64 x.mask, .int .i64 x.cost] 123)).alloc (.cells #[.int .i64 y.age, .int .i64 y.options, .int .i64 y.typ, .int .i64 y.id, .int .i64 y.adv, .int .i64 y.seq, .slice A' n' c', .slice B' m' d', .int .i64 y.mask, .int .i64 y.cost] 123)) := ((Below.refl _ _).alloc (Nat.le_refl _) _).alloc (by simp) _
  have HA := Lib.hid (hx.below hV hh)
  have HC := Lib.hid (hy.below hV hh')
  have HB := Lib.hid hV
  clear hx hy hV
  have HQ : Hid (x.links.length = n ∧ y.links.length = n' ∧ x.routers.length = m ∧ y.routers.length = m') := Lib.hid ⟨HA.out.links.1, HC.out.links.1, HA.out.routers.1, HC.out.routers.1⟩
  have HAL := Lib.hid HA.out.links
  have HAR := Lib.hid HA.out.routers
  have HCL := Lib.hid HC.out.links
  have HCR := Lib.hid HC.out.routers
  clear HA HC
  have HD : Hid (¬ x = y → decide (x = y) = false) := Lib.hid (fun h => decide_eq_false h)
  obtain ⟨x0, x1, x2, x3, x4, x5, x6, x7, x8, x9⟩ := x
  obtain ⟨y0, y1, y2, y3, y4, y5, y6, y7, y8, y9⟩ := y
  simp only [] at HAL HAR HCL HCR HB
  rcases Decidable.em (x0 = y0) with e | hne
  rotate_left
  · have HN := Lib.hid (HD.out (fun e => hne (by injection e)))
    clear HD HQ
    go_enter Try.func158, Try.ntmps158
    go_wp2
    go_ret
    exact ⟨ret_bool HN.out.symm, HB.out⟩
  obtain rfl := e
  rcases Decidable.em (x1 = y1) with e | hne
  rotate_left
  · have HN := Lib.hid (HD.out (fun e => hne (by injection e)))
    clear HD HQ
    go_enter Try.func158, Try.ntmps158
    go_wp2
    go_ret
    exact ⟨ret_bool HN.out.symm, HB.out⟩
  obtain rfl := e
  rcases Decidable.em (x2 = y2) with e | hne
  rotate_left
  · have HN := Lib.hid (HD.out (fun e => hne (by injection e)))
    clear HD HQ
    go_enter Try.func158, Try.ntmps158
    go_wp2
    go_ret
    exact ⟨ret_bool HN.out.symm, HB.out⟩
  obtain rfl := e
  rcases Decidable.em (x3 = y3) with e | hne
  rotate_left
  · have HN := Lib.hid (HD.out (fun e => hne (by injection e)))
    clear HD HQ
    go_enter Try.func158, Try.ntmps158
    go_wp2
    go_ret
    exact ⟨ret_bool HN.out.symm, HB.out⟩
  obtain rfl := e
  rcases Decidable.em (x4 = y4) with e | hne
  rotate_left
  · have HN := Lib.hid (HD.out (fun e => hne (by injection e)))
    clear HD HQ
    go_enter Try.func158, Try.ntmps158
    go_wp2
    go_ret
    exact ⟨ret_bool HN.out.symm, HB.out⟩
  obtain rfl := e
  rcases Decidable.em (x5 = y5) with e | hne
  rotate_left
  · have HN := Lib.hid (HD.out (fun e => hne (by injection e)))
    clear HD HQ
    go_enter Try.func158, Try.ntmps158
    go_wp2
    go_ret
    exact ⟨ret_bool HN.out.symm, HB.out⟩
  obtain rfl := e
  rcases Decidable.em (x8 = y8) with e | hne
  rotate_left
  · have HN := Lib.hid (HD.out (fun e => hne (by injection e)))
    clear HD HQ
    go_enter Try.func158, Try.ntmps158
    go_wp2
    go_ret
    exact ⟨ret_bool HN.out.symm, HB.out⟩
  obtain rfl := e
  rcases Decidable.em (x9 = y9) with e | hne
  rotate_left
  · have HN := Lib.hid (HD.out (fun e => hne (by injection e)))
    clear HD HQ
    go_enter Try.func158, Try.ntmps158
    go_wp2
    go_ret
    exact ⟨ret_bool HN.out.symm, HB.out⟩
  obtain rfl := e
  rcases Decidable.em (x7 = y7) with e | hne
  rotate_left
  · have HN := Lib.hid (HD.out (fun e => hne (by injection e)))
    have HE : Hid (decide (x7 = y7) = false) := Lib.hid (decide_eq_false hne)
    clear hne
    clear HD HQ
    go_enter Try.func158, Try.ntmps158
    go_wp2_with fail
    refine (l1Same_any _ _ _ _ _ _ _ _ _ _ _ _ _ _ _ HAR.out HCR.out hm hm').mono ?_
    rintro e w1 ⟨rfl, p, rfl⟩
    rw [HE.out]
    go_wp2
    go_ret
    exact ⟨(by first | exact ret_bool HN.out.symm | exact ret_bool (by rw [HN.out]; simpa using hne)), below_drewN HB.out _⟩
  obtain rfl := e
  by_cases hln : n = n'
  rotate_left
  · have HN := Lib.hid (HD.out (fun e => hln (by have := HQ.out.1; have := HQ.out.2.1; injection e; simp_all)))
    have hne : ((n : Int) != (n' : Int)) = true := by rw [bne_iff_ne]; omega
    clear HD HQ hln
    go_enter Try.func158, Try.ntmps158
    go_wp2_with fail
    refine (l1Same_any _ _ _ _ _ _ _ _ _ _ _ _ _ _ _ HAR.out HCR.out hm hm').mono ?_
    rintro e w1 ⟨rfl, p, rfl⟩
    rw [decide_eq_true rfl]
    go_wp2
    go_ret
    exact ⟨(by first | exact ret_bool HN.out.symm | exact ret_bool (by rw [HN.out]; simpa using hne)), below_drewN HB.out _⟩
  subst hln
  have HT : Hid ((∀ j a b, j < n → x6[j]? = some a → y6[j]? = some b → a = b) → decide ((⟨x0, x1, x2, x3, x4, x5, x6, x7, x8, x9⟩ : LsaM) = ⟨x0, x1, x2, x3, x4, x5, y6, x7, x8, x9⟩) = true) := Lib.hid (fun h => by rw [links_eq HAL.out.1 HCL.out.1 h]; exact decide_eq_true rfl)
  have HF : Hid (x6 ≠ y6 → decide ((⟨x0, x1, x2, x3, x4, x5, x6, x7, x8, x9⟩ : LsaM) = ⟨x0, x1, x2, x3, x4, x5, y6, x7, x8, x9⟩) = false) := Lib.hid (fun h => HD.out (fun e => h (by injection e)))
  clear HD HQ
  go_enter Try.func158, Try.ntmps158
  go_wp2_with fail
  refine (l1Same_any _ _ _ _ _ _ _ _ _ _ _ _ _ _ _ HAR.out HCR.out hm hm').mono ?_
  rintro e w1 ⟨rfl, p, rfl⟩
  rw [decide_eq_true rfl]
  go_wp2_with fail
  obtain ⟨V, hV⟩ : ∃ W : World, W = (w.alloc (.cells #[.int .i64 x0, .int .i64 x1, .int .i64 x2, .int .i64 x3, .int .i64 x4, .int .i64 x5, .slice A n c, .slice B m d, .int .i64 x8, .int .i64 x9] 123)).alloc (.cells #[.int .i64 x0, .int .i64 x1, .int .i64 x2, .int .i64 x3, .int .i64 x4, .int .i64 x5, .slice A' n c', .slice B' m' d', .int .i64 x8, .int .i64 x9] 123) := ⟨_, rfl⟩
  have e1 : (w.alloc (.cells #[.int .i64 x0, .int .i64 x1, .int .i64 x2, .int .i64 x3, .int .i64 x4, .int .i64 x5, .slice A n c, .slice B m d, .int .i64 x8, .int .i64 x9] 123)).heap.size = w.heap.size + 1 := by simp
  have c6 : V.cell? ⟨w.heap.size, 6, none⟩ = some (.slice A n c) := by rw [hV]; exact ((Box.made _ _ _).below ((Below.refl _ _).alloc (Nat.le_refl _) _)).look 6
  have d6 : V.cell? ⟨w.heap.size + 1, 6, none⟩ = some (.slice A' n c') := by rw [hV, ← e1]; exact (Box.made _ _ _).look 6
  clear e1
  rw [← hV] at HB HAL HAR HCL HCR ⊢
  clear hV
  go_loopw [5] (fun i wr => ∃ k : Nat, k ≤ n ∧ i = .int .i64 k ∧ Hid (∀ j a b, j < k → x6[j]? = some a → y6[j]? = some b → a = b) ∧ ∃ q, wr = V.drewN q)
    (fun i _ => n - (intOf i).toNat)
  case atStart => exact ⟨0, Nat.zero_le _, rfl, fun j _ _ hj => absurd hj (by omega), p, rfl⟩
  case round =>
    obtain ⟨k, hk, rfl, HS, q, rfl⟩ := hrel
    by_cases hlt : k < n
    · obtain ⟨b, o, x, rfl, hxa, a0, a1, a2, a3⟩ := Rep.link_at HAL.out hlt
      obtain ⟨b', o', y, rfl, hyb, b0, b1, b2, b3⟩ := Rep.link_at HCL.out hlt
      have hlt' : (k : Int) < n := by omega
      have HX := Lib.hid hxa
      have HY := Lib.hid hyb
      clear hxa hyb
      by_cases he : x = y
      · have HE := Lib.hid he
        subst he
        go_wp2
        go_quiet (fail)
        go_wp2
        go_roundw
        case rel => exact ⟨k + 1, by omega, by go_num, Lib.hid (fun j a b hj h1 h2 => by
          rcases Nat.lt_succ_iff_lt_or_eq.1 hj with h | rfl
          · exact HS.out j a b h h1 h2
          · have e1 := HX.out; have e2 := HY.out; rw [h1] at e1; rw [h2] at e2; injection e1 with e1; injection e2 with e2; rw [e1, e2]), _, rfl⟩
        case measure => simp [intOf]; omega
      · have HE : Hid (¬ x6 = y6) := Lib.hid (fun e => by subst e; have e1 := HX.out; rw [HY.out] at e1; injection e1 with e1; exact he e1.symm)
        obtain ⟨u0, u1, u2, u3⟩ := x
        obtain ⟨z0, z1, z2, z3⟩ := y
        have hd : ¬ u0 = z0 ∨ (u0 = z0 ∧ ¬ u1 = z1) ∨ (u0 = z0 ∧ u1 = z1 ∧ ¬ u2 = z2) ∨ (u0 = z0 ∧ u1 = z1 ∧ u2 = z2 ∧ ¬ u3 = z3) := by
          rcases Decidable.em (u0 = z0) with e0 | e0
          · rcases Decidable.em (u1 = z1) with e1 | e1
            · rcases Decidable.em (u2 = z2) with e2 | e2
              · rcases Decidable.em (u3 = z3) with e3 | e3
                · exact absurd (lnk_eq e0 e1 e2 e3) he
                · exact .inr (.inr (.inr ⟨e0, e1, e2, e3⟩))
              · exact .inr (.inr (.inl ⟨e0, e1, e2⟩))
            · exact .inr (.inl ⟨e0, e1⟩)
          · exact .inl e0
        clear HX HY he
        simp only [] at a0 a1 a2 a3 b0 b1 b2 b3
        rcases hd with h | ⟨rfl, h⟩ | ⟨rfl, rfl, h⟩ | ⟨rfl, rfl, rfl, h⟩
        all_goals
          go_wp2
          go_quiet (fail)
          go_wp2
          go_ret
          exact ⟨ret_bool (HF.out HE.out).symm, below_drewN (below_drewN HB.out _) _⟩
    · have HG := Lib.hid (HT.out (fun j a b hj => HS.out j a b (by omega)))
      clear HT HF HS
      go_wp2
      go_ret
      exact ⟨ret_bool HG.out.symm, below_drewN HB.out _⟩

end Go.Proofs.Ytiffhjofabaflaa
