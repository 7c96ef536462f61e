/-
  The program's SameLsas and the model's tell whether two advertisements are the same. No statement is proved here.
-/
import Derived.Test.YtiffhjofabaflaaLsa
namespace Go.Proofs.Ytiffhjofabaflaa
open Go.RowKit

instance : DecidableEq Lnk := fun a b => decidable_of_iff (a.kind = b.kind ∧ a.to_ = b.to_ ∧ a.own = b.own ∧ a.cost = b.cost) (by cases a; cases b; simp)

theorem getD_ne {xs ys : List Int} {k : Nat} (h : xs.getD k 0 ≠ ys.getD k 0) : xs ≠ ys := fun e => h (by rw [e])

set_option maxHeartbeats 800000 in
theorem sameInts_any (q1 q2 : Bool) (l1 h1 l2 h2 : Nat) (A B : Option Addr) (n c m d : Nat) (xs ys : List Int) (w : World) (ha : Rep.int.Sl q1 l1 h1 w A n xs) (hb : Rep.int.Sl q2 l2 h2 w B m ys) (hn : n ≤ 1048576) (hm : m ≤ 1048576) :
    Calls Try.prog 185 #[.slice A n c, .slice B m d] w fun e w' => e = .returned (.bool (decide (xs = ys))) ∧ ∃ q, w' = w.drewN q := by
  by_cases hnm : n = m
  · subst hnm
    go_enter Try.func185, Try.ntmps185
    go_wp2
    go_loopw [13] (fun i wr => ∃ k : Nat, k ≤ n ∧ i = .int .i64 k ∧ Hid (∀ j, j < k → xs.getD j 0 = ys.getD j 0) ∧ ∃ q, wr = w.drewN q)
      (fun i _ => n - (intOf i).toNat)
    case atStart => exact ⟨0, Nat.zero_le _, rfl, fun j hj => absurd hj (by omega), 0, rfl⟩
    case round =>
      obtain ⟨k, hk, rfl, HS, q, rfl⟩ := hrel
      by_cases hlt : k < n
      · obtain ⟨b, o, rfl, hca⟩ := Rep.int_at ha hlt
        obtain ⟨b', o', rfl, hcb⟩ := Rep.int_at hb hlt
        have hlt' : (k : Int) < n := by omega
        obtain ⟨x, hx⟩ : ∃ y, xs.getD k 0 = y := ⟨_, rfl⟩
        obtain ⟨y, hy⟩ : ∃ y, ys.getD k 0 = y := ⟨_, rfl⟩
        rw [hx] at hca
        rw [hy] at hcb
        have HX := Lib.hid hx
        have HY := Lib.hid hy
        clear hx hy
        by_cases he : x = y
        · have he1 : (x != y) = false := by rw [he]; simp
          have HE := Lib.hid he
          clear he
          go_wp2
          go_quiet (fail)
          go_wp2
          go_roundw
          case rel => exact ⟨k + 1, by omega, by go_num, Lib.hid (fun j hj => by
            rcases Nat.lt_succ_iff_lt_or_eq.1 hj with h | rfl
            · exact HS.out j h
            · rw [HX.out, HY.out, HE.out]), _, rfl⟩
          case measure => simp [intOf]; omega
        · have he1 : (x != y) = true := by rw [bne_iff_ne]; exact he
          have HE : Hid (¬ xs = ys) := Lib.hid (getD_ne (k := k) (by rw [HX.out, HY.out]; exact he))
          clear he
          go_wp2
          go_quiet (fail)
          go_wp2
          go_ret
          exact ⟨ret_bool (decide_eq_false HE.out).symm, _, World.drewN_drewN _ _ _⟩
      · go_wp2
        go_ret
        have e : xs = ys := take_eq_all ha.1 hb.1 (fun i hi => HS.out i (by omega))
        exact ⟨by simp [e], _, rfl⟩
  · have h1 : ((n : Int) != (m : Int)) = true := by rw [bne_iff_ne]; omega
    have HE : Hid (¬ xs = ys) := Lib.hid (fun h => hnm (by rw [← ha.1, ← hb.1, h]))
    go_enter Try.func185, Try.ntmps185
    go_wp2
    go_ret
    exact ⟨ret_bool (decide_eq_false HE.out).symm, 0, rfl⟩

set_option maxHeartbeats 800000 in
theorem l1Same_any (q1 q2 : Bool) (l1 h1 l2 h2 : Nat) (A B : Option Addr) (n c m d : Nat) (xs ys : List Int) (w : World) (ha : Rep.int.Sl q1 l1 h1 w A n xs) (hb : Rep.int.Sl q2 l2 h2 w B m ys) (hn : n ≤ 1048576) (hm : m ≤ 1048576) :
    Calls Try.prog 175 #[.slice A n c, .slice B m d] w fun e w' => e = .returned (.bool (decide (xs = ys))) ∧ ∃ q, w' = w.drewN q := by
  by_cases hnm : n = m
  · subst hnm
    go_enter Try.func175, Try.ntmps175
    go_wp2
    go_loopw [5] (fun i wr => ∃ k : Nat, k ≤ n ∧ i = .int .i64 k ∧ Hid (∀ j, j < k → xs.getD j 0 = ys.getD j 0) ∧ ∃ q, wr = w.drewN q)
      (fun i _ => n - (intOf i).toNat)
    case atStart => exact ⟨0, Nat.zero_le _, rfl, fun j hj => absurd hj (by omega), 0, rfl⟩
    case round =>
      obtain ⟨k, hk, rfl, HS, q, rfl⟩ := hrel
      by_cases hlt : k < n
      · obtain ⟨b, o, rfl, hca⟩ := Rep.int_at ha hlt
        obtain ⟨b', o', rfl, hcb⟩ := Rep.int_at hb hlt
        have hlt' : (k : Int) < n := by omega
        obtain ⟨x, hx⟩ : ∃ y, xs.getD k 0 = y := ⟨_, rfl⟩
        obtain ⟨y, hy⟩ : ∃ y, ys.getD k 0 = y := ⟨_, rfl⟩
        rw [hx] at hca
        rw [hy] at hcb
        have HX := Lib.hid hx
        have HY := Lib.hid hy
        clear hx hy
        by_cases he : x = y
        · have he1 : (x != y) = false := by rw [he]; simp
          have HE := Lib.hid he
          clear he
          go_wp2
          go_quiet (fail)
          go_wp2
          go_roundw
          case rel => exact ⟨k + 1, by omega, by go_num, Lib.hid (fun j hj => by
            rcases Nat.lt_succ_iff_lt_or_eq.1 hj with h | rfl
            · exact HS.out j h
            · rw [HX.out, HY.out, HE.out]), _, rfl⟩
          case measure => simp [intOf]; omega
        · have he1 : (x != y) = true := by rw [bne_iff_ne]; exact he
          have HE : Hid (¬ xs = ys) := Lib.hid (getD_ne (k := k) (by rw [HX.out, HY.out]; exact he))
          clear he
          go_wp2
          go_quiet (fail)
          go_wp2
          go_ret
          exact ⟨ret_bool (decide_eq_false HE.out).symm, _, World.drewN_drewN _ _ _⟩
      · go_wp2
        go_ret
        have e : xs = ys := take_eq_all ha.1 hb.1 (fun i hi => HS.out i (by omega))
        exact ⟨by simp [e], _, rfl⟩
  · have h1 : ((n : Int) != (m : Int)) = true := by rw [bne_iff_ne]; omega
    have HE : Hid (¬ xs = ys) := Lib.hid (fun h => hnm (by rw [← ha.1, ← hb.1, h]))
    go_enter Try.func175, Try.ntmps175
    go_wp2
    go_ret
    exact ⟨ret_bool (decide_eq_false HE.out).symm, 0, rfl⟩

theorem lnk_eq {a b : Lnk} (h1 : a.kind = b.kind) (h2 : a.to_ = b.to_) (h3 : a.own = b.own) (h4 : a.cost = b.cost) : a = b := by cases a; cases b; simp_all

theorem links_eq {xs ys : List Lnk} {n : Nat} (hx : xs.length = n) (hy : ys.length = n) (h : ∀ j a b, j < n → xs[j]? = some a → ys[j]? = some b → a = b) : xs = ys := by
  apply List.ext_getElem (by omega)
  intro i h1 h2
  exact h i _ _ (by omega) (List.getElem?_eq_getElem h1) (List.getElem?_eq_getElem h2)

set_option maxHeartbeats 800000 in
theorem sameLinks_any (q1 q2 : Bool) (l1 h1 l2 h2 : Nat) (A B : Option Addr) (n c m d : Nat) (xs ys : List Lnk) (w : World) (ha : Rep.link.Sl q1 l1 h1 w A n xs) (hb : Rep.link.Sl q2 l2 h2 w B m ys) (hn : n ≤ 1048576) (hm : m ≤ 1048576) :
    Calls Try.prog 215 #[.slice A n c, .slice B m d] w fun e w' => e = .returned (.bool (decide (xs = ys))) ∧ ∃ q, w' = w.drewN q := by
  by_cases hnm : n = m
  · subst hnm
    go_enter Try.func215, Try.ntmps215
    go_wp2
    go_loopw [13] (fun i wr => ∃ k : Nat, k ≤ n ∧ i = .int .i64 k ∧ Hid (∀ j a b, j < k → xs[j]? = some a → ys[j]? = some b → a = b) ∧ ∃ q, wr = w.drewN q)
      (fun i _ => n - (intOf i).toNat)
    case atStart => exact ⟨0, Nat.zero_le _, rfl, fun j _ _ hj => absurd hj (by omega), 0, rfl⟩
    case round =>
      obtain ⟨k, hk, rfl, HS, q, rfl⟩ := hrel
      by_cases hlt : k < n
      · obtain ⟨b, o, x, rfl, hxa, a0, a1, a2, a3⟩ := Rep.link_at ha hlt
        obtain ⟨b', o', y, rfl, hyb, b0, b1, b2, b3⟩ := Rep.link_at hb hlt
        have hlt' : (k : Int) < n := by omega
        have HX := Lib.hid hxa
        have HY := Lib.hid hyb
        clear hxa hyb
        by_cases he : x = y
        · have HE := Lib.hid he
          subst he
          go_wp2
          go_quiet (fail)
          go_wp2
          go_roundw
          case rel => exact ⟨k + 1, by omega, by go_num, Lib.hid (fun j a b hj h1 h2 => by
            rcases Nat.lt_succ_iff_lt_or_eq.1 hj with h | rfl
            · exact HS.out j a b h h1 h2
            · have e1 := HX.out; have e2 := HY.out; rw [h1] at e1; rw [h2] at e2; injection e1 with e1; injection e2 with e2; rw [e1, e2]), _, rfl⟩
          case measure => simp [intOf]; omega
        · have HE : Hid (¬ xs = ys) := Lib.hid (fun e => by subst e; have e1 := HX.out; rw [HY.out] at e1; injection e1 with e1; exact he e1.symm)
          obtain ⟨x0, x1, x2, x3⟩ := x
          obtain ⟨y0, y1, y2, y3⟩ := y
          have hd : ¬ x0 = y0 ∨ (x0 = y0 ∧ ¬ x1 = y1) ∨ (x0 = y0 ∧ x1 = y1 ∧ ¬ x2 = y2) ∨ (x0 = y0 ∧ x1 = y1 ∧ x2 = y2 ∧ ¬ x3 = y3) := by
            rcases Decidable.em (x0 = y0) with e0 | e0
            · rcases Decidable.em (x1 = y1) with e1 | e1
              · rcases Decidable.em (x2 = y2) with e2 | e2
                · rcases Decidable.em (x3 = y3) with e3 | e3
                  · exact absurd (lnk_eq e0 e1 e2 e3) he
                  · exact .inr (.inr (.inr ⟨e0, e1, e2, e3⟩))
                · exact .inr (.inr (.inl ⟨e0, e1, e2⟩))
              · exact .inr (.inl ⟨e0, e1⟩)
            · exact .inl e0
          clear HX HY he
          simp only [] at a0 a1 a2 a3 b0 b1 b2 b3
          rcases hd with h | ⟨rfl, h⟩ | ⟨rfl, rfl, h⟩ | ⟨rfl, rfl, rfl, h⟩
          all_goals
            go_wp2
            go_quiet (fail)
            go_wp2
            go_ret
            exact ⟨ret_bool (decide_eq_false HE.out).symm, _, World.drewN_drewN _ _ _⟩
      · go_wp2
        go_ret
        have e : xs = ys := links_eq ha.1 hb.1 (fun i a b hi => HS.out i a b (by omega))
        exact ⟨by simp [e], _, rfl⟩
  · have h1 : ((n : Int) != (m : Int)) = true := by rw [bne_iff_ne]; omega
    have HE : Hid (¬ xs = ys) := Lib.hid (fun h => hnm (by rw [← ha.1, ← hb.1, h]))
    go_enter Try.func215, Try.ntmps215
    go_wp2
    go_ret
    exact ⟨ret_bool (decide_eq_false HE.out).symm, 0, rfl⟩

instance : DecidableEq LsaM := fun a b => decidable_of_iff (a.age = b.age ∧ a.options = b.options ∧ (a.typ = b.typ ∧ a.id = b.id ∧ a.adv = b.adv) ∧ a.seq = b.seq ∧ a.links = b.links ∧ a.routers = b.routers ∧ a.mask = b.mask ∧ a.cost = b.cost) (by cases a; cases b; simp [and_assoc])

abbrev lsaV (a : LsaM) (A B : Option Addr) (n c m d : Nat) : Value :=
  .agg #[.int .i64 a.age, .int .i64 a.options, .int .i64 a.typ, .int .i64 a.id, .int .i64 a.adv, .int .i64 a.seq, .slice A n c, .slice B m d, .int .i64 a.mask, .int .i64 a.cost]

theorem lsa_ne {x y : LsaM} (f : LsaM → Int) (h : ¬ f x = f y) : ¬ x = y := fun e => h (by rw [e])

set_option maxHeartbeats 3200000 in
theorem sameLsas_any (x y : LsaM) (q q' : Bool) (lo hi lo' hi' : Nat) (A B A' B' : Option Addr) (n c m d n' c' m' d' : Nat) (w : World) (hx : LsaIn q lo hi w A n B m x) (hy : LsaIn q' lo' hi' w A' n' B' m' y) (hh : hi ≤ w.heap.size) (hh' : hi' ≤ w.heap.size) (hn : n ≤ 1048576) (hm : m ≤ 1048576) (hn' : n' ≤ 1048576) (hm' : m' ≤ 1048576) :
    Calls Try.prog 164 #[lsaV x A B n c m d, lsaV y A' B' n' c' m' d'] w fun e w' => e = .returned (.bool (decide (x = y))) ∧ Below w.heap.size w w' := by
  have hV : Below w.heap.size w ((w.alloc (.cells #[.int .i64 x.age, .int .i64 x.options, .int .i64 x.typ, .int .i64 x.id, .int .i64 x.adv, .int .i64 x.seq, .slice A n c, .slice B m d, .int .i64 x.mask, .int .i64 x.cost] 123)).alloc (.cells #[.int .i64 y.age, .int .i64 y.options, .int .i64 y.typ, .int .i64 y.id, .int .i64 y.adv, .int .i64 y.seq, .slice A' n' c', .slice B' m' d', .int .i64 y.mask, .int .i64 y.cost] 123)) := ((Below.refl _ _).alloc (Nat.le_refl _) _).alloc (by simp) _
  have HA := Lib.hid (hx.below hV hh)
  have HC := Lib.hid (hy.below hV hh')
  have HB := Lib.hid hV
  clear hx hy hV
  have HQ : Hid (x.links.length = n ∧ y.links.length = n' ∧ x.routers.length = m ∧ y.routers.length = m') := Lib.hid ⟨HA.out.links.1, HC.out.links.1, HA.out.routers.1, HC.out.routers.1⟩
  have HAL := Lib.hid HA.out.links
  have HAR := Lib.hid HA.out.routers
  have HCL := Lib.hid HC.out.links
  have HCR := Lib.hid HC.out.routers
  clear HA HC HQ
  have HD : Hid (¬ x = y → decide (x = y) = false) := Lib.hid (fun h => decide_eq_false h)
  obtain ⟨x0, x1, x2, x3, x4, x5, x6, x7, x8, x9⟩ := x
  obtain ⟨y0, y1, y2, y3, y4, y5, y6, y7, y8, y9⟩ := y
  simp only [] at HAL HAR HCL HCR HB
  rcases Decidable.em (x0 = y0) with e | hne
  rotate_left
  · have HN := Lib.hid (HD.out (fun e => hne (by injection e)))
    clear HD
    go_enter Try.func164, Try.ntmps164
    go_wp2
    go_ret
    exact ⟨ret_bool HN.out.symm, HB.out⟩
  obtain rfl := e
  rcases Decidable.em (x1 = y1) with e | hne
  rotate_left
  · have HN := Lib.hid (HD.out (fun e => hne (by injection e)))
    clear HD
    go_enter Try.func164, Try.ntmps164
    go_wp2
    go_ret
    exact ⟨ret_bool HN.out.symm, HB.out⟩
  obtain rfl := e
  rcases Decidable.em (x2 = y2) with e | hne
  rotate_left
  · have HN := Lib.hid (HD.out (fun e => hne (by injection e)))
    clear HD
    go_enter Try.func164, Try.ntmps164
    go_wp2
    go_ret
    exact ⟨ret_bool HN.out.symm, HB.out⟩
  obtain rfl := e
  rcases Decidable.em (x3 = y3) with e | hne
  rotate_left
  · have HN := Lib.hid (HD.out (fun e => hne (by injection e)))
    clear HD
    go_enter Try.func164, Try.ntmps164
    go_wp2
    go_ret
    exact ⟨ret_bool HN.out.symm, HB.out⟩
  obtain rfl := e
  rcases Decidable.em (x4 = y4) with e | hne
  rotate_left
  · have HN := Lib.hid (HD.out (fun e => hne (by injection e)))
    clear HD
    go_enter Try.func164, Try.ntmps164
    go_wp2
    go_ret
    exact ⟨ret_bool HN.out.symm, HB.out⟩
  obtain rfl := e
  rcases Decidable.em (x5 = y5) with e | hne
  rotate_left
  · have HN := Lib.hid (HD.out (fun e => hne (by injection e)))
    clear HD
    go_enter Try.func164, Try.ntmps164
    go_wp2
    go_ret
    exact ⟨ret_bool HN.out.symm, HB.out⟩
  obtain rfl := e
  rcases Decidable.em (x6 = y6) with e | hne
  rotate_left
  · have HN := Lib.hid (HD.out (fun e => hne (by injection e)))
    have HE : Hid (decide (x6 = y6) = false) := Lib.hid (decide_eq_false hne)
    clear hne
    clear HD
    go_enter Try.func164, Try.ntmps164
    go_wp2_with fail
    refine (sameLinks_any _ _ _ _ _ _ _ _ _ _ _ _ _ _ _ HAL.out HCL.out hn hn').mono ?_
    rintro e w1 ⟨rfl, p, rfl⟩
    rw [HE.out]
    go_wp2
    go_ret
    exact ⟨(by first | exact ret_bool HN.out.symm | exact ret_bool (by rw [HN.out]; simpa using hne)), below_drewN HB.out _⟩
  obtain rfl := e
  rcases Decidable.em (x7 = y7) with e | hne
  rotate_left
  · have HN := Lib.hid (HD.out (fun e => hne (by injection e)))
    have HE : Hid (decide (x7 = y7) = false) := Lib.hid (decide_eq_false hne)
    clear hne
    clear HD
    go_enter Try.func164, Try.ntmps164
    go_wp2_with fail
    refine (sameLinks_any _ _ _ _ _ _ _ _ _ _ _ _ _ _ _ HAL.out HCL.out hn hn').mono ?_
    rintro e w1 ⟨rfl, p, rfl⟩
    rw [decide_eq_true rfl]
    go_wp2_with fail
    refine (sameInts_any _ _ _ _ _ _ _ _ _ _ _ _ _ _ _ (HAR.out.drewN _) (HCR.out.drewN _) hm hm').mono ?_
    rintro e w1 ⟨rfl, p1, rfl⟩
    rw [HE.out]
    go_wp2
    go_ret
    exact ⟨(by first | exact ret_bool HN.out.symm | exact ret_bool (by rw [HN.out]; simpa using hne)), below_drewN HB.out _⟩
  obtain rfl := e
  rcases Decidable.em (x8 = y8) with e | hne
  rotate_left
  · have HN := Lib.hid (HD.out (fun e => hne (by injection e)))
    clear HD
    go_enter Try.func164, Try.ntmps164
    go_wp2_with fail
    refine (sameLinks_any _ _ _ _ _ _ _ _ _ _ _ _ _ _ _ HAL.out HCL.out hn hn').mono ?_
    rintro e w1 ⟨rfl, p, rfl⟩
    rw [decide_eq_true rfl]
    go_wp2_with fail
    refine (sameInts_any _ _ _ _ _ _ _ _ _ _ _ _ _ _ _ (HAR.out.drewN _) (HCR.out.drewN _) hm hm').mono ?_
    rintro e w1 ⟨rfl, p1, rfl⟩
    rw [decide_eq_true rfl]
    go_wp2
    go_ret
    exact ⟨(by first | exact ret_bool HN.out.symm | exact ret_bool (by rw [HN.out]; simpa using hne)), below_drewN HB.out _⟩
  obtain rfl := e
  rcases Decidable.em (x9 = y9) with e | hne
  rotate_left
  · have HN := Lib.hid (HD.out (fun e => hne (by injection e)))
    clear HD
    go_enter Try.func164, Try.ntmps164
    go_wp2_with fail
    refine (sameLinks_any _ _ _ _ _ _ _ _ _ _ _ _ _ _ _ HAL.out HCL.out hn hn').mono ?_
    rintro e w1 ⟨rfl, p, rfl⟩
    rw [decide_eq_true rfl]
    go_wp2_with fail
    refine (sameInts_any _ _ _ _ _ _ _ _ _ _ _ _ _ _ _ (HAR.out.drewN _) (HCR.out.drewN _) hm hm').mono ?_
    rintro e w1 ⟨rfl, p1, rfl⟩
    rw [decide_eq_true rfl]
    go_wp2
    go_ret
    exact ⟨(by first | exact ret_bool HN.out.symm | exact ret_bool (by rw [HN.out]; simpa using hne)), below_drewN HB.out _⟩
  obtain rfl := e
  clear HD
  go_enter Try.func164, Try.ntmps164
  go_wp2_with fail
  refine (sameLinks_any _ _ _ _ _ _ _ _ _ _ _ _ _ _ _ HAL.out HCL.out hn hn').mono ?_
  rintro e w1 ⟨rfl, p, rfl⟩
  rw [decide_eq_true rfl]
  go_wp2_with fail
  refine (sameInts_any _ _ _ _ _ _ _ _ _ _ _ _ _ _ _ (HAR.out.drewN _) (HCR.out.drewN _) hm hm').mono ?_
  rintro e w1 ⟨rfl, p1, rfl⟩
  rw [decide_eq_true rfl]
  go_wp2
  go_ret
  exact ⟨ret_bool (by simp), below_drewN HB.out _⟩

end Go.Proofs.Ytiffhjofabaflaa
