/-
  Both SameQueues, and slices.Equal at rows of items. No statement is proved here.
-/
import Derived.Test.YtiffhjofabaflaaQueueLaws
import Derived.Test.YtiffhjofabaflaaSameWheel
namespace Go.Proofs.Ytiffhjofabaflaa
open Go.RowKit
set_option linter.unusedVariables false

theorem neq_item (a b : Tmr) (W : World) : (binOp .neq 66 (.agg #[.int .i64 a.typ, .int .i64 a.id, .int .i64 a.adv, .int .i64 a.due]) (.agg #[.int .i64 b.typ, .int .i64 b.id, .int .i64 b.adv, .int .i64 b.due])).run Try.prog W = .ok (.bool (!tmrB a b)) W := by
  by_cases h1 : a.typ = b.typ <;> by_cases h2 : a.id = b.id <;> by_cases h3 : a.adv = b.adv <;> by_cases h4 : a.due = b.due <;> simp [go_sem, tmrB, h1, h2, h3, h4]

attribute [local go_sem high] neq_item

set_option maxHeartbeats 1600000 in
theorem equalI_any (q1 q2 : Bool) (l1 h1 l2 h2 : Nat) (A B : Option Addr) (n m c d : Nat) (ys zs : List Tmr) (r : Bool) (w : World) (ha : Rep.timer.Sl q1 l1 h1 w A n ys) (hb : Rep.timer.Sl q2 l2 h2 w B m zs) (hn : n ≤ 1048576) (hm : m ≤ 1048576) (hr : r = true ↔ ys = zs) :
    Calls Try.prog 134 #[.slice A n c, .slice B m d] w fun e w' => e = .returned (.bool r) ∧ ∃ q, w' = w.drewN q := by
  have hl1 := ha.1
  have hl2 := hb.1
  by_cases hnm : n = m
  · subst hnm
    go_enter Try.func134, Try.ntmps134
    go_wp2
    go_loopw [13] (fun i wr => ∃ k : Nat, k ≤ n ∧ i = .int .i64 k ∧ Hid (∀ j, j < k → ys[j]? = zs[j]?) ∧ ∃ q, wr = w.drewN q) (fun i _ => n - (intOf i).toNat)
    case atStart => exact ⟨0, Nat.zero_le _, rfl, fun j hj => absurd hj (by omega), 0, rfl⟩
    case round =>
      obtain ⟨k, hk, rfl, HS, q, rfl⟩ := hrel
      by_cases hlt : k < n
      · obtain ⟨b, o, a, rfl, hya, a0, a1, a2, a3⟩ := Rep.timer_at ha hlt
        obtain ⟨b', o', a', rfl, hza, b0, b1, b2, b3⟩ := Rep.timer_at hb hlt
        have hlt' : (k : Int) < n := by omega
        by_cases he : a = a'
        · subst he
          have HE := Lib.hid (show ys[k]? = zs[k]? by rw [hya, hza])
          have ht : tmrB a a = true := (tmrB_iff a a).2 rfl
          clear hya hza
          go_wp2
          go_quiet (fail)
          go_wp2
          go_roundw
          case rel => exact ⟨k + 1, by omega, by go_num, fun j hj => by
            rcases Nat.lt_succ_iff_lt_or_eq.1 hj with h | rfl
            · exact HS.out j h
            · exact HE.out, _, rfl⟩
          case measure => simp [intOf]; omega
        · have HR := Lib.hid (bool_of hr (ne_at hya hza he))
          have ht : tmrB a a' = false := bool_of (tmrB_iff a a') he
          clear hya hza he
          go_wp2
          go_quiet (fail)
          go_wp2
          go_ret
          exact ⟨by rw [HR.out]; rfl, _, World.drewN_drewN _ _ _⟩
      · have HR := Lib.hid (hr.2 (eq_upto (by omega) (fun j hj => HS.out j (by omega))))
        go_wp2
        go_ret
        exact ⟨by rw [HR.out]; rfl, _, rfl⟩
  · have HR := Lib.hid (bool_of hr (fun e => hnm (by rw [← hl1, ← hl2, e])))
    have hne : ((n : Int) == m) = false := by simp; omega
    clear hr
    go_enter Try.func134, Try.ntmps134
    go_wp2
    go_ret
    exact ⟨by rw [HR.out]; rfl, 0, rfl⟩

set_option maxHeartbeats 1600000 in
theorem sameQueues_any (cap cap2 : Int) (mk mk2 : Bool) (q1 q2 : Bool) (l1 h1 l2 h2 : Nat) (A B : Option Addr) (n m c d : Nat) (ys zs : List Tmr) (r : Bool) (w : World) (ha : Rep.timer.Sl q1 l1 h1 w A n ys) (hb : Rep.timer.Sl q2 l2 h2 w B m zs) (hh1 : h1 ≤ w.heap.size) (hh2 : h2 ≤ w.heap.size) (hn : n ≤ 1048576) (hm : m ≤ 1048576) (hr : r = true ↔ (cap = cap2 ∧ mk = mk2 ∧ ys = zs)) :
    Calls Try.prog 49 #[.agg #[.int .i64 cap, .bool mk, .slice A n c], .agg #[.int .i64 cap2, .bool mk2, .slice B m d]] w fun e w' => e = .returned (.bool r) ∧ Below w.heap.size w w' := by
  have hV : Below w.heap.size w ((w.alloc (.cells #[.int .i64 cap, .bool mk, .slice A n c] 59)).alloc (.cells #[.int .i64 cap2, .bool mk2, .slice B m d] 59)) := ((Below.refl _ _).alloc (Nat.le_refl _) _).alloc (by simp) _
  have HB := Lib.hid hV
  have HA1 := Lib.hid (ha.below hV hh1)
  have HA2 := Lib.hid (hb.below hV hh2)
  clear hV ha hb
  by_cases h : cap = cap2
  · subst h
    by_cases h2 : mk = mk2
    · subst h2
      have HR := Lib.hid (show r = true ↔ ys = zs by simpa using hr)
      clear hr
      go_enter Try.func49, Try.ntmps49
      go_wp2_with fail
      refine (equalI_any q1 q2 l1 h1 l2 h2 A B n m c d ys zs r _ HA1.out HA2.out hn hm HR.out).mono ?_
      rintro e w2 ⟨rfl, p, rfl⟩
      go_wp2
      go_ret
      exact ⟨rfl, below_drewN HB.out p⟩
    · have HR := Lib.hid (bool_of hr (fun e => h2 e.2.1))
      have h' : (mk == mk2) = false := by simpa using h2
      clear hr h2
      go_enter Try.func49, Try.ntmps49
      go_wp2
      go_ret
      exact ⟨by rw [HR.out]; rfl, HB.out⟩
  · have HR := Lib.hid (bool_of hr (fun e => h e.1))
    have h' : (cap == cap2) = false := by simpa using h
    clear hr h
    go_enter Try.func49, Try.ntmps49
    go_wp2
    go_ret
    exact ⟨by rw [HR.out]; rfl, HB.out⟩

set_option maxHeartbeats 3200000 in
theorem specSameQueues_any (cap cap2 : Int) (mk mk2 : Bool) (q1 q2 : Bool) (l1 h1 l2 h2 : Nat) (A B : Option Addr) (n m c d : Nat) (ys zs : List Tmr) (r : Bool) (w : World) (ha : Rep.timer.Sl q1 l1 h1 w A n ys) (hb : Rep.timer.Sl q2 l2 h2 w B m zs) (hh1 : h1 ≤ w.heap.size) (hh2 : h2 ≤ w.heap.size) (hn : n ≤ 1048576) (hm : m ≤ 1048576) (hr : r = true ↔ (cap = cap2 ∧ mk = mk2 ∧ ys = zs)) :
    Calls Try.prog 55 #[.agg #[.int .i64 cap, .bool mk, .slice A n c], .agg #[.int .i64 cap2, .bool mk2, .slice B m d]] w fun e w' => e = .returned (.bool r) ∧ Below w.heap.size w w' := by
  have hl1 := ha.1
  have hl2 := hb.1
  obtain ⟨V, hV⟩ : ∃ V : World, V = ((w.alloc (.cells #[.int .i64 cap, .bool mk, .slice A n c] 59)).alloc (.cells #[.int .i64 cap2, .bool mk2, .slice B m d] 59)) := ⟨_, rfl⟩
  have hbV : Below w.heap.size w V := by rw [hV]; exact ((Below.refl _ _).alloc (Nat.le_refl _) _).alloc (by simp) _
  have HB := Lib.hid hbV
  have HX1 := Lib.hid (show Box V w.heap.size 59 #[.int .i64 cap, .bool mk, .slice A n c] by rw [hV]; exact (Box.made _ _ _).over _)
  have HX2 := Lib.hid (show Box V (w.heap.size + 1) 59 #[.int .i64 cap2, .bool mk2, .slice B m d] by rw [hV]; exact Box.made_at _ _ _ (by simp))
  have HA1 := Lib.hid (ha.below hbV hh1)
  have HA2 := Lib.hid (hb.below hbV hh2)
  clear hbV ha hb
  by_cases h1 : cap = cap2
  rotate_left
  · skip
    have HN := Lib.hid (bool_of hr (fun e => h1 e.1))
    have h' : (cap != cap2) = true := by simpa using h1
    clear h1
    clear hr
    go_enter Try.func55, Try.ntmps55
    go_wp2
    go_ret
    exact ⟨by rw [HN.out]; rfl, ((Below.refl _ _).alloc (Nat.le_refl _) _).alloc (by simp) _⟩
  by_cases h2 : mk = mk2
  rotate_left
  · skip
    have HN := Lib.hid (bool_of hr (fun e => h2 e.2.1))
    have h' : (mk != mk2) = true := by simpa using h2
    subst h1
    clear hr
    go_enter Try.func55, Try.ntmps55
    go_wp2
    go_ret
    exact ⟨by rw [HN.out]; rfl, ((Below.refl _ _).alloc (Nat.le_refl _) _).alloc (by simp) _⟩
  by_cases h3 : n = m
  rotate_left
  · skip
    have HN := Lib.hid (bool_of hr (fun e => h3 (by rw [← hl1, ← hl2, e.2.2])))
    have h' : ((n : Int) != m) = true := by simp; omega
    subst h1
    subst h2
    clear hr
    go_enter Try.func55, Try.ntmps55
    go_wp2
    go_ret
    exact ⟨by rw [HN.out]; rfl, ((Below.refl _ _).alloc (Nat.le_refl _) _).alloc (by simp) _⟩
  · subst h1
    subst h2
    subst h3
    have HR := Lib.hid (show r = true ↔ ys = zs by simpa using hr)
    clear hr
    have c0 := HX1.out.look 0
    have c1 := HX1.out.look 1
    have c2 := HX1.out.look 2
    have d0 := HX2.out.look 0
    have d1 := HX2.out.look 1
    have d2 := HX2.out.look 2
    go_enter Try.func55, Try.ntmps55
    go_wp2
    rw [← hV]
    clear hV
    go_loopw [5] (fun i wr => ∃ k : Nat, k ≤ n ∧ i = .int .i64 k ∧ Hid (∀ j, j < k → ys[j]? = zs[j]?) ∧ ∃ q, wr = V.drewN q) (fun i _ => n - (intOf i).toNat)
    case atStart => exact ⟨0, Nat.zero_le _, rfl, fun j hj => absurd hj (by omega), 0, rfl⟩
    case round =>
      obtain ⟨j, hj, rfl, HT, q', rfl⟩ := hrel
      by_cases hjl : j < n
      · obtain ⟨bb, oo, t, rfl, hyt, a0, a1, a2, a3⟩ := Rep.timer_at HA1.out hjl
        obtain ⟨bb', oo', t', rfl, hzt, b0, b1, b2, b3⟩ := Rep.timer_at HA2.out hjl
        have hjl' : (j : Int) < n := by omega
        by_cases he : t = t'
        · subst he
          have HE := Lib.hid (show ys[j]? = zs[j]? by rw [hyt, hzt])
          have ht : tmrB t t = true := (tmrB_iff t t).2 rfl
          clear hyt hzt
          go_wp2
          go_quiet (fail)
          go_wp2
          go_roundw
          case rel => exact ⟨j + 1, by omega, by go_num, fun i hi => by
            rcases Nat.lt_succ_iff_lt_or_eq.1 hi with h | rfl
            · exact HT.out i h
            · exact HE.out, _, rfl⟩
          case measure => simp [intOf]; omega
        · have HN := Lib.hid (bool_of HR.out (ne_at hyt hzt he))
          have ht : tmrB t t' = false := bool_of (tmrB_iff t t') he
          clear hyt hzt he
          go_wp2
          go_quiet (fail)
          go_wp2
          go_ret
          exact ⟨by rw [HN.out]; rfl, below_drewN (below_drewN HB.out _) _⟩
      · have HN := Lib.hid (HR.out.2 (eq_upto (by omega) (fun j hj => HT.out j (by omega))))
        go_wp2
        go_ret
        exact ⟨by rw [HN.out]; rfl, below_drewN HB.out _⟩

end Go.Proofs.Ytiffhjofabaflaa
