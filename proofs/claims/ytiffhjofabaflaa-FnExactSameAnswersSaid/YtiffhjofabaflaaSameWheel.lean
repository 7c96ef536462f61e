/-
  Both SameWheels, and slices.Equal, slices.EqualFunc at rows of timers. No statement is proved here.
-/
import Derived.Test.YtiffhjofabaflaaWheelLaws
namespace Go.Proofs.Ytiffhjofabaflaa
open Go.RowKit
set_option linter.unusedVariables false

theorem Tmr.ext' {a b : Tmr} (h1 : a.typ = b.typ) (h2 : a.id = b.id) (h3 : a.adv = b.adv) (h4 : a.due = b.due) : a = b := by cases a; cases b; simp_all
/-- Do two timers tell the same. -/
def tmrB (a b : Tmr) : Bool := decide (a.typ = b.typ) && (decide (a.id = b.id) && (decide (a.adv = b.adv) && decide (a.due = b.due)))
theorem tmrB_iff (a b : Tmr) : tmrB a b = true ↔ a = b := by
  unfold tmrB
  simp only [Bool.and_eq_true, decide_eq_true_eq]
  exact ⟨fun ⟨h1, h2, h3, h4⟩ => Tmr.ext' h1 h2 h3 h4, fun h => by subst h; exact ⟨rfl, rfl, rfl, rfl⟩⟩
theorem neq_timer (a b : Tmr) (W : World) : (binOp .neq 36 (.agg #[.int .i64 a.typ, .int .i64 a.id, .int .i64 a.adv, .int .i64 a.due]) (.agg #[.int .i64 b.typ, .int .i64 b.id, .int .i64 b.adv, .int .i64 b.due])).run Try.prog W = .ok (.bool (!tmrB a b)) W := by
  by_cases h1 : a.typ = b.typ <;> by_cases h2 : a.id = b.id <;> by_cases h3 : a.adv = b.adv <;> by_cases h4 : a.due = b.due <;> simp [go_sem, tmrB, h1, h2, h3, h4]
attribute [local go_sem high] neq_timer

theorem ne_at {α : Type} {ys zs : List α} {k : Nat} {a b : α} (ha : ys[k]? = some a) (hb : zs[k]? = some b) (h : a ≠ b) : ys ≠ zs := by
  intro e; subst e; rw [ha] at hb; injection hb with hb; exact h hb
theorem eq_upto {α : Type} {ys zs : List α} (hl : ys.length = zs.length) (h : ∀ j, j < ys.length → ys[j]? = zs[j]?) : ys = zs := by
  apply List.ext_getElem? 
  intro i
  by_cases hi : i < ys.length
  · exact h i hi
  · rw [List.getElem?_eq_none (by omega), List.getElem?_eq_none (by omega)]
theorem bool_of {r : Bool} {p : Prop} (h : r = true ↔ p) (hn : ¬ p) : r = false := by cases r; rfl; exact absurd (h.1 rfl) hn
theorem is_of (p : Prop) : ∃ r : Bool, (r = true ↔ p) := by
  by_cases h : p
  · exact ⟨true, by simp [h]⟩
  · exact ⟨false, by simp [h]⟩

set_option maxHeartbeats 1600000 in
theorem equal_any (q1 q2 : Bool) (l1 h1 l2 h2 : Nat) (A B : Option Addr) (n m c d : Nat) (ys zs : List Tmr) (r : Bool) (w : World) (ha : Rep.timer.Sl q1 l1 h1 w A n ys) (hb : Rep.timer.Sl q2 l2 h2 w B m zs) (hn : n ≤ 1048576) (hm : m ≤ 1048576) (hr : r = true ↔ ys = zs) :
    Calls Try.prog 116 #[.slice A n c, .slice B m d] w fun e w' => e = .returned (.bool r) ∧ ∃ q, w' = w.drewN q := by
  have hl1 := ha.1
  have hl2 := hb.1
  by_cases hnm : n = m
  · subst hnm
    go_enter Try.func116, Try.ntmps116
    go_wp2
    go_loopw [13] (fun i wr => ∃ k : Nat, k ≤ n ∧ i = .int .i64 k ∧ Hid (∀ j, j < k → ys[j]? = zs[j]?) ∧ ∃ q, wr = w.drewN q) (fun i _ => n - (intOf i).toNat)
    case atStart => exact ⟨0, Nat.zero_le _, rfl, fun j hj => absurd hj (by omega), 0, rfl⟩
    case round =>
      obtain ⟨k, hk, rfl, HS, q, rfl⟩ := hrel
      by_cases hlt : k < n
      · obtain ⟨b, o, a, rfl, hya, a0, a1, a2, a3⟩ := Rep.timer_at ha hlt
        obtain ⟨b', o', a', rfl, hza, b0, b1, b2, b3⟩ := Rep.timer_at hb hlt
        have hlt' : (k : Int) < n := by omega
        by_cases he : a = a'
        · subst he
          have HE := Lib.hid (show ys[k]? = zs[k]? by rw [hya, hza])
          have ht : tmrB a a = true := (tmrB_iff a a).2 rfl
          clear hya hza
          go_wp2
          go_quiet (fail)
          go_wp2
          go_roundw
          case rel => exact ⟨k + 1, by omega, by go_num, fun j hj => by
            rcases Nat.lt_succ_iff_lt_or_eq.1 hj with h | rfl
            · exact HS.out j h
            · exact HE.out, _, rfl⟩
          case measure => simp [intOf]; omega
        · have HR := Lib.hid (bool_of hr (ne_at hya hza he))
          have ht : tmrB a a' = false := bool_of (tmrB_iff a a') he
          clear hya hza he
          go_wp2
          go_quiet (fail)
          go_wp2
          go_ret
          exact ⟨by rw [HR.out]; rfl, _, World.drewN_drewN _ _ _⟩
      · have HR := Lib.hid (hr.2 (eq_upto (by omega) (fun j hj => HS.out j (by omega))))
        go_wp2
        go_ret
        exact ⟨by rw [HR.out]; rfl, _, rfl⟩
  · have HR := Lib.hid (bool_of hr (fun e => hnm (by rw [← hl1, ← hl2, e])))
    have hne : ((n : Int) == m) = false := by simp; omega
    clear hr
    go_enter Try.func116, Try.ntmps116
    go_wp2
    go_ret
    exact ⟨by rw [HR.out]; rfl, 0, rfl⟩

/-- A function value that is slices.Equal. -/
abbrev equalV : Value := .func (.func 116) #[] #[]

set_option maxHeartbeats 1600000 in
theorem equalFunc_any (q1 q2 : Bool) (l1 h1 l2 h2 : Nat) (A B : Option Addr) (n m c d : Nat) (ys zs : List (List Tmr)) (r : Bool) (w : World) (ha : Rep.timer.rows.Sl q1 l1 h1 w A n ys) (hb : Rep.timer.rows.Sl q2 l2 h2 w B m zs) (hn : n ≤ 1048576) (hm : m ≤ 1048576) (hy : ∀ y ∈ ys, y.length ≤ 1048576) (hz : ∀ y ∈ zs, y.length ≤ 1048576) (hr : r = true ↔ ys = zs) :
    Calls Try.prog 115 #[.slice A n c, .slice B m d, equalV] w fun e w' => e = .returned (.bool r) ∧ ∃ q, w' = w.drewN q := by
  have hl1 := ha.1
  have hl2 := hb.1
  have HY := Lib.hid hy
  have HZ := Lib.hid hz
  clear hy hz
  by_cases hnm : n = m
  · subst hnm
    go_enter Try.func115, Try.ntmps115
    go_wp2
    go_loopw [17] (fun i wr => ∃ k : Nat, k ≤ n ∧ i = .int .i64 k ∧ Hid (∀ j, j < k → ys[j]? = zs[j]?) ∧ ∃ q, wr = w.drewN q) (fun i _ => n - (intOf i).toNat)
    case atStart => exact ⟨0, Nat.zero_le _, rfl, fun j hj => absurd hj (by omega), 0, rfl⟩
    case round =>
      obtain ⟨k, hk, rfl, HS, q, rfl⟩ := hrel
      by_cases hlt : k < n
      · obtain ⟨b, o, y, E, e1, c1, rfl, hya, ce, hya2⟩ := Rep.rows_at ha hlt
        obtain ⟨b', o', z, E', e2, c2, rfl, hza, ce', hza2⟩ := Rep.rows_at hb hlt
        have hlt' : (k : Int) < n := by omega
        have hle1 : e1 ≤ 1048576 := by have := HY.out y (List.mem_of_getElem? hya); have := hya2.1; omega
        have hle2 : e2 ≤ 1048576 := by have := HZ.out z (List.mem_of_getElem? hza); have := hza2.1; omega
        have HE1 := Lib.hid hya2
        have HE2 := Lib.hid hza2
        by_cases he : y = z
        · subst he
          have HE := Lib.hid (show ys[k]? = zs[k]? by rw [hya, hza])
          clear hya hza hya2 hza2
          go_wp2_with fail
          refine (equal_any q1 q2 l1 h1 l2 h2 E E' e1 e2 c1 c2 y y true _ (HE1.out.drewN _) (HE2.out.drewN _) hle1 hle2 (by simp)).mono ?_
          rintro e w2 ⟨rfl, p, rfl⟩
          go_wp2
          go_roundw
          case rel => exact ⟨k + 1, by omega, by go_num, fun j hj => by
            rcases Nat.lt_succ_iff_lt_or_eq.1 hj with h | rfl
            · exact HS.out j h
            · exact HE.out, _, rfl⟩
          case measure => simp [intOf]; omega
        · have HR := Lib.hid (bool_of hr (ne_at hya hza he))
          have HN := Lib.hid he
          clear hya hza he hya2 hza2
          go_wp2_with fail
          refine (equal_any q1 q2 l1 h1 l2 h2 E E' e1 e2 c1 c2 y z false _ (HE1.out.drewN _) (HE2.out.drewN _) hle1 hle2 (by simp [HN.out])).mono ?_
          rintro e w2 ⟨rfl, p, rfl⟩
          go_wp2
          go_ret
          exact ⟨by rw [HR.out]; rfl, _, rfl⟩
      · have HR := Lib.hid (hr.2 (eq_upto (by omega) (fun j hj => HS.out j (by omega))))
        go_wp2
        go_ret
        exact ⟨by rw [HR.out]; rfl, _, rfl⟩
  · have HR := Lib.hid (bool_of hr (fun e => hnm (by rw [← hl1, ← hl2, e])))
    have hne : ((n : Int) == m) = false := by simp; omega
    clear hr
    go_enter Try.func115, Try.ntmps115
    go_wp2
    go_ret
    exact ⟨by rw [HR.out]; rfl, 0, rfl⟩

set_option maxHeartbeats 1600000 in
theorem sameWheels_any (a b : Int) (q1 q2 : Bool) (l1 h1 l2 h2 : Nat) (A B : Option Addr) (n m c d : Nat) (ys zs : List (List Tmr)) (r : Bool) (w : World) (ha : Rep.timer.rows.Sl q1 l1 h1 w A n ys) (hb : Rep.timer.rows.Sl q2 l2 h2 w B m zs) (hh1 : h1 ≤ w.heap.size) (hh2 : h2 ≤ w.heap.size) (hn : n ≤ 1048576) (hm : m ≤ 1048576) (hy : ∀ y ∈ ys, y.length ≤ 1048576) (hz : ∀ y ∈ zs, y.length ≤ 1048576) (hr : r = true ↔ a = b ∧ ys = zs) :
    Calls Try.prog 26 #[.agg #[.int .i64 a, .slice A n c], .agg #[.int .i64 b, .slice B m d]] w fun e w' => e = .returned (.bool r) ∧ Below w.heap.size w w' := by
  have hV : Below w.heap.size w ((w.alloc (.cells #[.int .i64 a, .slice A n c] 26)).alloc (.cells #[.int .i64 b, .slice B m d] 26)) := ((Below.refl _ _).alloc (Nat.le_refl _) _).alloc (by simp) _
  have HB := Lib.hid hV
  have HA1 := Lib.hid (ha.below hV hh1)
  have HA2 := Lib.hid (hb.below hV hh2)
  have HY := Lib.hid hy
  have HZ := Lib.hid hz
  clear hV ha hb hy hz
  by_cases h : a = b
  · subst h
    have HR := Lib.hid (show r = true ↔ ys = zs by simpa using hr)
    clear hr
    go_enter Try.func26, Try.ntmps26
    go_wp2_with fail
    refine (equalFunc_any q1 q2 l1 h1 l2 h2 A B n m c d ys zs r _ HA1.out HA2.out hn hm HY.out HZ.out HR.out).mono ?_
    rintro e w2 ⟨rfl, p, rfl⟩
    go_wp2
    go_ret
    exact ⟨rfl, below_drewN HB.out p⟩
  · have HR := Lib.hid (bool_of hr (fun e => h e.1))
    have h' : (a == b) = false := by simpa using h
    clear hr h
    go_enter Try.func26, Try.ntmps26
    go_wp2
    go_ret
    exact ⟨by rw [HR.out]; rfl, HB.out⟩

set_option maxHeartbeats 3200000 in
theorem specSameWheels_any (a b : Int) (q1 q2 : Bool) (l1 h1 l2 h2 : Nat) (A B : Option Addr) (n m c d : Nat) (ys zs : List (List Tmr)) (r : Bool) (w : World) (ha : Rep.timer.rows.Sl q1 l1 h1 w A n ys) (hb : Rep.timer.rows.Sl q2 l2 h2 w B m zs) (hh1 : h1 ≤ w.heap.size) (hh2 : h2 ≤ w.heap.size) (hn : n ≤ 1048576) (hm : m ≤ 1048576) (hy : ∀ y ∈ ys, y.length ≤ 1048576) (hz : ∀ y ∈ zs, y.length ≤ 1048576) (hr : r = true ↔ a = b ∧ ys = zs) :
    Calls Try.prog 27 #[.agg #[.int .i64 a, .slice A n c], .agg #[.int .i64 b, .slice B m d]] w fun e w' => e = .returned (.bool r) ∧ Below w.heap.size w w' := by
  have hl1 := ha.1
  have hl2 := hb.1
  obtain ⟨V, hV⟩ : ∃ V : World, V = ((w.alloc (.cells #[.int .i64 a, .slice A n c] 26)).alloc (.cells #[.int .i64 b, .slice B m d] 26)) := ⟨_, rfl⟩
  have hbV : Below w.heap.size w V := by rw [hV]; exact ((Below.refl _ _).alloc (Nat.le_refl _) _).alloc (by simp) _
  have HB := Lib.hid hbV
  have HX1 := Lib.hid (show Box V w.heap.size 26 #[.int .i64 a, .slice A n c] by rw [hV]; exact (Box.made _ _ _).over _)
  have HX2 := Lib.hid (show Box V (w.heap.size + 1) 26 #[.int .i64 b, .slice B m d] by rw [hV]; exact Box.made_at _ _ _ (by simp))
  have HA1 := Lib.hid (ha.below hbV hh1)
  have HA2 := Lib.hid (hb.below hbV hh2)
  have HY := Lib.hid hy
  have HZ := Lib.hid hz
  clear hbV ha hb hy hz
  by_cases h : a = b ∧ n = m
  · obtain ⟨rfl, rfl⟩ := h
    have HR := Lib.hid (show r = true ↔ ys = zs by simpa using hr)
    clear hr
    have c0 := HX1.out.look 0
    have c1 := HX1.out.look 1
    have d0 := HX2.out.look 0
    have d1 := HX2.out.look 1
    go_enter Try.func27, Try.ntmps27
    go_wp2
    rw [← hV]
    clear hV
    go_loopw [5] (fun i wr => ∃ k : Nat, k ≤ n ∧ i = .int .i64 k ∧ Hid (∀ j, j < k → ys[j]? = zs[j]?) ∧ ∃ q, wr = V.drewN q) (fun i _ => n - (intOf i).toNat)
    case atStart => exact ⟨0, Nat.zero_le _, rfl, fun j hj => absurd hj (by omega), 0, rfl⟩
    case round =>
      obtain ⟨k, hk, rfl, HS, q, rfl⟩ := hrel
      by_cases hlt : k < n
      · obtain ⟨b, o, y, E, e1, c1', rfl, hya, ce, hya2⟩ := Rep.rows_at HA1.out hlt
        obtain ⟨b', o', z, E', e2, c2', rfl, hza, ce', hza2⟩ := Rep.rows_at HA2.out hlt
        have hlt' : (k : Int) < n := by omega
        have hle1 : e1 ≤ 1048576 := by have := HY.out y (List.mem_of_getElem? hya); have := hya2.1; omega
        have hle2 : e2 ≤ 1048576 := by have := HZ.out z (List.mem_of_getElem? hza); have := hza2.1; omega
        by_cases hee : e1 = e2
        · subst hee
          have HYA := Lib.hid hya
          have HZA := Lib.hid hza
          have HE1 := Lib.hid hya2
          have HE2 := Lib.hid hza2
          clear hya hza hya2 hza2
          go_wp2
          go_quiet (fail)
          go_wp2
          go_loopw [6] (fun i wr => ∃ j : Nat, j ≤ e1 ∧ i = .int .i64 j ∧ Hid (∀ t, t < j → y[t]? = z[t]?) ∧ ∃ q, wr = V.drewN q) (fun i _ => e1 - (intOf i).toNat)
          case atStart => exact ⟨0, Nat.zero_le _, rfl, fun j hj => absurd hj (by omega), _, World.drewN_drewN _ _ _⟩
          case round =>
            obtain ⟨j, hj, rfl, HT, q', rfl⟩ := hrel
            by_cases hjl : j < e1
            · obtain ⟨bb, oo, t, rfl, hyt, a0, a1, a2, a3⟩ := Rep.timer_at HE1.out hjl
              obtain ⟨bb', oo', t', rfl, hzt, b0, b1, b2, b3⟩ := Rep.timer_at HE2.out hjl
              have hjl' : (j : Int) < e1 := by omega
              by_cases he : t = t'
              · subst he
                have HE := Lib.hid (show y[j]? = z[j]? by rw [hyt, hzt])
                have ht : tmrB t t = true := (tmrB_iff t t).2 rfl
                clear hyt hzt
                go_wp2
                go_quiet (fail)
                go_wp2
                go_roundw
                case rel => exact ⟨j + 1, by omega, by go_num, fun i hi => by
                  rcases Nat.lt_succ_iff_lt_or_eq.1 hi with h | rfl
                  · exact HT.out i h
                  · exact HE.out, _, rfl⟩
                case measure => simp [intOf]; omega
              · have HN := Lib.hid (bool_of HR.out (ne_at HYA.out HZA.out (ne_at hyt hzt he)))
                have ht : tmrB t t' = false := bool_of (tmrB_iff t t') he
                clear hyt hzt he
                go_wp2
                go_quiet (fail)
                go_wp2
                go_ret
                exact ⟨by rw [HN.out]; rfl, below_drewN (below_drewN HB.out _) _⟩
            · have HE := Lib.hid (show ys[k]? = zs[k]? by rw [HYA.out, HZA.out]; exact congrArg some (eq_upto (by have := HE1.out.1; have := HE2.out.1; omega) (fun t ht => HT.out t (by have := HE1.out.1; omega))))
              go_wp2
              go_roundw
              case rel => exact ⟨k + 1, by omega, by go_num, fun j hj => by
                rcases Nat.lt_succ_iff_lt_or_eq.1 hj with h | rfl
                · exact HS.out j h
                · exact HE.out, _, rfl⟩
              case measure => simp [intOf]; omega
        · have HN := Lib.hid (bool_of HR.out (ne_at hya hza (fun e => hee (by rw [← hya2.1, ← hza2.1, e]))))
          have hee' : ((e1 : Int) == e2) = false := by simp; omega
          clear hya hza hya2 hza2
          go_wp2
          go_quiet (fail)
          go_wp2
          go_ret
          exact ⟨by rw [HN.out]; rfl, below_drewN (below_drewN HB.out _) _⟩
      · have HN := Lib.hid (HR.out.2 (eq_upto (by omega) (fun j hj => HS.out j (by omega))))
        go_wp2
        go_ret
        exact ⟨by rw [HN.out]; rfl, below_drewN HB.out _⟩
  · have HN := Lib.hid (bool_of hr (fun e => h ⟨e.1, by rw [← hl1, ← hl2, e.2]⟩))
    have c0 := HX1.out.look 0
    have c1 := HX1.out.look 1
    have d0 := HX2.out.look 0
    have d1 := HX2.out.look 1
    clear hr
    by_cases hab : a = b
    · have hee' : ((n : Int) == m) = false := by
        have : ¬ n = m := fun e => h ⟨hab, e⟩
        simp; omega
      subst hab
      clear h
      go_enter Try.func27, Try.ntmps27
      go_wp2
      rw [← hV]
      go_ret
      exact ⟨by rw [HN.out]; rfl, HB.out⟩
    · have hab' : (a == b) = false := by simpa using hab
      clear h hab
      go_enter Try.func27, Try.ntmps27
      go_wp2
      rw [← hV]
      go_ret
      exact ⟨by rw [HN.out]; rfl, HB.out⟩

end Go.Proofs.Ytiffhjofabaflaa
