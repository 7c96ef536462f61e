/-
  Both SameRoutes, slices.Equal at nodes and slices.EqualFunc at routes. No statement is proved here.
-/
import Derived.Test.YtooogjfnnmacjaaRouteLaws
import Derived.Test.YtooogjfnnmacjaaSameBase
namespace Go.Proofs.Ytooogjfnnmacjaa
open Go.RowKit
set_option linter.unusedVariables false

def ndB (a b : Nd) : Bool := decide (a.net = b.net) && decide (a.id = b.id)
theorem ndB_iff (a b : Nd) : ndB a b = true ↔ a = b := by
  cases a; cases b
  simp [ndB]
theorem neq_nd (a b : Nd) (W : World) : (binOp .neq 105 (.agg #[.bool a.net, .int .i64 a.id]) (.agg #[.bool b.net, .int .i64 b.id])).run Try.prog W = .ok (.bool (!ndB a b)) W := by
  obtain ⟨n1, i1⟩ := a
  obtain ⟨n2, i2⟩ := b
  cases n1 <;> cases n2 <;> by_cases h2 : i1 = i2 <;> simp [go_sem, ndB, h2]
theorem eql_nd (a b : Nd) (W : World) : (binOp .eql 105 (.agg #[.bool a.net, .int .i64 a.id]) (.agg #[.bool b.net, .int .i64 b.id])).run Try.prog W = .ok (.bool (ndB a b)) W := by
  obtain ⟨n1, i1⟩ := a
  obtain ⟨n2, i2⟩ := b
  cases n1 <;> cases n2 <;> by_cases h2 : i1 = i2 <;> simp [go_sem, ndB, h2]

attribute [local go_sem high] neq_nd eql_nd

set_option maxHeartbeats 1600000 in
theorem equalN_any (q1 q2 : Bool) (l1 h1 l2 h2 : Nat) (A B : Option Addr) (n m c d : Nat) (ys zs : List Nd) (r : Bool) (w : World) (ha : Rep.node.Sl q1 l1 h1 w A n ys) (hb : Rep.node.Sl q2 l2 h2 w B m zs) (hn : n ≤ 1048576) (hm : m ≤ 1048576) (hr : r = true ↔ ys = zs) :
    Calls Try.prog 181 #[.slice A n c, .slice B m d] w fun e w' => e = .returned (.bool r) ∧ ∃ q, w' = w.drewN q := by
  have hl1 := ha.1
  have hl2 := hb.1
  by_cases hnm : n = m
  · subst hnm
    go_enter Try.func181, Try.ntmps181
    go_wp2
    go_loopw [13] (fun i wr => ∃ k : Nat, k ≤ n ∧ i = .int .i64 k ∧ Hid (∀ j, j < k → ys[j]? = zs[j]?) ∧ ∃ q, wr = w.drewN q) (fun i _ => n - (intOf i).toNat)
    case atStart => exact ⟨0, Nat.zero_le _, rfl, fun j hj => absurd hj (by omega), 0, rfl⟩
    case round =>
      obtain ⟨k, hk, rfl, HS, q, rfl⟩ := hrel
      by_cases hlt : k < n
      · obtain ⟨b, o, a, rfl, hya, a0, a1⟩ := Rep.node_at ha hlt
        obtain ⟨b', o', a', rfl, hza, b0, b1⟩ := Rep.node_at hb hlt
        have hlt' : (k : Int) < n := by omega
        by_cases he : a = a'
        · subst he
          have HE := Lib.hid (show ys[k]? = zs[k]? by rw [hya, hza])
          have ht : ndB a a = true := (ndB_iff a a).2 rfl
          clear hya hza
          go_wp2
          go_quiet (fail)
          go_wp2
          go_roundw
          case rel => exact ⟨k + 1, by omega, by go_num, fun j hj => by
            rcases Nat.lt_succ_iff_lt_or_eq.1 hj with h | rfl
            · exact HS.out j h
            · exact HE.out, _, rfl⟩
          case measure => simp [intOf]; omega
        · have HR := Lib.hid (bool_of hr (ne_at hya hza he))
          have ht : ndB a a' = false := bool_of (ndB_iff a a') he
          clear hya hza he
          go_wp2
          go_quiet (fail)
          go_wp2
          go_ret
          exact ⟨by rw [HR.out]; rfl, _, World.drewN_drewN _ _ _⟩
      · have HR := Lib.hid (hr.2 (eq_upto (by omega) (fun j hj => HS.out j (by omega))))
        go_wp2
        go_ret
        exact ⟨by rw [HR.out]; rfl, _, rfl⟩
  · have HR := Lib.hid (bool_of hr (fun e => hnm (by rw [← hl1, ← hl2, e])))
    have hne : ((n : Int) == m) = false := by simp; omega
    clear hr
    go_enter Try.func181, Try.ntmps181
    go_wp2
    go_ret
    exact ⟨by rw [HR.out]; rfl, 0, rfl⟩


set_option maxHeartbeats 1600000 in
theorem sameRoute_any (x y : Rt) (q1 q2 : Bool) (l1 h1 l2 h2 : Nat) (A B : Option Addr) (n m c d : Nat) (r : Bool) (w : World) (ha : Rep.node.Sl q1 l1 h1 w A n x.hops) (hb : Rep.node.Sl q2 l2 h2 w B m y.hops) (hh1 : h1 ≤ w.heap.size) (hh2 : h2 ≤ w.heap.size) (hn : n ≤ 1048576) (hm : m ≤ 1048576) (hr : r = true ↔ x = y) :
    Calls Try.prog 154 #[.agg (rtCells x A n c), .agg (rtCells y B m d)] w fun e w' => e = .returned (.bool r) ∧ Below w.heap.size w w' := by
  have hV : Below w.heap.size w ((w.alloc (.cells (rtCells x A n c) 201)).alloc (.cells (rtCells y B m d) 201)) := ((Below.refl _ _).alloc (Nat.le_refl _) _).alloc (by simp) _
  have HB := Lib.hid hV
  have HA1 := Lib.hid (ha.below hV hh1)
  have HA2 := Lib.hid (hb.below hV hh2)
  clear hV ha hb
  by_cases h : x.to = y.to
  · have ht : ndB x.to y.to = true := (ndB_iff _ _).2 h
    by_cases h2 : x.cost = y.cost
    · have HR := Lib.hid (show r = true ↔ x.hops = y.hops by rw [hr]; cases x; cases y; simp at h h2 ⊢; exact ⟨fun e => e.2.2, fun e => ⟨h, h2, e⟩⟩)
      have h2' : (x.cost == y.cost) = true := by simpa using h2
      clear hr h h2
      go_enter Try.func154, Try.ntmps154
      go_wp2_with fail
      refine (equalN_any q1 q2 l1 h1 l2 h2 A B n m c d x.hops y.hops r _ HA1.out HA2.out hn hm HR.out).mono ?_
      rintro e w2 ⟨rfl, p, rfl⟩
      go_wp2
      go_ret
      exact ⟨rfl, below_drewN HB.out p⟩
    · have HR := Lib.hid (bool_of hr (fun e => h2 (by rw [e])))
      have h2' : (x.cost == y.cost) = false := by simpa using h2
      clear hr h h2
      go_enter Try.func154, Try.ntmps154
      go_wp2
      go_ret
      exact ⟨by rw [HR.out]; rfl, HB.out⟩
  · have HR := Lib.hid (bool_of hr (fun e => h (by rw [e])))
    have ht : ndB x.to y.to = false := bool_of (ndB_iff _ _) h
    clear hr h
    go_enter Try.func154, Try.ntmps154
    go_wp2
    go_ret
    exact ⟨by rw [HR.out]; rfl, HB.out⟩

/-- A function value that is sameRoute. -/
abbrev sameRtV : Value := .func (.func 154) #[] #[]

set_option maxRecDepth 100000 in
set_option maxHeartbeats 3200000 in
theorem equalFuncR_any (q1 q2 : Bool) (l1 h1 l2x h2 : Nat) (A B : Option Addr) (n m c d : Nat) (ys zs : List Rt) (r : Bool) (w : World) (ha : Rep.route.Sl q1 l1 h1 w A n ys) (hb : Rep.route.Sl q2 l2x h2 w B m zs) (hh1 : h1 ≤ w.heap.size) (hh2 : h2 ≤ w.heap.size) (hn : n ≤ 1048576) (hm : m ≤ 1048576) (hy : ∀ y ∈ ys, y.hops.length ≤ 1048576) (hz : ∀ y ∈ zs, y.hops.length ≤ 1048576) (hr : r = true ↔ ys = zs) :
    Calls Try.prog 153 #[.slice A n c, .slice B m d, sameRtV] w fun e w' => e = .returned (.bool r) ∧ Below w.heap.size w w' := by
  have hl1 := ha.1
  have hl2 := hb.1
  have HY := Lib.hid hy
  have HZ := Lib.hid hz
  clear hy hz
  by_cases hnm : n = m
  · subst hnm
    go_enter Try.func153, Try.ntmps153
    go_wp2
    go_loopw [17] (fun i wr => ∃ k : Nat, k ≤ n ∧ i = .int .i64 k ∧ Hid (∀ j, j < k → ys[j]? = zs[j]?) ∧ Hid (Below w.heap.size w wr)) (fun i _ => n - (intOf i).toNat)
    case atStart => exact ⟨0, Nat.zero_le _, rfl, fun j hj => absurd hj (by omega), Below.refl _ _⟩
    case round =>
      obtain ⟨k, hk, rfl, HS, HB⟩ := hrel
      by_cases hlt : k < n
      · obtain ⟨b, o, l, E, m1, c1, rfl, hya, hyl, a0, a1, a2, a3⟩ := Rep.route_at (ha.below HB.out hh1) hlt
        obtain ⟨b2, o2, l2, E2, m2, c2, rfl, hza, hzl, e0, e1, e2, e3⟩ := Rep.route_at (hb.below HB.out hh2) hlt
        have hlt' : (k : Int) < n := by omega
        have hym := HY.out _ (List.mem_of_getElem? hya)
        have hzm := HZ.out _ (List.mem_of_getElem? hza)
        rw [show l.hops.length = m1 from hyl.1] at hym
        rw [show l2.hops.length = m2 from hzl.1] at hzm
        have HL := Rep.Sl.kept hyl (Nat.le_trans hh1 HB.out.size)
        have HK := Rep.Sl.kept hzl (Nat.le_trans hh2 HB.out.size)
        have hbl := World.block_lt_of_cell? wr _ a0
        have hbl2 := World.block_lt_of_cell? wr _ e0
        simp only [] at hbl hbl2
        obtain ⟨r1, hr1⟩ : ∃ r1, decide (l = l2) = r1 := ⟨_, rfl⟩
        have HR1 := Lib.hid hr1
        have HYA := Lib.hid hya
        have HZA := Lib.hid hza
        clear hya hza hyl hzl hr1
        cases r1 with
        | true =>
          have HE : Hid (ys[k]? = zs[k]?) := Lib.hid (by rw [HYA.out, HZA.out, of_decide_eq_true HR1.out])
          go_wp2_with fail
          clear a0 a1 a2 a3 e0 e1 e2 e3 hbl hbl2
          refine Calls.name ?_
          intro U hU
          have hbU : Below wr.heap.size wr U := by rw [hU]; exact ((Below.refl _ _).alloc (Nat.le_refl _) _).alloc (by simp) _
          have HBU := Lib.hid (below_step HB.out hbU)
          have HLU := HL.below hbU
          have HKU := HK.below hbU
          clear hU hbU
          refine (sameRoute_any l l2 q1 q2 l1 h1 l2x h2 E E2 m1 m2 c1 c2 true _ HLU.sl HKU.sl HLU.le HKU.le hym hzm ⟨fun _ => of_decide_eq_true HR1.out, fun _ => rfl⟩).mono ?_
          rintro e w2 ⟨rfl, hb2⟩
          have HB2 := Lib.hid (below_step HBU.out hb2)
          clear hb2
          go_wp2
          go_roundw
          case rel => exact ⟨k + 1, by omega, by go_num, fun j hj => by
            rcases Nat.lt_succ_iff_lt_or_eq.1 hj with h | rfl
            · exact HS.out j h
            · exact HE.out, HB2.out⟩
          case measure => simp [intOf]; omega
        | false =>
          have HR := Lib.hid (bool_of hr (ne_at HYA.out HZA.out (of_decide_eq_false HR1.out)))
          clear hr
          go_wp2_with fail
          clear a0 a1 a2 a3 e0 e1 e2 e3 hbl hbl2
          refine Calls.name ?_
          intro U hU
          have hbU : Below wr.heap.size wr U := by rw [hU]; exact ((Below.refl _ _).alloc (Nat.le_refl _) _).alloc (by simp) _
          have HBU := Lib.hid (below_step HB.out hbU)
          have HLU := HL.below hbU
          have HKU := HK.below hbU
          clear hU hbU
          refine (sameRoute_any l l2 q1 q2 l1 h1 l2x h2 E E2 m1 m2 c1 c2 false _ HLU.sl HKU.sl HLU.le HKU.le hym hzm ⟨fun h => absurd h (by simp), fun h => absurd h (of_decide_eq_false HR1.out)⟩).mono ?_
          rintro e w2 ⟨rfl, hb2⟩
          have HB2 := Lib.hid (below_step HBU.out hb2)
          clear hb2
          go_wp2
          go_ret
          exact ⟨by rw [HR.out]; rfl, HB2.out⟩
      · have HR := Lib.hid (hr.2 (eq_upto (by omega) (fun j hj => HS.out j (by omega))))
        go_wp2
        go_ret
        exact ⟨by rw [HR.out]; rfl, HB.out⟩
  · have HR := Lib.hid (bool_of hr (fun e => hnm (by rw [← hl1, ← hl2, e])))
    have hne : ((n : Int) == m) = false := by simp; omega
    clear hr
    go_enter Try.func153, Try.ntmps153
    go_wp2
    go_ret
    exact ⟨by rw [HR.out]; rfl, Below.refl _ _⟩

set_option maxHeartbeats 1600000 in
theorem sameRoutes_any (q1 q2 : Bool) (l1 h1 l2x h2 : Nat) (A B : Option Addr) (n m c d : Nat) (ys zs : List Rt) (r : Bool) (w : World) (ha : Rep.route.Sl q1 l1 h1 w A n ys) (hb : Rep.route.Sl q2 l2x h2 w B m zs) (hh1 : h1 ≤ w.heap.size) (hh2 : h2 ≤ w.heap.size) (hn : n ≤ 1048576) (hm : m ≤ 1048576) (hy : ∀ y ∈ ys, y.hops.length ≤ 1048576) (hz : ∀ y ∈ zs, y.hops.length ≤ 1048576) (hr : r = true ↔ ys = zs) :
    Calls Try.prog 78 #[.slice A n c, .slice B m d] w fun e w' => e = .returned (.bool r) ∧ Below w.heap.size w w' := by
  have HA1 := Rep.Sl.kept ha hh1
  have HA2 := Rep.Sl.kept hb hh2
  have HY := Lib.hid hy
  have HZ := Lib.hid hz
  have HR := Lib.hid hr
  clear ha hb hy hz hr
  go_enter Try.func78, Try.ntmps78
  go_wp2_with fail
  refine (equalFuncR_any q1 q2 l1 h1 l2x h2 A B n m c d ys zs r _ HA1.sl HA2.sl HA1.le HA2.le hn hm HY.out HZ.out HR.out).mono ?_
  rintro e w2 ⟨rfl, hb⟩
  have HB2 := Lib.hid hb
  clear hb
  go_wp2
  go_ret
  exact ⟨rfl, HB2.out⟩

set_option maxRecDepth 100000 in
set_option maxHeartbeats 3200000 in
theorem specSameRoutes_any (q1 q2 : Bool) (l1 h1 l2x h2 : Nat) (A B : Option Addr) (n m c d : Nat) (ys zs : List Rt) (r : Bool) (w : World) (ha : Rep.route.Sl q1 l1 h1 w A n ys) (hb : Rep.route.Sl q2 l2x h2 w B m zs) (hh1 : h1 ≤ w.heap.size) (hh2 : h2 ≤ w.heap.size) (hn : n ≤ 1048576) (hm : m ≤ 1048576) (hy : ∀ y ∈ ys, y.hops.length ≤ 1048576) (hz : ∀ y ∈ zs, y.hops.length ≤ 1048576) (hr : r = true ↔ ys = zs) :
    Calls Try.prog 77 #[.slice A n c, .slice B m d] w fun e w' => e = .returned (.bool r) ∧ Below w.heap.size w w' := by
  have hl1 := ha.1
  have hl2 := hb.1
  have HA1 := Lib.hid ha
  have HA2 := Lib.hid hb
  have HY := Lib.hid hy
  have HZ := Lib.hid hz
  clear ha hb hy hz
  by_cases hnm : n = m
  rotate_left
  · have HN := Lib.hid (bool_of hr (fun e => hnm (by rw [← hl1, ← hl2, e])))
    have h' : ((n : Int) != m) = true := by simp; omega
    clear hr
    go_enter Try.func77, Try.ntmps77
    go_wp2
    go_ret
    exact ⟨by rw [HN.out]; rfl, Below.refl _ _⟩
  · subst hnm
    have HR := Lib.hid hr
    clear hr
    go_enter Try.func77, Try.ntmps77
    go_wp2
    go_loopw [5] (fun i wr => ∃ k : Nat, k ≤ n ∧ i = .int .i64 k ∧ Hid (∀ j, j < k → ys[j]? = zs[j]?) ∧ ∃ q, wr = w.drewN q) (fun i _ => n - (intOf i).toNat)
    case atStart => exact ⟨0, Nat.zero_le _, rfl, fun j hj => absurd hj (by omega), 0, rfl⟩
    case round =>
      obtain ⟨k, hk, rfl, HS, q, rfl⟩ := hrel
      by_cases hlt : k < n
      · obtain ⟨b, o, y, E, e1, c1, rfl, hya, hya2, a0, a1, a2, a3⟩ := Rep.route_at HA1.out hlt
        obtain ⟨b', o', z, E', e2, c2, rfl, hza, hza2, b0, b1, b2, b3⟩ := Rep.route_at HA2.out hlt
        have hlt' : (k : Int) < n := by omega
        have hle1 : e1 ≤ 1048576 := by have := HY.out y (List.mem_of_getElem? hya); have := hya2.1; omega
        have hle2 : e2 ≤ 1048576 := by have := HZ.out z (List.mem_of_getElem? hza); have := hza2.1; omega
        by_cases hto : y.to = z.to
        rotate_left
        · have HN := Lib.hid (bool_of HR.out (ne_at hya hza (fun e => hto (by rw [e]))))
          have ht : ndB y.to z.to = false := bool_of (ndB_iff _ _) hto
          clear hya hza hya2 hza2 hto
          go_wp2
          go_quiet (fail)
          go_wp2
          go_ret
          exact ⟨by rw [HN.out]; rfl, below_drewN (below_drewN (Below.refl _ _) _) _⟩
        have ht : ndB y.to z.to = true := (ndB_iff _ _).2 hto
        by_cases hco : y.cost = z.cost
        rotate_left
        · have HN := Lib.hid (bool_of HR.out (ne_at hya hza (fun e => hco (by rw [e]))))
          have hc1 : (y.cost == z.cost) = false := by simpa using hco
          have hc2 : (y.cost != z.cost) = true := by simpa using hco
          clear hya hza hya2 hza2 hto hco
          go_wp2
          go_quiet (fail)
          go_wp2
          go_ret
          exact ⟨by rw [HN.out]; rfl, below_drewN (below_drewN (Below.refl _ _) _) _⟩
        have hc1 : (y.cost == z.cost) = true := by simpa using hco
        have hc2 : (y.cost != z.cost) = false := by simpa using hco
        by_cases hee : e1 = e2
        rotate_left
        · have HN := Lib.hid (bool_of HR.out (ne_at hya hza (fun e => hee (by rw [← hya2.1, ← hza2.1, e]))))
          have hee' : ((e1 : Int) == e2) = false := by simp; omega
          have hee2 : ((e1 : Int) != e2) = true := by simp; omega
          clear hya hza hya2 hza2 hto hco
          go_wp2
          go_quiet (fail)
          go_wp2
          go_ret
          exact ⟨by rw [HN.out]; rfl, below_drewN (below_drewN (Below.refl _ _) _) _⟩
        subst hee
        have HYA := Lib.hid hya
        have HZA := Lib.hid hza
        have HE1 := Lib.hid hya2
        have HE2 := Lib.hid hza2
        have HTO := Lib.hid hto
        have HCO := Lib.hid hco
        clear hya hza hya2 hza2 hto hco
        go_wp2
        go_quiet (fail)
        go_wp2
        go_loopw [6] (fun i wr => ∃ j : Nat, j ≤ e1 ∧ i = .int .i64 j ∧ Hid (∀ t, t < j → y.hops[t]? = z.hops[t]?) ∧ ∃ q, wr = w.drewN q) (fun i _ => e1 - (intOf i).toNat)
        case atStart => exact ⟨0, Nat.zero_le _, rfl, fun j hj => absurd hj (by omega), _, World.drewN_drewN _ _ _⟩
        case round =>
          obtain ⟨j, hj, rfl, HT, q', rfl⟩ := hrel
          by_cases hjl : j < e1
          · obtain ⟨bb, oo, t, rfl, hyt, d0, d1⟩ := Rep.node_at HE1.out hjl
            obtain ⟨bb', oo', t', rfl, hzt, g0, g1⟩ := Rep.node_at HE2.out hjl
            have hjl' : (j : Int) < e1 := by omega
            by_cases he : t = t'
            · subst he
              have HE := Lib.hid (show y.hops[j]? = z.hops[j]? by rw [hyt, hzt])
              have ht2 : ndB t t = true := (ndB_iff t t).2 rfl
              clear hyt hzt
              go_wp2
              go_quiet (fail)
              go_wp2
              go_roundw
              case rel => exact ⟨j + 1, by omega, by go_num, fun i hi => by
                rcases Nat.lt_succ_iff_lt_or_eq.1 hi with h | rfl
                · exact HT.out i h
                · exact HE.out, _, rfl⟩
              case measure => simp [intOf]; omega
            · have HN := Lib.hid (bool_of HR.out (ne_at HYA.out HZA.out (fun e => (ne_at hyt hzt he) (by rw [e]))))
              have ht2 : ndB t t' = false := bool_of (ndB_iff t t') he
              clear hyt hzt he
              go_wp2
              go_quiet (fail)
              go_wp2
              go_ret
              exact ⟨by rw [HN.out]; rfl, below_drewN (below_drewN (Below.refl _ _) _) _⟩
          · have HE := Lib.hid (show ys[k]? = zs[k]? by rw [HYA.out, HZA.out]; exact congrArg some (by
              have h3 : y.hops = z.hops := eq_upto (by have := HE1.out.1; have := HE2.out.1; omega) (fun t ht => HT.out t (by have := HE1.out.1; omega))
              have h1 := HTO.out
              have h2 := HCO.out
              cases y; cases z
              simp at h1 h2 h3 ⊢
              exact ⟨h1, h2, h3⟩))
            go_wp2
            go_roundw
            case rel => exact ⟨k + 1, by omega, by go_num, fun j hj => by
              rcases Nat.lt_succ_iff_lt_or_eq.1 hj with h | rfl
              · exact HS.out j h
              · exact HE.out, _, rfl⟩
            case measure => simp [intOf]; omega
      · have HN := Lib.hid (HR.out.2 (eq_upto (by omega) (fun j hj => HS.out j (by omega))))
        go_wp2
        go_ret
        exact ⟨by rw [HN.out]; rfl, below_drewN (Below.refl _ _) _⟩

end Go.Proofs.Ytooogjfnnmacjaa
