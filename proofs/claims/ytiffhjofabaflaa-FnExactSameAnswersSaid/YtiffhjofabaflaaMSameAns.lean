/-
  Both SameAnswers. No statement is proved here.
-/
import Derived.Test.YtiffhjofabaflaaMAnsLaws
import Derived.Test.YtiffhjofabaflaaSameQueue
import Derived.Test.YtiffhjofabaflaaSameBase
import Derived.Test.YtiffhjofabaflaaSameSpec
namespace Go.Proofs.Ytiffhjofabaflaa
open Go.RowKit
set_option linter.unusedVariables false

attribute [local go_sem high] neq_item
set_option maxHeartbeats 1600000 in
theorem l8SameItems_any (q1 q2 : Bool) (l1 h1 l2 h2 : Nat) (A B : Option Addr) (n m c d : Nat) (ys zs : List Tmr) (r : Bool) (w : World) (ha : Rep.timer.Sl q1 l1 h1 w A n ys) (hb : Rep.timer.Sl q2 l2 h2 w B m zs) (hn : n ≤ 1048576) (hm : m ≤ 1048576) (hr : r = true ↔ ys = zs) :
    Calls Try.prog 160 #[.slice A n c, .slice B m d] w fun e w' => e = .returned (.bool r) ∧ ∃ q, w' = w.drewN q := by
  have hl1 := ha.1
  have hl2 := hb.1
  by_cases hnm : n = m
  · subst hnm
    go_enter Try.func160, Try.ntmps160
    go_wp2
    go_loopw [5] (fun i wr => ∃ k : Nat, k ≤ n ∧ i = .int .i64 k ∧ Hid (∀ j, j < k → ys[j]? = zs[j]?) ∧ ∃ q, wr = w.drewN q) (fun i _ => n - (intOf i).toNat)
    case atStart => exact ⟨0, Nat.zero_le _, rfl, fun j hj => absurd hj (by omega), 0, rfl⟩
    case round =>
      obtain ⟨k, hk, rfl, HS, q, rfl⟩ := hrel
      by_cases hlt : k < n
      · obtain ⟨b, o, a, rfl, hya, a0, a1, a2, a3⟩ := Rep.timer_at ha hlt
        obtain ⟨b', o', a', rfl, hza, b0, b1, b2, b3⟩ := Rep.timer_at hb hlt
        have hlt' : (k : Int) < n := by omega
        by_cases he : a = a'
        · subst he
          have HE := Lib.hid (show ys[k]? = zs[k]? by rw [hya, hza])
          have ht : tmrB a a = true := (tmrB_iff a a).2 rfl
          clear hya hza
          go_wp2
          go_quiet (fail)
          go_wp2
          go_roundw
          case rel => exact ⟨k + 1, by omega, by go_num, fun j hj => by
            rcases Nat.lt_succ_iff_lt_or_eq.1 hj with h | rfl
            · exact HS.out j h
            · exact HE.out, _, rfl⟩
          case measure => simp [intOf]; omega
        · have HR := Lib.hid (bool_of hr (ne_at hya hza he))
          have ht : tmrB a a' = false := bool_of (tmrB_iff a a') he
          clear hya hza he
          go_wp2
          go_quiet (fail)
          go_wp2
          go_ret
          exact ⟨by rw [HR.out]; rfl, _, World.drewN_drewN _ _ _⟩
      · have HR := Lib.hid (hr.2 (eq_upto (by omega) (fun j hj => HS.out j (by omega))))
        go_wp2
        go_ret
        exact ⟨by rw [HR.out]; rfl, _, rfl⟩
  · have HR := Lib.hid (bool_of hr (fun e => hnm (by rw [← hl1, ← hl2, e])))
    have hne : ((n : Int) == m) = false := by simp; omega
    clear hr
    go_enter Try.func160, Try.ntmps160
    go_wp2
    go_ret
    exact ⟨by rw [HR.out]; rfl, 0, rfl⟩


theorem ans_eq {a b : AnsM} (h1 : a.code = b.code) (h2 : a.ch = b.ch) (h3 : a.l = b.l) (h4 : a.now = b.now ∧ a.es = b.es) (h5 : a.mrk = b.mrk) (h6 : a.items = b.items) : a = b := by
  cases a; cases b; obtain ⟨h4, h4'⟩ := h4; simp_all
theorem AnsFit.lens {bb : Nat} {a : AnsM} (h : AnsFit bb a) : a.l.links.length ≤ bb ∧ a.l.routers.length ≤ bb ∧ a.es.length ≤ bb ∧ a.items.length ≤ bb := ⟨h.1, h.2.1, h.2.2.1, h.2.2.2.2⟩

set_option maxRecDepth 100000 in
set_option maxHeartbeats 12800000 in
theorem sameAnswers_any (a b : AnsM) (q1 q2 : Bool) (l1 h1 l2 h2 : Nat) (A B E G : Option Addr) (n c m d k f g j : Nat) (A2 B2 E2 G2 : Option Addr) (n2 c2 m2 d2 k2 f2 g2 j2 : Nat) (r : Bool) (w : World) (ha : AnsIn q1 l1 h1 w A n B m E k G g a) (hb : AnsIn q2 l2 h2 w A2 n2 B2 m2 E2 k2 G2 g2 b) (hh1 : h1 ≤ w.heap.size) (hh2 : h2 ≤ w.heap.size) (hf : AnsFit 1048576 a) (hf2 : AnsFit 1048576 b) (hr : r = true ↔ a = b) :
    Calls Try.prog 81 #[.agg #[.int .i64 a.code, .bool a.ch, .int .i64 a.l.age, .int .i64 a.l.options, .int .i64 a.l.typ, .int .i64 a.l.id, .int .i64 a.l.adv, .int .i64 a.l.seq, .slice A n c, .slice B m d, .int .i64 a.l.mask, .int .i64 a.l.cost, .int .i64 a.now, .slice E k f, .bool a.mrk, .slice G g j], .agg #[.int .i64 b.code, .bool b.ch, .int .i64 b.l.age, .int .i64 b.l.options, .int .i64 b.l.typ, .int .i64 b.l.id, .int .i64 b.l.adv, .int .i64 b.l.seq, .slice A2 n2 c2, .slice B2 m2 d2, .int .i64 b.l.mask, .int .i64 b.l.cost, .int .i64 b.now, .slice E2 k2 f2, .bool b.mrk, .slice G2 g2 j2]] w fun e w' => e = .returned (.bool r) ∧ Below w.heap.size w w' := by
  obtain ⟨L1, L2, L3, L4⟩ := ha.lens
  obtain ⟨M1, M2, M3, M4⟩ := hb.lens
  have HF := Lib.hid hf
  have HF2 := Lib.hid hf2
  have hnn : n ≤ 1048576 := by have := hf.1; omega
  have hmm : m ≤ 1048576 := by have := hf.2.1; omega
  have hee : k ≤ 1048576 := by have := hf.2.2.1; omega
  have hgg : g ≤ 1048576 := by have := hf.2.2.2.2; omega
  have hnn2 : n2 ≤ 1048576 := by have := hf2.1; omega
  have hmm2 : m2 ≤ 1048576 := by have := hf2.2.1; omega
  have hee2 : k2 ≤ 1048576 := by have := hf2.2.2.1; omega
  have hgg2 : g2 ≤ 1048576 := by have := hf2.2.2.2.2; omega
  have HA := ha.kept hh1
  have HC := hb.kept hh2
  clear ha hb hf hf2 L1 L2 L3 L4 M1 M2 M3 M4
  by_cases h0 : ¬ a.code = b.code
  · have HB := Lib.hid (Below.refl w.heap.size w)
    have hc0 : (a.code == b.code) = false := by simpa using h0
    obtain rfl : r = false := by cases r with | false => rfl | true => exact absurd (by rw [hr.1 rfl]) h0
    clear hr h0
    go_enter Try.func81, Try.ntmps81
    go_wp2
    obtain ⟨U1, hU1⟩ : ∃ W : World, W = ((w.alloc (.cells #[.int .i64 a.code, .bool a.ch, .int .i64 a.l.age, .int .i64 a.l.options, .int .i64 a.l.typ, .int .i64 a.l.id, .int .i64 a.l.adv, .int .i64 a.l.seq, .slice A n c, .slice B m d, .int .i64 a.l.mask, .int .i64 a.l.cost, .int .i64 a.now, .slice E k f, .bool a.mrk, .slice G g j] 128)).alloc (.cells #[.int .i64 b.code, .bool b.ch, .int .i64 b.l.age, .int .i64 b.l.options, .int .i64 b.l.typ, .int .i64 b.l.id, .int .i64 b.l.adv, .int .i64 b.l.seq, .slice A2 n2 c2, .slice B2 m2 d2, .int .i64 b.l.mask, .int .i64 b.l.cost, .int .i64 b.now, .slice E2 k2 f2, .bool b.mrk, .slice G2 g2 j2] 128)) := ⟨_, rfl⟩
    have hb : Below w.heap.size w U1 := by rw [hU1]; exact (((Below.refl _ _).alloc (Nat.le_refl _) _).alloc (by simp <;> omega) _)
    have zz : Hid (w.heap.size + 2 = U1.heap.size) := Lib.hid (by rw [hU1]; simp)
    have HX1 : Kept w.heap.size (w.heap.size + 1) (BoxK w.heap.size 128 #[.int .i64 a.code, .bool a.ch, .int .i64 a.l.age, .int .i64 a.l.options, .int .i64 a.l.typ, .int .i64 a.l.id, .int .i64 a.l.adv, .int .i64 a.l.seq, .slice A n c, .slice B m d, .int .i64 a.l.mask, .int .i64 a.l.cost, .int .i64 a.now, .slice E k f, .bool a.mrk, .slice G g j]) U1 := by rw [hU1]; exact Kept.box ((Box.made_at _ _ _ rfl).over _)
    have HX2 : Kept (w.heap.size + 1) (w.heap.size + 1 + 1) (BoxK (w.heap.size + 1) 128 #[.int .i64 b.code, .bool b.ch, .int .i64 b.l.age, .int .i64 b.l.options, .int .i64 b.l.typ, .int .i64 b.l.id, .int .i64 b.l.adv, .int .i64 b.l.seq, .slice A2 n2 c2, .slice B2 m2 d2, .int .i64 b.l.mask, .int .i64 b.l.cost, .int .i64 b.now, .slice E2 k2 f2, .bool b.mrk, .slice G2 g2 j2]) U1 := by rw [hU1]; exact Kept.box (Box.made_at _ _ _ (by simp <;> omega))
    replace HA := HA.below hb
    replace HC := HC.below hb
    replace HB := Lib.hid (below_step HB.out hb)
    clear hb
    have Z1 := zz; clear zz
    subst hU1
    go_ret
    exact ⟨rfl, HB.out⟩
  by_cases h1' : ¬ a.ch = b.ch
  · have HB := Lib.hid (Below.refl w.heap.size w)
    have hc0 : (a.code == b.code) = true := by simpa using h0
    have hc1 : (a.ch == b.ch) = false := by simpa using h1'
    obtain rfl : r = false := by cases r with | false => rfl | true => exact absurd (by rw [hr.1 rfl]) h1'
    clear hr h0 h1'
    go_enter Try.func81, Try.ntmps81
    go_wp2
    obtain ⟨U1, hU1⟩ : ∃ W : World, W = ((w.alloc (.cells #[.int .i64 a.code, .bool a.ch, .int .i64 a.l.age, .int .i64 a.l.options, .int .i64 a.l.typ, .int .i64 a.l.id, .int .i64 a.l.adv, .int .i64 a.l.seq, .slice A n c, .slice B m d, .int .i64 a.l.mask, .int .i64 a.l.cost, .int .i64 a.now, .slice E k f, .bool a.mrk, .slice G g j] 128)).alloc (.cells #[.int .i64 b.code, .bool b.ch, .int .i64 b.l.age, .int .i64 b.l.options, .int .i64 b.l.typ, .int .i64 b.l.id, .int .i64 b.l.adv, .int .i64 b.l.seq, .slice A2 n2 c2, .slice B2 m2 d2, .int .i64 b.l.mask, .int .i64 b.l.cost, .int .i64 b.now, .slice E2 k2 f2, .bool b.mrk, .slice G2 g2 j2] 128)) := ⟨_, rfl⟩
    have hb : Below w.heap.size w U1 := by rw [hU1]; exact (((Below.refl _ _).alloc (Nat.le_refl _) _).alloc (by simp <;> omega) _)
    have zz : Hid (w.heap.size + 2 = U1.heap.size) := Lib.hid (by rw [hU1]; simp)
    have HX1 : Kept w.heap.size (w.heap.size + 1) (BoxK w.heap.size 128 #[.int .i64 a.code, .bool a.ch, .int .i64 a.l.age, .int .i64 a.l.options, .int .i64 a.l.typ, .int .i64 a.l.id, .int .i64 a.l.adv, .int .i64 a.l.seq, .slice A n c, .slice B m d, .int .i64 a.l.mask, .int .i64 a.l.cost, .int .i64 a.now, .slice E k f, .bool a.mrk, .slice G g j]) U1 := by rw [hU1]; exact Kept.box ((Box.made_at _ _ _ rfl).over _)
    have HX2 : Kept (w.heap.size + 1) (w.heap.size + 1 + 1) (BoxK (w.heap.size + 1) 128 #[.int .i64 b.code, .bool b.ch, .int .i64 b.l.age, .int .i64 b.l.options, .int .i64 b.l.typ, .int .i64 b.l.id, .int .i64 b.l.adv, .int .i64 b.l.seq, .slice A2 n2 c2, .slice B2 m2 d2, .int .i64 b.l.mask, .int .i64 b.l.cost, .int .i64 b.now, .slice E2 k2 f2, .bool b.mrk, .slice G2 g2 j2]) U1 := by rw [hU1]; exact Kept.box (Box.made_at _ _ _ (by simp <;> omega))
    replace HA := HA.below hb
    replace HC := HC.below hb
    replace HB := Lib.hid (below_step HB.out hb)
    clear hb
    have Z1 := zz; clear zz
    subst hU1
    go_ret
    exact ⟨rfl, HB.out⟩
  by_cases h2' : ¬ a.l = b.l
  · have HB := Lib.hid (Below.refl w.heap.size w)
    have hc0 : (a.code == b.code) = true := by simpa using h0
    have hc1 : (a.ch == b.ch) = true := by simpa using h1'
    have HD := Lib.hid (decide_eq_false h2')
    obtain rfl : r = false := by cases r with | false => rfl | true => exact absurd (by rw [hr.1 rfl]) h2'
    clear hr h0 h1' h2'
    go_enter Try.func81, Try.ntmps81
    go_wp2_with fail
    refine Calls.name ?_
    intro U1 hU1
    have hb : Below w.heap.size w U1 := by rw [hU1]; exact (((Below.refl _ _).alloc (Nat.le_refl _) _).alloc (by simp <;> omega) _)
    have zz : Hid (w.heap.size + 2 = U1.heap.size) := Lib.hid (by rw [hU1]; simp)
    have HX1 : Kept w.heap.size (w.heap.size + 1) (BoxK w.heap.size 128 #[.int .i64 a.code, .bool a.ch, .int .i64 a.l.age, .int .i64 a.l.options, .int .i64 a.l.typ, .int .i64 a.l.id, .int .i64 a.l.adv, .int .i64 a.l.seq, .slice A n c, .slice B m d, .int .i64 a.l.mask, .int .i64 a.l.cost, .int .i64 a.now, .slice E k f, .bool a.mrk, .slice G g j]) U1 := by rw [hU1]; exact Kept.box ((Box.made_at _ _ _ rfl).over _)
    have HX2 : Kept (w.heap.size + 1) (w.heap.size + 1 + 1) (BoxK (w.heap.size + 1) 128 #[.int .i64 b.code, .bool b.ch, .int .i64 b.l.age, .int .i64 b.l.options, .int .i64 b.l.typ, .int .i64 b.l.id, .int .i64 b.l.adv, .int .i64 b.l.seq, .slice A2 n2 c2, .slice B2 m2 d2, .int .i64 b.l.mask, .int .i64 b.l.cost, .int .i64 b.now, .slice E2 k2 f2, .bool b.mrk, .slice G2 g2 j2]) U1 := by rw [hU1]; exact Kept.box (Box.made_at _ _ _ (by simp <;> omega))
    replace HA := HA.below hb
    replace HC := HC.below hb
    replace HB := Lib.hid (below_step HB.out hb)
    clear hb
    have Z1 := zz; clear zz
    clear hU1
    refine (sameLsas_any a.l b.l q1 q2 l1 h1 l2 h2 A B A2 B2 n c m d n2 c2 m2 d2 _ HA.ansLsa HC.ansLsa HA.le HC.le hnn hmm hnn2 hmm2).mono ?_
    rw [HD.out]
    rintro e w2 ⟨rfl, hb⟩
    have Z2 := Lib.hid hb.size
    replace HA := HA.below hb
    replace HC := HC.below hb
    replace HX1 := HX1.below hb
    replace HX2 := HX2.below hb
    replace HB := Lib.hid (below_step HB.out hb)
    clear hb
    have l2_0 := HX1.bx.lt
    have l2_1 := HX2.bx.lt
    go_wp2
    clear l2_0 l2_1
    go_ret
    exact ⟨rfl, HB.out⟩
  by_cases h3 : ¬ (a.now = b.now ∧ a.es = b.es)
  · have HB := Lib.hid (Below.refl w.heap.size w)
    have hc0 : (a.code == b.code) = true := by simpa using h0
    have hc1 : (a.ch == b.ch) = true := by simpa using h1'
    have HD := Lib.hid (decide_eq_true (Classical.byContradiction h2'))
    have HBS := Lib.hid h3
    obtain rfl : r = false := by cases r with | false => rfl | true => exact absurd (by rw [hr.1 rfl]; exact ⟨rfl, rfl⟩) h3
    clear hr h0 h1' h2' h3
    go_enter Try.func81, Try.ntmps81
    go_wp2_with fail
    refine Calls.name ?_
    intro U1 hU1
    have hb : Below w.heap.size w U1 := by rw [hU1]; exact (((Below.refl _ _).alloc (Nat.le_refl _) _).alloc (by simp <;> omega) _)
    have zz : Hid (w.heap.size + 2 = U1.heap.size) := Lib.hid (by rw [hU1]; simp)
    have HX1 : Kept w.heap.size (w.heap.size + 1) (BoxK w.heap.size 128 #[.int .i64 a.code, .bool a.ch, .int .i64 a.l.age, .int .i64 a.l.options, .int .i64 a.l.typ, .int .i64 a.l.id, .int .i64 a.l.adv, .int .i64 a.l.seq, .slice A n c, .slice B m d, .int .i64 a.l.mask, .int .i64 a.l.cost, .int .i64 a.now, .slice E k f, .bool a.mrk, .slice G g j]) U1 := by rw [hU1]; exact Kept.box ((Box.made_at _ _ _ rfl).over _)
    have HX2 : Kept (w.heap.size + 1) (w.heap.size + 1 + 1) (BoxK (w.heap.size + 1) 128 #[.int .i64 b.code, .bool b.ch, .int .i64 b.l.age, .int .i64 b.l.options, .int .i64 b.l.typ, .int .i64 b.l.id, .int .i64 b.l.adv, .int .i64 b.l.seq, .slice A2 n2 c2, .slice B2 m2 d2, .int .i64 b.l.mask, .int .i64 b.l.cost, .int .i64 b.now, .slice E2 k2 f2, .bool b.mrk, .slice G2 g2 j2]) U1 := by rw [hU1]; exact Kept.box (Box.made_at _ _ _ (by simp <;> omega))
    replace HA := HA.below hb
    replace HC := HC.below hb
    replace HB := Lib.hid (below_step HB.out hb)
    clear hb
    have Z1 := zz; clear zz
    clear hU1
    refine (sameLsas_any a.l b.l q1 q2 l1 h1 l2 h2 A B A2 B2 n c m d n2 c2 m2 d2 _ HA.ansLsa HC.ansLsa HA.le HC.le hnn hmm hnn2 hmm2).mono ?_
    rw [HD.out]
    rintro e w2 ⟨rfl, hb⟩
    have Z2 := Lib.hid hb.size
    replace HA := HA.below hb
    replace HC := HC.below hb
    replace HX1 := HX1.below hb
    replace HX2 := HX2.below hb
    replace HB := Lib.hid (below_step HB.out hb)
    clear hb
    have c2_0 := HX1.look 12
    have c2_1 := HX1.look 13
    have c2_2 := HX2.look 12
    have c2_3 := HX2.look 13
    have l2_0 := HX1.bx.lt
    have l2_1 := HX2.bx.lt
    go_wp2_with fail
    clear c2_0 c2_1 c2_2 c2_3 l2_0 l2_1
    refine (sameBases_any a.now b.now q1 q2 l1 h1 l2 h2 E E2 k k2 f f2 a.es b.es false _ HA.ansEnts HC.ansEnts HA.le HC.le hee hee2 HF.out.2.2.2.1 HF2.out.2.2.2.1 ⟨fun h => (by cases h), fun h => absurd h HBS.out⟩).mono ?_
    rintro e w3 ⟨rfl, hb⟩
    have Z3 := Lib.hid hb.size
    replace HA := HA.below hb
    replace HC := HC.below hb
    replace HX1 := HX1.below hb
    replace HX2 := HX2.below hb
    replace HB := Lib.hid (below_step HB.out hb)
    clear hb
    have l3_0 := HX1.bx.lt
    have l3_1 := HX2.bx.lt
    go_wp2
    clear l3_0 l3_1
    go_ret
    exact ⟨rfl, HB.out⟩
  by_cases h4 : ¬ a.mrk = b.mrk
  · have HB := Lib.hid (Below.refl w.heap.size w)
    have hc0 : (a.code == b.code) = true := by simpa using h0
    have hc1 : (a.ch == b.ch) = true := by simpa using h1'
    have HD := Lib.hid (decide_eq_true (Classical.byContradiction h2'))
    have hbs := Classical.byContradiction h3
    have HBS := Lib.hid hbs
    have hc4 : (a.mrk == b.mrk) = false := by simpa using h4
    obtain rfl : r = false := by cases r with | false => rfl | true => exact absurd (by rw [hr.1 rfl]) h4
    clear hr h0 h1' h2' h3 h4 hbs
    go_enter Try.func81, Try.ntmps81
    go_wp2_with fail
    refine Calls.name ?_
    intro U1 hU1
    have hb : Below w.heap.size w U1 := by rw [hU1]; exact (((Below.refl _ _).alloc (Nat.le_refl _) _).alloc (by simp <;> omega) _)
    have zz : Hid (w.heap.size + 2 = U1.heap.size) := Lib.hid (by rw [hU1]; simp)
    have HX1 : Kept w.heap.size (w.heap.size + 1) (BoxK w.heap.size 128 #[.int .i64 a.code, .bool a.ch, .int .i64 a.l.age, .int .i64 a.l.options, .int .i64 a.l.typ, .int .i64 a.l.id, .int .i64 a.l.adv, .int .i64 a.l.seq, .slice A n c, .slice B m d, .int .i64 a.l.mask, .int .i64 a.l.cost, .int .i64 a.now, .slice E k f, .bool a.mrk, .slice G g j]) U1 := by rw [hU1]; exact Kept.box ((Box.made_at _ _ _ rfl).over _)
    have HX2 : Kept (w.heap.size + 1) (w.heap.size + 1 + 1) (BoxK (w.heap.size + 1) 128 #[.int .i64 b.code, .bool b.ch, .int .i64 b.l.age, .int .i64 b.l.options, .int .i64 b.l.typ, .int .i64 b.l.id, .int .i64 b.l.adv, .int .i64 b.l.seq, .slice A2 n2 c2, .slice B2 m2 d2, .int .i64 b.l.mask, .int .i64 b.l.cost, .int .i64 b.now, .slice E2 k2 f2, .bool b.mrk, .slice G2 g2 j2]) U1 := by rw [hU1]; exact Kept.box (Box.made_at _ _ _ (by simp <;> omega))
    replace HA := HA.below hb
    replace HC := HC.below hb
    replace HB := Lib.hid (below_step HB.out hb)
    clear hb
    have Z1 := zz; clear zz
    clear hU1
    refine (sameLsas_any a.l b.l q1 q2 l1 h1 l2 h2 A B A2 B2 n c m d n2 c2 m2 d2 _ HA.ansLsa HC.ansLsa HA.le HC.le hnn hmm hnn2 hmm2).mono ?_
    rw [HD.out]
    rintro e w2 ⟨rfl, hb⟩
    have Z2 := Lib.hid hb.size
    replace HA := HA.below hb
    replace HC := HC.below hb
    replace HX1 := HX1.below hb
    replace HX2 := HX2.below hb
    replace HB := Lib.hid (below_step HB.out hb)
    clear hb
    have c2_0 := HX1.look 12
    have c2_1 := HX1.look 13
    have c2_2 := HX2.look 12
    have c2_3 := HX2.look 13
    have l2_0 := HX1.bx.lt
    have l2_1 := HX2.bx.lt
    go_wp2_with fail
    clear c2_0 c2_1 c2_2 c2_3 l2_0 l2_1
    refine (sameBases_any a.now b.now q1 q2 l1 h1 l2 h2 E E2 k k2 f f2 a.es b.es true _ HA.ansEnts HC.ansEnts HA.le HC.le hee hee2 HF.out.2.2.2.1 HF2.out.2.2.2.1 ⟨fun _ => HBS.out, fun _ => rfl⟩).mono ?_
    rintro e w3 ⟨rfl, hb⟩
    have Z3 := Lib.hid hb.size
    replace HA := HA.below hb
    replace HC := HC.below hb
    replace HX1 := HX1.below hb
    replace HX2 := HX2.below hb
    replace HB := Lib.hid (below_step HB.out hb)
    clear hb
    have c3_0 := HX1.look 14
    have c3_1 := HX2.look 14
    have l3_0 := HX1.bx.lt
    have l3_1 := HX2.bx.lt
    go_wp2
    clear c3_0 c3_1 l3_0 l3_1
    go_ret
    exact ⟨rfl, HB.out⟩
  · have HB := Lib.hid (Below.refl w.heap.size w)
    have hc0 : (a.code == b.code) = true := by simpa using h0
    have hc1 : (a.ch == b.ch) = true := by simpa using h1'
    have HD := Lib.hid (decide_eq_true (Classical.byContradiction h2'))
    have hbs := Classical.byContradiction h3
    have HBS := Lib.hid hbs
    have hc4 : (a.mrk == b.mrk) = true := by simpa using h4
    have HIT : Hid (r = true ↔ a.items = b.items) := Lib.hid (hr.trans ⟨fun h => by rw [h], fun h => ans_eq (Classical.byContradiction h0) (Classical.byContradiction h1') (Classical.byContradiction h2') hbs (Classical.byContradiction h4) h⟩)
    clear hr h0 h1' h2' h3 h4 hbs
    go_enter Try.func81, Try.ntmps81
    go_wp2_with fail
    refine Calls.name ?_
    intro U1 hU1
    have hb : Below w.heap.size w U1 := by rw [hU1]; exact (((Below.refl _ _).alloc (Nat.le_refl _) _).alloc (by simp <;> omega) _)
    have zz : Hid (w.heap.size + 2 = U1.heap.size) := Lib.hid (by rw [hU1]; simp)
    have HX1 : Kept w.heap.size (w.heap.size + 1) (BoxK w.heap.size 128 #[.int .i64 a.code, .bool a.ch, .int .i64 a.l.age, .int .i64 a.l.options, .int .i64 a.l.typ, .int .i64 a.l.id, .int .i64 a.l.adv, .int .i64 a.l.seq, .slice A n c, .slice B m d, .int .i64 a.l.mask, .int .i64 a.l.cost, .int .i64 a.now, .slice E k f, .bool a.mrk, .slice G g j]) U1 := by rw [hU1]; exact Kept.box ((Box.made_at _ _ _ rfl).over _)
    have HX2 : Kept (w.heap.size + 1) (w.heap.size + 1 + 1) (BoxK (w.heap.size + 1) 128 #[.int .i64 b.code, .bool b.ch, .int .i64 b.l.age, .int .i64 b.l.options, .int .i64 b.l.typ, .int .i64 b.l.id, .int .i64 b.l.adv, .int .i64 b.l.seq, .slice A2 n2 c2, .slice B2 m2 d2, .int .i64 b.l.mask, .int .i64 b.l.cost, .int .i64 b.now, .slice E2 k2 f2, .bool b.mrk, .slice G2 g2 j2]) U1 := by rw [hU1]; exact Kept.box (Box.made_at _ _ _ (by simp <;> omega))
    replace HA := HA.below hb
    replace HC := HC.below hb
    replace HB := Lib.hid (below_step HB.out hb)
    clear hb
    have Z1 := zz; clear zz
    clear hU1
    refine (sameLsas_any a.l b.l q1 q2 l1 h1 l2 h2 A B A2 B2 n c m d n2 c2 m2 d2 _ HA.ansLsa HC.ansLsa HA.le HC.le hnn hmm hnn2 hmm2).mono ?_
    rw [HD.out]
    rintro e w2 ⟨rfl, hb⟩
    have Z2 := Lib.hid hb.size
    replace HA := HA.below hb
    replace HC := HC.below hb
    replace HX1 := HX1.below hb
    replace HX2 := HX2.below hb
    replace HB := Lib.hid (below_step HB.out hb)
    clear hb
    have c2_0 := HX1.look 12
    have c2_1 := HX1.look 13
    have c2_2 := HX2.look 12
    have c2_3 := HX2.look 13
    have l2_0 := HX1.bx.lt
    have l2_1 := HX2.bx.lt
    go_wp2_with fail
    clear c2_0 c2_1 c2_2 c2_3 l2_0 l2_1
    refine (sameBases_any a.now b.now q1 q2 l1 h1 l2 h2 E E2 k k2 f f2 a.es b.es true _ HA.ansEnts HC.ansEnts HA.le HC.le hee hee2 HF.out.2.2.2.1 HF2.out.2.2.2.1 ⟨fun _ => HBS.out, fun _ => rfl⟩).mono ?_
    rintro e w3 ⟨rfl, hb⟩
    have Z3 := Lib.hid hb.size
    replace HA := HA.below hb
    replace HC := HC.below hb
    replace HX1 := HX1.below hb
    replace HX2 := HX2.below hb
    replace HB := Lib.hid (below_step HB.out hb)
    clear hb
    have c3_0 := HX1.look 14
    have c3_1 := HX1.look 15
    have c3_2 := HX2.look 14
    have c3_3 := HX2.look 15
    have l3_0 := HX1.bx.lt
    have l3_1 := HX2.bx.lt
    go_wp2_with fail
    clear c3_0 c3_1 c3_2 c3_3 l3_0 l3_1
    refine (equalI_any q1 q2 l1 h1 l2 h2 G G2 g g2 j j2 a.items b.items r _ HA.ansItems HC.ansItems hgg hgg2 HIT.out).mono ?_
    rintro e w4 ⟨rfl, qq, rfl⟩
    have l4_0 := HX1.bx.lt
    have l4_1 := HX2.bx.lt
    go_wp2
    clear l4_0 l4_1
    go_ret
    exact ⟨rfl, below_drewN HB.out _⟩

set_option maxRecDepth 100000 in
set_option maxHeartbeats 12800000 in
theorem specSameAnswers_any (a b : AnsM) (q1 q2 : Bool) (l1 h1 l2 h2 : Nat) (A B E G : Option Addr) (n c m d k f g j : Nat) (A2 B2 E2 G2 : Option Addr) (n2 c2 m2 d2 k2 f2 g2 j2 : Nat) (r : Bool) (w : World) (ha : AnsIn q1 l1 h1 w A n B m E k G g a) (hb : AnsIn q2 l2 h2 w A2 n2 B2 m2 E2 k2 G2 g2 b) (hh1 : h1 ≤ w.heap.size) (hh2 : h2 ≤ w.heap.size) (hf : AnsFit 1048576 a) (hf2 : AnsFit 1048576 b) (hr : r = true ↔ a = b) :
    Calls Try.prog 79 #[.agg #[.int .i64 a.code, .bool a.ch, .int .i64 a.l.age, .int .i64 a.l.options, .int .i64 a.l.typ, .int .i64 a.l.id, .int .i64 a.l.adv, .int .i64 a.l.seq, .slice A n c, .slice B m d, .int .i64 a.l.mask, .int .i64 a.l.cost, .int .i64 a.now, .slice E k f, .bool a.mrk, .slice G g j], .agg #[.int .i64 b.code, .bool b.ch, .int .i64 b.l.age, .int .i64 b.l.options, .int .i64 b.l.typ, .int .i64 b.l.id, .int .i64 b.l.adv, .int .i64 b.l.seq, .slice A2 n2 c2, .slice B2 m2 d2, .int .i64 b.l.mask, .int .i64 b.l.cost, .int .i64 b.now, .slice E2 k2 f2, .bool b.mrk, .slice G2 g2 j2]] w fun e w' => e = .returned (.bool r) ∧ Below w.heap.size w w' := by
  obtain ⟨L1, L2, L3, L4⟩ := ha.lens
  obtain ⟨M1, M2, M3, M4⟩ := hb.lens
  have HF := Lib.hid hf
  have HF2 := Lib.hid hf2
  have hnn : n ≤ 1048576 := by have := hf.1; omega
  have hmm : m ≤ 1048576 := by have := hf.2.1; omega
  have hee : k ≤ 1048576 := by have := hf.2.2.1; omega
  have hgg : g ≤ 1048576 := by have := hf.2.2.2.2; omega
  have hnn2 : n2 ≤ 1048576 := by have := hf2.1; omega
  have hmm2 : m2 ≤ 1048576 := by have := hf2.2.1; omega
  have hee2 : k2 ≤ 1048576 := by have := hf2.2.2.1; omega
  have hgg2 : g2 ≤ 1048576 := by have := hf2.2.2.2.2; omega
  have HA := ha.kept hh1
  have HC := hb.kept hh2
  clear ha hb hf hf2 L1 L2 L3 L4 M1 M2 M3 M4
  by_cases h0 : ¬ a.code = b.code
  · have HB := Lib.hid (Below.refl w.heap.size w)
    have hc0 : (a.code == b.code) = false := by simpa using h0
    obtain rfl : r = false := by cases r with | false => rfl | true => exact absurd (by rw [hr.1 rfl]) h0
    clear hr h0
    go_enter Try.func79, Try.ntmps79
    go_wp2
    obtain ⟨U1, hU1⟩ : ∃ W : World, W = ((w.alloc (.cells #[.int .i64 a.code, .bool a.ch, .int .i64 a.l.age, .int .i64 a.l.options, .int .i64 a.l.typ, .int .i64 a.l.id, .int .i64 a.l.adv, .int .i64 a.l.seq, .slice A n c, .slice B m d, .int .i64 a.l.mask, .int .i64 a.l.cost, .int .i64 a.now, .slice E k f, .bool a.mrk, .slice G g j] 128)).alloc (.cells #[.int .i64 b.code, .bool b.ch, .int .i64 b.l.age, .int .i64 b.l.options, .int .i64 b.l.typ, .int .i64 b.l.id, .int .i64 b.l.adv, .int .i64 b.l.seq, .slice A2 n2 c2, .slice B2 m2 d2, .int .i64 b.l.mask, .int .i64 b.l.cost, .int .i64 b.now, .slice E2 k2 f2, .bool b.mrk, .slice G2 g2 j2] 128)) := ⟨_, rfl⟩
    have hb : Below w.heap.size w U1 := by rw [hU1]; exact (((Below.refl _ _).alloc (Nat.le_refl _) _).alloc (by simp <;> omega) _)
    have zz : Hid (w.heap.size + 2 = U1.heap.size) := Lib.hid (by rw [hU1]; simp)
    have HX1 : Kept w.heap.size (w.heap.size + 1) (BoxK w.heap.size 128 #[.int .i64 a.code, .bool a.ch, .int .i64 a.l.age, .int .i64 a.l.options, .int .i64 a.l.typ, .int .i64 a.l.id, .int .i64 a.l.adv, .int .i64 a.l.seq, .slice A n c, .slice B m d, .int .i64 a.l.mask, .int .i64 a.l.cost, .int .i64 a.now, .slice E k f, .bool a.mrk, .slice G g j]) U1 := by rw [hU1]; exact Kept.box ((Box.made_at _ _ _ rfl).over _)
    have HX2 : Kept (w.heap.size + 1) (w.heap.size + 1 + 1) (BoxK (w.heap.size + 1) 128 #[.int .i64 b.code, .bool b.ch, .int .i64 b.l.age, .int .i64 b.l.options, .int .i64 b.l.typ, .int .i64 b.l.id, .int .i64 b.l.adv, .int .i64 b.l.seq, .slice A2 n2 c2, .slice B2 m2 d2, .int .i64 b.l.mask, .int .i64 b.l.cost, .int .i64 b.now, .slice E2 k2 f2, .bool b.mrk, .slice G2 g2 j2]) U1 := by rw [hU1]; exact Kept.box (Box.made_at _ _ _ (by simp <;> omega))
    replace HA := HA.below hb
    replace HC := HC.below hb
    replace HB := Lib.hid (below_step HB.out hb)
    clear hb
    have Z1 := zz; clear zz
    subst hU1
    go_ret
    exact ⟨rfl, HB.out⟩
  by_cases h1' : ¬ a.ch = b.ch
  · have HB := Lib.hid (Below.refl w.heap.size w)
    have hc0 : (a.code == b.code) = true := by simpa using h0
    have hc1 : (a.ch == b.ch) = false := by simpa using h1'
    obtain rfl : r = false := by cases r with | false => rfl | true => exact absurd (by rw [hr.1 rfl]) h1'
    clear hr h0 h1'
    go_enter Try.func79, Try.ntmps79
    go_wp2
    obtain ⟨U1, hU1⟩ : ∃ W : World, W = ((w.alloc (.cells #[.int .i64 a.code, .bool a.ch, .int .i64 a.l.age, .int .i64 a.l.options, .int .i64 a.l.typ, .int .i64 a.l.id, .int .i64 a.l.adv, .int .i64 a.l.seq, .slice A n c, .slice B m d, .int .i64 a.l.mask, .int .i64 a.l.cost, .int .i64 a.now, .slice E k f, .bool a.mrk, .slice G g j] 128)).alloc (.cells #[.int .i64 b.code, .bool b.ch, .int .i64 b.l.age, .int .i64 b.l.options, .int .i64 b.l.typ, .int .i64 b.l.id, .int .i64 b.l.adv, .int .i64 b.l.seq, .slice A2 n2 c2, .slice B2 m2 d2, .int .i64 b.l.mask, .int .i64 b.l.cost, .int .i64 b.now, .slice E2 k2 f2, .bool b.mrk, .slice G2 g2 j2] 128)) := ⟨_, rfl⟩
    have hb : Below w.heap.size w U1 := by rw [hU1]; exact (((Below.refl _ _).alloc (Nat.le_refl _) _).alloc (by simp <;> omega) _)
    have zz : Hid (w.heap.size + 2 = U1.heap.size) := Lib.hid (by rw [hU1]; simp)
    have HX1 : Kept w.heap.size (w.heap.size + 1) (BoxK w.heap.size 128 #[.int .i64 a.code, .bool a.ch, .int .i64 a.l.age, .int .i64 a.l.options, .int .i64 a.l.typ, .int .i64 a.l.id, .int .i64 a.l.adv, .int .i64 a.l.seq, .slice A n c, .slice B m d, .int .i64 a.l.mask, .int .i64 a.l.cost, .int .i64 a.now, .slice E k f, .bool a.mrk, .slice G g j]) U1 := by rw [hU1]; exact Kept.box ((Box.made_at _ _ _ rfl).over _)
    have HX2 : Kept (w.heap.size + 1) (w.heap.size + 1 + 1) (BoxK (w.heap.size + 1) 128 #[.int .i64 b.code, .bool b.ch, .int .i64 b.l.age, .int .i64 b.l.options, .int .i64 b.l.typ, .int .i64 b.l.id, .int .i64 b.l.adv, .int .i64 b.l.seq, .slice A2 n2 c2, .slice B2 m2 d2, .int .i64 b.l.mask, .int .i64 b.l.cost, .int .i64 b.now, .slice E2 k2 f2, .bool b.mrk, .slice G2 g2 j2]) U1 := by rw [hU1]; exact Kept.box (Box.made_at _ _ _ (by simp <;> omega))
    replace HA := HA.below hb
    replace HC := HC.below hb
    replace HB := Lib.hid (below_step HB.out hb)
    clear hb
    have Z1 := zz; clear zz
    subst hU1
    go_ret
    exact ⟨rfl, HB.out⟩
  by_cases h2' : ¬ a.l = b.l
  · have HB := Lib.hid (Below.refl w.heap.size w)
    have hc0 : (a.code == b.code) = true := by simpa using h0
    have hc1 : (a.ch == b.ch) = true := by simpa using h1'
    have HD := Lib.hid (decide_eq_false h2')
    obtain rfl : r = false := by cases r with | false => rfl | true => exact absurd (by rw [hr.1 rfl]) h2'
    clear hr h0 h1' h2'
    go_enter Try.func79, Try.ntmps79
    go_wp2_with fail
    refine Calls.name ?_
    intro U1 hU1
    have hb : Below w.heap.size w U1 := by rw [hU1]; exact (((Below.refl _ _).alloc (Nat.le_refl _) _).alloc (by simp <;> omega) _)
    have zz : Hid (w.heap.size + 2 = U1.heap.size) := Lib.hid (by rw [hU1]; simp)
    have HX1 : Kept w.heap.size (w.heap.size + 1) (BoxK w.heap.size 128 #[.int .i64 a.code, .bool a.ch, .int .i64 a.l.age, .int .i64 a.l.options, .int .i64 a.l.typ, .int .i64 a.l.id, .int .i64 a.l.adv, .int .i64 a.l.seq, .slice A n c, .slice B m d, .int .i64 a.l.mask, .int .i64 a.l.cost, .int .i64 a.now, .slice E k f, .bool a.mrk, .slice G g j]) U1 := by rw [hU1]; exact Kept.box ((Box.made_at _ _ _ rfl).over _)
    have HX2 : Kept (w.heap.size + 1) (w.heap.size + 1 + 1) (BoxK (w.heap.size + 1) 128 #[.int .i64 b.code, .bool b.ch, .int .i64 b.l.age, .int .i64 b.l.options, .int .i64 b.l.typ, .int .i64 b.l.id, .int .i64 b.l.adv, .int .i64 b.l.seq, .slice A2 n2 c2, .slice B2 m2 d2, .int .i64 b.l.mask, .int .i64 b.l.cost, .int .i64 b.now, .slice E2 k2 f2, .bool b.mrk, .slice G2 g2 j2]) U1 := by rw [hU1]; exact Kept.box (Box.made_at _ _ _ (by simp <;> omega))
    replace HA := HA.below hb
    replace HC := HC.below hb
    replace HB := Lib.hid (below_step HB.out hb)
    clear hb
    have Z1 := zz; clear zz
    clear hU1
    refine (specSameLsas_any a.l b.l q1 q2 l1 h1 l2 h2 A B A2 B2 n c m d n2 c2 m2 d2 _ HA.ansLsa HC.ansLsa HA.le HC.le hnn hmm hnn2 hmm2).mono ?_
    rw [HD.out]
    rintro e w2 ⟨rfl, hb⟩
    have Z2 := Lib.hid hb.size
    replace HA := HA.below hb
    replace HC := HC.below hb
    replace HX1 := HX1.below hb
    replace HX2 := HX2.below hb
    replace HB := Lib.hid (below_step HB.out hb)
    clear hb
    have l2_0 := HX1.bx.lt
    have l2_1 := HX2.bx.lt
    go_wp2
    clear l2_0 l2_1
    go_ret
    exact ⟨rfl, HB.out⟩
  by_cases h3 : ¬ (a.now = b.now ∧ a.es = b.es)
  · have HB := Lib.hid (Below.refl w.heap.size w)
    have hc0 : (a.code == b.code) = true := by simpa using h0
    have hc1 : (a.ch == b.ch) = true := by simpa using h1'
    have HD := Lib.hid (decide_eq_true (Classical.byContradiction h2'))
    have HBS := Lib.hid h3
    obtain rfl : r = false := by cases r with | false => rfl | true => exact absurd (by rw [hr.1 rfl]; exact ⟨rfl, rfl⟩) h3
    clear hr h0 h1' h2' h3
    go_enter Try.func79, Try.ntmps79
    go_wp2_with fail
    refine Calls.name ?_
    intro U1 hU1
    have hb : Below w.heap.size w U1 := by rw [hU1]; exact (((Below.refl _ _).alloc (Nat.le_refl _) _).alloc (by simp <;> omega) _)
    have zz : Hid (w.heap.size + 2 = U1.heap.size) := Lib.hid (by rw [hU1]; simp)
    have HX1 : Kept w.heap.size (w.heap.size + 1) (BoxK w.heap.size 128 #[.int .i64 a.code, .bool a.ch, .int .i64 a.l.age, .int .i64 a.l.options, .int .i64 a.l.typ, .int .i64 a.l.id, .int .i64 a.l.adv, .int .i64 a.l.seq, .slice A n c, .slice B m d, .int .i64 a.l.mask, .int .i64 a.l.cost, .int .i64 a.now, .slice E k f, .bool a.mrk, .slice G g j]) U1 := by rw [hU1]; exact Kept.box ((Box.made_at _ _ _ rfl).over _)
    have HX2 : Kept (w.heap.size + 1) (w.heap.size + 1 + 1) (BoxK (w.heap.size + 1) 128 #[.int .i64 b.code, .bool b.ch, .int .i64 b.l.age, .int .i64 b.l.options, .int .i64 b.l.typ, .int .i64 b.l.id, .int .i64 b.l.adv, .int .i64 b.l.seq, .slice A2 n2 c2, .slice B2 m2 d2, .int .i64 b.l.mask, .int .i64 b.l.cost, .int .i64 b.now, .slice E2 k2 f2, .bool b.mrk, .slice G2 g2 j2]) U1 := by rw [hU1]; exact Kept.box (Box.made_at _ _ _ (by simp <;> omega))
    replace HA := HA.below hb
    replace HC := HC.below hb
    replace HB := Lib.hid (below_step HB.out hb)
    clear hb
    have Z1 := zz; clear zz
    clear hU1
    refine (specSameLsas_any a.l b.l q1 q2 l1 h1 l2 h2 A B A2 B2 n c m d n2 c2 m2 d2 _ HA.ansLsa HC.ansLsa HA.le HC.le hnn hmm hnn2 hmm2).mono ?_
    rw [HD.out]
    rintro e w2 ⟨rfl, hb⟩
    have Z2 := Lib.hid hb.size
    replace HA := HA.below hb
    replace HC := HC.below hb
    replace HX1 := HX1.below hb
    replace HX2 := HX2.below hb
    replace HB := Lib.hid (below_step HB.out hb)
    clear hb
    have c2_0 := HX1.look 12
    have c2_1 := HX1.look 13
    have c2_2 := HX2.look 12
    have c2_3 := HX2.look 13
    have l2_0 := HX1.bx.lt
    have l2_1 := HX2.bx.lt
    go_wp2_with fail
    clear c2_0 c2_1 c2_2 c2_3 l2_0 l2_1
    refine (specSameBases_any a.now b.now q1 q2 l1 h1 l2 h2 E E2 k k2 f f2 a.es b.es false _ HA.ansEnts HC.ansEnts HA.le HC.le hee hee2 HF.out.2.2.2.1 HF2.out.2.2.2.1 ⟨fun h => (by cases h), fun h => absurd h HBS.out⟩).mono ?_
    rintro e w3 ⟨rfl, hb⟩
    have Z3 := Lib.hid hb.size
    replace HA := HA.below hb
    replace HC := HC.below hb
    replace HX1 := HX1.below hb
    replace HX2 := HX2.below hb
    replace HB := Lib.hid (below_step HB.out hb)
    clear hb
    have l3_0 := HX1.bx.lt
    have l3_1 := HX2.bx.lt
    go_wp2
    clear l3_0 l3_1
    go_ret
    exact ⟨rfl, HB.out⟩
  by_cases h4 : ¬ a.mrk = b.mrk
  · have HB := Lib.hid (Below.refl w.heap.size w)
    have hc0 : (a.code == b.code) = true := by simpa using h0
    have hc1 : (a.ch == b.ch) = true := by simpa using h1'
    have HD := Lib.hid (decide_eq_true (Classical.byContradiction h2'))
    have hbs := Classical.byContradiction h3
    have HBS := Lib.hid hbs
    have hc4 : (a.mrk == b.mrk) = false := by simpa using h4
    obtain rfl : r = false := by cases r with | false => rfl | true => exact absurd (by rw [hr.1 rfl]) h4
    clear hr h0 h1' h2' h3 h4 hbs
    go_enter Try.func79, Try.ntmps79
    go_wp2_with fail
    refine Calls.name ?_
    intro U1 hU1
    have hb : Below w.heap.size w U1 := by rw [hU1]; exact (((Below.refl _ _).alloc (Nat.le_refl _) _).alloc (by simp <;> omega) _)
    have zz : Hid (w.heap.size + 2 = U1.heap.size) := Lib.hid (by rw [hU1]; simp)
    have HX1 : Kept w.heap.size (w.heap.size + 1) (BoxK w.heap.size 128 #[.int .i64 a.code, .bool a.ch, .int .i64 a.l.age, .int .i64 a.l.options, .int .i64 a.l.typ, .int .i64 a.l.id, .int .i64 a.l.adv, .int .i64 a.l.seq, .slice A n c, .slice B m d, .int .i64 a.l.mask, .int .i64 a.l.cost, .int .i64 a.now, .slice E k f, .bool a.mrk, .slice G g j]) U1 := by rw [hU1]; exact Kept.box ((Box.made_at _ _ _ rfl).over _)
    have HX2 : Kept (w.heap.size + 1) (w.heap.size + 1 + 1) (BoxK (w.heap.size + 1) 128 #[.int .i64 b.code, .bool b.ch, .int .i64 b.l.age, .int .i64 b.l.options, .int .i64 b.l.typ, .int .i64 b.l.id, .int .i64 b.l.adv, .int .i64 b.l.seq, .slice A2 n2 c2, .slice B2 m2 d2, .int .i64 b.l.mask, .int .i64 b.l.cost, .int .i64 b.now, .slice E2 k2 f2, .bool b.mrk, .slice G2 g2 j2]) U1 := by rw [hU1]; exact Kept.box (Box.made_at _ _ _ (by simp <;> omega))
    replace HA := HA.below hb
    replace HC := HC.below hb
    replace HB := Lib.hid (below_step HB.out hb)
    clear hb
    have Z1 := zz; clear zz
    clear hU1
    refine (specSameLsas_any a.l b.l q1 q2 l1 h1 l2 h2 A B A2 B2 n c m d n2 c2 m2 d2 _ HA.ansLsa HC.ansLsa HA.le HC.le hnn hmm hnn2 hmm2).mono ?_
    rw [HD.out]
    rintro e w2 ⟨rfl, hb⟩
    have Z2 := Lib.hid hb.size
    replace HA := HA.below hb
    replace HC := HC.below hb
    replace HX1 := HX1.below hb
    replace HX2 := HX2.below hb
    replace HB := Lib.hid (below_step HB.out hb)
    clear hb
    have c2_0 := HX1.look 12
    have c2_1 := HX1.look 13
    have c2_2 := HX2.look 12
    have c2_3 := HX2.look 13
    have l2_0 := HX1.bx.lt
    have l2_1 := HX2.bx.lt
    go_wp2_with fail
    clear c2_0 c2_1 c2_2 c2_3 l2_0 l2_1
    refine (specSameBases_any a.now b.now q1 q2 l1 h1 l2 h2 E E2 k k2 f f2 a.es b.es true _ HA.ansEnts HC.ansEnts HA.le HC.le hee hee2 HF.out.2.2.2.1 HF2.out.2.2.2.1 ⟨fun _ => HBS.out, fun _ => rfl⟩).mono ?_
    rintro e w3 ⟨rfl, hb⟩
    have Z3 := Lib.hid hb.size
    replace HA := HA.below hb
    replace HC := HC.below hb
    replace HX1 := HX1.below hb
    replace HX2 := HX2.below hb
    replace HB := Lib.hid (below_step HB.out hb)
    clear hb
    have c3_0 := HX1.look 14
    have c3_1 := HX2.look 14
    have l3_0 := HX1.bx.lt
    have l3_1 := HX2.bx.lt
    go_wp2
    clear c3_0 c3_1 l3_0 l3_1
    go_ret
    exact ⟨rfl, HB.out⟩
  · have HB := Lib.hid (Below.refl w.heap.size w)
    have hc0 : (a.code == b.code) = true := by simpa using h0
    have hc1 : (a.ch == b.ch) = true := by simpa using h1'
    have HD := Lib.hid (decide_eq_true (Classical.byContradiction h2'))
    have hbs := Classical.byContradiction h3
    have HBS := Lib.hid hbs
    have hc4 : (a.mrk == b.mrk) = true := by simpa using h4
    have HIT : Hid (r = true ↔ a.items = b.items) := Lib.hid (hr.trans ⟨fun h => by rw [h], fun h => ans_eq (Classical.byContradiction h0) (Classical.byContradiction h1') (Classical.byContradiction h2') hbs (Classical.byContradiction h4) h⟩)
    clear hr h0 h1' h2' h3 h4 hbs
    go_enter Try.func79, Try.ntmps79
    go_wp2_with fail
    refine Calls.name ?_
    intro U1 hU1
    have hb : Below w.heap.size w U1 := by rw [hU1]; exact (((Below.refl _ _).alloc (Nat.le_refl _) _).alloc (by simp <;> omega) _)
    have zz : Hid (w.heap.size + 2 = U1.heap.size) := Lib.hid (by rw [hU1]; simp)
    have HX1 : Kept w.heap.size (w.heap.size + 1) (BoxK w.heap.size 128 #[.int .i64 a.code, .bool a.ch, .int .i64 a.l.age, .int .i64 a.l.options, .int .i64 a.l.typ, .int .i64 a.l.id, .int .i64 a.l.adv, .int .i64 a.l.seq, .slice A n c, .slice B m d, .int .i64 a.l.mask, .int .i64 a.l.cost, .int .i64 a.now, .slice E k f, .bool a.mrk, .slice G g j]) U1 := by rw [hU1]; exact Kept.box ((Box.made_at _ _ _ rfl).over _)
    have HX2 : Kept (w.heap.size + 1) (w.heap.size + 1 + 1) (BoxK (w.heap.size + 1) 128 #[.int .i64 b.code, .bool b.ch, .int .i64 b.l.age, .int .i64 b.l.options, .int .i64 b.l.typ, .int .i64 b.l.id, .int .i64 b.l.adv, .int .i64 b.l.seq, .slice A2 n2 c2, .slice B2 m2 d2, .int .i64 b.l.mask, .int .i64 b.l.cost, .int .i64 b.now, .slice E2 k2 f2, .bool b.mrk, .slice G2 g2 j2]) U1 := by rw [hU1]; exact Kept.box (Box.made_at _ _ _ (by simp <;> omega))
    replace HA := HA.below hb
    replace HC := HC.below hb
    replace HB := Lib.hid (below_step HB.out hb)
    clear hb
    have Z1 := zz; clear zz
    clear hU1
    refine (specSameLsas_any a.l b.l q1 q2 l1 h1 l2 h2 A B A2 B2 n c m d n2 c2 m2 d2 _ HA.ansLsa HC.ansLsa HA.le HC.le hnn hmm hnn2 hmm2).mono ?_
    rw [HD.out]
    rintro e w2 ⟨rfl, hb⟩
    have Z2 := Lib.hid hb.size
    replace HA := HA.below hb
    replace HC := HC.below hb
    replace HX1 := HX1.below hb
    replace HX2 := HX2.below hb
    replace HB := Lib.hid (below_step HB.out hb)
    clear hb
    have c2_0 := HX1.look 12
    have c2_1 := HX1.look 13
    have c2_2 := HX2.look 12
    have c2_3 := HX2.look 13
    have l2_0 := HX1.bx.lt
    have l2_1 := HX2.bx.lt
    go_wp2_with fail
    clear c2_0 c2_1 c2_2 c2_3 l2_0 l2_1
    refine (specSameBases_any a.now b.now q1 q2 l1 h1 l2 h2 E E2 k k2 f f2 a.es b.es true _ HA.ansEnts HC.ansEnts HA.le HC.le hee hee2 HF.out.2.2.2.1 HF2.out.2.2.2.1 ⟨fun _ => HBS.out, fun _ => rfl⟩).mono ?_
    rintro e w3 ⟨rfl, hb⟩
    have Z3 := Lib.hid hb.size
    replace HA := HA.below hb
    replace HC := HC.below hb
    replace HX1 := HX1.below hb
    replace HX2 := HX2.below hb
    replace HB := Lib.hid (below_step HB.out hb)
    clear hb
    have c3_0 := HX1.look 14
    have c3_1 := HX1.look 15
    have c3_2 := HX2.look 14
    have c3_3 := HX2.look 15
    have l3_0 := HX1.bx.lt
    have l3_1 := HX2.bx.lt
    go_wp2_with fail
    clear c3_0 c3_1 c3_2 c3_3 l3_0 l3_1
    refine (l8SameItems_any q1 q2 l1 h1 l2 h2 G G2 g g2 j j2 a.items b.items r _ HA.ansItems HC.ansItems hgg hgg2 HIT.out).mono ?_
    rintro e w4 ⟨rfl, qq, rfl⟩
    have l4_0 := HX1.bx.lt
    have l4_1 := HX2.bx.lt
    go_wp2
    clear l4_0 l4_1
    go_ret
    exact ⟨rfl, below_drewN HB.out _⟩


end Go.Proofs.Ytiffhjofabaflaa

