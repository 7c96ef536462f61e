/-
  Answers in memory. No statement is proved here.
-/
import Derived.Test.YtiffhjofabaflaaEntSz
import Derived.Test.YtiffhjofabaflaaToLsa
import Derived.Test.YtiffhjofabaflaaEntTo
import Derived.Test.YtiffhjofabaflaaEntEq
import Derived.Test.YtiffhjofabaflaaLsaEq
import Derived.Test.YtiffhjofabaflaaItem
import Derived.Test.YtiffhjofabaflaaOpenBase
namespace Go.Proofs.Ytiffhjofabaflaa
open Go.RowKit
set_option linter.unusedVariables false

/-- What is left, or -1. -/
def szr (left : Int) (t : Nat) : Int := if left - t < 0 then -1 else left - t
theorem szr_neg {left : Int} {t : Nat} (h : left - t < 0) : szr left t = -1 := if_pos h
theorem szr_pos {left : Int} {t : Nat} (h : ¬ (left - t < 0)) : szr left t = left - t := if_neg h
theorem szr_add_neg {left : Int} {a b : Nat} (h : left - a < 0) : szr left (a + b) = -1 := by unfold szr; rw [if_pos (by omega)]
theorem szr_add {left : Int} {a b : Nat} : szr left (a + b) = szr (left - a) b := by
  unfold szr
  by_cases h : left - a - b < 0
  · rw [if_pos (by omega), if_pos h]
  · rw [if_neg (by omega), if_neg h]; omega
theorem szRows_szr {α : Type} : ∀ (ys : List (List α)) (left : Int), 0 ≤ left → szRows left ys = szr left (tot ys)
  | [], left, h => by simp [szRows, tot, szr]; intro h'; omega
  | y :: t, left, h => by
    have e : tot (y :: t) = y.length + tot t := by simp [tot]
    unfold szRows
    by_cases h1 : left - (y.length : Int) < 0
    · rw [if_pos h1, e, szr_add_neg h1]
    · rw [if_neg h1, szRows_szr t _ (by omega), e, szr_add]
theorem szSS_szr {α : Type} (ys : List (List α)) (left : Int) (h : 0 ≤ left) : szSS left ys = szr left (ys.length + tot ys) := by
  unfold szSS
  by_cases h1 : left - (ys.length : Int) < 0
  · rw [if_pos h1, szr_add_neg h1]
  · rw [if_neg h1, szRows_szr ys _ (by omega), szr_add]
theorem szLsa_any (l : LsaM) (A B : Option Addr) (n c m d : Nat) (L : Int) (w : World) (hn : n ≤ maxLen) (hm : m ≤ maxLen) (h0 : 0 ≤ L) (h1 : L ≤ 1048576) :
    Calls Try.prog 155 #[.agg #[.int .i64 l.age, .int .i64 l.options, .int .i64 l.typ, .int .i64 l.id, .int .i64 l.adv, .int .i64 l.seq, .slice A n c, .slice B m d, .int .i64 l.mask, .int .i64 l.cost], .int .i64 L] w fun e w' => e = .returned (.int .i64 (szr L (n + m))) ∧ Below w.heap.size w w' := by
  by_cases h : (n : Int) + m ≤ L
  · refine (szLsa_yes l A B n c m d L w h h1).mono ?_
    rintro e w' ⟨rfl, hb⟩
    exact ⟨by rw [szr_pos (by omega)]; congr 2; omega, hb⟩
  · refine (szLsa_no l A B n c m d L w h hn hm h0 h1).mono ?_
    rintro e w' ⟨rfl, hb⟩
    exact ⟨by rw [szr_neg (by omega)], hb⟩
/-- How many numbers a base has. -/
def totB (es : List Ent) : Nat := es.length + tot (entRows es)
theorem szBase_szr (q : Bool) (lo hi : Nat) (A : Option Addr) (n c : Nat) (ys : List Ent) (now left : Int) (w : World) (ha : Rep.ent.Sl q lo hi w A n ys) (hh : hi ≤ w.heap.size) (hn : n ≤ maxLen) (hm : ∀ y ∈ ys, y.l.links.length ≤ maxLen ∧ y.l.routers.length ≤ maxLen) (h0 : 0 ≤ left) (h1 : left ≤ 1048576) :
    Calls Try.prog 156 #[.agg #[.int .i64 now, .slice A n c], .int .i64 left] w fun e w' => e = .returned (.int .i64 (szr left (totB ys))) ∧ Below w.heap.size w w' := by
  refine (szBase_any q lo hi A n c ys now left w ha hh hn hm h0 h1).mono ?_
  rintro e w' ⟨rfl, hb⟩
  exact ⟨by rw [szSS_szr _ _ h0, entRows_len]; rfl, hb⟩
theorem totB_ent {es : List Ent} {y : Ent} (h : y ∈ es) : y.l.links.length + y.l.routers.length ≤ totB es := by
  obtain ⟨i, hi, rfl⟩ := List.getElem_of_mem h
  have := tot_ent (List.getElem?_eq_getElem hi)
  unfold totB; omega

end Go.Proofs.Ytiffhjofabaflaa

namespace Go.Proofs.Ytiffhjofabaflaa
open Go.RowKit
set_option linter.unusedVariables false

/-- An answer. -/
structure AnsM where
  code : Int
  ch : Bool
  l : LsaM
  now : Int
  es : List Ent
  mrk : Bool
  items : List Tmr

/-- An answer's lists lie in a range of blocks. -/
structure AnsIn (q : Bool) (lo hi : Nat) (w : World) (A : Option Addr) (n : Nat) (B : Option Addr) (m : Nat) (E : Option Addr) (k : Nat) (G : Option Addr) (g : Nat) (a : AnsM) : Prop where
  lsa : LsaIn q lo hi w A n B m a.l
  ents : Rep.ent.Sl q lo hi w E k a.es
  items : Rep.timer.Sl q lo hi w G g a.items
/-- None of an answer's lists has more than b. -/
def AnsFit (b : Nat) (a : AnsM) : Prop := a.l.links.length ≤ b ∧ a.l.routers.length ≤ b ∧ a.es.length ≤ b ∧ (∀ y ∈ a.es, y.l.links.length ≤ b ∧ y.l.routers.length ≤ b) ∧ a.items.length ≤ b
/-- How many numbers an answer has. -/
def totA (a : AnsM) : Nat := a.l.links.length + a.l.routers.length + totB a.es + a.items.length
theorem AnsFit.of_tot {a : AnsM} {b : Nat} (h : totA a ≤ b) : AnsFit b a := by
  unfold totA totB at h
  refine ⟨by omega, by omega, by omega, fun y hy => ?_, by omega⟩
  have := totB_ent hy
  unfold totB at this; omega
def AnsK (q : Bool) (lo hi : Nat) (A : Option Addr) (n : Nat) (B : Option Addr) (m : Nat) (E : Option Addr) (k : Nat) (G : Option Addr) (g : Nat) (a : AnsM) : World → Prop := fun w => AnsIn q lo hi w A n B m E k G g a
section
variable {q : Bool} {lo hi lo' hi' : Nat} {w w' : World} {A B E G : Option Addr} {n m k g : Nat} {a : AnsM}
theorem AnsIn.keep (h : AnsIn q lo hi w A n B m E k G g a) (s : SameIn lo hi w w') : AnsIn q lo hi w' A n B m E k G g a := ⟨h.lsa.keep s, h.ents.keep s, h.items.keep s⟩
theorem AnsIn.mono (h : AnsIn q lo hi w A n B m E k G g a) (l : lo' ≤ lo) (u : hi ≤ hi') : AnsIn q lo' hi' w A n B m E k G g a := ⟨h.lsa.mono l u, h.ents.mono l u, h.items.mono l u⟩
theorem AnsIn.kept (h : AnsIn q lo hi w A n B m E k G g a) (hs : hi ≤ w.heap.size) : Kept lo hi (AnsK q lo hi A n B m E k G g a) w := ⟨hs, fun w2 s => h.keep s⟩
theorem Kept.ans (h : Kept lo hi (AnsK q lo hi A n B m E k G g a) w) : AnsIn q lo hi w A n B m E k G g a := h.out
theorem Kept.ansLsa (h : Kept lo hi (AnsK q lo hi A n B m E k G g a) w) : LsaIn q lo hi w A n B m a.l := h.out.lsa
theorem Kept.ansEnts (h : Kept lo hi (AnsK q lo hi A n B m E k G g a) w) : Rep.ent.Sl q lo hi w E k a.es := h.out.ents
theorem Kept.ansItems (h : Kept lo hi (AnsK q lo hi A n B m E k G g a) w) : Rep.timer.Sl q lo hi w G g a.items := h.out.items
theorem AnsIn.lens (h : AnsIn q lo hi w A n B m E k G g a) : a.l.links.length = n ∧ a.l.routers.length = m ∧ a.es.length = k ∧ a.items.length = g := ⟨h.lsa.links.1, h.lsa.routers.1, h.ents.1, h.items.1⟩
end
set_option maxRecDepth 100000 in
set_option maxHeartbeats 1600000 in
theorem szAnswer_any (a : AnsM) (q : Bool) (lo hi : Nat) (A B E G : Option Addr) (n c m d k f g j : Nat) (left : Int) (w : World) (ha : AnsIn q lo hi w A n B m E k G g a) (hh : hi ≤ w.heap.size) (hf : AnsFit maxLen a) (h0 : 0 ≤ left) (h1 : left ≤ 1048576) :
    Calls Try.prog 78 #[.agg #[.int .i64 a.code, .bool a.ch, .int .i64 a.l.age, .int .i64 a.l.options, .int .i64 a.l.typ, .int .i64 a.l.id, .int .i64 a.l.adv, .int .i64 a.l.seq, .slice A n c, .slice B m d, .int .i64 a.l.mask, .int .i64 a.l.cost, .int .i64 a.now, .slice E k f, .bool a.mrk, .slice G g j], .int .i64 left] w fun e w' => e = .returned (.int .i64 (szr left (totA a))) ∧ Below w.heap.size w w' := by
  obtain ⟨L1, L2, L3, L4⟩ := ha.lens
  have HF := Lib.hid hf
  have hnn : n ≤ maxLen := by have := hf.1; omega
  have hmm : m ≤ maxLen := by have := hf.2.1; omega
  have hee : k ≤ maxLen := by have := hf.2.2.1; omega
  have hgg : g ≤ maxLen := by have := hf.2.2.2.2; omega
  clear hf
  have HT : Hid (totA a = n + m + totB a.es + g) := Lib.hid (by unfold totA; omega)
  obtain ⟨t, ht⟩ : ∃ t, totB a.es = t := ⟨_, rfl⟩
  rw [ht] at HT
  have HTB := Lib.hid ht
  clear ht
  have HA := ha.kept hh
  clear ha L1 L2 L3 L4
  by_cases hk1 : left - (n : Int) - m < 0
  · have HB := Lib.hid (Below.refl w.heap.size w)
    have HR : Hid (szr left (n + m) = -1) := Lib.hid (szr_neg (by omega))
    have HQ : Hid (szr left (totA a) = -1) := Lib.hid (by rw [HT.out, show n + m + t + g = (n + m) + (t + g) by omega]; exact szr_add_neg (by omega))
    go_enter Try.func78, Try.ntmps78
    go_wp2_with fail
    refine Calls.name ?_
    intro U1 hU1
    have hb : Below w.heap.size w U1 := by rw [hU1]; exact ((Below.refl _ _).alloc (Nat.le_refl _) _)
    have zz : Hid (w.heap.size + 1 = U1.heap.size) := Lib.hid (by rw [hU1]; simp)
    have HX1 : Kept w.heap.size (w.heap.size + 1) (BoxK w.heap.size 118 #[.int .i64 a.code, .bool a.ch, .int .i64 a.l.age, .int .i64 a.l.options, .int .i64 a.l.typ, .int .i64 a.l.id, .int .i64 a.l.adv, .int .i64 a.l.seq, .slice A n c, .slice B m d, .int .i64 a.l.mask, .int .i64 a.l.cost, .int .i64 a.now, .slice E k f, .bool a.mrk, .slice G g j]) U1 := by rw [hU1]; exact Kept.box (Box.made_at _ _ _ rfl)
    replace HA := HA.below hb
    replace HB := Lib.hid (below_step HB.out hb)
    clear hb
    have Z1 := zz; clear zz
    clear hU1
    refine (szLsa_any a.l A B n c m d left _ hnn hmm h0 h1).mono ?_
    rw [HR.out]
    rintro e w2 ⟨rfl, hb⟩
    have Z2 := Lib.hid hb.size
    replace HA := HA.below hb
    replace HX1 := HX1.below hb
    replace HB := Lib.hid (below_step HB.out hb)
    clear hb
    have l2_0 := HX1.bx.lt
    go_wp2
    clear l2_0
    go_ret
    exact ⟨by rw [HQ.out]; try rfl, HB.out⟩
  by_cases hk2 : left - (n : Int) - m - t < 0
  · have HB := Lib.hid (Below.refl w.heap.size w)
    have HR : Hid (szr left (n + m) = left - n - m) := Lib.hid (by rw [szr_pos (by omega)]; omega)
    have HR2 : Hid (szr (left - n - m) t = -1) := Lib.hid (szr_neg (by omega))
    have HQ : Hid (szr left (totA a) = -1) := Lib.hid (by rw [HT.out]; exact szr_add_neg (by omega))
    go_enter Try.func78, Try.ntmps78
    go_wp2_with fail
    refine Calls.name ?_
    intro U1 hU1
    have hb : Below w.heap.size w U1 := by rw [hU1]; exact ((Below.refl _ _).alloc (Nat.le_refl _) _)
    have zz : Hid (w.heap.size + 1 = U1.heap.size) := Lib.hid (by rw [hU1]; simp)
    have HX1 : Kept w.heap.size (w.heap.size + 1) (BoxK w.heap.size 118 #[.int .i64 a.code, .bool a.ch, .int .i64 a.l.age, .int .i64 a.l.options, .int .i64 a.l.typ, .int .i64 a.l.id, .int .i64 a.l.adv, .int .i64 a.l.seq, .slice A n c, .slice B m d, .int .i64 a.l.mask, .int .i64 a.l.cost, .int .i64 a.now, .slice E k f, .bool a.mrk, .slice G g j]) U1 := by rw [hU1]; exact Kept.box (Box.made_at _ _ _ rfl)
    replace HA := HA.below hb
    replace HB := Lib.hid (below_step HB.out hb)
    clear hb
    have Z1 := zz; clear zz
    clear hU1
    refine (szLsa_any a.l A B n c m d left _ hnn hmm h0 h1).mono ?_
    rw [HR.out]
    rintro e w2 ⟨rfl, hb⟩
    have Z2 := Lib.hid hb.size
    replace HA := HA.below hb
    replace HX1 := HX1.below hb
    replace HB := Lib.hid (below_step HB.out hb)
    clear hb
    have c2_0 := HX1.look 12
    have c2_1 := HX1.look 13
    have l2_0 := HX1.bx.lt
    go_wp2_with fail
    clear c2_0 c2_1 l2_0
    refine (szBase_szr q lo hi E k f a.es a.now (left - n - m) _ HA.ansEnts HA.le hee HF.out.2.2.2.1 (by omega) (by omega)).mono ?_
    rw [HTB.out]
    rw [HR2.out]
    rintro e w3 ⟨rfl, hb⟩
    have Z3 := Lib.hid hb.size
    replace HA := HA.below hb
    replace HX1 := HX1.below hb
    replace HB := Lib.hid (below_step HB.out hb)
    clear hb
    have l3_0 := HX1.bx.lt
    go_wp2
    clear l3_0
    go_ret
    exact ⟨by rw [HQ.out]; try rfl, HB.out⟩
  by_cases hk3 : left - (n : Int) - m - t - g < 0
  · have HB := Lib.hid (Below.refl w.heap.size w)
    have HR : Hid (szr left (n + m) = left - n - m) := Lib.hid (by rw [szr_pos (by omega)]; omega)
    have HR2 : Hid (szr (left - n - m) t = left - n - m - t) := Lib.hid (szr_pos (by omega))
    have HR3 : Hid ((if left - (n : Int) - m - t - g < 0 then -1 else left - n - m - t - g) = -1) := Lib.hid (if_pos (by omega))
    have HQ : Hid (szr left (totA a) = -1) := Lib.hid (by rw [HT.out]; exact szr_neg (by omega))
    go_enter Try.func78, Try.ntmps78
    go_wp2_with fail
    refine Calls.name ?_
    intro U1 hU1
    have hb : Below w.heap.size w U1 := by rw [hU1]; exact ((Below.refl _ _).alloc (Nat.le_refl _) _)
    have zz : Hid (w.heap.size + 1 = U1.heap.size) := Lib.hid (by rw [hU1]; simp)
    have HX1 : Kept w.heap.size (w.heap.size + 1) (BoxK w.heap.size 118 #[.int .i64 a.code, .bool a.ch, .int .i64 a.l.age, .int .i64 a.l.options, .int .i64 a.l.typ, .int .i64 a.l.id, .int .i64 a.l.adv, .int .i64 a.l.seq, .slice A n c, .slice B m d, .int .i64 a.l.mask, .int .i64 a.l.cost, .int .i64 a.now, .slice E k f, .bool a.mrk, .slice G g j]) U1 := by rw [hU1]; exact Kept.box (Box.made_at _ _ _ rfl)
    replace HA := HA.below hb
    replace HB := Lib.hid (below_step HB.out hb)
    clear hb
    have Z1 := zz; clear zz
    clear hU1
    refine (szLsa_any a.l A B n c m d left _ hnn hmm h0 h1).mono ?_
    rw [HR.out]
    rintro e w2 ⟨rfl, hb⟩
    have Z2 := Lib.hid hb.size
    replace HA := HA.below hb
    replace HX1 := HX1.below hb
    replace HB := Lib.hid (below_step HB.out hb)
    clear hb
    have c2_0 := HX1.look 12
    have c2_1 := HX1.look 13
    have l2_0 := HX1.bx.lt
    go_wp2_with fail
    clear c2_0 c2_1 l2_0
    refine (szBase_szr q lo hi E k f a.es a.now (left - n - m) _ HA.ansEnts HA.le hee HF.out.2.2.2.1 (by omega) (by omega)).mono ?_
    rw [HTB.out]
    rw [HR2.out]
    rintro e w3 ⟨rfl, hb⟩
    have Z3 := Lib.hid hb.size
    replace HA := HA.below hb
    replace HX1 := HX1.below hb
    replace HB := Lib.hid (below_step HB.out hb)
    clear hb
    have c3_0 := HX1.look 15
    have l3_0 := HX1.bx.lt
    go_wp2_with fail
    clear c3_0 l3_0
    refine (szItemS_any G g j (left - n - m - t) _ (by omega) (by omega) hgg).mono ?_
    rw [HR3.out]
    rintro e w4 ⟨rfl, rfl⟩
    have l4_0 := HX1.bx.lt
    go_wp2
    clear l4_0
    go_ret
    exact ⟨by rw [HQ.out]; try rfl, HB.out⟩
  · have HB := Lib.hid (Below.refl w.heap.size w)
    have HR : Hid (szr left (n + m) = left - n - m) := Lib.hid (by rw [szr_pos (by omega)]; omega)
    have HR2 : Hid (szr (left - n - m) t = left - n - m - t) := Lib.hid (szr_pos (by omega))
    have HR3 : Hid ((if left - (n : Int) - m - t - g < 0 then -1 else left - n - m - t - g) = left - n - m - t - g) := Lib.hid (if_neg (by omega))
    have HQ : Hid (szr left (totA a) = left - n - m - t - g) := Lib.hid (by rw [HT.out, szr_pos (by omega)]; omega)
    have hq3 : ¬ (left - (n : Int) - m - t - g < 0) := by omega
    go_enter Try.func78, Try.ntmps78
    go_wp2_with fail
    refine Calls.name ?_
    intro U1 hU1
    have hb : Below w.heap.size w U1 := by rw [hU1]; exact ((Below.refl _ _).alloc (Nat.le_refl _) _)
    have zz : Hid (w.heap.size + 1 = U1.heap.size) := Lib.hid (by rw [hU1]; simp)
    have HX1 : Kept w.heap.size (w.heap.size + 1) (BoxK w.heap.size 118 #[.int .i64 a.code, .bool a.ch, .int .i64 a.l.age, .int .i64 a.l.options, .int .i64 a.l.typ, .int .i64 a.l.id, .int .i64 a.l.adv, .int .i64 a.l.seq, .slice A n c, .slice B m d, .int .i64 a.l.mask, .int .i64 a.l.cost, .int .i64 a.now, .slice E k f, .bool a.mrk, .slice G g j]) U1 := by rw [hU1]; exact Kept.box (Box.made_at _ _ _ rfl)
    replace HA := HA.below hb
    replace HB := Lib.hid (below_step HB.out hb)
    clear hb
    have Z1 := zz; clear zz
    clear hU1
    refine (szLsa_any a.l A B n c m d left _ hnn hmm h0 h1).mono ?_
    rw [HR.out]
    rintro e w2 ⟨rfl, hb⟩
    have Z2 := Lib.hid hb.size
    replace HA := HA.below hb
    replace HX1 := HX1.below hb
    replace HB := Lib.hid (below_step HB.out hb)
    clear hb
    have c2_0 := HX1.look 12
    have c2_1 := HX1.look 13
    have l2_0 := HX1.bx.lt
    go_wp2_with fail
    clear c2_0 c2_1 l2_0
    refine (szBase_szr q lo hi E k f a.es a.now (left - n - m) _ HA.ansEnts HA.le hee HF.out.2.2.2.1 (by omega) (by omega)).mono ?_
    rw [HTB.out]
    rw [HR2.out]
    rintro e w3 ⟨rfl, hb⟩
    have Z3 := Lib.hid hb.size
    replace HA := HA.below hb
    replace HX1 := HX1.below hb
    replace HB := Lib.hid (below_step HB.out hb)
    clear hb
    have c3_0 := HX1.look 15
    have l3_0 := HX1.bx.lt
    go_wp2_with fail
    clear c3_0 l3_0
    refine (szItemS_any G g j (left - n - m - t) _ (by omega) (by omega) hgg).mono ?_
    rw [HR3.out]
    rintro e w4 ⟨rfl, rfl⟩
    have l4_0 := HX1.bx.lt
    go_wp2
    clear l4_0
    go_ret
    exact ⟨by rw [HQ.out]; try rfl, HB.out⟩

set_option maxRecDepth 100000 in
set_option maxHeartbeats 1600000 in
theorem toAnswer_any (a : AnsM) (q : Bool) (lo hi : Nat) (A B E G : Option Addr) (n c m d k f g j : Nat) (w : World) (ha : AnsIn q lo hi w A n B m E k G g a) (hh : hi ≤ w.heap.size) (hf : AnsFit 1048576 a) :
    Calls Try.prog 80 #[.agg #[.int .i64 a.code, .bool a.ch, .int .i64 a.l.age, .int .i64 a.l.options, .int .i64 a.l.typ, .int .i64 a.l.id, .int .i64 a.l.adv, .int .i64 a.l.seq, .slice A n c, .slice B m d, .int .i64 a.l.mask, .int .i64 a.l.cost, .int .i64 a.now, .slice E k f, .bool a.mrk, .slice G g j]] w fun e w' => ∃ A2 B2 E2 G2, e = .returned (.agg #[.int .i64 a.code, .bool a.ch, .int .i64 a.l.age, .int .i64 a.l.options, .int .i64 a.l.typ, .int .i64 a.l.id, .int .i64 a.l.adv, .int .i64 a.l.seq, .slice A2 n n, .slice B2 m m, .int .i64 a.l.mask, .int .i64 a.l.cost, .int .i64 a.now, .slice E2 k k, .bool a.mrk, .slice G2 g g]) ∧ Kept w.heap.size w'.heap.size (AnsK true w.heap.size w'.heap.size A2 n B2 m E2 k G2 g a) w' ∧ Below w.heap.size w w' := by
  obtain ⟨L1, L2, L3, L4⟩ := ha.lens
  have HF := Lib.hid hf
  have hnn : n ≤ 1048576 := by have := hf.1; omega
  have hmm : m ≤ 1048576 := by have := hf.2.1; omega
  have hee : k ≤ 1048576 := by have := hf.2.2.1; omega
  have hgg : g ≤ 1048576 := by have := hf.2.2.2.2; omega
  have HA := ha.kept hh
  clear ha hf L1 L2 L3 L4
  have HB := Lib.hid (Below.refl w.heap.size w)
  go_enter Try.func80, Try.ntmps80
  go_wp2_with fail
  refine Calls.name ?_
  intro U1 hU1
  have hb : Below w.heap.size w U1 := by rw [hU1]; exact ((((Below.refl _ _).alloc (Nat.le_refl _) _).alloc (by simp <;> omega) _).alloc (by simp <;> omega) _)
  have zz : Hid (w.heap.size + 3 = U1.heap.size) := Lib.hid (by rw [hU1]; simp)
  have HX1 : Kept w.heap.size (w.heap.size + 1) (BoxK w.heap.size 118 #[.int .i64 a.code, .bool a.ch, .int .i64 a.l.age, .int .i64 a.l.options, .int .i64 a.l.typ, .int .i64 a.l.id, .int .i64 a.l.adv, .int .i64 a.l.seq, .slice A n c, .slice B m d, .int .i64 a.l.mask, .int .i64 a.l.cost, .int .i64 a.now, .slice E k f, .bool a.mrk, .slice G g j]) U1 := by rw [hU1]; exact Kept.box (((Box.made_at _ _ _ rfl).over _).over _)
  have HX2 : Kept (w.heap.size + 1) (w.heap.size + 1 + 1) (BoxK (w.heap.size + 1) 128 #[.int .i64 0, .bool false, .int .i64 0, .int .i64 0, .int .i64 0, .int .i64 0, .int .i64 0, .int .i64 0, .slice none 0 0, .slice none 0 0, .int .i64 0, .int .i64 0, .int .i64 0, .slice none 0 0, .bool false, .slice none 0 0]) U1 := by rw [hU1]; exact Kept.box ((Box.made_at _ _ _ (by simp <;> omega)).over _)
  have HX3 : Kept (w.heap.size + 1 + 1) (w.heap.size + 1 + 1 + 1) (BoxK (w.heap.size + 1 + 1) 128 #[.int .i64 a.code, .bool a.ch, .int .i64 0, .int .i64 0, .int .i64 0, .int .i64 0, .int .i64 0, .int .i64 0, .slice none 0 0, .slice none 0 0, .int .i64 0, .int .i64 0, .int .i64 0, .slice none 0 0, .bool false, .slice none 0 0]) U1 := by rw [hU1]; exact Kept.box (Box.made_at _ _ _ (by simp <;> omega))
  replace HA := HA.below hb
  replace HB := Lib.hid (below_step HB.out hb)
  clear hb
  have Z1 := zz; clear zz
  clear hU1
  refine (toLsa_two a.l q lo hi A B n c m d _ HA.ansLsa HA.le hnn hmm).mono ?_
  rintro e w2 ⟨Ax, Bx, rfl, ht, hb⟩
  have Z2 := Lib.hid hb.size
  replace HA := HA.below hb
  replace HX1 := HX1.below hb
  replace HX2 := HX2.below hb
  replace HX3 := HX3.below hb
  replace HB := Lib.hid (below_step HB.out hb)
  clear hb
  have HT := ht.kept; clear ht
  have c2_0 := HX1.look 12
  have c2_1 := HX1.look 13
  have c2_2 := HX3.look 2
  have c2_3 := HX3.look 3
  have c2_4 := HX3.look 4
  have c2_5 := HX3.look 5
  have c2_6 := HX3.look 6
  have c2_7 := HX3.look 7
  have c2_8 := HX3.look 8
  have c2_9 := HX3.look 9
  have c2_10 := HX3.look 10
  have c2_11 := HX3.look 11
  have f2_0 := HX3.free 2
  have f2_1 := HX3.free 3
  have f2_2 := HX3.free 4
  have f2_3 := HX3.free 5
  have f2_4 := HX3.free 6
  have f2_5 := HX3.free 7
  have f2_6 := HX3.free 8
  have f2_7 := HX3.free 9
  have f2_8 := HX3.free 10
  have f2_9 := HX3.free 11
  have l2_0 := HX1.bx.lt
  have l2_1 := HX2.bx.lt
  have l2_2 := HX3.bx.lt
  have n2_0_0 : ¬ (w.heap.size + 1 + 1) = w.heap.size := (by have := Z1.out; have := Z2.out; omega)
  have m2_0_0 : ¬ w.heap.size = (w.heap.size + 1 + 1) := (by have := Z1.out; have := Z2.out; omega)
  go_wp2_with fail
  clear c2_0 c2_1 c2_2 c2_3 c2_4 c2_5 c2_6 c2_7 c2_8 c2_9 c2_10 c2_11 f2_0 f2_1 f2_2 f2_3 f2_4 f2_5 f2_6 f2_7 f2_8 f2_9 l2_0 l2_1 l2_2 n2_0_0 m2_0_0
  refine Calls.name ?_
  intro U3 hU3
  have ho : Only (w.heap.size + 1 + 1) (w.heap.size + 1 + 1 + 1) w2 U3 := by rw [hU3]; exact (((((((((((Only.refl _ _ _).set (p := ⟨w.heap.size + 1 + 1, 2, none⟩) (Nat.le_refl _) (Nat.lt_succ_self _) _).set (p := ⟨w.heap.size + 1 + 1, 3, none⟩) (Nat.le_refl _) (Nat.lt_succ_self _) _).set (p := ⟨w.heap.size + 1 + 1, 4, none⟩) (Nat.le_refl _) (Nat.lt_succ_self _) _).set (p := ⟨w.heap.size + 1 + 1, 5, none⟩) (Nat.le_refl _) (Nat.lt_succ_self _) _).set (p := ⟨w.heap.size + 1 + 1, 6, none⟩) (Nat.le_refl _) (Nat.lt_succ_self _) _).set (p := ⟨w.heap.size + 1 + 1, 7, none⟩) (Nat.le_refl _) (Nat.lt_succ_self _) _).set (p := ⟨w.heap.size + 1 + 1, 8, none⟩) (Nat.le_refl _) (Nat.lt_succ_self _) _).set (p := ⟨w.heap.size + 1 + 1, 9, none⟩) (Nat.le_refl _) (Nat.lt_succ_self _) _).set (p := ⟨w.heap.size + 1 + 1, 10, none⟩) (Nat.le_refl _) (Nat.lt_succ_self _) _).set (p := ⟨w.heap.size + 1 + 1, 11, none⟩) (Nat.le_refl _) (Nat.lt_succ_self _) _)
  replace HX3 : Kept (w.heap.size + 1 + 1) (w.heap.size + 1 + 1 + 1) (BoxK (w.heap.size + 1 + 1) 128 #[.int .i64 a.code, .bool a.ch, .int .i64 a.l.age, .int .i64 a.l.options, .int .i64 a.l.typ, .int .i64 a.l.id, .int .i64 a.l.adv, .int .i64 a.l.seq, .slice Ax n n, .slice Bx m m, .int .i64 a.l.mask, .int .i64 a.l.cost, .int .i64 0, .slice none 0 0, .bool false, .slice none 0 0]) U3 := by rw [hU3]; exact Kept.box ((((((((((HX3.bx.puts 2 (.int .i64 a.l.age) (cs' := #[.int .i64 a.code, .bool a.ch, .int .i64 a.l.age, .int .i64 0, .int .i64 0, .int .i64 0, .int .i64 0, .int .i64 0, .slice none 0 0, .slice none 0 0, .int .i64 0, .int .i64 0, .int .i64 0, .slice none 0 0, .bool false, .slice none 0 0]) rfl).puts 3 (.int .i64 a.l.options) (cs' := #[.int .i64 a.code, .bool a.ch, .int .i64 a.l.age, .int .i64 a.l.options, .int .i64 0, .int .i64 0, .int .i64 0, .int .i64 0, .slice none 0 0, .slice none 0 0, .int .i64 0, .int .i64 0, .int .i64 0, .slice none 0 0, .bool false, .slice none 0 0]) rfl).puts 4 (.int .i64 a.l.typ) (cs' := #[.int .i64 a.code, .bool a.ch, .int .i64 a.l.age, .int .i64 a.l.options, .int .i64 a.l.typ, .int .i64 0, .int .i64 0, .int .i64 0, .slice none 0 0, .slice none 0 0, .int .i64 0, .int .i64 0, .int .i64 0, .slice none 0 0, .bool false, .slice none 0 0]) rfl).puts 5 (.int .i64 a.l.id) (cs' := #[.int .i64 a.code, .bool a.ch, .int .i64 a.l.age, .int .i64 a.l.options, .int .i64 a.l.typ, .int .i64 a.l.id, .int .i64 0, .int .i64 0, .slice none 0 0, .slice none 0 0, .int .i64 0, .int .i64 0, .int .i64 0, .slice none 0 0, .bool false, .slice none 0 0]) rfl).puts 6 (.int .i64 a.l.adv) (cs' := #[.int .i64 a.code, .bool a.ch, .int .i64 a.l.age, .int .i64 a.l.options, .int .i64 a.l.typ, .int .i64 a.l.id, .int .i64 a.l.adv, .int .i64 0, .slice none 0 0, .slice none 0 0, .int .i64 0, .int .i64 0, .int .i64 0, .slice none 0 0, .bool false, .slice none 0 0]) rfl).puts 7 (.int .i64 a.l.seq) (cs' := #[.int .i64 a.code, .bool a.ch, .int .i64 a.l.age, .int .i64 a.l.options, .int .i64 a.l.typ, .int .i64 a.l.id, .int .i64 a.l.adv, .int .i64 a.l.seq, .slice none 0 0, .slice none 0 0, .int .i64 0, .int .i64 0, .int .i64 0, .slice none 0 0, .bool false, .slice none 0 0]) rfl).puts 8 (.slice Ax n n) (cs' := #[.int .i64 a.code, .bool a.ch, .int .i64 a.l.age, .int .i64 a.l.options, .int .i64 a.l.typ, .int .i64 a.l.id, .int .i64 a.l.adv, .int .i64 a.l.seq, .slice Ax n n, .slice none 0 0, .int .i64 0, .int .i64 0, .int .i64 0, .slice none 0 0, .bool false, .slice none 0 0]) rfl).puts 9 (.slice Bx m m) (cs' := #[.int .i64 a.code, .bool a.ch, .int .i64 a.l.age, .int .i64 a.l.options, .int .i64 a.l.typ, .int .i64 a.l.id, .int .i64 a.l.adv, .int .i64 a.l.seq, .slice Ax n n, .slice Bx m m, .int .i64 0, .int .i64 0, .int .i64 0, .slice none 0 0, .bool false, .slice none 0 0]) rfl).puts 10 (.int .i64 a.l.mask) (cs' := #[.int .i64 a.code, .bool a.ch, .int .i64 a.l.age, .int .i64 a.l.options, .int .i64 a.l.typ, .int .i64 a.l.id, .int .i64 a.l.adv, .int .i64 a.l.seq, .slice Ax n n, .slice Bx m m, .int .i64 a.l.mask, .int .i64 0, .int .i64 0, .slice none 0 0, .bool false, .slice none 0 0]) rfl).puts 11 (.int .i64 a.l.cost) (cs' := #[.int .i64 a.code, .bool a.ch, .int .i64 a.l.age, .int .i64 a.l.options, .int .i64 a.l.typ, .int .i64 a.l.id, .int .i64 a.l.adv, .int .i64 a.l.seq, .slice Ax n n, .slice Bx m m, .int .i64 a.l.mask, .int .i64 a.l.cost, .int .i64 0, .slice none 0 0, .bool false, .slice none 0 0]) rfl)
  replace HA := HA.only ho (by have := Z1.out; have := Z2.out; omega)
  replace HX1 := HX1.only ho (by have := Z1.out; have := Z2.out; omega)
  replace HX2 := HX2.only ho (by have := Z1.out; have := Z2.out; omega)
  replace HT := HT.only ho (by have := Z1.out; have := Z2.out; omega)
  replace HB := Lib.hid (Below.only HB.out ho (by have := Z1.out; have := Z2.out; omega) HB.out.size)
  have Z3 : Hid (U3.heap.size = w2.heap.size) := Lib.hid (by rw [hU3]; simp [World.setCell]); clear ho
  clear hU3
  refine (toBase_any q lo hi E k f a.es a.now _ HA.ansEnts HA.le hee HF.out.2.2.2.1).mono ?_
  rintro e w4 ⟨Ex, rfl, hk, hb⟩
  have Z4 := Lib.hid hb.size
  replace HA := HA.below hb
  replace HX1 := HX1.below hb
  replace HX2 := HX2.below hb
  replace HX3 := HX3.below hb
  replace HT := HT.below hb
  replace HB := Lib.hid (below_step HB.out hb)
  clear hb
  have HE := hk; clear hk
  have c3_0 := HX1.look 14
  have c3_1 := HX1.look 15
  have c3_2 := HX3.look 12
  have c3_3 := HX3.look 13
  have c3_4 := HX3.look 14
  have f3_0 := HX3.free 12
  have f3_1 := HX3.free 13
  have f3_2 := HX3.free 14
  have l3_0 := HX1.bx.lt
  have l3_1 := HX2.bx.lt
  have l3_2 := HX3.bx.lt
  have n3_0_0 : ¬ (w.heap.size + 1 + 1) = w.heap.size := (by have := Z1.out; have := Z2.out; have := Z3.out; have := Z4.out; omega)
  have m3_0_0 : ¬ w.heap.size = (w.heap.size + 1 + 1) := (by have := Z1.out; have := Z2.out; have := Z3.out; have := Z4.out; omega)
  go_wp2_with fail
  clear c3_0 c3_1 c3_2 c3_3 c3_4 f3_0 f3_1 f3_2 l3_0 l3_1 l3_2 n3_0_0 m3_0_0
  refine Calls.name ?_
  intro U5 hU5
  have ho : Only (w.heap.size + 1 + 1) (w.heap.size + 1 + 1 + 1) w4 U5 := by rw [hU5]; exact ((((Only.refl _ _ _).set (p := ⟨w.heap.size + 1 + 1, 12, none⟩) (Nat.le_refl _) (Nat.lt_succ_self _) _).set (p := ⟨w.heap.size + 1 + 1, 13, none⟩) (Nat.le_refl _) (Nat.lt_succ_self _) _).set (p := ⟨w.heap.size + 1 + 1, 14, none⟩) (Nat.le_refl _) (Nat.lt_succ_self _) _)
  replace HX3 : Kept (w.heap.size + 1 + 1) (w.heap.size + 1 + 1 + 1) (BoxK (w.heap.size + 1 + 1) 128 #[.int .i64 a.code, .bool a.ch, .int .i64 a.l.age, .int .i64 a.l.options, .int .i64 a.l.typ, .int .i64 a.l.id, .int .i64 a.l.adv, .int .i64 a.l.seq, .slice Ax n n, .slice Bx m m, .int .i64 a.l.mask, .int .i64 a.l.cost, .int .i64 a.now, .slice Ex k k, .bool a.mrk, .slice none 0 0]) U5 := by rw [hU5]; exact Kept.box (((HX3.bx.puts 12 (.int .i64 a.now) (cs' := #[.int .i64 a.code, .bool a.ch, .int .i64 a.l.age, .int .i64 a.l.options, .int .i64 a.l.typ, .int .i64 a.l.id, .int .i64 a.l.adv, .int .i64 a.l.seq, .slice Ax n n, .slice Bx m m, .int .i64 a.l.mask, .int .i64 a.l.cost, .int .i64 a.now, .slice none 0 0, .bool false, .slice none 0 0]) rfl).puts 13 (.slice Ex k k) (cs' := #[.int .i64 a.code, .bool a.ch, .int .i64 a.l.age, .int .i64 a.l.options, .int .i64 a.l.typ, .int .i64 a.l.id, .int .i64 a.l.adv, .int .i64 a.l.seq, .slice Ax n n, .slice Bx m m, .int .i64 a.l.mask, .int .i64 a.l.cost, .int .i64 a.now, .slice Ex k k, .bool false, .slice none 0 0]) rfl).puts 14 (.bool a.mrk) (cs' := #[.int .i64 a.code, .bool a.ch, .int .i64 a.l.age, .int .i64 a.l.options, .int .i64 a.l.typ, .int .i64 a.l.id, .int .i64 a.l.adv, .int .i64 a.l.seq, .slice Ax n n, .slice Bx m m, .int .i64 a.l.mask, .int .i64 a.l.cost, .int .i64 a.now, .slice Ex k k, .bool a.mrk, .slice none 0 0]) rfl)
  replace HA := HA.only ho (by have := Z1.out; have := Z2.out; have := Z3.out; have := Z4.out; omega)
  replace HX1 := HX1.only ho (by have := Z1.out; have := Z2.out; have := Z3.out; have := Z4.out; omega)
  replace HX2 := HX2.only ho (by have := Z1.out; have := Z2.out; have := Z3.out; have := Z4.out; omega)
  replace HT := HT.only ho (by have := Z1.out; have := Z2.out; have := Z3.out; have := Z4.out; omega)
  replace HE := HE.only ho (by have := Z1.out; have := Z2.out; have := Z3.out; have := Z4.out; omega)
  replace HB := Lib.hid (Below.only HB.out ho (by have := Z1.out; have := Z2.out; have := Z3.out; have := Z4.out; omega) HB.out.size)
  have Z5 : Hid (U5.heap.size = w4.heap.size) := Lib.hid (by rw [hU5]; simp [World.setCell]); clear ho
  clear hU5
  refine (toItemS_any q lo hi G g j a.items _ HA.ansItems HA.le hgg).mono ?_
  rintro e w6 ⟨rfl, hs, hlt, hb⟩
  have Z6 := Lib.hid hb.size
  replace HA := HA.below hb
  replace HX1 := HX1.below hb
  replace HX2 := HX2.below hb
  replace HX3 := HX3.below hb
  replace HT := HT.below hb
  replace HE := HE.below hb
  replace HB := Lib.hid (below_step HB.out hb)
  clear hb
  have HS := Rep.Sl.kept hs hlt; clear hs hlt
  have c4_0 := HX2.look 0
  have c4_1 := HX2.look 1
  have c4_2 := HX2.look 2
  have c4_3 := HX2.look 3
  have c4_4 := HX2.look 4
  have c4_5 := HX2.look 5
  have c4_6 := HX2.look 6
  have c4_7 := HX2.look 7
  have c4_8 := HX2.look 8
  have c4_9 := HX2.look 9
  have c4_10 := HX2.look 10
  have c4_11 := HX2.look 11
  have c4_12 := HX2.look 12
  have c4_13 := HX2.look 13
  have c4_14 := HX2.look 14
  have c4_15 := HX2.look 15
  have c4_16 := HX3.look 0
  have c4_17 := HX3.look 1
  have c4_18 := HX3.look 2
  have c4_19 := HX3.look 3
  have c4_20 := HX3.look 4
  have c4_21 := HX3.look 5
  have c4_22 := HX3.look 6
  have c4_23 := HX3.look 7
  have c4_24 := HX3.look 8
  have c4_25 := HX3.look 9
  have c4_26 := HX3.look 10
  have c4_27 := HX3.look 11
  have c4_28 := HX3.look 12
  have c4_29 := HX3.look 13
  have c4_30 := HX3.look 14
  have c4_31 := HX3.look 15
  have f4_0 := HX2.free 0
  have f4_1 := HX2.free 1
  have f4_2 := HX2.free 2
  have f4_3 := HX2.free 3
  have f4_4 := HX2.free 4
  have f4_5 := HX2.free 5
  have f4_6 := HX2.free 6
  have f4_7 := HX2.free 7
  have f4_8 := HX2.free 8
  have f4_9 := HX2.free 9
  have f4_10 := HX2.free 10
  have f4_11 := HX2.free 11
  have f4_12 := HX2.free 12
  have f4_13 := HX2.free 13
  have f4_14 := HX2.free 14
  have f4_15 := HX2.free 15
  have f4_16 := HX3.free 15
  have l4_0 := HX1.bx.lt
  have l4_1 := HX2.bx.lt
  have l4_2 := HX3.bx.lt
  have n4_0_1 : ¬ (w.heap.size + 1) = (w.heap.size + 1 + 1) := (by have := Z1.out; have := Z2.out; have := Z3.out; have := Z4.out; have := Z5.out; have := Z6.out; omega)
  have m4_0_1 : ¬ (w.heap.size + 1 + 1) = (w.heap.size + 1) := (by have := Z1.out; have := Z2.out; have := Z3.out; have := Z4.out; have := Z5.out; have := Z6.out; omega)
  go_wp2
  clear c4_0 c4_1 c4_2 c4_3 c4_4 c4_5 c4_6 c4_7 c4_8 c4_9 c4_10 c4_11 c4_12 c4_13 c4_14 c4_15 c4_16 c4_17 c4_18 c4_19 c4_20 c4_21 c4_22 c4_23 c4_24 c4_25 c4_26 c4_27 c4_28 c4_29 c4_30 c4_31 f4_0 f4_1 f4_2 f4_3 f4_4 f4_5 f4_6 f4_7 f4_8 f4_9 f4_10 f4_11 f4_12 f4_13 f4_14 f4_15 f4_16 l4_0 l4_1 l4_2 n4_0_1 m4_0_1
  obtain ⟨U7, hU7⟩ : ∃ W : World, W = (w6.setCell ⟨w.heap.size + 1 + 1, 15, none⟩ (.slice (some ⟨U5.heap.size, 0, none⟩) g g)) := ⟨_, rfl⟩
  have ho : Only (w.heap.size + 1 + 1) (w.heap.size + 1 + 1 + 1) w6 U7 := by rw [hU7]; exact ((Only.refl _ _ _).set (p := ⟨w.heap.size + 1 + 1, 15, none⟩) (Nat.le_refl _) (Nat.lt_succ_self _) _)
  replace HX3 : Kept (w.heap.size + 1 + 1) (w.heap.size + 1 + 1 + 1) (BoxK (w.heap.size + 1 + 1) 128 #[.int .i64 a.code, .bool a.ch, .int .i64 a.l.age, .int .i64 a.l.options, .int .i64 a.l.typ, .int .i64 a.l.id, .int .i64 a.l.adv, .int .i64 a.l.seq, .slice Ax n n, .slice Bx m m, .int .i64 a.l.mask, .int .i64 a.l.cost, .int .i64 a.now, .slice Ex k k, .bool a.mrk, .slice (some ⟨U5.heap.size, 0, none⟩) g g]) U7 := by rw [hU7]; exact Kept.box (HX3.bx.puts 15 (.slice (some ⟨U5.heap.size, 0, none⟩) g g) (cs' := #[.int .i64 a.code, .bool a.ch, .int .i64 a.l.age, .int .i64 a.l.options, .int .i64 a.l.typ, .int .i64 a.l.id, .int .i64 a.l.adv, .int .i64 a.l.seq, .slice Ax n n, .slice Bx m m, .int .i64 a.l.mask, .int .i64 a.l.cost, .int .i64 a.now, .slice Ex k k, .bool a.mrk, .slice (some ⟨U5.heap.size, 0, none⟩) g g]) rfl)
  replace HA := HA.only ho (by have := Z1.out; have := Z2.out; have := Z3.out; have := Z4.out; have := Z5.out; have := Z6.out; omega)
  replace HX1 := HX1.only ho (by have := Z1.out; have := Z2.out; have := Z3.out; have := Z4.out; have := Z5.out; have := Z6.out; omega)
  replace HX2 := HX2.only ho (by have := Z1.out; have := Z2.out; have := Z3.out; have := Z4.out; have := Z5.out; have := Z6.out; omega)
  replace HT := HT.only ho (by have := Z1.out; have := Z2.out; have := Z3.out; have := Z4.out; have := Z5.out; have := Z6.out; omega)
  replace HE := HE.only ho (by have := Z1.out; have := Z2.out; have := Z3.out; have := Z4.out; have := Z5.out; have := Z6.out; omega)
  replace HS := HS.only ho (by have := Z1.out; have := Z2.out; have := Z3.out; have := Z4.out; have := Z5.out; have := Z6.out; omega)
  replace HB := Lib.hid (Below.only HB.out ho (by have := Z1.out; have := Z2.out; have := Z3.out; have := Z4.out; have := Z5.out; have := Z6.out; omega) HB.out.size)
  have Z7 : Hid (U7.heap.size = w6.heap.size) := Lib.hid (by rw [hU7]; simp [World.setCell]); clear ho
  obtain ⟨U8, hU8⟩ : ∃ W : World, W = ((((((((((((((((U7.setCell ⟨w.heap.size + 1, 0, none⟩ (.int .i64 a.code)).setCell ⟨w.heap.size + 1, 1, none⟩ (.bool a.ch)).setCell ⟨w.heap.size + 1, 2, none⟩ (.int .i64 a.l.age)).setCell ⟨w.heap.size + 1, 3, none⟩ (.int .i64 a.l.options)).setCell ⟨w.heap.size + 1, 4, none⟩ (.int .i64 a.l.typ)).setCell ⟨w.heap.size + 1, 5, none⟩ (.int .i64 a.l.id)).setCell ⟨w.heap.size + 1, 6, none⟩ (.int .i64 a.l.adv)).setCell ⟨w.heap.size + 1, 7, none⟩ (.int .i64 a.l.seq)).setCell ⟨w.heap.size + 1, 8, none⟩ (.slice Ax n n)).setCell ⟨w.heap.size + 1, 9, none⟩ (.slice Bx m m)).setCell ⟨w.heap.size + 1, 10, none⟩ (.int .i64 a.l.mask)).setCell ⟨w.heap.size + 1, 11, none⟩ (.int .i64 a.l.cost)).setCell ⟨w.heap.size + 1, 12, none⟩ (.int .i64 a.now)).setCell ⟨w.heap.size + 1, 13, none⟩ (.slice Ex k k)).setCell ⟨w.heap.size + 1, 14, none⟩ (.bool a.mrk)).setCell ⟨w.heap.size + 1, 15, none⟩ (.slice (some ⟨U5.heap.size, 0, none⟩) g g)) := ⟨_, rfl⟩
  have ho : Only (w.heap.size + 1) (w.heap.size + 1 + 1) U7 U8 := by rw [hU8]; exact (((((((((((((((((Only.refl _ _ _).set (p := ⟨w.heap.size + 1, 0, none⟩) (Nat.le_refl _) (Nat.lt_succ_self _) _).set (p := ⟨w.heap.size + 1, 1, none⟩) (Nat.le_refl _) (Nat.lt_succ_self _) _).set (p := ⟨w.heap.size + 1, 2, none⟩) (Nat.le_refl _) (Nat.lt_succ_self _) _).set (p := ⟨w.heap.size + 1, 3, none⟩) (Nat.le_refl _) (Nat.lt_succ_self _) _).set (p := ⟨w.heap.size + 1, 4, none⟩) (Nat.le_refl _) (Nat.lt_succ_self _) _).set (p := ⟨w.heap.size + 1, 5, none⟩) (Nat.le_refl _) (Nat.lt_succ_self _) _).set (p := ⟨w.heap.size + 1, 6, none⟩) (Nat.le_refl _) (Nat.lt_succ_self _) _).set (p := ⟨w.heap.size + 1, 7, none⟩) (Nat.le_refl _) (Nat.lt_succ_self _) _).set (p := ⟨w.heap.size + 1, 8, none⟩) (Nat.le_refl _) (Nat.lt_succ_self _) _).set (p := ⟨w.heap.size + 1, 9, none⟩) (Nat.le_refl _) (Nat.lt_succ_self _) _).set (p := ⟨w.heap.size + 1, 10, none⟩) (Nat.le_refl _) (Nat.lt_succ_self _) _).set (p := ⟨w.heap.size + 1, 11, none⟩) (Nat.le_refl _) (Nat.lt_succ_self _) _).set (p := ⟨w.heap.size + 1, 12, none⟩) (Nat.le_refl _) (Nat.lt_succ_self _) _).set (p := ⟨w.heap.size + 1, 13, none⟩) (Nat.le_refl _) (Nat.lt_succ_self _) _).set (p := ⟨w.heap.size + 1, 14, none⟩) (Nat.le_refl _) (Nat.lt_succ_self _) _).set (p := ⟨w.heap.size + 1, 15, none⟩) (Nat.le_refl _) (Nat.lt_succ_self _) _)
  replace HX2 : Kept (w.heap.size + 1) (w.heap.size + 1 + 1) (BoxK (w.heap.size + 1) 128 #[.int .i64 a.code, .bool a.ch, .int .i64 a.l.age, .int .i64 a.l.options, .int .i64 a.l.typ, .int .i64 a.l.id, .int .i64 a.l.adv, .int .i64 a.l.seq, .slice Ax n n, .slice Bx m m, .int .i64 a.l.mask, .int .i64 a.l.cost, .int .i64 a.now, .slice Ex k k, .bool a.mrk, .slice (some ⟨U5.heap.size, 0, none⟩) g g]) U8 := by rw [hU8]; exact Kept.box ((((((((((((((((HX2.bx.puts 0 (.int .i64 a.code) (cs' := #[.int .i64 a.code, .bool false, .int .i64 0, .int .i64 0, .int .i64 0, .int .i64 0, .int .i64 0, .int .i64 0, .slice none 0 0, .slice none 0 0, .int .i64 0, .int .i64 0, .int .i64 0, .slice none 0 0, .bool false, .slice none 0 0]) rfl).puts 1 (.bool a.ch) (cs' := #[.int .i64 a.code, .bool a.ch, .int .i64 0, .int .i64 0, .int .i64 0, .int .i64 0, .int .i64 0, .int .i64 0, .slice none 0 0, .slice none 0 0, .int .i64 0, .int .i64 0, .int .i64 0, .slice none 0 0, .bool false, .slice none 0 0]) rfl).puts 2 (.int .i64 a.l.age) (cs' := #[.int .i64 a.code, .bool a.ch, .int .i64 a.l.age, .int .i64 0, .int .i64 0, .int .i64 0, .int .i64 0, .int .i64 0, .slice none 0 0, .slice none 0 0, .int .i64 0, .int .i64 0, .int .i64 0, .slice none 0 0, .bool false, .slice none 0 0]) rfl).puts 3 (.int .i64 a.l.options) (cs' := #[.int .i64 a.code, .bool a.ch, .int .i64 a.l.age, .int .i64 a.l.options, .int .i64 0, .int .i64 0, .int .i64 0, .int .i64 0, .slice none 0 0, .slice none 0 0, .int .i64 0, .int .i64 0, .int .i64 0, .slice none 0 0, .bool false, .slice none 0 0]) rfl).puts 4 (.int .i64 a.l.typ) (cs' := #[.int .i64 a.code, .bool a.ch, .int .i64 a.l.age, .int .i64 a.l.options, .int .i64 a.l.typ, .int .i64 0, .int .i64 0, .int .i64 0, .slice none 0 0, .slice none 0 0, .int .i64 0, .int .i64 0, .int .i64 0, .slice none 0 0, .bool false, .slice none 0 0]) rfl).puts 5 (.int .i64 a.l.id) (cs' := #[.int .i64 a.code, .bool a.ch, .int .i64 a.l.age, .int .i64 a.l.options, .int .i64 a.l.typ, .int .i64 a.l.id, .int .i64 0, .int .i64 0, .slice none 0 0, .slice none 0 0, .int .i64 0, .int .i64 0, .int .i64 0, .slice none 0 0, .bool false, .slice none 0 0]) rfl).puts 6 (.int .i64 a.l.adv) (cs' := #[.int .i64 a.code, .bool a.ch, .int .i64 a.l.age, .int .i64 a.l.options, .int .i64 a.l.typ, .int .i64 a.l.id, .int .i64 a.l.adv, .int .i64 0, .slice none 0 0, .slice none 0 0, .int .i64 0, .int .i64 0, .int .i64 0, .slice none 0 0, .bool false, .slice none 0 0]) rfl).puts 7 (.int .i64 a.l.seq) (cs' := #[.int .i64 a.code, .bool a.ch, .int .i64 a.l.age, .int .i64 a.l.options, .int .i64 a.l.typ, .int .i64 a.l.id, .int .i64 a.l.adv, .int .i64 a.l.seq, .slice none 0 0, .slice none 0 0, .int .i64 0, .int .i64 0, .int .i64 0, .slice none 0 0, .bool false, .slice none 0 0]) rfl).puts 8 (.slice Ax n n) (cs' := #[.int .i64 a.code, .bool a.ch, .int .i64 a.l.age, .int .i64 a.l.options, .int .i64 a.l.typ, .int .i64 a.l.id, .int .i64 a.l.adv, .int .i64 a.l.seq, .slice Ax n n, .slice none 0 0, .int .i64 0, .int .i64 0, .int .i64 0, .slice none 0 0, .bool false, .slice none 0 0]) rfl).puts 9 (.slice Bx m m) (cs' := #[.int .i64 a.code, .bool a.ch, .int .i64 a.l.age, .int .i64 a.l.options, .int .i64 a.l.typ, .int .i64 a.l.id, .int .i64 a.l.adv, .int .i64 a.l.seq, .slice Ax n n, .slice Bx m m, .int .i64 0, .int .i64 0, .int .i64 0, .slice none 0 0, .bool false, .slice none 0 0]) rfl).puts 10 (.int .i64 a.l.mask) (cs' := #[.int .i64 a.code, .bool a.ch, .int .i64 a.l.age, .int .i64 a.l.options, .int .i64 a.l.typ, .int .i64 a.l.id, .int .i64 a.l.adv, .int .i64 a.l.seq, .slice Ax n n, .slice Bx m m, .int .i64 a.l.mask, .int .i64 0, .int .i64 0, .slice none 0 0, .bool false, .slice none 0 0]) rfl).puts 11 (.int .i64 a.l.cost) (cs' := #[.int .i64 a.code, .bool a.ch, .int .i64 a.l.age, .int .i64 a.l.options, .int .i64 a.l.typ, .int .i64 a.l.id, .int .i64 a.l.adv, .int .i64 a.l.seq, .slice Ax n n, .slice Bx m m, .int .i64 a.l.mask, .int .i64 a.l.cost, .int .i64 0, .slice none 0 0, .bool false, .slice none 0 0]) rfl).puts 12 (.int .i64 a.now) (cs' := #[.int .i64 a.code, .bool a.ch, .int .i64 a.l.age, .int .i64 a.l.options, .int .i64 a.l.typ, .int .i64 a.l.id, .int .i64 a.l.adv, .int .i64 a.l.seq, .slice Ax n n, .slice Bx m m, .int .i64 a.l.mask, .int .i64 a.l.cost, .int .i64 a.now, .slice none 0 0, .bool false, .slice none 0 0]) rfl).puts 13 (.slice Ex k k) (cs' := #[.int .i64 a.code, .bool a.ch, .int .i64 a.l.age, .int .i64 a.l.options, .int .i64 a.l.typ, .int .i64 a.l.id, .int .i64 a.l.adv, .int .i64 a.l.seq, .slice Ax n n, .slice Bx m m, .int .i64 a.l.mask, .int .i64 a.l.cost, .int .i64 a.now, .slice Ex k k, .bool false, .slice none 0 0]) rfl).puts 14 (.bool a.mrk) (cs' := #[.int .i64 a.code, .bool a.ch, .int .i64 a.l.age, .int .i64 a.l.options, .int .i64 a.l.typ, .int .i64 a.l.id, .int .i64 a.l.adv, .int .i64 a.l.seq, .slice Ax n n, .slice Bx m m, .int .i64 a.l.mask, .int .i64 a.l.cost, .int .i64 a.now, .slice Ex k k, .bool a.mrk, .slice none 0 0]) rfl).puts 15 (.slice (some ⟨U5.heap.size, 0, none⟩) g g) (cs' := #[.int .i64 a.code, .bool a.ch, .int .i64 a.l.age, .int .i64 a.l.options, .int .i64 a.l.typ, .int .i64 a.l.id, .int .i64 a.l.adv, .int .i64 a.l.seq, .slice Ax n n, .slice Bx m m, .int .i64 a.l.mask, .int .i64 a.l.cost, .int .i64 a.now, .slice Ex k k, .bool a.mrk, .slice (some ⟨U5.heap.size, 0, none⟩) g g]) rfl)
  replace HA := HA.only ho (by have := Z1.out; have := Z2.out; have := Z3.out; have := Z4.out; have := Z5.out; have := Z6.out; have := Z7.out; omega)
  replace HX1 := HX1.only ho (by have := Z1.out; have := Z2.out; have := Z3.out; have := Z4.out; have := Z5.out; have := Z6.out; have := Z7.out; omega)
  replace HX3 := HX3.only ho (by have := Z1.out; have := Z2.out; have := Z3.out; have := Z4.out; have := Z5.out; have := Z6.out; have := Z7.out; omega)
  replace HT := HT.only ho (by have := Z1.out; have := Z2.out; have := Z3.out; have := Z4.out; have := Z5.out; have := Z6.out; have := Z7.out; omega)
  replace HE := HE.only ho (by have := Z1.out; have := Z2.out; have := Z3.out; have := Z4.out; have := Z5.out; have := Z6.out; have := Z7.out; omega)
  replace HS := HS.only ho (by have := Z1.out; have := Z2.out; have := Z3.out; have := Z4.out; have := Z5.out; have := Z6.out; have := Z7.out; omega)
  replace HB := Lib.hid (Below.only HB.out ho (by have := Z1.out; have := Z2.out; have := Z3.out; have := Z4.out; have := Z5.out; have := Z6.out; have := Z7.out; omega) HB.out.size)
  have Z8 : Hid (U8.heap.size = U7.heap.size) := Lib.hid (by rw [hU8]; simp [World.setCell]); clear ho
  have q_0 := HX2.look 0
  have q_1 := HX2.look 1
  have q_2 := HX2.look 2
  have q_3 := HX2.look 3
  have q_4 := HX2.look 4
  have q_5 := HX2.look 5
  have q_6 := HX2.look 6
  have q_7 := HX2.look 7
  have q_8 := HX2.look 8
  have q_9 := HX2.look 9
  have q_10 := HX2.look 10
  have q_11 := HX2.look 11
  have q_12 := HX2.look 12
  have q_13 := HX2.look 13
  have q_14 := HX2.look 14
  have q_15 := HX2.look 15
  subst hU8 hU7
  exact bodyPost_ret (v := .agg #[.int .i64 a.code, .bool a.ch, .int .i64 a.l.age, .int .i64 a.l.options, .int .i64 a.l.typ, .int .i64 a.l.id, .int .i64 a.l.adv, .int .i64 a.l.seq, .slice Ax n n, .slice Bx m m, .int .i64 a.l.mask, .int .i64 a.l.cost, .int .i64 a.now, .slice Ex k k, .bool a.mrk, .slice (some ⟨U5.heap.size, 0, none⟩) g g]) (by simp [results, Try.results80, go_sem, q_0, q_1, q_2, q_3, q_4, q_5, q_6, q_7, q_8, q_9, q_10, q_11, q_12, q_13, q_14, q_15]) rfl ⟨Ax, Bx, Ex, _, rfl, AnsIn.kept ⟨HT.two.at_.in_.mono (by have := Z1.out; have := Z2.out; have := Z3.out; have := Z4.out; have := Z5.out; have := Z6.out; have := Z7.out; have := Z8.out; omega) (by have := Z1.out; have := Z2.out; have := Z3.out; have := Z4.out; have := Z5.out; have := Z6.out; have := Z7.out; have := Z8.out; omega), HE.ents.mono (by have := Z1.out; have := Z2.out; have := Z3.out; have := Z4.out; have := Z5.out; have := Z6.out; have := Z7.out; have := Z8.out; omega) (by have := Z1.out; have := Z2.out; have := Z3.out; have := Z4.out; have := Z5.out; have := Z6.out; have := Z7.out; have := Z8.out; omega), HS.sl.mono (by have := Z1.out; have := Z2.out; have := Z3.out; have := Z4.out; have := Z5.out; have := Z6.out; have := Z7.out; have := Z8.out; omega) (by have := HS.le; omega)⟩ (Nat.le_refl _), HB.out⟩

set_option maxRecDepth 100000 in
set_option maxHeartbeats 1600000 in
theorem eqAnswer_yes (a : AnsM) (q1 q2 : Bool) (l1 h1 l2 h2 : Nat) (A B E G : Option Addr) (n c m d k f g j : Nat) (A2 B2 E2 G2 : Option Addr) (c2 d2 f2 j2 : Nat) (w : World) (ha : AnsIn q1 l1 h1 w A n B m E k G g a) (hb : AnsIn q2 l2 h2 w A2 n B2 m E2 k G2 g a) (hh1 : h1 ≤ w.heap.size) (hh2 : h2 ≤ w.heap.size) (hf : AnsFit 1048576 a) :
    Calls Try.prog 82 #[.agg #[.int .i64 a.code, .bool a.ch, .int .i64 a.l.age, .int .i64 a.l.options, .int .i64 a.l.typ, .int .i64 a.l.id, .int .i64 a.l.adv, .int .i64 a.l.seq, .slice A n c, .slice B m d, .int .i64 a.l.mask, .int .i64 a.l.cost, .int .i64 a.now, .slice E k f, .bool a.mrk, .slice G g j], .agg #[.int .i64 a.code, .bool a.ch, .int .i64 a.l.age, .int .i64 a.l.options, .int .i64 a.l.typ, .int .i64 a.l.id, .int .i64 a.l.adv, .int .i64 a.l.seq, .slice A2 n c2, .slice B2 m d2, .int .i64 a.l.mask, .int .i64 a.l.cost, .int .i64 a.now, .slice E2 k f2, .bool a.mrk, .slice G2 g j2]] w fun e w' => e = .returned (.bool true) ∧ Below w.heap.size w w' := by
  obtain ⟨L1, L2, L3, L4⟩ := ha.lens
  have HF := Lib.hid hf
  have hnn : n ≤ 1048576 := by have := hf.1; omega
  have hmm : m ≤ 1048576 := by have := hf.2.1; omega
  have hee : k ≤ 1048576 := by have := hf.2.2.1; omega
  have hgg : g ≤ 1048576 := by have := hf.2.2.2.2; omega
  have HA := ha.kept hh1
  have HC := hb.kept hh2
  clear ha hb hf L1 L2 L3 L4
  have HB := Lib.hid (Below.refl w.heap.size w)
  go_enter Try.func82, Try.ntmps82
  go_wp2_with fail
  refine Calls.name ?_
  intro U1 hU1
  have hb : Below w.heap.size w U1 := by rw [hU1]; exact (((Below.refl _ _).alloc (Nat.le_refl _) _).alloc (by simp <;> omega) _)
  have zz : Hid (w.heap.size + 2 = U1.heap.size) := Lib.hid (by rw [hU1]; simp)
  have HX1 : Kept w.heap.size (w.heap.size + 1) (BoxK w.heap.size 128 #[.int .i64 a.code, .bool a.ch, .int .i64 a.l.age, .int .i64 a.l.options, .int .i64 a.l.typ, .int .i64 a.l.id, .int .i64 a.l.adv, .int .i64 a.l.seq, .slice A n c, .slice B m d, .int .i64 a.l.mask, .int .i64 a.l.cost, .int .i64 a.now, .slice E k f, .bool a.mrk, .slice G g j]) U1 := by rw [hU1]; exact Kept.box ((Box.made_at _ _ _ rfl).over _)
  have HX2 : Kept (w.heap.size + 1) (w.heap.size + 1 + 1) (BoxK (w.heap.size + 1) 128 #[.int .i64 a.code, .bool a.ch, .int .i64 a.l.age, .int .i64 a.l.options, .int .i64 a.l.typ, .int .i64 a.l.id, .int .i64 a.l.adv, .int .i64 a.l.seq, .slice A2 n c2, .slice B2 m d2, .int .i64 a.l.mask, .int .i64 a.l.cost, .int .i64 a.now, .slice E2 k f2, .bool a.mrk, .slice G2 g j2]) U1 := by rw [hU1]; exact Kept.box (Box.made_at _ _ _ (by simp <;> omega))
  replace HA := HA.below hb
  replace HC := HC.below hb
  replace HB := Lib.hid (below_step HB.out hb)
  clear hb
  have Z1 := zz; clear zz
  clear hU1
  refine (eqLsa_yes a.l q1 q2 l1 h1 l2 h2 A B A2 B2 n c m d c2 d2 _ HA.ansLsa HC.ansLsa HA.le HC.le hnn hmm).mono ?_
  rintro e w2 ⟨rfl, hb⟩
  have Z2 := Lib.hid hb.size
  replace HA := HA.below hb
  replace HC := HC.below hb
  replace HX1 := HX1.below hb
  replace HX2 := HX2.below hb
  replace HB := Lib.hid (below_step HB.out hb)
  clear hb
  have c2_0 := HX1.look 12
  have c2_1 := HX1.look 13
  have c2_2 := HX2.look 12
  have c2_3 := HX2.look 13
  have l2_0 := HX1.bx.lt
  have l2_1 := HX2.bx.lt
  go_wp2_with fail
  clear c2_0 c2_1 c2_2 c2_3 l2_0 l2_1
  refine (eqBase_yes q1 q2 l1 h1 l2 h2 E E2 k f f2 a.es a.now _ HA.ansEnts HC.ansEnts HA.le HC.le hee HF.out.2.2.2.1).mono ?_
  rintro e w3 ⟨rfl, hb⟩
  have Z3 := Lib.hid hb.size
  replace HA := HA.below hb
  replace HC := HC.below hb
  replace HX1 := HX1.below hb
  replace HX2 := HX2.below hb
  replace HB := Lib.hid (below_step HB.out hb)
  clear hb
  have c3_0 := HX1.look 14
  have c3_1 := HX1.look 15
  have c3_2 := HX2.look 14
  have c3_3 := HX2.look 15
  have l3_0 := HX1.bx.lt
  have l3_1 := HX2.bx.lt
  go_wp2_with fail
  clear c3_0 c3_1 c3_2 c3_3 l3_0 l3_1
  refine (eqItemS_yes q1 q2 l1 h1 l2 h2 G G2 g j j2 a.items _ HA.ansItems HC.ansItems HA.le HC.le hgg).mono ?_
  rintro e w4 ⟨rfl, hb⟩
  have Z4 := Lib.hid hb.size
  replace HA := HA.below hb
  replace HC := HC.below hb
  replace HX1 := HX1.below hb
  replace HX2 := HX2.below hb
  replace HB := Lib.hid (below_step HB.out hb)
  clear hb
  have l4_0 := HX1.bx.lt
  have l4_1 := HX2.bx.lt
  go_wp2
  clear l4_0 l4_1
  go_ret
  exact ⟨rfl, HB.out⟩


end Go.Proofs.Ytiffhjofabaflaa

