/-
  What slotFault answers. No statement is proved here.
-/
import Derived.Test.YtakplomopbnekaaWheelOut
import Derived.Test.YtakplomopbnekaaPlace
namespace Go.Proofs.Ytakplomopbnekaa
open Go.RowKit
set_option linter.unusedVariables false

/-- What slotFault answers. -/
def slotF (now p : Int) : List Tmr → Int
  | [] => 0
  | t :: r => if poC now t.due = 0 then (if poV now t.due = p then slotF now p r else 1) else poC now t.due
theorem slotF_drop {now p : Int} {ys : List Tmr} {k : Nat} {t : Tmr} (h : ys[k]? = some t) : slotF now p (ys.drop k) = if poC now t.due = 0 then (if poV now t.due = p then slotF now p (ys.drop (k + 1)) else 1) else poC now t.due := by
  have hk := (List.getElem?_eq_some_iff.1 h).1
  rw [List.drop_eq_getElem_cons hk, (List.getElem?_eq_some_iff.1 h).2]
  rfl
theorem poC_cases (now due : Int) : poC now due = 0 ∨ poC now due = 3 := by unfold poC; split <;> simp

set_option maxRecDepth 100000 in
set_option maxHeartbeats 2000000 in
theorem slotFault_any (now p : Int) (q : Bool) (lo hi : Nat) (A : Option Addr) (n c : Nat) (ys : List Tmr) (w : World) (ha : Rep.timer.Sl q lo hi w A n ys) (hh : hi ≤ w.heap.size) (hn : n ≤ 1048576) :
    Calls Try.prog 90 #[.int .i64 now, .int .i64 p, .slice A n c] w fun e w' => e = .returned (.int .i64 (slotF now p ys)) ∧ Below w.heap.size w w' := by
  have HA := Rep.Sl.kept ha hh
  have hl := ha.1
  clear ha
  go_enter Try.func90, Try.ntmps90
  go_wp2
  go_loopw [12] (fun i wr => ∃ k : Nat, k ≤ n ∧ i = .int .i64 k ∧ Hid (Below w.heap.size w wr) ∧ Hid (slotF now p ys = slotF now p (ys.drop k))) (fun i _ => n - (intOf i).toNat)
  case atStart => exact ⟨0, Nat.zero_le _, rfl, Below.refl _ _, rfl⟩
  case round =>
    obtain ⟨k, hk, rfl, HB, HS⟩ := hrel
    by_cases hlt : k < n
    · obtain ⟨b, o, t, rfl, hya, a0, a1, a2, a3⟩ := Rep.timer_at (HA.below (HB.out.mono (Nat.le_refl _))).sl hlt
      have hlt' : (k : Int) < n := by omega
      have hd := slotF_drop (now := now) (p := p) hya
      have HX : Hid (Box (wr.alloc (.cells #[.int .i64 t.typ, .int .i64 t.id, .int .i64 t.adv, .int .i64 t.due] 36)) wr.heap.size 36 #[.int .i64 t.typ, .int .i64 t.id, .int .i64 t.adv, .int .i64 t.due]) := Box.made _ _ _
      have HB1 : Hid (Below w.heap.size w (wr.alloc (.cells #[.int .i64 t.typ, .int .i64 t.id, .int .i64 t.adv, .int .i64 t.due] 36))) := Lib.hid (HB.out.alloc HB.out.size _)
      obtain ⟨r, hr⟩ : ∃ r, poC now t.due = r := ⟨_, rfl⟩
      obtain ⟨v, hv⟩ : ∃ v, poV now t.due = v := ⟨_, rfl⟩
      have hr3 := poC_cases now t.due
      rw [hr] at hd hr3
      rw [hv] at hd
      have HRV := Lib.hid (And.intro hr hv)
      have HYA := Lib.hid hya
      clear hr hv hya
      go_wp2_with fail
      refine (placeOf_any now t.due _).mono ?_
      rw [HRV.out.1, HRV.out.2]
      rintro e w2 ⟨rfl, hb2⟩
      have HB2 := Lib.hid (below_step HB1.out hb2)
      clear hb2
      rcases hr3 with rfl | rfl
      · by_cases hpv : v = p
        · subst hpv
          rw [if_pos rfl, if_pos rfl] at hd
          have HD := Lib.hid hd
          clear hd
          go_wp2
          go_roundw
          case rel => exact ⟨k + 1, by omega, by go_num, Lib.hid (HB2.out.alloc HB2.out.size _), Lib.hid (HS.out.trans HD.out)⟩
          case measure => simp [intOf]; omega
        · rw [if_pos rfl, if_neg hpv] at hd
          have HD := Lib.hid hd
          have hpv' : (v == p) = false := by simpa using hpv
          clear hd hpv
          go_wp2
          go_ret
          exact ⟨by rw [HS.out, HD.out]; rfl, HB2.out.alloc HB2.out.size _⟩
      · rw [if_neg (by omega)] at hd
        have HD := Lib.hid hd
        clear hd
        go_wp2
        go_ret
        exact ⟨by rw [HS.out, HD.out]; rfl, HB2.out.alloc HB2.out.size _⟩
    · have HE : Hid (slotF now p (ys.drop k) = 0) := Lib.hid (by rw [List.drop_eq_nil_of_le (by omega)]; rfl)
      go_wp2
      go_ret
      exact ⟨by rw [HS.out, HE.out]; rfl, HB.out⟩

end Go.Proofs.Ytakplomopbnekaa
