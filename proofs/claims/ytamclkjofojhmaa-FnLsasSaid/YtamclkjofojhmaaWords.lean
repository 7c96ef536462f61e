/-
  Numbers and how many bytes they have: the bodies' words, and packWords. No statement is proved here.
-/
import Derived.Test.YtamclkjofojhmaaFlat
import Derived.Test.YtamclkjofojhmaaPack
import Derived.Test.YtamclkjofojhmaaBody
namespace Go.Proofs.Ytamclkjofojhmaa
open Go.RowKit

abbrev wcell (x : Int × Int) : List Value := [.int .i64 x.1, .int .i64 x.2]
theorem wcell_len (x : Int × Int) : (wcell x).length = 2 := rfl
theorem wcell_one (x : Int × Int) : ∀ u ∈ wcell x, u.oneCell' = true := by
  intro u hu
  simp only [wcell, List.mem_cons, List.not_mem_nil, or_false] at hu
  rcases hu with rfl | rfl <;> rfl
theorem wordInfo2 : (Try.prog.info? 122).map (fun i => (i.zero, i.size, i.bytes)) = some (some (.agg #[.int .i64 0, .int .i64 0]), 2, 16) := by kernel_rfl

theorem fieldW0 (w : World) (x : Int) (A : Option Addr) (n c : Nat) : (Instr.field 32 (.agg #[.int .i64 x, .slice A n c]) 0).run Try.prog w = .ok (.int .i64 x) w := by kernel_rfl
theorem fieldW1 (w : World) (x : Int) (A : Option Addr) (n c : Nat) : (Instr.field 32 (.agg #[.int .i64 x, .slice A n c]) 1).run Try.prog w = .ok (.slice A n c) w := by kernel_rfl
attribute [local go_sem] fieldW0 fieldW1

/-- A word that can be packed. -/
def wOK (x : Int × Int) : Prop := pOK x.1 x.2
/-- The bytes of words, one behind the other. -/
def packAll (ws : List (Int × Int)) : List Int := ws.flatMap fun x => packN x.1 x.2.toNat
theorem packAll_snoc (ws : List (Int × Int)) (x : Int × Int) : packAll (ws ++ [x]) = packAll ws ++ packN x.1 x.2.toNat := by simp [packAll]
theorem packAll_len (ws : List (Int × Int)) (h : ∀ x ∈ ws, wOK x) : (packAll ws).length ≤ 6 * ws.length := by
  induction ws with
  | nil => simp [packAll]
  | cons y t ih =>
    have h1 := ih (fun x hx => h x (List.mem_cons_of_mem _ hx))
    have h2 := h y List.mem_cons_self
    simp only [packAll, List.flatMap_cons, List.length_append, packN_len, List.length_cons] at h1 ⊢
    have := h2.2.1
    omega
theorem packAll_bytes (ws : List (Int × Int)) : Bytes (packAll ws) := by
  intro z hz
  obtain ⟨x, _, h⟩ := List.mem_flatMap.1 hz
  exact packN_bytes _ _ z h

set_option maxRecDepth 100000 in
set_option maxHeartbeats 1600000 in
theorem packWords_any (A : Option Addr) (m d : Nat) (ws : List (Int × Int)) (w : World) (hE : InF 2 wcell w A m ws) (hok : ∀ x ∈ ws, wOK x) (hm : m ≤ 4096) :
    Calls Try.prog 106 #[.slice A m d] w fun e w' => ∃ B n c, e = .returned (.slice B n c) ∧ Own w' w.heap.size B n c (packAll ws) ∧ Below w.heap.size w w' := by
  have HE := Lib.hid hE
  have HL := Lib.hid hE.1
  have HK := Lib.hid hok
  clear hE hok
  obtain ⟨B0, hB0⟩ : ∃ B0, B0 = w.heap.size := ⟨_, rfl⟩
  have HB0 := Lib.hid hB0
  have h0 : Own w B0 none 0 0 (packAll (ws.take 0)) := Own.nil_ _ _
  have HO0 := Lib.hid h0
  clear hB0 h0
  go_enter Try.func106, Try.ntmps106
  go_wp2
  go_loopw [3, 8] (fun v i wr => ∃ k : Nat, k ≤ m ∧ i = .int .i64 k ∧ ∃ B n c, v = .slice B n c ∧ Hid (Own wr B0 B n c (packAll (ws.take k))) ∧ Hid (Below w.heap.size w wr)) (fun _ i _ => m - (intOf i).toNat)
  case atStart => exact ⟨0, Nat.zero_le _, rfl, none, 0, 0, rfl, HO0, Below.refl _ _⟩
  case round =>
    obtain ⟨k, hk, rfl, B, n, c, rfl, HO, HB⟩ := hrel
    by_cases hlt : k < m
    · obtain ⟨b, o, x, rfl, hx, hc⟩ := (HE.out.below HB.out).at_ wcell_len hlt
      have c0 := hc 0 _ (by omega) rfl
      have c1 := hc 1 _ (by omega) rfl
      rw [Nat.add_zero] at c0
      have hlt' : (k : Int) < m := by omega
      have HX := Lib.hid hx
      have hxo := HK.out x (List.mem_of_getElem? hx)
      have HXO := Lib.hid hxo
      have HT : Hid (packAll (ws.take (k + 1)) = packAll (ws.take k) ++ packN x.1 x.2.toNat) := Lib.hid (by
        have hkl : k < ws.length := by have := HL.out; omega
        have e : ws[k] = x := by have := HX.out; rw [List.getElem?_eq_getElem hkl] at this; injection this
        rw [List.take_succ_eq_append_getElem hkl, e, packAll_snoc])
      have HN : Hid (n + x.2.toNat ≤ 1048576) := Lib.hid (by
        have h1 := HO.out.len
        have h2 := packAll_len (ws.take k) (fun y hy => HK.out y (List.mem_of_mem_take hy))
        have h3 : (ws.take k).length ≤ k := List.length_take_le _ _
        have h4 := HXO.out.2.1
        omega)
      obtain ⟨x1, x2⟩ := x
      clear hx hc hxo
      simp only [] at c0 c1
      go_wp2_with fail
      have hb0 : Below wr.heap.size wr (wr.alloc (.cells #[.int .i64 x1, .int .i64 x2] 122)) := (Below.refl _ _).alloc (Nat.le_refl _) _
      refine (pack_any x1 x2 _).mono ?_
      rintro e w1 ⟨P, pn, pc, rfl, hp, hb⟩
      have HP := Lib.hid hp
      have HO1 := Lib.hid ((HO.out.below hb0).below hb)
      have HB1 := Lib.hid (below_step (below_step HB.out hb0) hb)
      have hpn : pn = x2.toNat := by have := HP.out.len; rw [← this]; unfold pbytes; rw [if_pos (show pOK x1 x2 from HXO.out), packN_len]
      have HPN := Lib.hid hpn
      have hp0 : 0 < pn := by rw [hpn]; have := HXO.out.1; simp only [] at this; omega
      have HP0 := Lib.hid hp0
      clear hb hp hb0 c0 c1 hpn hp0
      go_wp2_with (at_builtin; refine wpList_app rfl (.tmp 12) (.tmp 18) rfl rfl HO1.out rfl HP0.out HP.out.bin (by rw [HPN.out]; exact HN.out) (by rw [HB0.out]; exact HB1.out.size) ?_; intro A' c' w2 ho2 hg2)
      go_roundw
      case rel =>
        refine ⟨k + 1, by omega, by go_num, A', _, c', rfl, Lib.hid ?_, Lib.hid ?_⟩
        · rw [HT.out]
          have e : pbytes x1 x2 = packN x1 x2.toNat := by unfold pbytes; rw [if_pos (show pOK x1 x2 from HXO.out)]
          rw [e] at ho2; exact ho2
        · exact HB1.out.grown hg2 HB1.out.size (fun r hr => by have := (HO1.out.block r hr).1; rw [HB0.out] at this; exact this)
      case measure => simp [intOf]; omega
    · go_wp2
      go_ret
      obtain rfl : k = m := by omega
      have e : ws.take k = ws := List.take_of_length_le (by rw [HL.out]; omega)
      have ho := HO.out
      rw [e, HB0.out] at ho
      exact ⟨B, n, c, rfl, ho, HB.out⟩

end Go.Proofs.Ytamclkjofojhmaa
