/-
  Walks of l1Copy and bytes.Clone: a copy in new memory. No statement is proved here.
-/
import Derived.Test.YtamclkjofojhmaaHelp
namespace Go.Proofs.Ytamclkjofojhmaa
open Go.RowKit

theorem bytes_oneCell (zs : List Int) : ∀ u ∈ zs.map (Value.int .u8), u.oneCell' = true := ints_oneCell _ _

theorem BIn.news {w : World} {ad : Addr} {n : Nat} {zs : List Int} (h : BIn w (some ad) n zs) : ∀ j u, (zs.map (Value.int .u8))[j]? = some u → w.cell? (ad.add j) = some u := by
  intro j u hj
  have hl := h.1
  rw [List.getElem?_map] at hj
  have hjl : j < zs.length := by
    rcases Nat.lt_or_ge j zs.length with h' | h'
    · exact h'
    · rw [List.getElem?_eq_none h'] at hj; cases hj
  rw [List.getElem?_eq_getElem hjl] at hj
  simp only [Option.map_some, Option.some.injEq] at hj
  obtain ⟨b', o', e, hc⟩ := h.at_ (k := j) (by omega)
  injection e with e
  subst e
  have ea : Addr.add ⟨b', o', none⟩ j = ⟨b', o' + j, none⟩ := by unfold Addr.add; split <;> simp_all
  rw [ea, hc, ← hj]
  simp [List.getD, hjl]

theorem empty_own (w : World) : (w.alloc (.cells #[] 5)).ownsRow w.heap.size 5 1 (.slice (some ⟨w.heap.size, 0, none⟩) 0 0) 0 [] :=
  World.ownsRow_lit w #[] 0 (Nat.le_refl _) (Nat.zero_le _) rfl

theorem l1Copy_some (ad : Addr) (n c : Nat) (xs : List Int) (w : World) (ha : BIn w (some ad) n xs) (hn : n ≤ 1048576) :
    Calls Try.prog 64 #[.slice (some ad) n c] w fun e w' => ∃ B d, e = .returned (.slice B n d) ∧ Own w' w.heap.size B n d xs ∧ Below w.heap.size w w' := by
  obtain ⟨i0, hi, hz0, hz1, hz2⟩ := info_parts byteInfo
  have hb0 : Below w.heap.size w (w.alloc (.cells #[] 5)) := (Below.refl _ _).alloc (Nat.le_refl _) _
  have HN := Lib.hid (ha.below hb0).news
  have HL := Lib.hid ha.1
  have HE := Lib.hid (empty_own w)
  have HB := Lib.hid hb0
  clear ha hb0
  go_enter Try.func64, Try.ntmps64
  go_wp2_with (at_builtin; refine wpList_append_own _ rfl (.tmp 3) (.tmp 4) _ rfl w.heap.size 5 i0 (.int .u8 0) 1 1 Try.underlying22 hi hz0 hz1 hz2 rfl (by decide) _ 0 [] rfl HE.out ad n c (xs.map (Value.int .u8)) rfl (by rw [List.length_map, HL.out, Nat.mul_one]) HN.out (bytes_oneCell _) (by unfold maxLen; omega) (by omega) (by simp) ?_; intro v1 w1 hown1 hg1 hv1)
  go_ret
  rw [Nat.zero_add, List.nil_append] at hown1
  have hv : ∃ B d, v1 = .slice B n d := by
    rcases hown1.2 with ⟨h, _⟩ | ⟨g, cap, cur, h, _⟩
    · have := (hv1.1 h).1; cases this
    · exact ⟨_, _, h⟩
  clear hv1
  obtain ⟨B, d, rfl⟩ := hv
  exact ⟨B, d, rfl, hown1, HB.out.grown hg1 (by simp) (fun k hk => by injection hk with hk; simp at hk; omega)⟩

theorem l1Copy_any (A : Option Addr) (n c : Nat) (xs : List Int) (w : World) (ha : BIn w A n xs) (hn : n ≤ 1048576) (h0 : 0 < n) :
    Calls Try.prog 64 #[.slice A n c] w fun e w' => ∃ B d, e = .returned (.slice B n d) ∧ Own w' w.heap.size B n d xs ∧ Below w.heap.size w w' := by
  obtain ⟨b, o, rfl, _⟩ := ha.2 h0
  exact l1Copy_some _ n c xs w ha hn

theorem clone_any (A : Option Addr) (n c : Nat) (xs : List Int) (w : World) (ha : BIn w A n xs) (hn : n ≤ 1048576) (h0 : 0 < n) :
    Calls Try.prog 107 #[.slice A n c] w fun e w' => ∃ B d, e = .returned (.slice B n d) ∧ Own w' w.heap.size B n d xs ∧ Below w.heap.size w w' := by
  obtain ⟨i0, hi, hz0, hz1, hz2⟩ := info_parts byteInfo
  obtain ⟨b, o, rfl, _⟩ := ha.2 h0
  have hb0 : Below w.heap.size w (w.alloc (.cells #[] 5)) := (Below.refl _ _).alloc (Nat.le_refl _) _
  have HN := Lib.hid (ha.below hb0).news
  have HL := Lib.hid ha.1
  have HE := Lib.hid (empty_own w)
  have HB := Lib.hid hb0
  clear ha hb0
  have hnil := fun W => Lib.run_eql_slice_nil (P := Try.prog) W 22 5 (some ⟨b, o, none⟩) n c 0 0 Try.underlying22
  go_enter Try.func107, Try.ntmps107
  go_wp2_with (at_builtin; refine wpList_append_own _ rfl (.tmp 5) (.tmp 6) _ rfl w.heap.size 5 i0 (.int .u8 0) 1 1 Try.underlying22 hi hz0 hz1 hz2 rfl (by decide) _ 0 [] rfl HE.out ⟨b, o, none⟩ n c (xs.map (Value.int .u8)) rfl (by rw [List.length_map, HL.out, Nat.mul_one]) HN.out (bytes_oneCell _) (by unfold maxLen; omega) (by omega) (by simp) ?_; intro v1 w1 hown1 hg1 hv1)
  go_ret
  clear hv1
  rw [Nat.zero_add, List.nil_append] at hown1
  have hv : ∃ B d, v1 = .slice B n d := by
    rcases hown1.2 with ⟨_, h⟩ | ⟨g, cap, cur, h, _⟩
    · omega
    · exact ⟨_, _, h⟩
  obtain ⟨B, d, rfl⟩ := hv
  exact ⟨B, d, rfl, hown1, HB.out.grown hg1 (by simp) (fun k hk => by injection hk with hk; simp at hk; omega)⟩

end Go.Proofs.Ytamclkjofojhmaa
