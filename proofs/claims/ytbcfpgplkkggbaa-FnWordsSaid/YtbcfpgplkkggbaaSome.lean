/-
  Walks of l1Some and l1Data: bytes that are drawn. No statement is proved here.
-/
import Derived.Test.YtbcfpgplkkggbaaDraw
namespace Go.Proofs.Ytbcfpgplkkggbaa
open Go.RowKit

theorem Own.of_row {w : World} {B n : Nat} {v : Value} {zs : List Int} (h : w.ownsRow B 5 1 v n (zs.map (Value.int .u8))) (hn : 0 < n) : ∃ A d, v = .slice A n d ∧ Own w B A n d zs := by
  rcases h.2 with ⟨_, h'⟩ | ⟨g, cap, cur, h', _⟩
  · omega
  · subst h'
    exact ⟨_, _, rfl, h⟩

theorem Bytes.snoc {zs : List Int} (h : Bytes zs) (u : Int) (h0 : 0 ≤ u) (h1 : u < 256) : Bytes (zs ++ [u]) := by
  intro z hz
  rcases List.mem_append.1 hz with hm | hm
  · exact h z hm
  · rw [List.mem_singleton] at hm; subst hm; exact ⟨h0, h1⟩

set_option maxHeartbeats 1600000 in
theorem l1Some_any (g : Nat) (A : Option Addr) (n c : Nat) (cs : List Int) (k m : Nat) (w : World) (hs : Src w g A n c cs k) (hk : k + m ≤ 1000000) :
    Calls Try.prog 42 #[.pointer (some ⟨g, 0, none⟩), .int .i64 m] w fun e w' => ∃ B d zs, e = .returned (.slice (some B) m d) ∧ Own w' w.heap.size (some B) m d zs ∧ Bytes zs ∧ Src w' g A n c cs (k + m) ∧ w.grownBy w' (some g) := by
  obtain ⟨i0, hi, hz0, hz1, hz2⟩ := info_parts byteInfo
  have hgl := hs.box.lt
  have hb0 : Below w.heap.size w (w.alloc (.cells #[] 5)) := (Below.refl _ _).alloc (Nat.le_refl _) _
  have HLT := Lib.hid hs.data.lts
  have HS := Lib.hid (hs.below hb0)
  have HG := Lib.hid (grownBy_of_below hb0 (some g))
  have hown0 : Own (w.alloc (.cells #[] 5)) w.heap.size (some ⟨w.heap.size, 0, none⟩) 0 0 [] := empty_own w
  have HO := Lib.hid hown0
  clear hs hb0 hown0
  go_enter Try.func42, Try.ntmps42
  go_wp2
  go_loopw [1, 5] (fun q v wr => ∃ i : Nat, i ≤ m ∧ q = .int .i64 ((m : Int) - i) ∧ ∃ B d zs, v = .slice (some B) i d ∧ Hid (Own wr w.heap.size (some B) i d zs) ∧ Hid (Bytes zs) ∧ Hid (Src wr g A n c cs (k + i)) ∧ Hid (w.grownBy wr (some g)))
    (fun q _ _ => (intOf q).toNat)
  case atStart => exact ⟨0, Nat.zero_le _, by simp, _, _, [], rfl, HO, fun z hz => absurd hz (by simp), HS, HG⟩
  case round =>
    obtain ⟨i, him, rfl, B, d, zs, rfl, HO1, HB1, HS1, HG1⟩ := hrel
    by_cases hlt : i < m
    · have hlt' : (0 : Int) < (m : Int) - i := by omega
      go_wp2_with fail
      refine (l1Next_any g A n c cs (k + i) 256 _ HS1.out (by omega) (by omega)).mono ?_
      rintro e w1 ⟨v, rfl, hv, h1, h2⟩
      obtain ⟨v0, v1⟩ := hv.2 (by omega)
      have HO2 := Lib.hid (HO1.out.grown h2 (by
        exact .inr (fun e => by have := (HO1.out.block B.block rfl).1; simp only [Option.map_some, Option.some.injEq] at e; omega)))
      have HS2 := Lib.hid h1
      have HG2 := Lib.hid (grown_trans HG1.out h2)
      clear h1 h2 hv HO1 HS1 HG1
      have hA1 : Hid ((w1.alloc (.cells #[.int .u8 v] 5)).ownsRow w.heap.size 5 1 (.slice (some B) i d) i (zs.map (Value.int .u8))) := (World.ownsRow.alloc HO2.out _)
      have hcell : Hid (∀ j u, [Value.int .u8 v][j]? = some u → (w1.alloc (.cells #[.int .u8 v] 5)).cell? ((⟨w1.heap.size, 0, none⟩ : Addr).add j) = some u) := by
        intro j u hj
        match j, hj with
        | 0, hj => simp at hj; subst hj; simp [Addr.add]
      have hsz := HG2.out.size
      have hil := HO2.out.len
      go_wp2_with (at_builtin; refine wpList_append_own _ rfl (.tmp 11) (.tmp 15) _ rfl w.heap.size 5 i0 (.int .u8 0) 1 1 Try.underlying22 hi hz0 hz1 hz2 rfl (by decide) (.slice (some B) i d) i (zs.map (Value.int .u8)) rfl hA1.out ⟨w1.heap.size, 0, none⟩ 1 1 [.int .u8 v] rfl rfl hcell.out (fun u hu => by rw [List.mem_singleton] at hu; subst hu; rfl) (by unfold maxLen; omega) (by omega) (by simp; omega) ?_; intro v2 w2 hown2 hg2 hv2)
      go_roundw
      case rel =>
        have hown3 : w2.ownsRow w.heap.size 5 1 v2 (i + 1) ((zs ++ [v]).map (Value.int .u8)) := by simpa using hown2
        obtain ⟨B', d', rfl, ho3⟩ := Own.of_row hown3 (by omega)
        obtain ⟨g', rfl, _⟩ := ho3.form (by omega)
        have hrow : (Value.slice (some B) i d).ownBlock = some B.block := rfl
        have hb1 : Below w1.heap.size w1 (w1.alloc (.cells #[.int .u8 v] 5)) := (Below.refl _ _).alloc (Nat.le_refl _) _
        have hblk := HO2.out.block
        rw [hrow] at hg2
        have hbk := (hblk B.block rfl).1
        have hs3 := (HS2.out.below hb1).grown hg2 (fun e => by injection e with e; omega) (fun hn e => by
          have h2 := HLT.out B.block hn e; omega)
        refine ⟨i + 1, by omega, by go_num, _, d', _, rfl, ho3, HB1.out.snoc v v0 (by omega), hs3, ?_⟩
        refine ⟨hg2.os.trans (hb1.os.trans HG2.out.os), hg2.tape.trans (hb1.tape.trans HG2.out.tape), hg2.output.trans (hb1.output.trans HG2.out.output), Nat.le_trans HG2.out.size (Nat.le_trans hb1.size hg2.size), fun q hq hne => ?_⟩
        refine (hg2.block q (by have := HG2.out.size; simp; omega) (fun e => ?_)).trans ((hb1.block q (by have := HG2.out.size; omega)).trans (HG2.out.block q hq hne))
        injection e with e
        omega
      case measure => simp [intOf]; omega
    · go_wp2
      go_ret
      obtain rfl : i = m := by omega
      exact ⟨B, d, zs, rfl, HO1.out, HB1.out, HS1.out, HG1.out⟩

end Go.Proofs.Ytbcfpgplkkggbaa
