/-
  append of bytes at a step of a region that draws its order, and bytes that were just made. No statement is proved here.
-/
import Derived.Test.YtiffhjofabaflaaFlat
import Derived.Deep.RegionHeld3
import Derived.Deep.AppendLies
namespace Go.Proofs.Ytiffhjofabaflaa
open Go.RowKit

theorem step_app {ops : Array Oper} {o : Oper} {a : Act} {K : Act → World → Prop} {Q : Exit → Act → World → Prop} {E' : Prop} {w : World} (hgd : o.guard = none) (s x : Operand)
    (ho : o.op = .call { callee := .builtin .append, args := #[s, x], argTypes := #[22, 22] })
    {B : Nat} {A : Option Addr} {n c : Nat} {zs : List Int} (hs : a.eval s = .slice A n c) (hown : Own w B A n c zs)
    {E : Option Addr} {m d : Nat} {ys : List Int} (hx : a.eval x = .slice E m d) (hm : 0 < m) (hE : BIn w E m ys) (hl : n + m ≤ 1048576) (hB : B ≤ w.heap.size)
    (h : ∀ A' c' w', Own w' B A' (n + m) c' (zs ++ ys) → w.grownBy w' (A.map (·.block)) → K (a.put o.dst (.slice A' (n + m) c')) w') :
    if Region.wanted o (yielded ops a.tmps) = true then Oper.wp Try.prog o a w K Q else E' := by
  obtain ⟨i0, hi, hz0, hz1, hz2⟩ := info_parts byteInfo
  obtain ⟨b, off, rfl, _⟩ := hE.2 hm
  have hw : Region.wanted o (yielded ops a.tmps) = true := by simp [Region.wanted, hgd]
  rw [if_pos hw]
  refine wp_append_own w s x 22 ho B 5 i0 (.int .u8 0) 1 1 Try.underlying22 hi hz0 hz1 hz2 rfl (by decide) (.slice A n c) n (zs.map (Value.int .u8)) hs hown ⟨b, off, none⟩ m d (ys.map (Value.int .u8)) hx (by rw [List.length_map, hE.1, Nat.mul_one]) hE.news (bytes_oneCell _) (by unfold maxLen; omega) (by omega) hB ?_
  intro v' w' h2 h3 _
  obtain ⟨A', c', rfl⟩ := own_form_any h2
  refine h A' c' w' (by unfold Own; rw [List.map_append]; exact h2) ?_
  cases A with
  | none => simpa [Value.ownBlock] using h3
  | some ad => simpa [Value.ownBlock] using h3

/-- Bytes that were just made. -/
theorem Own.lit (X : World) (cs : Array Value) (zs : List Int) (hc : cs.toList = zs.map (Value.int .u8)) (hm : zs.length ≤ maxLen) {B : Nat} (hB : B ≤ X.heap.size) : Own (X.alloc (.cells cs 5)) B (some ⟨X.heap.size, 0, none⟩) zs.length zs.length zs := by
  have hs : cs.size = zs.length * 1 := by rw [← Array.length_toList, hc, List.length_map, Nat.mul_one]
  have := World.ownsRow_lit (base := B) (e := 5) (size := 1) X cs zs.length hB hm hs
  rw [hc] at this
  exact this
theorem bin_lit1 (X : World) (x : Int) : BIn (X.alloc (.cells #[.int .u8 x] 5)) (some ⟨X.heap.size, 0, none⟩) 1 [x] := (Box.made X 5 #[.int .u8 x]).bin [x] rfl
theorem bin_lit1d (X : World) (x : Int) : BIn (X.alloc (.cells #[.int .u8 x] 5)).drew (some ⟨X.heap.size, 0, none⟩) 1 [x] := bin_lit1 X x
theorem bin_lit2 (X : World) (x y : Int) : BIn (X.alloc (.cells #[.int .u8 x, .int .u8 y] 5)) (some ⟨X.heap.size, 0, none⟩) 2 [x, y] := (Box.made X 5 #[.int .u8 x, .int .u8 y]).bin [x, y] rfl
theorem bin_lit2d (X : World) (x y : Int) : BIn (X.alloc (.cells #[.int .u8 x, .int .u8 y] 5)).drew (some ⟨X.heap.size, 0, none⟩) 2 [x, y] := bin_lit2 X x y
theorem own_lit2 (X : World) (x y : Int) {B : Nat} (hB : B ≤ X.heap.size) : Own (X.alloc (.cells #[.int .u8 x, .int .u8 y] 5)) B (some ⟨X.heap.size, 0, none⟩) 2 2 [x, y] := Own.lit X _ [x, y] rfl (by simp [maxLen]) hB
theorem own_lit2d (X : World) (x y : Int) {B : Nat} (hB : B ≤ X.heap.size) : Own (X.alloc (.cells #[.int .u8 x, .int .u8 y] 5)).drew B (some ⟨X.heap.size, 0, none⟩) 2 2 [x, y] := own_lit2 X x y hB
theorem Own.drew {w : World} {B : Nat} {A : Option Addr} {n c : Nat} {zs : List Int} (h : Own w B A n c zs) : Own w.drew B A n c zs := h
theorem up1d (X : World) (o : Obj) : Below X.heap.size X (X.alloc o).drew := ((Below.refl _ _).alloc (Nat.le_refl _) _).drew
theorem up1 (X : World) (o : Obj) : Below X.heap.size X (X.alloc o) := (Below.refl _ _).alloc (Nat.le_refl _) _

end Go.Proofs.Ytiffhjofabaflaa
