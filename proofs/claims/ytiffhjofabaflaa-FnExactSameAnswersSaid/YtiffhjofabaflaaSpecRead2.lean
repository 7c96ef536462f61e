/-
  What the model's l2Read reads: its loops. No statement is proved here.
-/
import Derived.Test.YtiffhjofabaflaaSpecRead
import Derived.Deep.RegionLaw
namespace Go.Proofs.Ytiffhjofabaflaa
open Go.RowKit
set_option linter.unusedVariables false


theorem OwnF.grown {α : Type} {t : TypeId} {size : Nat} {f : α → List Value} {w w' : World} {B : Nat} {A : Option Addr} {n c : Nat} {ys : List α} (h : OwnF t size f w B A n c ys) {row : Option Nat} (hg : w.grownBy w' row) (hr : A.map (·.block) = none ∨ A.map (·.block) ≠ row) : OwnF t size f w' B A n c ys :=
  ⟨h.1, World.ownsRow.kept h.2 hg (by cases A with
    | none => exact .inl rfl
    | some a => exact .inr (hr.resolve_left (by simp)))⟩

/-- A step that writes nothing below but, it may be, a row that was made since. -/
theorem grown_then {a b c : World} {g : Nat} {row : Option Nat} (h : a.grownBy b (some g)) (k : b.grownBy c row) (hr : ∀ j, row = some j → a.heap.size ≤ j) : a.grownBy c (some g) :=
  ⟨k.os.trans h.os, k.tape.trans h.tape, k.output.trans h.output, Nat.le_trans h.size k.size, fun i hi hne => (k.block i (Nat.lt_of_lt_of_le hi h.size) (fun e => by have := hr i e.symm; omega)).trans (h.block i hi hne)⟩

theorem step_appF {α : Type} {size bytes : Nat} {f : α → List Value} (hf : ∀ a, (f a).length = size) (hone : ∀ a, ∀ u ∈ f a, u.oneCell' = true) {ts t : TypeId} {z : Value} (hu : Try.prog.underlying ts = some (.slice t))
    (hinfo : (Try.prog.info? t).map (fun i => (i.zero, i.size, i.bytes)) = some (some z, size, bytes)) (hzc : z.cells.size = size) (hsz : 0 < size) (hby : bytes ≤ 1048576)
    {ops : Array Oper} {o : Oper} {a : Act} {K : Act → World → Prop} {Q : Exit → Act → World → Prop} {E' : Prop} {w : World} (hgd : o.guard = none) (s x : Operand)
    (ho : o.op = .call { callee := .builtin .append, args := #[s, x], argTypes := #[ts, ts] })
    {B : Nat} {A : Option Addr} {n c : Nat} {zs : List α} (hs : a.eval s = .slice A n c) (hown : OwnF t size f w B A n c zs)
    {E : Option Addr} {m d : Nat} {ys : List α} (hx : a.eval x = .slice E m d) (hm : 0 < m) (hE : InF size f w E m ys) (hl : n + m ≤ 1048576) (hB : B ≤ w.heap.size)
    (h : ∀ A' c' w', OwnF t size f w' B A' (n + m) c' (zs ++ ys) → w.grownBy w' (A.map (·.block)) → K (a.put o.dst (.slice A' (n + m) c')) w') :
    if Region.wanted o (yielded ops a.tmps) = true then Oper.wp Try.prog o a w K Q else E' := by
  obtain ⟨i0, hi, hz0, hz1, hz2⟩ := info_parts hinfo
  obtain ⟨b, off, rfl, hc⟩ := hE.2 hm
  have hnews : ∀ j u, (ys.flatMap f)[j]? = some u → w.cell? ((⟨b, off, none⟩ : Addr).add j) = some u := fun j u hj => by
    have ea : Addr.add ⟨b, off, none⟩ j = ⟨b, off + j, none⟩ := by unfold Addr.add; split <;> simp_all
    rw [ea]; exact hc j u hj
  have hbytes : (n + m) * bytes ≤ 140737488355328 := Nat.le_trans (Nat.mul_le_mul hl hby) (by decide)
  have hw : Region.wanted o (yielded ops a.tmps) = true := by simp [Region.wanted, hgd]
  rw [if_pos hw]
  refine wp_append_own w s x ts ho B t i0 z size bytes hu hi hz0 hz1 hz2 hzc hsz (.slice A n c) n (zs.flatMap f) hs hown.2 ⟨b, off, none⟩ m d (ys.flatMap f) hx (by rw [flat_len hf, hE.1]) hnews (fun u hu => by
    obtain ⟨a, _, h2⟩ := List.mem_flatMap.1 hu
    exact hone a u h2) (by unfold maxLen; omega) hbytes hB ?_
  intro v' w' h2 h3 _
  obtain ⟨A', c', rfl⟩ := own_form_any h2
  refine h A' c' w' ⟨by rw [List.length_append, hown.1, hE.1], by rw [List.flatMap_append]; exact h2⟩ ?_
  cases A with
  | none => simpa [Value.ownBlock] using h3
  | some ad => simpa [Value.ownBlock] using h3

def routersZ (n : Nat) (zs : List Int) (k : Nat) : List Int := (List.range k).map fun (i : Nat) => rval n zs (4 + 4 * (i : Int)) 4
theorem routersZ_snoc (n : Nat) (xs : List Int) (k : Nat) : routersZ n xs (k + 1) = routersZ n xs k ++ [rval n xs (4 + 4 * (k : Int)) 4] := by simp [routersZ, List.range_succ]

theorem rval_bd2 (n : Nat) (xs : List Int) (a : Int) (hb : Bytes xs) (hl : xs.length = n) : 0 ≤ rval n xs a 2 ∧ rval n xs a 2 < 65536 := by
  unfold rval
  split
  · rename_i h
    unfold rOK at h
    have hx := sub_len (zs := xs) (a := a.toNat) (s := 2) (by omega)
    have := readN_bd ((xs.drop a.toNat).take 2) (hb.sub _ _) 2 (by omega) (by omega)
    rw [List.take_of_length_le (by omega)] at this
    exact ⟨this.1, this.2⟩
  · omega

def linkZ (n : Nat) (zs : List Int) (k : Nat) : Lnk := ⟨rval n zs (4 + 12 * (k : Int) + 8) 1, rval n zs (4 + 12 * (k : Int)) 4, rval n zs (4 + 12 * (k : Int) + 4) 4, rval n zs (4 + 12 * (k : Int) + 10) 2⟩
def linksZ (n : Nat) (zs : List Int) (k : Nat) : List Lnk := (List.range k).map (linkZ n zs)
theorem linksZ_snoc (n : Nat) (xs : List Int) (k : Nat) : linksZ n xs (k + 1) = linksZ n xs k ++ [linkZ n xs k] := by simp [linksZ, List.range_succ]

end Go.Proofs.Ytiffhjofabaflaa
