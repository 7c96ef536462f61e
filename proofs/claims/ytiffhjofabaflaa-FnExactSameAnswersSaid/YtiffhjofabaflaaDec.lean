/-
  What the program reads out of bytes: wordAt, readLinks, readRouters. No statement is proved here.
-/
import Derived.Test.YtiffhjofabaflaaRead
import Derived.Test.YtiffhjofabaflaaFlat
import Derived.Test.YtiffhjofabaflaaLinks
namespace Go.Proofs.Ytiffhjofabaflaa
open Go.RowKit
set_option linter.unusedVariables false

theorem fieldI1 (w : World) (x y : Int) : (Instr.field 52 (.agg #[.int .i64 x, .int .i64 y]) 1).run Try.prog w = .ok (.int .i64 y) w := by kernel_rfl
attribute [local go_sem] fieldI1

theorem rval_bd (n : Nat) (xs : List Int) (a s : Int) (hb : Bytes xs) (hl : xs.length = n) : 0 ≤ rval n xs a s ∧ rval n xs a s < 281474976710656 := by
  unfold rval
  split
  · rename_i h
    unfold rOK at h
    have hx := sub_len (zs := xs) (a := a.toNat) (s := s.toNat) (by omega)
    have := readN_bd ((xs.drop a.toNat).take s.toNat) (hb.sub _ _) s.toNat (by omega) (by omega)
    rw [List.take_of_length_le (by omega)] at this
    refine ⟨this.1, Int.lt_of_lt_of_le this.2 ?_⟩
    rcases (show s.toNat = 1 ∨ s.toNat = 2 ∨ s.toNat = 3 ∨ s.toNat = 4 ∨ s.toNat = 5 ∨ s.toNat = 6 by omega) with e | e | e | e | e | e <;> rw [e] <;> decide
  · omega

abbrev lcell (a : Lnk) : List Value := [.int .i64 a.kind, .int .i64 a.to_, .int .i64 a.own, .int .i64 a.cost]
theorem lcell_len (a : Lnk) : (lcell a).length = 4 := rfl
theorem lcell_one (a : Lnk) : ∀ u ∈ lcell a, u.oneCell' = true := by
  intro u hu
  simp only [lcell, List.mem_cons, List.not_mem_nil, or_false] at hu
  rcases hu with rfl | rfl | rfl | rfl <;> rfl
abbrev icell (a : Int) : List Value := [.int .i64 a]
theorem icell_len (a : Int) : (icell a).length = 1 := rfl
theorem icell_one (a : Int) : ∀ u ∈ icell a, u.oneCell' = true := by
  intro u hu
  simp only [icell, List.mem_cons, List.not_mem_nil, or_false] at hu
  subst hu; rfl

theorem links_of_own {w : World} {B : Nat} {A : Option Addr} {n c : Nat} {ys : List Lnk} (h : OwnF 278 4 lcell w B A n c ys) : Rep.link.Sl true B w.heap.size w A n ys :=
  ⟨h.1, fun hn => by
    obtain ⟨g, rfl, h1, h2⟩ := h.form hn
    refine ⟨g, 0, rfl, h1, h2, fun _ i => World.ownsRow.frozenAt h.2 i, fun i a ha => ⟨lcell a, rfl, fun j u hj => ?_⟩⟩
    have hi : i < n := by
      have := (List.getElem?_eq_some_iff.1 ha).1; have := h.1; omega
    have hj4 : j < 4 := (List.getElem?_eq_some_iff.1 hj).1
    obtain ⟨b, o, a', e, ha', hc⟩ := (h.inF lcell_len).at_ lcell_len hi
    injection e with e
    injection e with e1 e2 _
    rw [ha] at ha'; injection ha' with ha'
    subst e1 e2 ha'
    exact hc j u hj4 hj⟩
theorem ints_of_own {w : World} {B : Nat} {A : Option Addr} {n c : Nat} {ys : List Int} (h : OwnF 2 1 icell w B A n c ys) : Rep.int.Sl true B w.heap.size w A n ys :=
  ⟨h.1, fun hn => by
    obtain ⟨g, rfl, h1, h2⟩ := h.form hn
    refine ⟨g, 0, rfl, h1, h2, fun _ i => World.ownsRow.frozenAt h.2 i, fun i a ha => ⟨icell a, rfl, fun j u hj => ?_⟩⟩
    have hi : i < n := by
      have := (List.getElem?_eq_some_iff.1 ha).1; have := h.1; omega
    have hj4 : j < 1 := (List.getElem?_eq_some_iff.1 hj).1
    obtain ⟨b, o, a', e, ha', hc⟩ := (h.inF icell_len).at_ icell_len hi
    injection e with e
    injection e with e1 e2 _
    rw [ha] at ha'; injection ha' with ha'
    subst e1 e2 ha'
    exact hc j u hj4 hj⟩

def linkR (n : Nat) (xs : List Int) (k : Nat) : Lnk := ⟨rval n xs (24 + 12 * (k : Int) + 8) 1, rval n xs (24 + 12 * (k : Int)) 4, rval n xs (24 + 12 * (k : Int) + 4) 4, rval n xs (24 + 12 * (k : Int) + 10) 2⟩
def linksR (n : Nat) (xs : List Int) (k : Nat) : List Lnk := (List.range k).map (linkR n xs)
def routersR (n : Nat) (xs : List Int) (k : Nat) : List Int := (List.range k).map fun (i : Nat) => rval n xs (24 + 4 * (i : Int)) 4
theorem linksR_snoc (n : Nat) (xs : List Int) (k : Nat) : linksR n xs (k + 1) = linksR n xs k ++ [linkR n xs k] := by simp [linksR, List.range_succ]
theorem routersR_snoc (n : Nat) (xs : List Int) (k : Nat) : routersR n xs (k + 1) = routersR n xs k ++ [rval n xs (24 + 4 * (k : Int)) 4] := by simp [routersR, List.range_succ]

theorem intInfo : (Try.prog.info? 2).map (fun i => (i.zero, i.size, i.bytes)) = some (some (.int .i64 0), 1, 8) := by kernel_rfl

end Go.Proofs.Ytiffhjofabaflaa
