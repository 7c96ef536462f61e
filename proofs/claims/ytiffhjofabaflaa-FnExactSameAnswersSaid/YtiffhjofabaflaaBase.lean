/-
  Words for memory that this seat's walks share: a slice of bytes that can be read ('BIn'), a slice of bytes that lies in a block of the call's own ('Own'), and how both stand when the world grows. No statement is proved here.
-/
import Derived.Test.YtiffhjofabaflaaRows
import Derived.WalkKit
import Derived.WalkSpells
import Derived.WalkLawsBesides
import Derived.Deep.QuietTactic
import Derived.BigQuiet
import Derived.Lib.Hide
namespace Go.Proofs.Ytiffhjofabaflaa
open Go.RowKit

theorem byteInfo : (Try.prog.info? 5).map (fun i => (i.zero, i.size, i.bytes)) = some (some (.int .u8 0), 1, 1) := by kernel_rfl

/-- The slice value of address A and length n reads as the bytes zs. -/
def BIn (w : World) (A : Option Addr) (n : Nat) (zs : List Int) : Prop :=
  zs.length = n ∧ (0 < n → ∃ b o, A = some ⟨b, o, none⟩ ∧ ∀ i, i < n → w.cell? ⟨b, o + i, none⟩ = some (.int .u8 (zs.getD i 0)))

/-- Each is a byte. -/
def Bytes (zs : List Int) : Prop := ∀ z ∈ zs, 0 ≤ z ∧ z < 256

theorem Bytes.at_ {zs : List Int} (h : Bytes zs) (k : Nat) : 0 ≤ zs.getD k 0 ∧ zs.getD k 0 < 256 := by
  by_cases hk : k < zs.length
  · have := h zs[k] (List.getElem_mem hk)
    simpa [List.getD, hk] using this
  · have : zs.getD k 0 = 0 := by simp [List.getD]; rw [List.getElem?_eq_none (by omega)]; rfl
    rw [this]; omega

section
variable {w w' : World} {A : Option Addr} {n : Nat} {zs : List Int}
theorem BIn.at_ (h : BIn w A n zs) {k : Nat} (hk : k < n) :
    ∃ b o, A = some ⟨b, o, none⟩ ∧ w.cell? ⟨b, o + k, none⟩ = some (.int .u8 (zs.getD k 0)) := by
  obtain ⟨b, o, e, hc⟩ := h.2 (by omega)
  exact ⟨b, o, e, hc k hk⟩
theorem BIn.keep (h : BIn w A n zs) (hk : ∀ p : Addr, p.block < w.heap.size → A.map (·.block) = some p.block → w'.cell? p = w.cell? p) : BIn w' A n zs :=
  ⟨h.1, fun hn => by
    obtain ⟨b, o, e, hc⟩ := h.2 hn
    refine ⟨b, o, e, fun i hi => ?_⟩
    have hci := hc i hi
    have hb : b < w.heap.size := World.block_lt_of_cell? w _ hci
    rw [hk _ hb (by rw [e]; rfl), hci]⟩
theorem BIn.below (h : BIn w A n zs) (hb : Below w.heap.size w w') : BIn w' A n zs := h.keep fun _ hp _ => hb.cell hp
theorem BIn.grown (h : BIn w A n zs) {row : Option Nat} (hg : w.grownBy w' row) (hr : 0 < n → A.map (·.block) = none ∨ A.map (·.block) ≠ row) : BIn w' A n zs :=
  ⟨h.1, fun hn => by
    obtain ⟨b, o, rfl, hc⟩ := h.2 hn
    refine ⟨b, o, rfl, fun i hi => ?_⟩
    have hci := hc i hi
    have hb : b < w.heap.size := World.block_lt_of_cell? w _ hci
    have hne : some b ≠ row := by
      rcases hr hn with h' | h'
      · cases h'
      · exact h'
    exact (World.cell?_of_block (hg.block b hb hne)).trans hci⟩
theorem BIn.lts (h : BIn w A n zs) : ∀ r, 0 < n → A.map (·.block) = some r → r < w.heap.size := fun r hn hr => by
  obtain ⟨b, o, rfl, hc⟩ := h.2 hn
  have hb : b < w.heap.size := World.block_lt_of_cell? w _ (hc 0 hn)
  simp only [Option.map_some, Option.some.injEq] at hr
  omega
theorem BIn.nil_ (w : World) (A : Option Addr) : BIn w A 0 [] := ⟨rfl, fun h => absurd h (by omega)⟩
theorem BIn.drewN (h : BIn w A n zs) (k : Nat) : BIn (w.drewN k) A n zs := h
end

/-- The slice value of address A, length n and capacity c owns the bytes zs, in a block from B on. -/
def Own (w : World) (B : Nat) (A : Option Addr) (n c : Nat) (zs : List Int) : Prop := w.ownsRow B 5 1 (.slice A n c) n (zs.map (Value.int .u8))

theorem grownBy_of_below {a w : World} (h : Below a.heap.size a w) (row : Option Nat) : a.grownBy w row := ⟨h.os, h.tape, h.output, h.size, fun i hi _ => h.block i hi⟩
theorem below_of_grown {a w : World} (h : a.grownBy w none) : Below a.heap.size a w := ⟨h.os, h.tape, h.output, h.size, fun i hi => h.block i hi (by simp)⟩
theorem below_drewN {B : Nat} {a w : World} (h : Below B a w) (n : Nat) : Below B a (w.drewN n) := ⟨h.os, h.tape, h.output, h.size, h.block⟩
theorem grown_trans {a b c : World} {row : Option Nat} (h : a.grownBy b row) (k : b.grownBy c row) : a.grownBy c row :=
  ⟨k.os.trans h.os, k.tape.trans h.tape, k.output.trans h.output, Nat.le_trans h.size k.size, fun i hi hne => (k.block i (Nat.lt_of_lt_of_le hi h.size) hne).trans (h.block i hi hne)⟩
theorem setCell_grown (w : World) (p : Addr) (u : Value) : w.grownBy (w.setCell p u) (some p.block) :=
  ⟨rfl, rfl, rfl, by simp [World.setCell], fun i _ hne => Below.heap_setCell w p u i (fun e => hne (by rw [e]))⟩
theorem below_step {a b c : World} (h : Below a.heap.size a b) (k : Below b.heap.size b c) : Below a.heap.size a c := h.trans (k.mono h.size)
theorem grown_step {a b c : World} {row : Option Nat} (h : Below a.heap.size a b) (hg : b.grownBy c row) (hr : ∀ k, row = some k → a.heap.size ≤ k) : Below a.heap.size a c :=
  h.grown hg h.size hr

section
variable {w w' : World} {B : Nat} {A : Option Addr} {n c : Nat} {zs : List Int}
theorem Own.len (h : Own w B A n c zs) : zs.length = n := by simpa using h.1
theorem Own.lenle (h : Own w B A n c zs) : n ≤ maxLen := by
  rcases h.2 with ⟨h', rfl⟩ | ⟨g, cap, cur, h', _, _, hnc, hcm, _⟩
  · exact Nat.zero_le _
  · omega
theorem Own.cap (h : Own w B A n c zs) : n ≤ c := by
  rcases h.2 with ⟨h', rfl⟩ | ⟨g, cap, cur, h', _, _, hnc, _⟩
  · exact Nat.zero_le _
  · simp only [Value.slice.injEq] at h'
    omega
theorem Own.form (h : Own w B A n c zs) (hn : 0 < n) : ∃ g, A = some ⟨g, 0, none⟩ ∧ B ≤ g ∧ g < w.heap.size := by
  rcases h.2 with ⟨h', rfl⟩ | ⟨g, cap, cur, h', hb, hg, _⟩
  · omega
  · simp only [Value.slice.injEq] at h'
    refine ⟨g, h'.1, hb, ?_⟩
    rcases Nat.lt_or_ge g w.heap.size with hlt | hge
    · exact hlt
    · rw [Array.getElem?_eq_none hge] at hg; cases hg
theorem Own.block (h : Own w B A n c zs) : ∀ k, A.map (·.block) = some k → B ≤ k ∧ k < w.heap.size := by
  intro k hk
  have := h.lt k (by cases A with | none => cases hk | some a => simpa [Value.ownBlock] using hk)
  exact this
theorem Own.bin (h : Own w B A n c zs) : BIn w A n zs := by
  refine ⟨h.len, fun hn => ?_⟩
  obtain ⟨g, rfl, _, _⟩ := h.form hn
  refine ⟨g, 0, rfl, fun i hi => ?_⟩
  have hl := h.len
  have := World.ownsRow.cellAt h i (by omega)
  rw [Nat.zero_add, this, List.getElem?_map, List.getElem?_eq_getElem (by omega)]
  simp [List.getD, (show i < zs.length by omega)]
theorem Own.below (h : Own w B A n c zs) (hb : Below w.heap.size w w') : Own w' B A n c zs :=
  World.ownsRow.kept h (grownBy_of_below hb none) (by cases A <;> simp [Value.ownBlock])
theorem Own.grown (h : Own w B A n c zs) {row : Option Nat} (hg : w.grownBy w' row) (hr : A.map (·.block) = none ∨ A.map (·.block) ≠ row) : Own w' B A n c zs :=
  World.ownsRow.kept h hg (by cases A with
    | none => exact .inl rfl
    | some a => exact .inr (hr.resolve_left (by simp)))
theorem Own.mono {B' : Nat} (h : Own w B A n c zs) (hB : B' ≤ B) : Own w B' A n c zs :=
  ⟨h.1, by
    rcases h.2 with h' | ⟨g, cap, cur, h1, h2, h3⟩
    · exact .inl h'
    · exact .inr ⟨g, cap, cur, h1, Nat.le_trans hB h2, h3⟩⟩
theorem Own.stored {g : Nat} (h : Own w B (some ⟨g, 0, none⟩) n c zs) (j : Nat) (u : Int) :
    Own (w.setCell ⟨g, j, none⟩ (.int .u8 u)) B (some ⟨g, 0, none⟩) n c (zs.set j u) ∧ w.grownBy (w.setCell ⟨g, j, none⟩ (.int .u8 u)) (some g) := by
  have := World.ownsRow.stored h j (.int .u8 u)
  refine ⟨?_, this.2⟩
  unfold Own
  rw [List.map_set]
  exact this.1
theorem Own.cell {g : Nat} (h : Own w B (some ⟨g, 0, none⟩) n c zs) {j : Nat} (hj : j < n) : w.cell? ⟨g, j, none⟩ = some (.int .u8 (zs.getD j 0)) := by
  obtain ⟨b, o, e, hc⟩ := h.bin.at_ hj
  injection e with e
  injection e with e1 e2
  subst e1 e2
  simpa using hc
theorem Own.frozen {g : Nat} (h : Own w B (some ⟨g, 0, none⟩) n c zs) (j : Nat) : w.frozen? ⟨g, j, none⟩ = false := World.ownsRow.frozenAt h j
theorem Own.nil_ (w : World) (B : Nat) : Own w B none 0 0 [] := World.ownsRow_nil w B _ 1
end

theorem Own.made {w : World} {B n : Nat} {A : Option Addr} (h : w.ownsRow B 5 1 (.slice A n n) n (madeCells (Value.int IntKind.u8 0).cells (n * 1)).toList) : Own w B A n n (List.replicate n 0) := by
  unfold Own
  have e : (madeCells (Value.int IntKind.u8 0).cells (n * 1)).toList = (List.replicate n (0 : Int)).map (Value.int .u8) := by
    rw [List.map_replicate, Nat.mul_one]; exact toList_madeCells_one _ _
  rw [← e]; exact h

/-- Block g holds just these cells, and may be written. -/
def Box (w : World) (g : Nat) (t : TypeId) (cs : Array Value) : Prop := w.heap[g]? = some (.cells cs t (0, 0))
section
variable {w w' : World} {g : Nat} {t : TypeId} {cs : Array Value}
theorem Box.lt (h : Box w g t cs) : g < w.heap.size := Nat.lt_of_not_le fun hge => by
  unfold Box at h
  rw [Array.getElem?_eq_none hge] at h
  exact absurd h (by simp)
theorem Box.made (w : World) (t : TypeId) (cs : Array Value) : Box (w.alloc (.cells cs t)) w.heap.size t cs := heap_alloc_new w _
theorem Box.look (h : Box w g t cs) (i : Nat) : w.cell? ⟨g, i, none⟩ = cs[i]? := cell_of_row w g i cs t (0, 0) h
theorem Box.free (h : Box w g t cs) (i : Nat) : w.frozen? ⟨g, i, none⟩ = false := frozen_of_row w g i cs t h
theorem Box.below (h : Box w g t cs) (hb : Below w.heap.size w w') : Box w' g t cs := (hb.block g h.lt).trans h
theorem Box.grown (h : Box w g t cs) {row : Option Nat} (hg : w.grownBy w' row) (hr : row ≠ some g) : Box w' g t cs := (hg.block g h.lt (fun e => hr e.symm)).trans h
end

theorem Own.lts {w : World} {B : Nat} {A : Option Addr} {n c : Nat} {zs : List Int} (h : Own w B A n c zs) : ∀ r, A.map (·.block) = some r → r < w.heap.size := fun r hr => (h.block r hr).2
theorem Own.ne_box {w : World} {B : Nat} {A : Option Addr} {n c : Nat} {zs : List Int} {g : Nat} {t : TypeId} {cs : Array Value} (h : Own w B A n c zs) (hb : Box w g t cs) (ht : t ≠ 5) : A.map (·.block) ≠ some g := by
  intro e
  rcases h.2 with ⟨h', _⟩ | ⟨g', cap, cur, h', _, hg, _⟩
  · simp only [Value.slice.injEq] at h'
    rw [h'.1] at e
    cases e
  · simp only [Value.slice.injEq] at h'
    rw [h'.1] at e
    simp only [Option.map_some, Option.some.injEq] at e
    subst e
    unfold Box at hb
    rw [hb] at hg
    simp only [Option.some.injEq, Obj.cells.injEq] at hg
    exact ht hg.2.1
/-- Two slices of the call's own lie apart: the first one lay there when the second one's base was set. -/
theorem Own.apart {w : World} {B : Nat} {A A' : Option Addr} {n c : Nat} {zs : List Int} (h : Own w B A' n c zs) (d : ∀ r, A.map (·.block) = some r → r < B) : A.map (·.block) = none ∨ A.map (·.block) ≠ A'.map (·.block) := by
  cases hA : A.map (·.block) with
  | none => exact .inl rfl
  | some r =>
    refine .inr fun e => ?_
    have h1 := d r hA
    have h2 := (h.block r e.symm).1
    omega
theorem Own.apart' {w : World} {B : Nat} {A A' : Option Addr} {n c : Nat} {zs : List Int} (h : Own w B A' n c zs) (d : ∀ r, A.map (·.block) = some r → r < B) : A'.map (·.block) = none ∨ A'.map (·.block) ≠ A.map (·.block) := by
  rcases h.apart d with e | e
  · cases hA : A'.map (·.block) with
    | none => exact .inl rfl
    | some r => exact .inr (fun e' => by rw [e] at e'; cases e')
  · exact .inr (fun e' => e e'.symm)
theorem Own.apartB {w : World} {B : Nat} {A A' : Option Addr} {m n c : Nat} {zs : List Int} (h : Own w B A' n c zs) (d : ∀ r, 0 < m → A.map (·.block) = some r → r < B) (hm : 0 < m) : A.map (·.block) = none ∨ A.map (·.block) ≠ A'.map (·.block) :=
  h.apart fun r hr => d r hm hr

/-- What the walk wants behind a contract that ends in 'Below': old cells and old marks read as before; the heap has not shrunk. -/
theorem bcell {W w1 : World} (hb : Below W.heap.size W w1) : (∀ b o, b < W.heap.size → w1.cell? ⟨b, o, none⟩ = W.cell? ⟨b, o, none⟩) ∧ (∀ b o, b < W.heap.size → w1.frozen? ⟨b, o, none⟩ = W.frozen? ⟨b, o, none⟩) :=
  ⟨fun b o h => hb.cell (p := ⟨b, o, none⟩) h, fun b o h => hb.frozen (p := ⟨b, o, none⟩) h⟩

/-- A slice of bytes that came in, as the given shell hands it, reads as bytes. -/
theorem bin_of_row {w : World} {a : Option Addr} {len cap : Nat} {zs : List Int} (h : (a = none ∧ len = 0 ∧ cap = 0 ∧ zs = []) ∨
    ∃ x, a = some x ∧ len ≤ cap ∧ cap ≤ maxLen ∧ zs.length = cap ∧ (∀ i, i < zs.length → w.cell? (x.add i) = some (.int .u8 (zs.getD i 0))) ∧ ∀ n ∈ zs, (Lit.int .u8 n).wf = true) :
    ∃ xs, BIn w a len xs ∧ Bytes xs ∧ len ≤ maxLen := by
  rcases h with ⟨rfl, rfl, rfl, rfl⟩ | ⟨x, rfl, hl, hm, hz, hcell, hwz⟩
  · exact ⟨[], BIn.nil_ _ _, (fun _ h => by cases h), Nat.zero_le _⟩
  · refine ⟨zs.take len, ⟨by rw [List.length_take]; omega, fun hn => ?_⟩, fun z hz' => ?_, by omega⟩
    · obtain ⟨b, off, spot⟩ := x
      have hc := hcell 0 (by omega)
      have hspot : spot = none := by simpa [Addr.add] using World.cell?_spot hc
      subst hspot
      refine ⟨b, off, rfl, fun i hi => ?_⟩
      have := hcell i (by omega)
      have ea : Addr.add ⟨b, off, none⟩ i = ⟨b, off + i, none⟩ := by unfold Addr.add; split <;> simp_all
      rw [ea] at this
      rw [this]
      simp [List.getD, hi]
    · have := hwz z (List.mem_of_mem_take hz')
      have lo : IntKind.u8.min = 0 := rfl
      have up : IntKind.u8.max = 255 := rfl
      simp only [Lit.wf, Bool.and_eq_true, decide_eq_true_eq] at this
      omega

theorem take_eq_all {xs ys : List Int} {n : Nat} (hx : xs.length = n) (hy : ys.length = n) (h : ∀ i, i < n → xs.getD i 0 = ys.getD i 0) : xs = ys := by
  apply List.ext_getElem (by omega)
  intro i h1 h2
  have := h i (by omega)
  simpa [List.getD, h1, h2] using this

theorem getD_set (zs : List Int) (k : Nat) (u : Int) (j : Nat) (hk : k < zs.length) : (zs.set k u).getD j 0 = if j = k then u else zs.getD j 0 := by
  simp only [List.getD, List.getElem?_set]
  by_cases h : k = j
  · subst h; simp [hk]
  · rw [if_neg h, if_neg (by omega)]

theorem take_snoc (zs : List Int) (k : Nat) (h : k < zs.length) : zs.take (k + 1) = zs.take k ++ [zs.getD k 0] := by
  rw [List.take_succ_eq_append_getElem h]; simp [List.getD, h]

theorem ret_agg {a b : Array Value} (h : a = b) : Ending.returned (.agg a) = .returned (.agg b) := by rw [h]
theorem ret_int {k : IntKind} {a b : Int} (h : a = b) : Ending.returned (.int k a) = .returned (.int k b) := by rw [h]
theorem ret_bool {a b : Bool} (h : a = b) : Ending.returned (.bool a) = .returned (.bool b) := by rw [h]

end Go.Proofs.Ytiffhjofabaflaa
