/-
  Facts about memory that hang on a range of blocks alone, and how they stand when the world goes on: what the generated walks carry. No statement is proved here.
-/
import Derived.Test.YtiffhjofabaflaaHeldLsa
import Derived.WalkMore
import Derived.ScopeJumps
namespace Go.Proofs.Ytiffhjofabaflaa
open Go.RowKit
set_option linter.unusedVariables false

theorem Calls.name {P : Program} {f : FuncId} {args : Array Value} {w : World} {R : Ending → World → Prop} (h : ∀ V, V = w → Calls P f args V R) : Calls P f args w R := h w rfl

theorem wpList_name {P : Program} {l : List Oper} {rest : Array Oper} {Q : Exit → Act → World → Prop} {a : Act} {w : World} (h : ∀ V, V = w → wpList P rest Q l a V) : wpList P rest Q l a w := h w rfl
theorem Code.wp_name {P : Program} {c : Code} {Q : Exit → Act → World → Prop} {a : Act} {w : World} (h : ∀ V, V = w → c.wp P Q a V) : c.wp P Q a w := h w rfl

/-- What is said hangs on blocks lo to hi - 1 alone, and these are there. -/
def Kept (lo hi : Nat) (F : World → Prop) (w : World) : Prop := hi ≤ w.heap.size ∧ ∀ w', SameIn lo hi w w' → F w'
theorem SameIn.trans {lo hi : Nat} {a b c : World} (h : SameIn lo hi a b) (k : SameIn lo hi b c) : SameIn lo hi a c := fun i h1 h2 => (k i h1 h2).trans (h i h1 h2)
theorem SameIn.symm {lo hi : Nat} {a b : World} (h : SameIn lo hi a b) : SameIn lo hi b a := fun i h1 h2 => (h i h1 h2).symm
theorem SameIn.sub {lo hi l h : Nat} {a b : World} (k : SameIn lo hi a b) (h1 : lo ≤ l) (h2 : h ≤ hi) : SameIn l h a b := fun i x y => k i (by omega) (by omega)
section
variable {lo hi lo' hi' : Nat} {F G : World → Prop} {w w' : World}
theorem Kept.out (h : Kept lo hi F w) : F w := h.2 w (SameIn.refl _ _ _)
theorem Kept.le (h : Kept lo hi F w) : hi ≤ w.heap.size := h.1
theorem Kept.same (h : Kept lo hi F w) (k : SameIn lo hi w w') (hs : hi ≤ w'.heap.size) : Kept lo hi F w' := ⟨hs, fun w2 k2 => h.2 w2 (k.trans k2)⟩
theorem Kept.below (h : Kept lo hi F w) (hb : Below w.heap.size w w') : Kept lo hi F w' := h.same (SameIn.of_below hb h.1) (Nat.le_trans h.1 hb.size)
theorem Kept.only (h : Kept lo hi F w) (ho : Only lo' hi' w w') (hd : hi ≤ lo' ∨ hi' ≤ lo) : Kept lo hi F w' := h.same (ho.same hd h.1) (Nat.le_trans h.1 ho.size)
theorem Kept.mono (h : Kept lo hi F w) (h1 : lo' ≤ lo) (h2 : hi ≤ hi') (h3 : hi' ≤ w.heap.size) : Kept lo' hi' F w := ⟨h3, fun w2 k => h.2 w2 (k.sub h1 h2)⟩
theorem Kept.imp (h : Kept lo hi F w) (f : ∀ w, F w → G w) : Kept lo hi G w := ⟨h.1, fun w2 k => f w2 (h.2 w2 k)⟩
theorem Kept.intro (h : F w) (hs : hi ≤ w.heap.size) (hk : ∀ w', SameIn lo hi w w' → F w → F w') : Kept lo hi F w := ⟨hs, fun w2 k => hk w2 k h⟩
end

/-- Block g holds just these cells, and may be written. -/
def BoxK (g : Nat) (t : TypeId) (cs : Array Value) : World → Prop := fun w => Box w g t cs
section
variable {g : Nat} {t : TypeId} {cs : Array Value} {w w' : World}
theorem Kept.box (h : Box w g t cs) : Kept g (g + 1) (BoxK g t cs) w := ⟨h.lt, fun w2 k => (k g (Nat.le_refl _) (Nat.lt_succ_self _)).trans h⟩
theorem Kept.bx (h : Kept g (g + 1) (BoxK g t cs) w) : Box w g t cs := h.out
theorem Kept.look (h : Kept g (g + 1) (BoxK g t cs) w) (i : Nat) : w.cell? ⟨g, i, none⟩ = cs[i]? := h.bx.look i
theorem Kept.free (h : Kept g (g + 1) (BoxK g t cs) w) (i : Nat) : w.frozen? ⟨g, i, none⟩ = false := h.bx.free i
theorem Box.made_at (w : World) (t : TypeId) (cs : Array Value) {g : Nat} (h : g = w.heap.size) : Box (w.alloc (.cells cs t)) g t cs := by rw [h]; exact Box.made _ _ _
theorem Box.over (h : Box w g t cs) (o : Obj) : Box (w.alloc o) g t cs := h.below ((Below.refl _ _).alloc (Nat.le_refl _) _)
theorem Box.aside (h : Box w g t cs) {p : Addr} (hp : p.block ≠ g) (u : Value) : Box (w.setCell p u) g t cs := h.grown (setCell_grown _ _ _) (fun e => hp (by injection e))
theorem Box.drew (h : Box w g t cs) : Box w.drew g t cs := h
end

theorem Box.puts {w : World} {g : Nat} {t : TypeId} {cs cs' : Array Value} (h : Box w g t cs) (i : Nat) (u : Value) (e : cs.setIfInBounds i u = cs') : Box (w.setCell ⟨g, i, none⟩ u) g t cs' := e ▸ h.put i u
theorem Below.only {B lo hi : Nat} {a b c : World} (h : Below B a b) (ho : Only lo hi b c) (hB : B ≤ lo) (hs : B ≤ b.heap.size) : Below B a c := h.trans (ho.below hB hs)
theorem Only.drew {lo hi : Nat} {a w : World} (h : Only lo hi a w) : Only lo hi a w.drew := ⟨h.os, h.tape, h.output, h.size, h.block⟩
theorem Only.set1 {lo hi : Nat} (w : World) {p : Addr} (h1 : lo ≤ p.block) (h2 : p.block < hi) (u : Value) : Only lo hi w (w.setCell p u) := (Only.refl _ _ _).set h1 h2 u
theorem Only.of_grown {lo hi : Nat} {row : Option Nat} {w w' : World} (h : w.grownBy w' row) (hr : ∀ r, row = some r → lo ≤ r ∧ r < hi) : Only lo hi w w' :=
  ⟨h.os, h.tape, h.output, h.size, fun b hb ho => h.block b hb (fun e => by have := hr b e.symm; omega)⟩
theorem Below.only0 {w w' : World} (h : Below w.heap.size w w') : Only 0 0 w w' := Only.of_below h 0 0

/-- An advertisement's slices lie in a range of blocks. -/
def LsaK (q : Bool) (lo hi : Nat) (A : Option Addr) (n : Nat) (B : Option Addr) (m : Nat) (l : LsaM) : World → Prop := fun w => LsaIn q lo hi w A n B m l
section
variable {q : Bool} {lo hi : Nat} {w w' : World} {A B : Option Addr} {n m : Nat} {l : LsaM}
theorem LsaAt.kept (h : LsaAt q lo hi w A n B m l) : Kept lo hi (LsaK q lo hi A n B m l) w := ⟨h.le, fun w2 k => h.in_.keep k⟩
theorem Kept.lsa (h : Kept lo hi (LsaK q lo hi A n B m l) w) : LsaAt q lo hi w A n B m l := ⟨h.out, h.le⟩
end

/-- An advertisement's slices lie in a range of blocks, apart from each other. -/
def LsaTwoK (lo hi : Nat) (A : Option Addr) (n : Nat) (B : Option Addr) (m : Nat) (l : LsaM) : World → Prop := fun w => hi ≤ w.heap.size → LsaTwo lo hi w A n B m l
section
variable {lo hi : Nat} {w w' : World} {A B : Option Addr} {n m : Nat} {l : LsaM}
theorem LsaTwo.kept (h : LsaTwo lo hi w A n B m l) : Kept lo hi (LsaTwoK lo hi A n B m l) w := ⟨h.le, fun w2 k hs => by
  obtain ⟨⟨l1, k1, l2, k2, a1, a2, a3, a4, d, s1, s2⟩, hl⟩ := h
  exact ⟨⟨l1, k1, l2, k2, a1, a2, a3, a4, d, s1.keep (k.sub a1 a2), s2.keep (k.sub a3 a4)⟩, hs⟩⟩
theorem Kept.two (h : Kept lo hi (LsaTwoK lo hi A n B m l) w) : LsaTwo lo hi w A n B m l := h.out h.le
end

theorem LsaTwo.as {lo hi : Nat} {w : World} {A B : Option Addr} {n m : Nat} {l l' : LsaM} (h : LsaTwo lo hi w A n B m l) (e1 : l'.links = l.links) (e2 : l'.routers = l.routers) : LsaTwo lo hi w A n B m l' := by
  obtain ⟨⟨l1, k1, l2, k2, a1, a2, a3, a4, d, s1, s2⟩, hl⟩ := h
  exact ⟨⟨l1, k1, l2, k2, a1, a2, a3, a4, d, by rw [e1]; exact s1, by rw [e2]; exact s2⟩, hl⟩
theorem LsaAt.as {q : Bool} {lo hi : Nat} {w : World} {A B : Option Addr} {n m : Nat} {l l' : LsaM} (h : LsaAt q lo hi w A n B m l) (e1 : l'.links = l.links) (e2 : l'.routers = l.routers) : LsaAt q lo hi w A n B m l' :=
  ⟨⟨by rw [e1]; exact h.in_.links, by rw [e2]; exact h.in_.routers⟩, h.le⟩

/-- A slice of bytes of the call's own. -/
def OwnK (lo hi : Nat) (A : Option Addr) (n c : Nat) (zs : List Int) : World → Prop := fun w => Own w lo A n c zs
theorem Own.keepIn {w w' : World} {lo hi : Nat} {A : Option Addr} {n c : Nat} {zs : List Int} (h : Own w lo A n c zs) (hr : ∀ r, A.map (·.block) = some r → r < hi) (k : SameIn lo hi w w') : Own w' lo A n c zs := by
  refine ⟨h.1, ?_⟩
  rcases h.2 with h' | ⟨g, cap, cur, h1, h2, h3, h4⟩
  · exact .inl h'
  · refine .inr ⟨g, cap, cur, h1, h2, ?_, h4⟩
    have hA : A.map (·.block) = some g := by simp only [Value.slice.injEq] at h1; rw [h1.1]; rfl
    exact (k g h2 (hr g hA)).trans h3
theorem Own.kept {w : World} {B hi : Nat} {A : Option Addr} {n c : Nat} {zs : List Int} (h : Own w B A n c zs) (hs : hi = w.heap.size) : Kept B hi (OwnK B hi A n c zs) w :=
  ⟨by omega, fun w2 k => h.keepIn (fun r hr => by have := h.lts r hr; omega) k⟩
theorem Kept.own {w : World} {lo hi : Nat} {A : Option Addr} {n c : Nat} {zs : List Int} (h : Kept lo hi (OwnK lo hi A n c zs) w) : Own w lo A n c zs := h.out

/-- An answer that is a code and an advertisement in new memory. -/
def LsaOut (w : World) (code : Int) (l : LsaM) (e : Ending) (w' : World) : Prop :=
  ∃ A B n c m d, e = .returned (.agg (resCells code l A B n c m d)) ∧ LsaTwo w.heap.size w'.heap.size w' A n B m l ∧ n ≤ 1048576 ∧ m ≤ 1048576 ∧ Below w.heap.size w w'

/-- A slice that reads as items, in a range of blocks. -/
def SlK {α : Type} (r : Rep α) (q : Bool) (lo hi : Nat) (A : Option Addr) (n : Nat) (ys : List α) : World → Prop := fun w => r.Sl q lo hi w A n ys
theorem Rep.Sl.kept {α : Type} {r : Rep α} {q : Bool} {lo hi : Nat} {w : World} {A : Option Addr} {n : Nat} {ys : List α} (h : r.Sl q lo hi w A n ys) (hs : hi ≤ w.heap.size) : Kept lo hi (SlK r q lo hi A n ys) w := ⟨hs, fun w2 k => h.keep k⟩
theorem Kept.sl {α : Type} {r : Rep α} {q : Bool} {lo hi : Nat} {w : World} {A : Option Addr} {n : Nat} {ys : List α} (h : Kept lo hi (SlK r q lo hi A n ys) w) : r.Sl q lo hi w A n ys := h.out

/-- What is behind a jump forward is gone on with at the jump. -/
theorem wp_scope_fwd {P : Program} {c rest : Code} {a : Act} {w : World} {Q : Exit → Act → World → Prop} (l : Nat) (hf : findLabel c l = some rest)
    (first : c.wp P (Exit.jump l (fun a w => rest.wp P (Exit.jump l (fun _ _ => False) Q) a w) Q) a w) : (Code.scope c).wp P Q a w :=
  wp_scope_jumps l (fun a w => rest.wp P (Exit.jump l (fun _ _ => False) Q) a w) (fun _ _ => 0) hf first fun a w h =>
    Code.wp_mono (fun e a' w' h => by cases e <;> first | exact h | exact h.2.elim) h

end Go.Proofs.Ytiffhjofabaflaa
