/-
  What the laws draw from, carried from world to world: a source that is read on changes its own block alone. No statement is proved here.
-/
import Derived.Test.YtiffhjofabaflaaDraw
import Derived.Test.YtiffhjofabaflaaClone
namespace Go.Proofs.Ytiffhjofabaflaa
open Go.RowKit
set_option linter.unusedVariables false

/-- A source at block g, made before w0; behind w0 at most it has been read on, up to place K, and nothing else that was there at w0 has changed. -/
structure Dr (w0 : World) (g : Nat) (A : Option Addr) (n c : Nat) (cs : List Int) (K : Nat) (w : World) : Prop where
  at_ : ∃ k, k ≤ K ∧ Src w g A n c cs k
  data : ∀ r, 0 < n → A.map (·.block) = some r → r < g
  before : g < w0.heap.size
  fr : Only g (g + 1) w0 w

theorem Src.only {w w' : World} {g : Nat} {A : Option Addr} {n c : Nat} {cs : List Int} {k lo hi : Nat} (h : Src w g A n c cs k) (hd : ∀ r, 0 < n → A.map (·.block) = some r → r < g) (ho : Only lo hi w w') (hl : g < lo) : Src w' g A n c cs k :=
  ⟨(ho.block g h.box.lt (.inl hl)).trans h.box, ⟨h.data.1, fun hn => by
    obtain ⟨b, o, rfl, hc⟩ := h.data.2 hn
    refine ⟨b, o, rfl, fun i hi => ?_⟩
    have hb : b < g := hd b hn rfl
    exact (World.cell?_of_block (ho.block b (by have := h.box.lt; omega) (.inl (by omega)))).trans (hc i hi)⟩, h.bytes, h.small, h.apart⟩

section
variable {w0 w w' : World} {g : Nat} {A : Option Addr} {n c : Nat} {cs : List Int} {K K' lo hi : Nat}
theorem Dr.lt (h : Dr w0 g A n c cs K w) : g < w.heap.size := by obtain ⟨k, _, hs⟩ := h.at_; exact hs.box.lt
theorem Dr.below (h : Dr w0 g A n c cs K w) (hb : Below w.heap.size w w') : Dr w0 g A n c cs K w' := by
  obtain ⟨k, hk, hs⟩ := h.at_
  exact ⟨⟨k, hk, hs.below hb⟩, h.data, h.before, h.fr.trans (Only.of_below hb _ _)⟩
theorem Dr.only (h : Dr w0 g A n c cs K w) (ho : Only lo hi w w') (hd : w0.heap.size ≤ lo) : Dr w0 g A n c cs K w' := by
  obtain ⟨k, hk, hs⟩ := h.at_
  have hg := h.before
  exact ⟨⟨k, hk, hs.only h.data ho (by omega)⟩, h.data, h.before, ho.os.trans h.fr.os, ho.tape.trans h.fr.tape, ho.output.trans h.fr.output, Nat.le_trans h.fr.size ho.size,
    fun b hb hx => (ho.block b (by have := h.fr.size; omega) (.inl (by omega))).trans (h.fr.block b hb hx)⟩
theorem Dr.here (h : Dr w0 g A n c cs K w) : Dr w g A n c cs K w := ⟨h.at_, h.data, h.lt, Only.refl _ _ _⟩
theorem Dr.next (h : Dr w0 g A n c cs K w) (k : Dr w g A n c cs K' w') : Dr w0 g A n c cs K' w' := ⟨k.at_, k.data, h.before, h.fr.trans k.fr⟩
theorem Dr.more (h : Dr w0 g A n c cs K w) (hk : K ≤ K') : Dr w0 g A n c cs K' w := by
  obtain ⟨k, hk', hs⟩ := h.at_
  exact ⟨⟨k, by omega, hs⟩, h.data, h.before, h.fr⟩
theorem Dr.of_src {k : Nat} (h : Src w g A n c cs k) (hd : ∀ r, 0 < n → A.map (·.block) = some r → r < g) (hk : k ≤ K) : Dr w g A n c cs K w := ⟨⟨k, hk, h⟩, hd, h.box.lt, Only.refl _ _ _⟩
theorem Dr.of_step {k : Nat} (h : Dr w g A n c cs K w) (hs : Src w' g A n c cs k) (hg : w.grownBy w' (some g)) (hk : k ≤ K') : Dr w g A n c cs K' w' :=
  ⟨⟨k, hk, hs⟩, h.data, h.before, Only.of_grown hg (fun r hr => by injection hr with hr; omega)⟩

theorem dNext (m : Int) (h : Dr w g A n c cs K w) (hK : K ≤ 100000) (hm0 : 1 ≤ m) (hm : m ≤ 1099511627776) :
    Calls Try.prog 101 #[.pointer (some ⟨g, 0, none⟩), .int .i64 m] w fun e w' => ∃ v, e = .returned (.int .i64 v) ∧ 0 ≤ v ∧ v < m ∧ Dr w g A n c cs (K + 1) w' := by
  obtain ⟨k, hk, hs⟩ := h.at_
  refine (l1Next_any g A n c cs k m w hs (by omega) hm).mono ?_
  rintro e w' ⟨v, h1, h2, h3, h4⟩
  exact ⟨v, h1, (h2.2 hm0).1, (h2.2 hm0).2, h.of_step h3 h4 (by omega)⟩
theorem dChance (m : Int) (h : Dr w g A n c cs K w) (hK : K ≤ 100000) (hm : m ≤ 1099511627776) :
    Calls Try.prog 100 #[.pointer (some ⟨g, 0, none⟩), .int .i64 m] w fun e w' => ∃ v : Bool, e = .returned (.bool v) ∧ Dr w g A n c cs (K + 1) w' := by
  obtain ⟨k, hk, hs⟩ := h.at_
  refine (l1Chance_any g A n c cs k m w hs (by omega) hm).mono ?_
  rintro e w' ⟨v, h1, h3, h4⟩
  exact ⟨v, h1, h.of_step h3 h4 (by omega)⟩
theorem dPick (b m : Nat) (zs : List Int) {arr : Array Value} (h : Dr w g A n c cs K w) (hK : K ≤ 100000) (hx : Box w b 2 arr) (ha : arr = (zs.map (Value.int .i64)).toArray) (hz : zs.length = m) (hm0 : 0 < m) (hm : m ≤ 1000) (hne : ¬ b = g) :
    Calls Try.prog 90 #[.pointer (some ⟨g, 0, none⟩), .slice (some ⟨b, 0, none⟩) m m] w fun e w' => ∃ v, e = .returned (.int .i64 v) ∧ v ∈ zs ∧ Dr w g A n c cs (K + 1) w' := by
  obtain ⟨k, hk, hs⟩ := h.at_
  subst ha
  refine (l1Pick_any g A n c cs k b m m zs w hs (by omega) hz hm0 hm (fun i hi => ?_) hne).mono ?_
  · rw [Nat.zero_add, hx.look i]
    simp [List.getD, (show i < zs.length by omega)]
  rintro e w' ⟨v, h1, h2, h3, h4⟩
  exact ⟨v, h1, h2, h.of_step h3 h4 (by omega)⟩
theorem dSource (A : Option Addr) (n c : Nat) (cs : List Int) (w : World) (ha : BIn w A n cs) (hb : Bytes cs) (hn : n ≤ 1048576) :
    Calls Try.prog 88 #[.slice A n c] w fun e w' => e = .returned (.pointer (some ⟨w.heap.size, 0, none⟩)) ∧ Dr w' w.heap.size A n c cs 0 w' ∧ Below w.heap.size w w' :=
  (l1Source_any A n c cs w ha hb hn).mono fun e w' ⟨h1, h2, h3⟩ => ⟨h1, Dr.of_src h2 (fun r hr he => ha.lts r hr he) (Nat.le_refl _), h3⟩
end

section
variable {α : Type} {t : TypeId} {size : Nat} {f : α → List Value} {w : World} {lo hi lo' hi' : Nat} {A : Option Addr} {n c : Nat} {ys : List α}
theorem OwnFK.widen (h : Kept lo hi (OwnFK t size f lo hi A n c ys) w) (h1 : lo' ≤ lo) (h2 : hi ≤ hi') (h3 : hi' ≤ w.heap.size) : Kept lo' hi' (OwnFK t size f lo' hi' A n c ys) w :=
  ⟨h3, fun w2 k => by
    have hh := h.2 w2 (k.sub h1 h2)
    exact ⟨hh.1.mono h1, fun r hr => by have := hh.2 r hr; omega⟩⟩
theorem OwnFK.nil_ (t : TypeId) (size : Nat) (f : α → List Value) (w : World) (hl : hi ≤ w.heap.size) : Kept lo hi (OwnFK t size f lo hi none 0 0 []) w :=
  ⟨hl, fun w2 _ => ⟨OwnF.nil_ _ _ _ _ _, fun r hr => by cases hr⟩⟩
end

theorem InF.of_box {α : Type} {size : Nat} {f : α → List Value} {w : World} {g : Nat} {t : TypeId} {cs : Array Value} (h : Box w g t cs) (ys : List α) {m : Nat} (hm : ys.length = m) (hc : cs.toList = ys.flatMap f) : InF size f w (some ⟨g, 0, none⟩) m ys :=
  ⟨hm, fun _ => ⟨g, 0, rfl, fun j u hj => by
    rw [Nat.zero_add, h.look j, ← Array.getElem?_toList, hc]; exact hj⟩⟩

/-- An advertisement whose slices are the call's own; one of them is nil. -/
structure LsaOwn (lo hi : Nat) (w : World) (A : Option Addr) (n c : Nat) (B : Option Addr) (m d : Nat) (l : LsaM) : Prop where
  links : Kept lo hi (OwnFK 278 4 lcell lo hi A n c l.links) w
  routers : Kept lo hi (OwnFK 2 1 icell lo hi B m d l.routers) w
  one : (B = none ∧ m = 0 ∧ d = 0 ∧ l.routers = []) ∨ (A = none ∧ n = 0 ∧ c = 0 ∧ l.links = [])
theorem LsaOwn.lsa {lo hi : Nat} {w : World} {A B : Option Addr} {n c m d : Nat} {l : LsaM} (h : LsaOwn lo hi w A n c B m d l) : LsaAt true lo hi w A n B m l := ⟨⟨h.links.links.sl, h.routers.ints.sl⟩, h.links.le⟩

theorem OwnF.at_ {α : Type} {t : TypeId} {size : Nat} {f : α → List Value} {w : World} {B : Nat} {A : Option Addr} {n c : Nat} {ys : List α} (h : OwnF t size f w B A n c ys) (hn : 0 < n) :
    ∃ r, Kept r (r + 1) (OwnFK t size f r (r + 1) A n c ys) w ∧ B ≤ r ∧ ∀ g t' cs, Box w g t' cs → t' ≠ t → ¬ r = g := by
  rcases h.2.2 with ⟨h', h0⟩ | ⟨g, cap, cur, h1, h2, h3, h4⟩
  · exact absurd h0 (by omega)
  · have hA : A.map (·.block) = some g := by simp only [Value.slice.injEq] at h1; rw [h1.1]; rfl
    have hl := (h.block g hA).2
    refine ⟨g, ⟨hl, fun w2 k => ⟨⟨h.1, h.2.1, .inr ⟨g, cap, cur, h1, Nat.le_refl _, (k g (Nat.le_refl _) (Nat.lt_succ_self _)).trans h3, h4⟩⟩, fun r hr => ?_⟩⟩, h2, fun g' t' cs hb ht e => ?_⟩
    · rw [hA] at hr; injection hr with hr; omega
    · subst e
      have hb' : w.heap[g]? = some (.cells cs t') := hb
      rw [h3] at hb'
      injection hb' with hb'
      injection hb' with _ e2
      exact ht e2.symm
theorem Below.of_only0 {w w' : World} (h : Only 0 0 w w') : Below w.heap.size w w' := ⟨h.os, h.tape, h.output, h.size, fun b hb => h.block b hb (.inr (Nat.zero_le _))⟩
theorem LsaAt.wide {q : Bool} {lo hi lo' hi' : Nat} {w : World} {A B : Option Addr} {n m : Nat} {l l' : LsaM} (h : LsaAt q lo hi w A n B m l) (e1 : l'.links = l.links) (e2 : l'.routers = l.routers) (h1 : lo' ≤ lo) (h2 : hi ≤ hi') (h3 : hi' ≤ w.heap.size) : LsaAt q lo' hi' w A n B m l' :=
  ⟨⟨e1 ▸ h.in_.links.mono h1 h2, e2 ▸ h.in_.routers.mono h1 h2⟩, h3⟩

/-- What l2Draw answers: some advertisement. -/
def DrawOut (w : World) (g : Nat) (A0 : Option Addr) (n0 c0 : Nat) (cs : List Int) (K : Nat) (e : Ending) (w' : World) : Prop :=
  ∃ l A B n c m d, e = .returned (.agg (lsaCells l A B n c m d)) ∧ LsaOwn w.heap.size w'.heap.size w' A n c B m d l ∧ n ≤ 8 ∧ m ≤ 8 ∧ Dr w g A0 n0 c0 cs K w'
/-- What l2Bent answers: some advertisement. -/
def BentOut (w : World) (g : Nat) (A0 : Option Addr) (n0 c0 : Nat) (cs : List Int) (K : Nat) (e : Ending) (w' : World) : Prop :=
  ∃ l A B n c m d, e = .returned (.agg (lsaCells l A B n c m d)) ∧ LsaAt true w.heap.size w'.heap.size w' A n B m l ∧ n ≤ 16 ∧ m ≤ 16 ∧ Dr w g A0 n0 c0 cs K w'
/-- What l3Pair answers: two advertisements. -/
def PairOut (w : World) (g : Nat) (A0 : Option Addr) (n0 c0 : Nat) (cs : List Int) (K : Nat) (e : Ending) (w' : World) : Prop :=
  ∃ l A B n c m d k A2 B2 n2 c2 m2 d2, e = .returned (.tuple #[.agg (lsaCells l A B n c m d), .agg (lsaCells k A2 B2 n2 c2 m2 d2)]) ∧
    LsaAt true w.heap.size w'.heap.size w' A n B m l ∧ LsaAt true w.heap.size w'.heap.size w' A2 n2 B2 m2 k ∧ n ≤ 16 ∧ m ≤ 16 ∧ n2 ≤ 16 ∧ m2 ≤ 16 ∧ Dr w g A0 n0 c0 cs K w'
/-- What a draw of one advertisement answers. -/
def OneOut (w : World) (e : Ending) (w' : World) : Prop :=
  ∃ l A B n c m d, e = .returned (.agg (lsaCells l A B n c m d)) ∧ LsaAt true w.heap.size w'.heap.size w' A n B m l ∧ n ≤ 16 ∧ m ≤ 16 ∧ Below w.heap.size w w'
/-- What a draw of two advertisements answers. -/
def TwoOut (w : World) (e : Ending) (w' : World) : Prop :=
  ∃ l A B n c m d k A2 B2 n2 c2 m2 d2, e = .returned (.tuple #[.agg (lsaCells l A B n c m d), .agg (lsaCells k A2 B2 n2 c2 m2 d2)]) ∧
    LsaAt true w.heap.size w'.heap.size w' A n B m l ∧ LsaAt true w.heap.size w'.heap.size w' A2 n2 B2 m2 k ∧ n ≤ 16 ∧ m ≤ 16 ∧ n2 ≤ 16 ∧ m2 ≤ 16 ∧ Below w.heap.size w w'
/-- What the draw of an advertisement and of ticks answers. -/
def AgeOut (w : World) (e : Ending) (w' : World) : Prop :=
  ∃ l A B n c m d t, e = .returned (.tuple #[.agg (lsaCells l A B n c m d), .int .i64 t]) ∧ LsaAt true w.heap.size w'.heap.size w' A n B m l ∧ n ≤ 16 ∧ m ≤ 16 ∧ -1 ≤ t ∧ t ≤ 9223372036854775807 ∧ Below w.heap.size w w'

end Go.Proofs.Ytiffhjofabaflaa
