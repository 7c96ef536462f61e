/-
  Rows whose items are told by their cells: reading them, and 'append' to a row of the call's own. No statement is proved here.
-/
import Derived.Test.YtiffhjofabaflaaBase
import Derived.Test.YtiffhjofabaflaaCopy
namespace Go.Proofs.Ytiffhjofabaflaa
open Go.RowKit

section
variable {α : Type} {size : Nat} {f : α → List Value}
theorem flat_len (hf : ∀ a, (f a).length = size) (ys : List α) : (ys.flatMap f).length = ys.length * size := by
  induction ys with
  | nil => simp
  | cons y t ih => rw [List.flatMap_cons, List.length_append, hf, ih, List.length_cons, Nat.succ_mul]; omega
theorem flat_get (hf : ∀ a, (f a).length = size) (ys : List α) (k : Nat) (a : α) (h : ys[k]? = some a) (j : Nat) (hj : j < size) : (ys.flatMap f)[k * size + j]? = (f a)[j]? := by
  induction ys generalizing k with
  | nil => simp at h
  | cons y t ih =>
    rw [List.flatMap_cons]
    cases k with
    | zero =>
      simp only [List.getElem?_cons_zero, Option.some.injEq] at h
      subst h
      rw [Nat.zero_mul, Nat.zero_add, List.getElem?_append_left (by rw [hf]; exact hj)]
    | succ k =>
      simp only [List.getElem?_cons_succ] at h
      rw [List.getElem?_append_right (by rw [hf, Nat.succ_mul]; omega), hf, show (k + 1) * size + j - size = k * size + j by rw [Nat.succ_mul]; omega]
      exact ih k h

/-- The slice value of address A and length n reads as the items ys. -/
def InF (_size : Nat) (f : α → List Value) (w : World) (A : Option Addr) (n : Nat) (ys : List α) : Prop :=
  ys.length = n ∧ (0 < n → ∃ b o, A = some ⟨b, o, none⟩ ∧ ∀ j u, (ys.flatMap f)[j]? = some u → w.cell? ⟨b, o + j, none⟩ = some u)
/-- The slice value of address A, length n and capacity c owns the items ys, in a block from B on. -/
def OwnF (t : TypeId) (size : Nat) (f : α → List Value) (w : World) (B : Nat) (A : Option Addr) (n c : Nat) (ys : List α) : Prop := ys.length = n ∧ w.ownsRow B t size (.slice A n c) n (ys.flatMap f)

variable {w w' : World} {A : Option Addr} {n c B : Nat} {ys : List α} {t : TypeId}
theorem InF.below (h : InF size f w A n ys) (hb : Below w.heap.size w w') : InF size f w' A n ys :=
  ⟨h.1, fun hn => by
    obtain ⟨b, o, e, hc⟩ := h.2 hn
    refine ⟨b, o, e, fun j u hj => ?_⟩
    have := hc j u hj
    rw [hb.cell (World.block_lt_of_cell? w _ this), this]⟩
theorem InF.at_ (hf : ∀ a, (f a).length = size) (h : InF size f w A n ys) {k : Nat} (hk : k < n) : ∃ b o a, A = some ⟨b, o, none⟩ ∧ ys[k]? = some a ∧ ∀ j u, j < size → (f a)[j]? = some u → w.cell? ⟨b, o + k * size + j, none⟩ = some u := by
  obtain ⟨b, o, e, hc⟩ := h.2 (by omega)
  have hl : k < ys.length := by have := h.1; omega
  refine ⟨b, o, ys[k], e, List.getElem?_eq_getElem hl, fun j u hj hu => ?_⟩
  have := hc (k * size + j) u (by rw [flat_get hf ys k ys[k] (List.getElem?_eq_getElem hl) j hj]; exact hu)
  rwa [← Nat.add_assoc] at this
theorem OwnF.form (h : OwnF t size f w B A n c ys) (hn : 0 < n) : ∃ g, A = some ⟨g, 0, none⟩ ∧ B ≤ g ∧ g < w.heap.size := by
  rcases h.2.2 with ⟨h', rfl⟩ | ⟨g, cap, cur, h', hb, hg, _⟩
  · omega
  · simp only [Value.slice.injEq] at h'
    refine ⟨g, h'.1, hb, ?_⟩
    rcases Nat.lt_or_ge g w.heap.size with hlt | hge
    · exact hlt
    · rw [Array.getElem?_eq_none hge] at hg; cases hg
theorem OwnF.block (h : OwnF t size f w B A n c ys) : ∀ k, A.map (·.block) = some k → B ≤ k ∧ k < w.heap.size := fun k hk =>
  h.2.lt k (by cases A with | none => cases hk | some a => simpa [Value.ownBlock] using hk)
theorem OwnF.inF (hf : ∀ a, (f a).length = size) (h : OwnF t size f w B A n c ys) : InF size f w A n ys := by
  refine ⟨h.1, fun hn => ?_⟩
  obtain ⟨g, rfl, _, _⟩ := h.form hn
  refine ⟨g, 0, rfl, fun j u hj => ?_⟩
  have hl := flat_len hf ys
  have hjl : j < (ys.flatMap f).length := (List.getElem?_eq_some_iff.1 hj).1
  have := World.ownsRow.cellAt h.2 j (by have := h.1; rw [hl, this] at hjl; exact hjl)
  rw [Nat.zero_add, this, hj]
theorem OwnF.below (h : OwnF t size f w B A n c ys) (hb : Below w.heap.size w w') : OwnF t size f w' B A n c ys := ⟨h.1, World.ownsRow.kept h.2 (grownBy_of_below hb none) (by cases A <;> simp [Value.ownBlock])⟩
theorem OwnF.nil_ (t : TypeId) (size : Nat) (f : α → List Value) (w : World) (B : Nat) : OwnF t size f w B none 0 0 [] := ⟨rfl, World.ownsRow_nil w B t size⟩
theorem OwnF.mono {B' : Nat} (h : OwnF t size f w B A n c ys) (hB : B' ≤ B) : OwnF t size f w B' A n c ys :=
  ⟨h.1, h.2.1, by
    rcases h.2.2 with h' | ⟨g, cap, cur, h1, h2, h3⟩
    · exact .inl h'
    · exact .inr ⟨g, cap, cur, h1, Nat.le_trans hB h2, h3⟩⟩

theorem Box.news {w : World} {g : Nat} {t : TypeId} {cs : Array Value} (h : Box w g t cs) : ∀ j u, cs.toList[j]? = some u → w.cell? ((⟨g, 0, none⟩ : Addr).add j) = some u := by
  intro j u hj
  have ea : Addr.add ⟨g, 0, none⟩ j = ⟨g, j, none⟩ := by unfold Addr.add; split <;> simp_all
  rw [ea, h.look j]
  simpa using hj
/-- A block that was made with the cells of items. -/
theorem Box.inF {w : World} {g : Nat} {t : TypeId} {cs : Array Value} (h : Box w g t cs) (ys : List α) (hc : cs.toList = ys.flatMap f) : InF size f w (some ⟨g, 0, none⟩) ys.length ys :=
  ⟨rfl, fun _ => ⟨g, 0, rfl, fun j u hj => by
    rw [← hc] at hj
    rw [Nat.zero_add, h.look j]
    simpa using hj⟩⟩
end

theorem Box.bin {w : World} {g : Nat} {t : TypeId} {cs : Array Value} (h : Box w g t cs) (zs : List Int) (hc : cs.toList = zs.map (Value.int .u8)) : BIn w (some ⟨g, 0, none⟩) zs.length zs :=
  ⟨rfl, fun _ => ⟨g, 0, rfl, fun i hi => by
    have : cs.toList[i]? = some (.int .u8 (zs.getD i 0)) := by rw [hc]; simp [List.getD, hi]
    rw [Nat.zero_add, h.look i]
    simpa using this⟩⟩

theorem own_form_any {w : World} {B size : Nat} {e : TypeId} {v : Value} {n : Nat} {xs : List Value} (h : w.ownsRow B e size v n xs) : ∃ A c, v = .slice A n c := by
  rcases h.2 with ⟨h', h0⟩ | ⟨g, cap, cur, h', _⟩
  · subst h0; exact ⟨none, 0, h'⟩
  · exact ⟨_, _, h'⟩

/-- append of bytes to bytes of the call's own. -/
theorem wpList_app {ops : Array Oper} {rest : List Oper} {o : Oper} {a : Act} {Q : Exit → Act → World → Prop} {w : World} (hgd : o.guard = none) (s x : Operand)
    (ho : o.op = .call { callee := .builtin .append, args := #[s, x], argTypes := #[22, 22] })
    {B : Nat} {A : Option Addr} {n c : Nat} {zs : List Int} (hs : a.eval s = .slice A n c) (hown : Own w B A n c zs)
    {E : Option Addr} {m d : Nat} {ys : List Int} (hx : a.eval x = .slice E m d) (hm : 0 < m) (hE : BIn w E m ys) (hl : n + m ≤ 1048576) (hB : B ≤ w.heap.size)
    (h : ∀ A' c' w', Own w' B A' (n + m) c' (zs ++ ys) → w.grownBy w' (A.map (·.block)) → wpList Try.prog ops Q rest (a.put o.dst (.slice A' (n + m) c')) w') : wpList Try.prog ops Q (o :: rest) a w := by
  obtain ⟨i0, hi, hz0, hz1, hz2⟩ := info_parts byteInfo
  obtain ⟨b, off, rfl, _⟩ := hE.2 hm
  refine wpList_append_own w hgd s x 22 ho B 5 i0 (.int .u8 0) 1 1 Try.underlying22 hi hz0 hz1 hz2 rfl (by decide) (.slice A n c) n (zs.map (Value.int .u8)) hs hown ⟨b, off, none⟩ m d (ys.map (Value.int .u8)) hx (by rw [List.length_map, hE.1, Nat.mul_one]) hE.news (bytes_oneCell _) (by unfold maxLen; omega) (by omega) hB ?_
  intro v' w' h2 h3 _
  obtain ⟨A', c', rfl⟩ := own_form_any h2
  refine h A' c' w' (by unfold Own; rw [List.map_append]; exact h2) ?_
  cases A with
  | none => simpa [Value.ownBlock] using h3
  | some ad => simpa [Value.ownBlock] using h3

/-- append of items that are told by their cells to a row of the call's own. -/
theorem wpList_appF {α : Type} {size bytes : Nat} {f : α → List Value} (hf : ∀ a, (f a).length = size) (hone : ∀ a, ∀ u ∈ f a, u.oneCell' = true) {ts t : TypeId} {z : Value} (hu : Try.prog.underlying ts = some (.slice t))
    (hinfo : (Try.prog.info? t).map (fun i => (i.zero, i.size, i.bytes)) = some (some z, size, bytes)) (hzc : z.cells.size = size) (hsz : 0 < size) (hby : bytes ≤ 1048576)
    {ops : Array Oper} {rest : List Oper} {o : Oper} {a : Act} {Q : Exit → Act → World → Prop} {w : World} (hgd : o.guard = none) (s x : Operand)
    (ho : o.op = .call { callee := .builtin .append, args := #[s, x], argTypes := #[ts, ts] })
    {B : Nat} {A : Option Addr} {n c : Nat} {zs : List α} (hs : a.eval s = .slice A n c) (hown : OwnF t size f w B A n c zs)
    {E : Option Addr} {m d : Nat} {ys : List α} (hx : a.eval x = .slice E m d) (hm : 0 < m) (hE : InF size f w E m ys) (hl : n + m ≤ 1048576) (hB : B ≤ w.heap.size)
    (h : ∀ A' c' w', OwnF t size f w' B A' (n + m) c' (zs ++ ys) → w.grownBy w' (A.map (·.block)) → wpList Try.prog ops Q rest (a.put o.dst (.slice A' (n + m) c')) w') : wpList Try.prog ops Q (o :: rest) a w := by
  obtain ⟨i0, hi, hz0, hz1, hz2⟩ := info_parts hinfo
  obtain ⟨b, off, rfl, hc⟩ := hE.2 hm
  have hnews : ∀ j u, (ys.flatMap f)[j]? = some u → w.cell? ((⟨b, off, none⟩ : Addr).add j) = some u := fun j u hj => by
    have ea : Addr.add ⟨b, off, none⟩ j = ⟨b, off + j, none⟩ := by unfold Addr.add; split <;> simp_all
    rw [ea]; exact hc j u hj
  have hbytes : (n + m) * bytes ≤ 140737488355328 := Nat.le_trans (Nat.mul_le_mul hl hby) (by decide)
  refine wpList_append_own w hgd s x ts ho B t i0 z size bytes hu hi hz0 hz1 hz2 hzc hsz (.slice A n c) n (zs.flatMap f) hs hown.2 ⟨b, off, none⟩ m d (ys.flatMap f) hx (by rw [flat_len hf, hE.1]) hnews (fun u hu => by
    obtain ⟨a, _, h2⟩ := List.mem_flatMap.1 hu
    exact hone a u h2) (by unfold maxLen; omega) hbytes hB ?_
  intro v' w' h2 h3 _
  obtain ⟨A', c', rfl⟩ := own_form_any h2
  refine h A' c' w' ⟨by rw [List.length_append, hown.1, hE.1], by rw [List.flatMap_append]; exact h2⟩ ?_
  cases A with
  | none => simpa [Value.ownBlock] using h3
  | some ad => simpa [Value.ownBlock] using h3

end Go.Proofs.Ytiffhjofabaflaa
