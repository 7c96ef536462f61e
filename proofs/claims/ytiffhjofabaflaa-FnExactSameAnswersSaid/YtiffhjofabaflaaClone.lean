/-
  append of flat items from whatever slice, nil and empty ones too; slices.Clone and l1Ints. No statement is proved here.
-/
import Derived.Test.YtiffhjofabaflaaSpecRead2
import Derived.Test.YtiffhjofabaflaaDec
import Derived.Test.YtiffhjofabaflaaWalk
import Derived.Laws.OwnMore
namespace Go.Proofs.Ytiffhjofabaflaa
open Go.RowKit
set_option linter.unusedVariables false

/-- append of nothing at a nil address turns nothing. -/
theorem run_app_nil {P : Program} (w : World) (B : Nat) (t ty e : TypeId) (i : TypeInfo) (size : Nat) (ht : P.underlying t = some (.slice e)) (hi : P.info? e = some i)
    (v : Value) (n : Nat) (xs : List Value) (hown : w.ownsRow B e size v n xs) (c : Nat) : (Builtin.append_ #[t, t] ty #[v, .slice none 0 c]).run P w = .ok v w := by
  rcases hown.2 with ⟨rfl, rfl⟩ | ⟨g, cap, cur, rfl, _, _, hnc, _⟩
  · simp [Builtin.append_, run_underlying ht, sizeOf, typeInfo, hi, Builtin.lenOf, Builtin.firstCells]
  · simp [Builtin.append_, run_underlying ht, sizeOf, typeInfo, hi, Builtin.lenOf, Builtin.firstCells, hnc, storeCells]

/-- append of items that are told by their cells, whatever the slice that they stand in: nil, empty, or not. -/
theorem run_appF {α : Type} {size bytes : Nat} {f : α → List Value} (hf : ∀ a, (f a).length = size) (hone : ∀ a, ∀ u ∈ f a, u.oneCell' = true) {ts t ty : TypeId} {z : Value} (hu : Try.prog.underlying ts = some (.slice t))
    (hinfo : (Try.prog.info? t).map (fun i => (i.zero, i.size, i.bytes)) = some (some z, size, bytes)) (hzc : z.cells.size = size) (hsz : 0 < size) (hby : bytes ≤ 1048576) {w : World}
    {B : Nat} {A : Option Addr} {n c : Nat} {zs : List α} (hown : OwnF t size f w B A n c zs)
    {E : Option Addr} {m d : Nat} {ys : List α} (hE : InF size f w E m ys) (hl : n + m ≤ 1048576) (hB : B ≤ w.heap.size) :
    ∃ A' c' w', (Builtin.append_ #[ts, ts] ty #[.slice A n c, .slice E m d]).run Try.prog w = .ok (.slice A' (n + m) c') w' ∧ OwnF t size f w' B A' (n + m) c' (zs ++ ys) ∧ w.grownBy w' (A.map (·.block)) := by
  obtain ⟨i0, hi, hz0, hz1, hz2⟩ := info_parts hinfo
  have hrow : (Value.slice A n c).ownBlock = A.map (·.block) := by cases A <;> rfl
  cases E with
  | none =>
    have hm : m = 0 := by
      rcases Nat.eq_zero_or_pos m with h0 | h0
      · exact h0
      · obtain ⟨b, o, h, _⟩ := hE.2 h0; cases h
    subst hm
    have hy : ys = [] := List.eq_nil_of_length_eq_zero hE.1
    subst hy
    exact ⟨A, c, w, run_app_nil w B ts ty t i0 size hu hi _ n _ hown.2 d, by simpa using hown, World.grownBy.refl w _⟩
  | some ad =>
    have hnews : ∀ j u, (ys.flatMap f)[j]? = some u → w.cell? (ad.add j) = some u := fun j u hj => by
      rcases Nat.eq_zero_or_pos m with h0 | h0
      · have hy : ys = [] := List.eq_nil_of_length_eq_zero (by rw [hE.1]; exact h0)
        subst hy; simp at hj
      · obtain ⟨b, off, he, hc⟩ := hE.2 h0
        obtain rfl := Option.some.inj he
        have ea : Addr.add ⟨b, off, none⟩ j = ⟨b, off + j, none⟩ := by unfold Addr.add; split <;> simp_all
        rw [ea]; exact hc j u hj
    have hbytes : (n + m) * bytes ≤ 140737488355328 := Nat.le_trans (Nat.mul_le_mul hl hby) (by decide)
    obtain ⟨v', w', hrun, h2, h3, _⟩ := run_append_own (P := Try.prog) w B ts ty t i0 z size bytes hu hi hz0 hz1 hz2 hzc hsz (.slice A n c) n (zs.flatMap f) hown.2 ad m d (ys.flatMap f) (by rw [flat_len hf, hE.1]) hnews (fun u hu => by
      obtain ⟨a, _, h2⟩ := List.mem_flatMap.1 hu
      exact hone a u h2) (by unfold maxLen; omega) hbytes hB
    obtain ⟨A', c', rfl⟩ := own_form_any h2
    exact ⟨A', c', w', hrun, ⟨by rw [List.length_append, hown.1, hE.1], by rw [List.flatMap_append]; exact h2⟩, by rw [← hrow]; exact h3⟩

section
variable {α : Type} {size bytes : Nat} {f : α → List Value} {ts t : TypeId} {z : Value} {ops : Array Oper} {o : Oper} {a : Act} {Q : Exit → Act → World → Prop} {w : World} {B : Nat} {A E : Option Addr} {n c m d : Nat} {zs ys : List α}
theorem wp_appF0 (hf : ∀ a, (f a).length = size) (hone : ∀ a, ∀ u ∈ f a, u.oneCell' = true) (hu : Try.prog.underlying ts = some (.slice t))
    (hinfo : (Try.prog.info? t).map (fun i => (i.zero, i.size, i.bytes)) = some (some z, size, bytes)) (hzc : z.cells.size = size) (hsz : 0 < size) (hby : bytes ≤ 1048576)
    {K : Act → World → Prop} (s x : Operand) (ho : o.op = .call { callee := .builtin .append, args := #[s, x], argTypes := #[ts, ts] })
    (hs : a.eval s = .slice A n c) (hown : OwnF t size f w B A n c zs) (hx : a.eval x = .slice E m d) (hE : InF size f w E m ys) (hl : n + m ≤ 1048576) (hB : B ≤ w.heap.size)
    (h : ∀ A' c' w', OwnF t size f w' B A' (n + m) c' (zs ++ ys) → w.grownBy w' (A.map (·.block)) → K (a.put o.dst (.slice A' (n + m) c')) w') : o.wp Try.prog a w K Q := by
  obtain ⟨A', c', w', hr, h2, h3⟩ := run_appF (ty := o.type) (d := d) hf hone hu hinfo hzc hsz hby hown hE hl hB
  unfold Oper.wp execOp
  simp only [ho, resolve, invoke, builtin, Sem.run_bind, Sem.run_pure, Result.andThen_ok, List.map_toArray, List.map_cons, List.map_nil, hs, hx, hr]
  exact h A' c' w' h2 h3
theorem wpList_appF0 (hf : ∀ a, (f a).length = size) (hone : ∀ a, ∀ u ∈ f a, u.oneCell' = true) (hu : Try.prog.underlying ts = some (.slice t))
    (hinfo : (Try.prog.info? t).map (fun i => (i.zero, i.size, i.bytes)) = some (some z, size, bytes)) (hzc : z.cells.size = size) (hsz : 0 < size) (hby : bytes ≤ 1048576)
    {rest : List Oper} (hgd : o.guard = none) (s x : Operand) (ho : o.op = .call { callee := .builtin .append, args := #[s, x], argTypes := #[ts, ts] })
    (hs : a.eval s = .slice A n c) (hown : OwnF t size f w B A n c zs) (hx : a.eval x = .slice E m d) (hE : InF size f w E m ys) (hl : n + m ≤ 1048576) (hB : B ≤ w.heap.size)
    (h : ∀ A' c' w', OwnF t size f w' B A' (n + m) c' (zs ++ ys) → w.grownBy w' (A.map (·.block)) → wpList Try.prog ops Q rest (a.put o.dst (.slice A' (n + m) c')) w') : wpList Try.prog ops Q (o :: rest) a w :=
  wpList_plain hgd fun _ hK => wp_appF0 hf hone hu hinfo hzc hsz hby s x ho hs hown hx hE hl hB fun A' c' w' h2 h3 => hK _ _ (h A' c' w' h2 h3)
end

theorem Rep.Sl.inF {α : Type} {r : Rep α} {f : α → List Value} (hf : ∀ a, (f a).length = r.size) (hr : ∀ q lo hi w cs a, r.rel q lo hi w cs a → cs = f a) {q : Bool} {lo hi : Nat} {w : World} {A : Option Addr} {n : Nat} {ys : List α} (h : r.Sl q lo hi w A n ys) : InF r.size f w A n ys := by
  refine ⟨h.1, fun hn => ?_⟩
  obtain ⟨b, o, e, _, _, _, hrow⟩ := h.2 hn
  refine ⟨b, o, e, fun j u hj => ?_⟩
  have hlen := flat_len hf ys
  have hjl : j < (ys.flatMap f).length := (List.getElem?_eq_some_iff.1 hj).1
  by_cases hs : r.size = 0
  · rw [hlen, hs] at hjl; omega
  · have hk : j / r.size < ys.length := Nat.div_lt_of_lt_mul (by rw [Nat.mul_comm, ← hlen]; exact hjl)
    obtain ⟨cs, h1, h2⟩ := hrow (j / r.size) ys[j / r.size] (List.getElem?_eq_getElem hk)
    have h1 := hr _ _ _ _ _ _ h1
    subst h1
    have hm : j % r.size < r.size := Nat.mod_lt _ (by omega)
    have hg := flat_get hf ys (j / r.size) ys[j / r.size] (List.getElem?_eq_getElem hk) (j % r.size) hm
    have hdm : j / r.size * r.size + j % r.size = j := by rw [Nat.mul_comm]; exact Nat.div_add_mod _ _
    rw [hdm] at hg
    rw [hg] at hj
    have := h2 _ u hj
    rwa [Nat.add_assoc, hdm] at this
theorem Rep.link_inF {q : Bool} {lo hi : Nat} {w : World} {A : Option Addr} {n : Nat} {ys : List Lnk} (h : Rep.link.Sl q lo hi w A n ys) : InF 4 lcell w A n ys := Rep.Sl.inF (r := Rep.link) lcell_len (fun _ _ _ _ _ _ h => h) h
theorem Rep.int_inF {q : Bool} {lo hi : Nat} {w : World} {A : Option Addr} {n : Nat} {ys : List Int} (h : Rep.int.Sl q lo hi w A n ys) : InF 1 icell w A n ys := Rep.Sl.inF (r := Rep.int) icell_len (fun _ _ _ _ _ _ h => h) h

theorem OwnF.of_box0 {α : Type} {t : TypeId} {size : Nat} {f : α → List Value} {w : World} {g : Nat} (h : Box w g t #[]) : OwnF t size f w g (some ⟨g, 0, none⟩) 0 0 [] :=
  ⟨rfl, by simp, .inr ⟨g, 0, #[], rfl, Nat.le_refl _, h, Nat.le_refl _, Nat.zero_le _, by simp, by simp⟩⟩
/-- A row of flat items of the call's own, in a range of blocks. -/
def OwnFK {α : Type} (t : TypeId) (size : Nat) (f : α → List Value) (lo hi : Nat) (A : Option Addr) (n c : Nat) (ys : List α) : World → Prop := fun w => OwnF t size f w lo A n c ys ∧ ∀ r, A.map (·.block) = some r → r < hi
theorem OwnF.kept {α : Type} {t : TypeId} {size : Nat} {f : α → List Value} {w : World} {B hi : Nat} {A : Option Addr} {n c : Nat} {ys : List α} (h : OwnF t size f w B A n c ys) (hs : hi = w.heap.size) : Kept B hi (OwnFK t size f B hi A n c ys) w := by
  refine ⟨by omega, fun w2 k => ⟨⟨h.1, h.2.1, ?_⟩, fun r hr => by have := h.block r hr; omega⟩⟩
  rcases h.2.2 with h' | ⟨g, cap, cur, h1, h2, h3, h4⟩
  · exact .inl h'
  · refine .inr ⟨g, cap, cur, h1, h2, ?_, h4⟩
    have hA : A.map (·.block) = some g := by simp only [Value.slice.injEq] at h1; rw [h1.1]; rfl
    exact (k g h2 (by have := h.block g hA; omega)).trans h3
section
variable {α : Type} {t : TypeId} {size : Nat} {f : α → List Value} {w : World} {lo hi : Nat} {A : Option Addr} {n c : Nat} {ys : List α}
theorem Kept.ownF (h : Kept lo hi (OwnFK t size f lo hi A n c ys) w) : OwnF t size f w lo A n c ys := h.out.1
theorem Kept.lim (h : Kept lo hi (OwnFK t size f lo hi A n c ys) w) : ∀ r, A.map (·.block) = some r → r < hi := h.out.2
end
theorem Kept.links {w : World} {lo hi : Nat} {A : Option Addr} {n c : Nat} {ys : List Lnk} (h : Kept lo hi (OwnFK 278 4 lcell lo hi A n c ys) w) : Kept lo hi (SlK Rep.link true lo hi A n ys) w := by
  refine ⟨h.1, fun w2 k => ?_⟩
  have h2 := h.2 w2 k
  have hs := links_of_own h2.1
  exact ⟨hs.1, fun hn => by
    obtain ⟨b, o, e, l, u, fz, hr⟩ := hs.2 hn
    exact ⟨b, o, e, l, h2.2 b (by rw [e]; rfl), fz, hr⟩⟩
theorem Kept.ints {w : World} {lo hi : Nat} {A : Option Addr} {n c : Nat} {ys : List Int} (h : Kept lo hi (OwnFK 2 1 icell lo hi A n c ys) w) : Kept lo hi (SlK Rep.int true lo hi A n ys) w := by
  refine ⟨h.1, fun w2 k => ?_⟩
  have h2 := h.2 w2 k
  have hs := ints_of_own h2.1
  exact ⟨hs.1, fun hn => by
    obtain ⟨b, o, e, l, u, fz, hr⟩ := hs.2 hn
    exact ⟨b, o, e, l, h2.2 b (by rw [e]; rfl), fz, hr⟩⟩
theorem emptyF {α : Type} (t : TypeId) (size : Nat) (f : α → List Value) (w : World) : OwnF t size f (w.alloc (.cells #[] t)) w.heap.size (some ⟨w.heap.size, 0, none⟩) 0 0 [] :=
  ⟨rfl, by
    have := World.ownsRow_lit (base := w.heap.size) (e := t) (size := size) w #[] 0 (Nat.le_refl _) (Nat.zero_le _) (by simp)
    simpa using this⟩

end Go.Proofs.Ytiffhjofabaflaa
