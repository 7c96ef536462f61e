/-
  What the model's l2Read reads: its loops. No statement is proved here.
-/
import Derived.Test.YtamclkjofojhmaaSpecRead
import Derived.Deep.RegionLaw
namespace Go.Proofs.Ytamclkjofojhmaa
open Go.RowKit
set_option linter.unusedVariables false


theorem OwnF.grown {α : Type} {t : TypeId} {size : Nat} {f : α → List Value} {w w' : World} {B : Nat} {A : Option Addr} {n c : Nat} {ys : List α} (h : OwnF t size f w B A n c ys) {row : Option Nat} (hg : w.grownBy w' row) (hr : A.map (·.block) = none ∨ A.map (·.block) ≠ row) : OwnF t size f w' B A n c ys :=
  ⟨h.1, World.ownsRow.kept h.2 hg (by cases A with
    | none => exact .inl rfl
    | some a => exact .inr (hr.resolve_left (by simp)))⟩

/-- A step that writes nothing below but, it may be, a row that was made since. -/
theorem grown_then {a b c : World} {g : Nat} {row : Option Nat} (h : a.grownBy b (some g)) (k : b.grownBy c row) (hr : ∀ j, row = some j → a.heap.size ≤ j) : a.grownBy c (some g) :=
  ⟨k.os.trans h.os, k.tape.trans h.tape, k.output.trans h.output, Nat.le_trans h.size k.size, fun i hi hne => (k.block i (Nat.lt_of_lt_of_le hi h.size) (fun e => by have := hr i e.symm; omega)).trans (h.block i hi hne)⟩

theorem step_appF {α : Type} {size bytes : Nat} {f : α → List Value} (hf : ∀ a, (f a).length = size) (hone : ∀ a, ∀ u ∈ f a, u.oneCell' = true) {ts t : TypeId} {z : Value} (hu : Try.prog.underlying ts = some (.slice t))
    (hinfo : (Try.prog.info? t).map (fun i => (i.zero, i.size, i.bytes)) = some (some z, size, bytes)) (hzc : z.cells.size = size) (hsz : 0 < size) (hby : bytes ≤ 1048576)
    {ops : Array Oper} {o : Oper} {a : Act} {K : Act → World → Prop} {Q : Exit → Act → World → Prop} {E' : Prop} {w : World} (hgd : o.guard = none) (s x : Operand)
    (ho : o.op = .call { callee := .builtin .append, args := #[s, x], argTypes := #[ts, ts] })
    {B : Nat} {A : Option Addr} {n c : Nat} {zs : List α} (hs : a.eval s = .slice A n c) (hown : OwnF t size f w B A n c zs)
    {E : Option Addr} {m d : Nat} {ys : List α} (hx : a.eval x = .slice E m d) (hm : 0 < m) (hE : InF size f w E m ys) (hl : n + m ≤ 1048576) (hB : B ≤ w.heap.size)
    (h : ∀ A' c' w', OwnF t size f w' B A' (n + m) c' (zs ++ ys) → w.grownBy w' (A.map (·.block)) → K (a.put o.dst (.slice A' (n + m) c')) w') :
    if Region.wanted o (yielded ops a.tmps) = true then Oper.wp Try.prog o a w K Q else E' := by
  obtain ⟨i0, hi, hz0, hz1, hz2⟩ := info_parts hinfo
  obtain ⟨b, off, rfl, hc⟩ := hE.2 hm
  have hnews : ∀ j u, (ys.flatMap f)[j]? = some u → w.cell? ((⟨b, off, none⟩ : Addr).add j) = some u := fun j u hj => by
    have ea : Addr.add ⟨b, off, none⟩ j = ⟨b, off + j, none⟩ := by unfold Addr.add; split <;> simp_all
    rw [ea]; exact hc j u hj
  have hbytes : (n + m) * bytes ≤ 140737488355328 := Nat.le_trans (Nat.mul_le_mul hl hby) (by decide)
  have hw : Region.wanted o (yielded ops a.tmps) = true := by simp [Region.wanted, hgd]
  rw [if_pos hw]
  refine wp_append_own w s x ts ho B t i0 z size bytes hu hi hz0 hz1 hz2 hzc hsz (.slice A n c) n (zs.flatMap f) hs hown.2 ⟨b, off, none⟩ m d (ys.flatMap f) hx (by rw [flat_len hf, hE.1]) hnews (fun u hu => by
    obtain ⟨a, _, h2⟩ := List.mem_flatMap.1 hu
    exact hone a u h2) (by unfold maxLen; omega) hbytes hB ?_
  intro v' w' h2 h3 _
  obtain ⟨A', c', rfl⟩ := own_form_any h2
  refine h A' c' w' ⟨by rw [List.length_append, hown.1, hE.1], by rw [List.flatMap_append]; exact h2⟩ ?_
  cases A with
  | none => simpa [Value.ownBlock] using h3
  | some ad => simpa [Value.ownBlock] using h3

def routersZ (n : Nat) (zs : List Int) (k : Nat) : List Int := (List.range k).map fun (i : Nat) => rval n zs (4 + 4 * (i : Int)) 4
theorem routersZ_snoc (n : Nat) (xs : List Int) (k : Nat) : routersZ n xs (k + 1) = routersZ n xs k ++ [rval n xs (4 + 4 * (k : Int)) 4] := by simp [routersZ, List.range_succ]

set_option maxRecDepth 100000 in
set_option maxHeartbeats 3200000 in
theorem l2Read_2 (l : LsaM) (g : Nat) (A : Option Addr) (n c : Nat) (zs : List Int) (w : World) (hx : Box w g 29 (lsaCells l none none 0 0 0 0)) (ha : BIn w A n zs) (hb : Bytes zs) (hn : 4 ≤ n) (hn4 : n ≤ 400) (ht : l.typ = 2) (hne : ∀ r, A.map (·.block) = some r → r ≠ g) :
    Calls Try.prog 122 #[.pointer (some ⟨g, 0, none⟩), .slice A n c] w fun e w' => ∃ E d, e = .returned (.bool true) ∧ Box w' g 29 (lsaCells { l with mask := rval n zs 0 4 } none E 0 0 ((n - 4) / 4) d) ∧ OwnF 2 1 icell w' w.heap.size E ((n - 4) / 4) d (routersZ n zs ((n - 4) / 4)) ∧ w.grownBy w' (some g) := by
  have h0 : ¬ (n : Int) < 4 := by omega
  have HX := Lib.hid hx
  have HA := Lib.hid ha
  have HBY := Lib.hid hb
  have HNE := Lib.hid hne
  have lx := hx.lt
  have x2 := hx.look 2
  rw [show (lsaCells l none none 0 0 0 0)[2]? = some (.int .i64 l.typ) from rfl, ht] at x2
  have y8 := hx.look 8
  have f8 := hx.free 8
  obtain ⟨z0, hz0⟩ : ∃ z, rval n zs 0 4 = z := ⟨_, rfl⟩
  rw [hz0]
  have HZ0 := Lib.hid hz0
  obtain ⟨K, hK⟩ : ∃ K, (n - 4) / 4 = K := ⟨_, rfl⟩
  rw [hK]
  have hK1 : 4 * K ≤ n - 4 := by omega
  have hK2 : n - 4 < 4 * K + 4 := by omega
  clear hx ha hb ht hz0 hK hne
  go_enter Try.func122, Try.ntmps122
  go_wp2_with fail
  refine (l1ReadI A n c zs 0 4 _ HA.out HBY.out (by omega) (by omega) (by omega) (by omega)).mono ?_
  rw [HZ0.out]
  rintro e w1 ⟨rfl, rfl⟩
  have hg1 := setCell_grown w1 ⟨g, 8, none⟩ (.int .i64 z0)
  have HA1 := Lib.hid (HA.out.grown hg1 (fun _ => by
    cases hA : A.map (·.block) with
    | none => exact .inl rfl
    | some r => exact .inr (fun e => HNE.out r hA (by injection e))))
  have HX1 : Hid (Box (w1.setCell ⟨g, 8, none⟩ (.int .i64 z0)) g 29 (lsaCells { l with mask := z0 } none none 0 0 0 0)) := Lib.hid (by simpa using HX.out.put 8 (.int .i64 z0))
  have HG1 := Lib.hid hg1
  have HO1 : Hid (OwnF 2 1 icell (w1.setCell ⟨g, 8, none⟩ (.int .i64 z0)) w1.heap.size none 0 0 (routersZ n zs 0)) := Lib.hid (OwnF.nil_ _ _ _ _ _)
  clear hg1 HX
  have HA0 := HA
  go_wp2
  clear x2 y8 f8
  go_loopw [9] (fun i wr => ∃ k : Nat, k ≤ K ∧ i = .int .i64 (4 + 4 * (k : Int)) ∧ ∃ E d, Hid (Box wr g 29 (lsaCells { l with mask := z0 } none E 0 0 k d)) ∧ Hid (OwnF 2 1 icell wr w1.heap.size E k d (routersZ n zs k)) ∧ Hid (w1.grownBy wr (some g))) (fun i _ => 1000 - (intOf i).toNat)
  case atStart => exact ⟨0, Nat.zero_le _, rfl, none, 0, HX1, HO1, HG1⟩
  case round =>
    obtain ⟨k, hk, rfl, E, d, HX, HO, HG⟩ := hrel
    by_cases hlt : k < K
    · have hlt' : 4 + 4 * (k : Int) + 4 ≤ n := by omega
      go_wp2_with fail
      obtain ⟨z1, hz1⟩ : ∃ z, rval n zs (4 + 4 * (k : Int)) 4 = z := ⟨_, rfl⟩
      have HZ1 := Lib.hid hz1
      clear hz1
      have y7 : wr.cell? ⟨g, 7, none⟩ = some (.slice E k d) := HX.out.look 7
      have lr := HX.out.lt
      have HAr := Lib.hid (HA0.out.grown HG.out (fun _ => by
        cases hA : A.map (·.block) with
        | none => exact .inl rfl
        | some r => exact .inr (fun e => HNE.out r hA (by injection e))))
      have HU : Hid (Below wr.heap.size wr (wr.drew.alloc (.cells #[.int .i64 z1] 2))) := Lib.hid (((Below.refl _ _).drew).alloc (by simp) _)
      have HE : Hid (InF 1 icell (wr.drew.alloc (.cells #[.int .i64 z1] 2)) (some ⟨wr.drew.heap.size, 0, none⟩) 1 [z1]) := Lib.hid ((Box.made wr.drew 2 _).inF ([z1] : List Int) rfl)
      have hsz := HG.out.size
      have HNB : Hid (E.map (·.block) ≠ some g) := Lib.hid (fun e => by have := (HO.out.block g e).1; omega)
      go_region_law (first
          | ((show (if Region.wanted (Oper.mk (some 83) _ _ _ _ _) _ = true then _ else _)); go_simp; refine (l1ReadI A n c zs (4 + 4 * (k : Int)) 4 wr.drew HAr.out HBY.out (by omega) (by omega) (by omega) (by omega)).mono ?_; rw [HZ1.out]; rintro e u ⟨rfl, rfl⟩)
          | ((show (if Region.wanted (Oper.mk (some 85) _ _ _ _ _) _ = true then _ else _)); (refine step_appF icell_len icell_one Try.underlying27 intInfo rfl (by decide) (by decide) (by rfl) (.tmp 80) (.tmp 84) (by rfl) (B := w1.heap.size) (by rfl) (HO.out.below HU.out) (by rfl) (by omega) HE.out (by omega) (by simp; omega) ?_); intro A' c' u ho hg; have HO' := Lib.hid ho; have HG' := Lib.hid hg; have HX' := Lib.hid ((HX.out.below HU.out).grown hg HNB.out); have y7 := HX'.out.look 7; have f7 := HX'.out.free 7; clear ho hg))
      all_goals
        clear y7 f7
        have hxo := HX'.out.put 7 (.slice A' (k + 1) c')
        have hgo := setCell_grown u ⟨g, 7, none⟩ (.slice A' (k + 1) c')
        have hnb : A'.map (·.block) = none ∨ A'.map (·.block) ≠ some g := by
          cases hA : A'.map (·.block) with
          | none => exact .inl rfl
          | some r => exact .inr (fun e => by injection e with e; have := (HO'.out.block r hA).1; omega)
        have hoo := HO'.out.grown hgo hnb
        obtain ⟨U, hU⟩ : ∃ U : World, U = u.setCell ⟨g, 7, none⟩ (.slice A' (k + 1) c') := ⟨_, rfl⟩
        rw [← hU] at hxo hgo hoo ⊢
        clear hU
        have HX2 : Hid (Box U g 29 (lsaCells { l with mask := z0 } none A' 0 0 (k + 1) c')) := Lib.hid (by simpa using hxo)
        have HG2 : Hid (w1.grownBy U (some g)) := Lib.hid (grown_trans (grown_then (grown_then HG.out (grownBy_of_below HU.out none) (fun _ e => by cases e)) HG'.out (fun r hr => (HO.out.block r hr).1)) hgo)
        have HO2 := Lib.hid hoo
        clear hxo hgo hoo hnb HX' HG' HO'
        go_wp2
        go_roundw
        case rel =>
          refine ⟨k + 1, by omega, by go_num, A', c', HX2, Lib.hid ?_, HG2⟩
          rw [routersZ_snoc, HZ1.out]
          exact HO2.out
        case measure => simp [intOf]; omega
    · obtain rfl : k = K := by omega
      have hlt' : ¬ (4 + 4 * (k : Int) + 4 ≤ n) := by omega
      go_wp2
      go_ret
      exact ⟨rfl, E, d, HX.out, HO.out, HG.out⟩

theorem rval_bd2 (n : Nat) (xs : List Int) (a : Int) (hb : Bytes xs) (hl : xs.length = n) : 0 ≤ rval n xs a 2 ∧ rval n xs a 2 < 65536 := by
  unfold rval
  split
  · rename_i h
    unfold rOK at h
    have hx := sub_len (zs := xs) (a := a.toNat) (s := 2) (by omega)
    have := readN_bd ((xs.drop a.toNat).take 2) (hb.sub _ _) 2 (by omega) (by omega)
    rw [List.take_of_length_le (by omega)] at this
    exact ⟨this.1, this.2⟩
  · omega

set_option maxRecDepth 100000 in
set_option maxHeartbeats 1600000 in
theorem l2Read_1no (l : LsaM) (g : Nat) (A : Option Addr) (n c : Nat) (zs : List Int) (w : World) (hx : Box w g 29 (lsaCells l none none 0 0 0 0)) (ha : BIn w A n zs) (hb : Bytes zs) (hn : 4 ≤ n) (hn4 : n ≤ 400) (ht : l.typ = 1) (hk : ¬ (n : Int) = 4 + 12 * rval n zs 2 2) :
    Calls Try.prog 122 #[.pointer (some ⟨g, 0, none⟩), .slice A n c] w fun e w' => e = .returned (.bool false) ∧ w' = w := by
  have h0 : ¬ (n : Int) < 4 := by omega
  have HA := Lib.hid ha
  have HBY := Lib.hid hb
  have lx := hx.lt
  have x2 := hx.look 2
  rw [show (lsaCells l none none 0 0 0 0)[2]? = some (.int .i64 l.typ) from rfl, ht] at x2
  have hbd := rval_bd2 n zs 2 hb ha.1
  obtain ⟨z0, hz0⟩ : ∃ z, rval n zs 2 2 = z := ⟨_, rfl⟩
  rw [hz0] at hbd hk
  have HZ0 := Lib.hid hz0
  have hk' : ((n : Int) != 4 + 12 * z0) = true := by rw [bne_iff_ne]; exact hk
  clear hx ha hb ht hz0
  go_enter Try.func122, Try.ntmps122
  go_wp2_with fail
  refine (l1ReadI A n c zs 2 2 _ HA.out HBY.out (by omega) (by omega) (by omega) (by omega)).mono ?_
  rw [HZ0.out]
  rintro e w1 ⟨rfl, rfl⟩
  go_wp2
  go_ret
  exact ⟨rfl, rfl⟩

def linkZ (n : Nat) (zs : List Int) (k : Nat) : Lnk := ⟨rval n zs (4 + 12 * (k : Int) + 8) 1, rval n zs (4 + 12 * (k : Int)) 4, rval n zs (4 + 12 * (k : Int) + 4) 4, rval n zs (4 + 12 * (k : Int) + 10) 2⟩
def linksZ (n : Nat) (zs : List Int) (k : Nat) : List Lnk := (List.range k).map (linkZ n zs)
theorem linksZ_snoc (n : Nat) (xs : List Int) (k : Nat) : linksZ n xs (k + 1) = linksZ n xs k ++ [linkZ n xs k] := by simp [linksZ, List.range_succ]

end Go.Proofs.Ytamclkjofojhmaa
