/-
  The program's LookupLsa answers as the model's, writes into no argument, and its answer owns its memory. No condition.
-/
import Derived.Test.YtakplomopbnekaaEnt
import Derived.Test.YtakplomopbnekaaEntSz
import Derived.Test.YtakplomopbnekaaWheelMark
import Derived.Test.YtakplomopbnekaaClone
import Derived.Test.YtakplomopbnekaaWalk
import Derived.RangeFuncNested
import Derived.Laws.CopyRow
import Derived.Shelf.Abstract
import Derived.Test.YtakplomopbnekaaSpecBaseFault
import Derived.IntWalk
import Derived.Test.YtakplomopbnekaaEntTo
import Derived.Test.YtakplomopbnekaaEntEq
import Derived.Test.YtakplomopbnekaaOpenBase
import Derived.Deep.DeepCutAuto
import Derived.Test.YtakplomopbnekaaRows
import Derived.WalkKit
import Derived.ProofKit
import Derived.OpenShut
import Derived.ShutString
import Derived.ChangeOld
import Derived.Below
import Derived.Test.YtakplomopbnekaaOpenWheel
namespace Go.Proofs.Ytakplomopbnekaa
open Go.RowKit
set_option linter.unusedVariables false

theorem markLinkS_F (A : Option Addr) (n c : Nat) (ys : List Lnk) (bs : List Nat) (k0 : Int) (w : World) (ha : Rep.link.FSl w A n ys bs) (hn : n ≤ 1048576) (h0 : 0 ≤ k0) (h1 : k0 ≤ 4294967296) :
    Calls Try.prog 156 #[.slice A n c, .int .i64 k0] w fun e w' => e = .returned (.int .i64 (k0 + 4 * n)) ∧ Rep.link.FSl w' A n (mLinks k0 n) bs ∧ OnlyB bs w w' := by
  rcases ha with ⟨rfl, rfl, rfl⟩ | ⟨hp, b, rfl, hs⟩
  · refine (markLinkS_any 0 0 A 0 c [] k0 w (Rep.Sl_nil _ _ _ _ _ _) hn h0 h1).mono ?_
    rintro e w2 ⟨rfl, _, ho, _⟩
    exact ⟨rfl, .inl ⟨rfl, rfl, rfl⟩, OnlyB.of_same ho⟩
  · refine (markLinkS_any b (b + 1) A n c ys k0 w hs hn h0 h1).mono ?_
    rintro e w2 ⟨rfl, h2, ho, _⟩
    exact ⟨rfl, .inr ⟨hp, b, rfl, h2⟩, OnlyB.of_only ho (by simp)⟩
theorem markInt64S_F (A : Option Addr) (n c : Nat) (ys : List Int) (bs : List Nat) (k0 : Int) (w : World) (ha : Rep.int.FSl w A n ys bs) (hn : n ≤ 1048576) (h0 : 0 ≤ k0) (h1 : k0 ≤ 4294967296) :
    Calls Try.prog 157 #[.slice A n c, .int .i64 k0] w fun e w' => e = .returned (.int .i64 (k0 + n)) ∧ Rep.int.FSl w' A n (mInts k0 n) bs ∧ OnlyB bs w w' := by
  rcases ha with ⟨rfl, rfl, rfl⟩ | ⟨hp, b, rfl, hs⟩
  · refine (markInt64S_any 0 0 A 0 c [] k0 w (Rep.Sl_nil _ _ _ _ _ _) hn h0 h1).mono ?_
    rintro e w2 ⟨rfl, _, ho⟩
    exact ⟨rfl, .inl ⟨rfl, rfl, rfl⟩, OnlyB.of_same ho⟩
  · refine (markInt64S_any b (b + 1) A n c ys k0 w hs hn h0 h1).mono ?_
    rintro e w2 ⟨rfl, h2, ho⟩
    exact ⟨rfl, .inr ⟨hp, b, rfl, h2⟩, OnlyB.of_only ho (by simp)⟩

/-- How many marks an entry takes. -/
def entW (e : Ent) : Nat := 9 + 4 * e.l.links.length + e.l.routers.length
def entWs (es : List Ent) : Nat := (es.map entW).sum
theorem entWs_take (es : List Ent) (k : Nat) (e : Ent) (h : es[k]? = some e) : entWs (es.take (k + 1)) = entWs (es.take k) + entW e := by
  have hk := (List.getElem?_eq_some_iff.1 h).1
  have he := (List.getElem?_eq_some_iff.1 h).2
  rw [entWs, entWs, List.take_succ_eq_append_getElem hk, he]
  simp
theorem entWs_le (es : List Ent) : entWs es ≤ 9 * es.length + 4 * tot (entRows es) := by
  induction es with
  | nil => simp [entWs]
  | cons e es ih =>
    simp only [entWs, tot, entRows, entW, List.map_cons, List.sum_cons, List.length_cons, entRow_len] at ih ⊢
    omega
theorem entWs_takeLe (es : List Ent) (k : Nat) : entWs (es.take k) ≤ entWs es := by
  have h := congrArg (fun l => (List.map entW l).sum) (List.take_append_drop k es)
  simp only [List.map_append, List.sum_append] at h
  unfold entWs; omega
theorem entWs_at (es : List Ent) (k : Nat) (e : Ent) (h : es[k]? = some e) : entWs (es.take k) + entW e ≤ entWs es := by
  rw [← entWs_take es k e h]; exact entWs_takeLe es (k + 1)
/-- An entry that bears marks from `k` on. -/
def mEnt (e : Ent) (k : Int) : Ent :=
  ⟨⟨k, k + 1, k + 1 + 1, k + 1 + 1 + 1, k + 1 + 1 + 1 + 1, k + 1 + 1 + 1 + 1 + 1, mLinks (k + 1 + 1 + 1 + 1 + 1 + 1) e.l.links.length, mInts (k + 1 + 1 + 1 + 1 + 1 + 1 + 4 * (e.l.links.length : Int)) e.l.routers.length,
    k + 1 + 1 + 1 + 1 + 1 + 1 + 4 * (e.l.links.length : Int) + (e.l.routers.length : Int), k + 1 + 1 + 1 + 1 + 1 + 1 + 4 * (e.l.links.length : Int) + (e.l.routers.length : Int) + 1⟩, k + 1 + 1 + 1 + 1 + 1 + 1 + 4 * (e.l.links.length : Int) + (e.l.routers.length : Int) + 1 + 1⟩
/-- The entries bear marks. -/
def MarkedE (k0 : Int) (ys zs : List Ent) : Prop := zs.length = ys.length ∧ ∀ j y, ys[j]? = some y → zs[j]? = some (mEnt y (k0 + (entWs (ys.take j) : Int)))

set_option maxRecDepth 100000 in
set_option maxHeartbeats 3200000 in
theorem markEntryS_any (A : Option Addr) (n c : Nat) (ys : List Ent) (bs : List Nat) (k0 : Int) (w : World) (ha : FRep.ent.Sl w A n ys bs) (hd : bs.Nodup) (hb : ∀ b ∈ bs, b < w.heap.size) (hn : n ≤ 1048576) (ht : tot (entRows ys) ≤ 1048576) (h0 : 0 ≤ k0) (h1 : k0 ≤ 1048576) :
    Calls Try.prog 125 #[.slice A n c, .int .i64 k0] w fun e w' => e = .returned (.int .i64 (k0 + (entWs ys : Int))) ∧ (∃ zs, MarkedE k0 ys zs ∧ FRep.ent.Sl w' A n zs bs) ∧ OnlyB bs w w' := by
  have hl := ha.1
  have HT : Hid (entWs ys ≤ 13631488 ∧ tot (entRows ys) ≤ 1048576) := Lib.hid ⟨by have := entWs_le ys; omega, ht⟩
  have HBB := Lib.hid hb
  have HD := Lib.hid hd
  clear ht hb
  go_enter Try.func125, Try.ntmps125
  go_wp2
  go_loopw [5, 1] (fun i q wr => ∃ k : Nat, k ≤ n ∧ i = .int .i64 k ∧ q = .int .i64 (k0 + (entWs (ys.take k) : Int)) ∧ Hid (OnlyB bs w wr) ∧
      Hid (∃ zs : List Ent, FRep.ent.Sl wr A n zs bs ∧ ∀ (j : Nat) (y : Ent), ys[j]? = some y → zs[j]? = some (if j < k then mEnt y (k0 + (entWs (ys.take j) : Int)) else y)))
    (fun i _ _ => n - (intOf i).toNat)
  case atStart => exact ⟨0, Nat.zero_le _, rfl, by simp [entWs], OnlyB.refl _ _, ys, ha, fun j y hy => by simpa using hy⟩
  case round =>
    obtain ⟨k, hk, rfl, hq, HO, HZ⟩ := hrel
    by_cases hlt : k < n
    · have hlt' : (k : Int) < n := by omega
      have hzz := HZ.out
      obtain ⟨zs, hz, hzs⟩ := hzz
      have hyk := List.getElem?_eq_getElem (show k < ys.length by omega)
      obtain ⟨y, hy⟩ : ∃ y, ys[k] = y := ⟨_, rfl⟩
      rw [hy] at hyk
      have hzk := hzs k y hyk
      rw [if_neg (by omega)] at hzk
      have hzl : zs.length = n := hz.1
      obtain ⟨b, z, cs, f, rfl, hbm, hbf, hzk', hfz, hrl, hcs, hfd, hfs, hup⟩ := hz.at_ hd hlt
      obtain rfl : z = y := by rw [hzk] at hzk'; injection hzk' with e; exact e.symm
      obtain ⟨E, F, m, c1, m', d1, f1, f2, rfl, rfl, hs1, hs2⟩ := hrl
      have hml : z.l.links.length = m := hs1.len
      have hml' : z.l.routers.length = m' := hs2.len
      have hat := entWs_at ys k z hyk
      obtain ⟨q0, hq0⟩ : ∃ q0 : Int, k0 + (entWs (ys.take k) : Int) = q0 := ⟨_, rfl⟩
      have hw9 : entW z = 9 + 4 * m + m' := by rw [entW, hml, hml']
      have hqb : 0 ≤ q0 ∧ q0 + 9 + 4 * m + m' ≤ 20000000 := by have := HT.out.1; omega
      have hmb : m ≤ 1048576 ∧ m' ≤ 1048576 := by have h1 := HT.out.2; have h2 := tot_ent hyk; omega
      have HQ := Lib.hid hq0
      rw [hq0] at hq
      subst hq
      have hblt : b < wr.heap.size := Nat.lt_of_lt_of_le (HBB.out b hbm) HO.out.size
      have a0 := hcs 0 _ rfl
      have a1 := hcs 1 _ rfl
      have a2 := hcs 2 _ rfl
      have a3 := hcs 3 _ rfl
      have a4 := hcs 4 _ rfl
      have a5 := hcs 5 _ rfl
      have a6 := hcs 6 _ rfl
      have a7 := hcs 7 _ rfl
      have a8 := hcs 8 _ rfl
      have a9 := hcs 9 _ rfl
      have a10 := hcs 10 _ rfl
      rw [show FRep.ent.rep.size = 11 from rfl] at a0 a1 a2 a3 a4 a5 a6 a7 a8 a9 a10
      rw [Nat.add_zero] at a0
      have z0 := hfz (k * 11)
      have z1 := hfz (k * 11 + 1)
      have z2 := hfz (k * 11 + 2)
      have z3 := hfz (k * 11 + 3)
      have z4 := hfz (k * 11 + 4)
      have z5 := hfz (k * 11 + 5)
      have HA7 := Lib.hid (And.intro a7 (And.intro a8 (And.intro a9 a10)))
      have HAA := Lib.hid (And.intro a0 (And.intro a1 (And.intro a2 (And.intro a3 (And.intro a4 (And.intro a5 a6))))))
      have HUP := Lib.hid hup
      have HS1 := Lib.hid hs1
      have HS2 := Lib.hid hs2
      have HY := Lib.hid hyk
      have HZS := Lib.hid hzs
      have HF := Lib.hid (And.intro hbm (And.intro hbf (And.intro hfd (And.intro hfs hblt))))
      have HML := Lib.hid (And.intro hml (And.intro hml' hzl))
      have HFZ := Lib.hid hfz
      have HW9 := Lib.hid hw9
      clear hup hs1 hs2 hyk hzs hzk hzk' hfs hat hy hz HZ hml hml' hbm hbf hzl hcs hfz hfd hq0 hw9 a7 a8 a9 a10 hblt
      go_wp2_with fail
      refine Calls.name ?_
      intro U1 hU1
      have hP1 : U1 = puts wr b (k * 11) [.int .i64 q0, .int .i64 (q0 + 1), .int .i64 (q0 + 1 + 1), .int .i64 (q0 + 1 + 1 + 1), .int .i64 (q0 + 1 + 1 + 1 + 1), .int .i64 (q0 + 1 + 1 + 1 + 1 + 1)] := hU1.trans rfl
      have hsz1 : U1.heap.size = wr.heap.size := by rw [hP1]; exact puts_size _ _ _
      have ho1 : Only b (b + 1) wr U1 := by rw [hP1]; exact puts_only _ _ _
      have hfz1 : ∀ i, U1.frozen? ⟨b, i, none⟩ = false := fun i => by rw [hP1, puts_frozen]; exact HFZ.out i
      have hout1 : ∀ i, (i < k * 11 ∨ k * 11 + 6 ≤ i) → U1.cell? ⟨b, i, none⟩ = wr.cell? ⟨b, i, none⟩ := fun i hi => by rw [hP1]; exact puts_out i _ _ _ (by simpa using hi)
      have hat1 : ∀ j, j < 6 → U1.cell? ⟨b, k * 11 + j, none⟩ = ([.int .i64 q0, .int .i64 (q0 + 1), .int .i64 (q0 + 1 + 1), .int .i64 (q0 + 1 + 1 + 1), .int .i64 (q0 + 1 + 1 + 1 + 1), .int .i64 (q0 + 1 + 1 + 1 + 1 + 1)] : List Value)[j]? := fun j hj => by
        rw [hP1]
        refine puts_at j _ _ _ (by simpa using hj) ?_
        obtain ⟨e0, e1, e2, e3, e4, e5, _⟩ := HAA.out
        rcases (show j = 0 ∨ j = 1 ∨ j = 2 ∨ j = 3 ∨ j = 4 ∨ j = 5 by omega) with rfl | rfl | rfl | rfl | rfl | rfl
        · exact ⟨_, e0⟩
        · exact ⟨_, e1⟩
        · exact ⟨_, e2⟩
        · exact ⟨_, e3⟩
        · exact ⟨_, e4⟩
        · exact ⟨_, e5⟩
      clear hP1 hU1 a0 a1 a2 a3 a4 a5 a6 z0 z1 z2 z3 z4 z5
      have hnf : ∀ x ∈ f1 ++ f2, x ≠ b ∧ x < wr.heap.size := fun x hx => ⟨fun h => HF.out.2.1 (h ▸ hx), Nat.lt_of_lt_of_le (HBB.out x (HF.out.2.2.2.1 x hx)) HO.out.size⟩
      have hsm1 : ∀ x ∈ f1 ++ f2, U1.heap[x]? = wr.heap[x]? := fun x hx => ho1.block x (hnf x hx).2 (by have := (hnf x hx).1; omega)
      have hds := List.nodup_append.1 HF.out.2.2.1
      have HS1a := Lib.hid (HS1.out.keep fun x hx => hsm1 x (List.mem_append_left _ hx))
      have HS2a := Lib.hid (HS2.out.keep fun x hx => hsm1 x (List.mem_append_right _ hx))
      have HU1 := Lib.hid (And.intro hfz1 (And.intro hout1 (And.intro hat1 (And.intro hsz1 ho1))))
      have HNF := Lib.hid (And.intro hnf hds)
      clear hfz1 hout1 hat1 hsz1 ho1 hnf hsm1 hds HS1 HS2
      refine (markLinkS_F E m c1 z.l.links f1 _ U1 HS1a.out hmb.1 (by omega) (by omega)).mono ?_
      rintro e w1 ⟨rfl, hs1, oo1⟩
      have hb1 : w1.heap[b]? = U1.heap[b]? := oo1.block b (by have := HU1.out.2.2.2.1; have := HF.out.2.2.2.2; omega) (fun h => HF.out.2.1 (List.mem_append_left _ h))
      have x7 : w1.cell? ⟨b, k * 11 + 7, none⟩ = some (.slice F m' d1) := (World.cell?_of_block hb1).trans ((HU1.out.2.1 (k * 11 + 7) (.inr (by omega))).trans HA7.out.1)
      have HS1b := Lib.hid hs1
      have HB1 := Lib.hid hb1
      have HS2b := Lib.hid (HS2a.out.keep fun x hx => oo1.block x (by have := HU1.out.2.2.2.1; have := (HNF.out.1 x (List.mem_append_right _ hx)).2; omega) (fun h => HNF.out.2.2.2 x h x hx rfl))
      have HO1 := Lib.hid oo1
      clear hs1 oo1 hb1 HS1a HS2a
      go_wp2_with fail
      refine (markInt64S_F F m' d1 z.l.routers f2 _ w1 HS2b.out hmb.2 (by omega) (by omega)).mono ?_
      rintro e w2 ⟨rfl, hs2, oo2⟩
      have hlt1 : b < w1.heap.size := by have := HU1.out.2.2.2.1; have := HF.out.2.2.2.2; have := HO1.out.size; omega
      have hb2 : w2.heap[b]? = U1.heap[b]? := (oo2.block b hlt1 (fun h => HF.out.2.1 (List.mem_append_right _ h))).trans HB1.out
      have x8 : w2.cell? ⟨b, k * 11 + 8, none⟩ = some (.int .i64 z.l.mask) := (World.cell?_of_block hb2).trans ((HU1.out.2.1 (k * 11 + 8) (.inr (by omega))).trans HA7.out.2.1)
      have x9 : w2.cell? ⟨b, k * 11 + 9, none⟩ = some (.int .i64 z.l.cost) := (World.cell?_of_block hb2).trans ((HU1.out.2.1 (k * 11 + 9) (.inr (by omega))).trans HA7.out.2.2.1)
      have x10 : w2.cell? ⟨b, k * 11 + 10, none⟩ = some (.int .i64 z.at_) := (World.cell?_of_block hb2).trans ((HU1.out.2.1 (k * 11 + 10) (.inr (by omega))).trans HA7.out.2.2.2)
      have y8 := (World.frozen?_of_block (a := ⟨b, k * 11 + 8, none⟩) hb2).trans (HU1.out.1 _)
      have y9 := (World.frozen?_of_block (a := ⟨b, k * 11 + 9, none⟩) hb2).trans (HU1.out.1 _)
      have y10 := (World.frozen?_of_block (a := ⟨b, k * 11 + 10, none⟩) hb2).trans (HU1.out.1 _)
      have HX8 := Lib.hid (And.intro x8 (And.intro x9 x10))
      have HB2 := Lib.hid hb2
      have HS2c := Lib.hid hs2
      have HO2 := Lib.hid oo2
      clear hs2 oo2 hb2 x7 HS2b HB1
      go_wp2
      go_roundw
      case rel =>
        obtain ⟨U3, hU3⟩ : ∃ W : World, W = (((w2.setCell ⟨b, k * 11 + 8, none⟩ (.int .i64 (q0 + 1 + 1 + 1 + 1 + 1 + 1 + 4 * (m : Int) + (m' : Int)))).setCell ⟨b, k * 11 + 9, none⟩ (.int .i64 (q0 + 1 + 1 + 1 + 1 + 1 + 1 + 4 * (m : Int) + (m' : Int) + 1))).setCell ⟨b, k * 11 + 10, none⟩ (.int .i64 (q0 + 1 + 1 + 1 + 1 + 1 + 1 + 4 * (m : Int) + (m' : Int) + 1 + 1))) := ⟨_, rfl⟩
        have hP : U3 = puts w2 b (k * 11 + 8) [.int .i64 (q0 + 1 + 1 + 1 + 1 + 1 + 1 + 4 * (m : Int) + (m' : Int)), .int .i64 (q0 + 1 + 1 + 1 + 1 + 1 + 1 + 4 * (m : Int) + (m' : Int) + 1), .int .i64 (q0 + 1 + 1 + 1 + 1 + 1 + 1 + 4 * (m : Int) + (m' : Int) + 1 + 1)] := hU3.trans rfl
        have hsz : U3.heap.size = w2.heap.size := by rw [hP]; exact puts_size _ _ _
        have ho : Only b (b + 1) w2 U3 := by rw [hP]; exact puts_only _ _ _
        have hb2 := HB2.out
        have hfz3 : ∀ i, U3.frozen? ⟨b, i, none⟩ = false := fun i => by rw [hP, puts_frozen, World.frozen?_of_block (a := ⟨b, i, none⟩) hb2]; exact HU1.out.1 i
        have hout3 : ∀ i, (i < k * 11 + 8 ∨ k * 11 + 11 ≤ i) → U3.cell? ⟨b, i, none⟩ = U1.cell? ⟨b, i, none⟩ := fun i hi => by
          rw [hP, puts_out i _ _ _ (by simpa using hi)]; exact World.cell?_of_block hb2
        have hat3 : ∀ j, j < 3 → U3.cell? ⟨b, k * 11 + 8 + j, none⟩ = ([.int .i64 (q0 + 1 + 1 + 1 + 1 + 1 + 1 + 4 * (m : Int) + (m' : Int)), .int .i64 (q0 + 1 + 1 + 1 + 1 + 1 + 1 + 4 * (m : Int) + (m' : Int) + 1), .int .i64 (q0 + 1 + 1 + 1 + 1 + 1 + 1 + 4 * (m : Int) + (m' : Int) + 1 + 1)] : List Value)[j]? := fun j hj => by
          rw [hP]
          refine puts_at j _ _ _ (by simpa using hj) ?_
          rcases (show j = 0 ∨ j = 1 ∨ j = 2 by omega) with rfl | rfl | rfl
          · exact ⟨_, HX8.out.1⟩
          · exact ⟨_, HX8.out.2.1⟩
          · exact ⟨_, HX8.out.2.2⟩
        clear hP
        have hszs := HU1.out.2.2.2.1
        have hso1 := HO1.out.size
        have hso2 := HO2.out.size
        have hbl := HF.out.2.2.2.2
        have hbm := HF.out.1
        have hbf := HF.out.2.1
        have hfs := HF.out.2.2.2.1
        have hnf := HNF.out.1
        have hds := HNF.out.2.2.2
        have ho1 := HU1.out.2.2.2.2
        have hff : ∀ x ∈ f1 ++ f2, U3.heap[x]? = w2.heap[x]? := fun x hx => ho.block x (by have := (hnf x hx).2; omega) (by have := (hnf x hx).1; omega)
        have g1 : Rep.link.FSl U3 E m (mLinks (q0 + 1 + 1 + 1 + 1 + 1 + 1) m) f1 := HS1b.out.keep fun x hx => (hff x (List.mem_append_left _ hx)).trans (HO2.out.block x (by have := (hnf x (List.mem_append_left _ hx)).2; omega) (fun h => hds x hx x h rfl))
        have g2 : Rep.int.FSl U3 F m' (mInts (q0 + 1 + 1 + 1 + 1 + 1 + 1 + 4 * (m : Int)) m') f2 := HS2c.out.keep fun x hx => hff x (List.mem_append_right _ hx)
        have hml := HML.out.1
        have hml' := HML.out.2.1
        have hall : ∀ x, x < wr.heap.size → x ≠ b → x ∉ f1 ++ f2 → U3.heap[x]? = wr.heap[x]? := fun x hx hxb hxf =>
          (ho.block x (by omega) (by omega)).trans ((HO2.out.block x (by omega) (fun h => hxf (List.mem_append_right _ h))).trans ((HO1.out.block x (by omega) (fun h => hxf (List.mem_append_left _ h))).trans (ho1.block x hx (by omega))))
        have HR := HUP.out U3 (mEnt z q0) (entCells (mEnt z q0).l (mEnt z q0).at_ E F m c1 m' d1).toList
          (fun x hx hxb hxf => hall x (Nat.lt_of_lt_of_le (HBB.out x hx) HO.out.size) hxb hxf) hfz3
          (fun i hi => by
            rw [show FRep.ent.rep.size = 11 from rfl] at hi
            rw [hout3 i (by omega)]
            exact HU1.out.2.1 i (by omega))
          ⟨E, F, m, c1, m', d1, f1, f2, rfl, rfl, by show Rep.link.FSl U3 E m (mLinks (q0 + 1 + 1 + 1 + 1 + 1 + 1) z.l.links.length) f1; rw [hml]; exact g1,
            by show Rep.int.FSl U3 F m' (mInts (q0 + 1 + 1 + 1 + 1 + 1 + 1 + 4 * (z.l.links.length : Int)) z.l.routers.length) f2; rw [hml, hml']; exact g2⟩
          (fun j u hj => by
            have hj11 : j < 11 := (List.getElem?_eq_some_iff.1 hj).1
            simp only [mEnt, hml, hml'] at hj
            rw [show FRep.ent.rep.size = 11 from rfl]
            by_cases h6 : j < 6
            · rw [hout3 _ (by omega), HU1.out.2.2.1 j h6, ← hj]
              rcases (show j = 0 ∨ j = 1 ∨ j = 2 ∨ j = 3 ∨ j = 4 ∨ j = 5 by omega) with rfl | rfl | rfl | rfl | rfl | rfl <;> rfl
            · by_cases h8 : j < 8
              · rw [hout3 _ (by omega), HU1.out.2.1 _ (by omega)]
                rcases (show j = 6 ∨ j = 7 by omega) with rfl | rfl
                · rw [HAA.out.2.2.2.2.2.2, ← hj]; rfl
                · rw [HA7.out.1, ← hj]; rfl
              · have := hat3 (j - 8) (by omega)
                rw [show k * 11 + 8 + (j - 8) = k * 11 + j by omega] at this
                rw [this, ← hj]
                rcases (show j = 8 ∨ j = 9 ∨ j = 10 by omega) with rfl | rfl | rfl <;> rfl)
        have HOO : OnlyB bs w U3 := HO.out.trans ⟨ho.os.trans (HO2.out.os.trans (HO1.out.os.trans ho1.os)), ho.tape.trans (HO2.out.tape.trans (HO1.out.tape.trans ho1.tape)), ho.output.trans (HO2.out.output.trans (HO1.out.output.trans ho1.output)), by omega,
          fun x hx hxn => hall x hx (fun h => hxn (h ▸ hbm)) (fun h => hxn (hfs x h))⟩
        refine ⟨k + 1, by omega, by go_num, ?_, by rw [← hU3]; exact HOO, zs.set k (mEnt z q0), by rw [← hU3]; exact HR, fun j y hy => ?_⟩
        · have := HW9.out
          have hq0 := HQ.out
          rw [entWs_take ys k z HY.out]
          go_num
        · by_cases e : j = k
          · subst e
            rw [List.getElem?_set_self (by have := HML.out.2.2; omega), if_pos (by omega)]
            rw [HY.out] at hy
            injection hy with hy
            subst hy
            rw [HQ.out]
          · rw [List.getElem?_set_ne (fun h => e h.symm), HZS.out j y hy]
            by_cases hj : j < k
            · rw [if_pos hj, if_pos (by omega)]
            · rw [if_neg hj, if_neg (by omega)]
      case measure => simp [intOf]; omega
    · have hkn : k = n := by omega
      subst hkn
      have HT2 : Hid (ys.take k = ys) := Lib.hid (List.take_of_length_le (by omega))
      subst hq
      rw [HT2.out]
      have hb3 := HT.out.1
      go_wp2
      go_ret
      obtain ⟨zs, hz, hzs⟩ := HZ.out
      exact ⟨rfl, ⟨zs, ⟨by rw [hz.1, hl], fun j y hy => by rw [hzs j y hy, if_pos (by have := (List.getElem?_eq_some_iff.1 hy).1; omega)]⟩, hz⟩, HO.out⟩

set_option maxHeartbeats 800000 in
theorem markBase_F (A : Option Addr) (n c : Nat) (ys : List Ent) (bs : List Nat) (now k0 : Int) (w : World) (ha : FRep.ent.Sl w A n ys bs) (hd : bs.Nodup) (hb : ∀ b ∈ bs, b < w.heap.size) (hn : n ≤ 1048576) (ht : tot (entRows ys) ≤ 1048576) (h0 : 0 ≤ k0) (h1 : k0 ≤ 1048576) :
    Calls Try.prog 62 #[.agg #[.int .i64 now, .slice A n c], .int .i64 k0] w fun e w' => e = .returned (.int .i64 (k0 + (entWs ys : Int))) ∧ (∃ zs, MarkedE k0 ys zs ∧ FRep.ent.Sl w' A n zs bs) ∧ OnlyB bs w w' := by
  obtain ⟨V, hV⟩ : ∃ W : World, W = w.alloc (.cells #[.int .i64 now, .slice A n c] 79) := ⟨_, rfl⟩
  have hbV : Below w.heap.size w V := by rw [hV]; exact (Below.refl _ _).alloc (Nat.le_refl _) _
  have HL := Lib.hid (ha.keep (SameB.of_below hbV hb))
  have HO : Hid (OnlyB bs w V) := Lib.hid (OnlyB.of_below hbV)
  have HD := Lib.hid hd
  have HBB : Hid (∀ b ∈ bs, b < V.heap.size) := Lib.hid (fun b hx => Nat.lt_of_lt_of_le (hb b hx) hbV.size)
  have HT := Lib.hid ht
  clear hbV ha hd hb ht
  go_enter Try.func62, Try.ntmps62
  go_wp2_with fail
  rw [← hV]
  clear hV
  refine (markEntryS_any A n c ys bs k0 _ HL.out HD.out HBB.out hn HT.out h0 h1).mono ?_
  rintro e w1 ⟨rfl, hz, ho⟩
  have HZ := Lib.hid hz
  have HO1 := Lib.hid (HO.out.trans ho)
  clear ho hz HO HL
  go_wp2
  go_ret
  exact ⟨rfl, HZ.out, HO1.out⟩

end Go.Proofs.Ytakplomopbnekaa

namespace Go.Proofs.Ytakplomopbnekaa
open Go.RowKit
set_option linter.unusedVariables false

set_option maxRecDepth 100000 in
set_option maxHeartbeats 3200000 in
theorem withAge_any (l : LsaM) (q : Bool) (lo hi : Nat) (A B : Option Addr) (n c m d : Nat) (t : Int) (w : World) (hl : LsaAt q lo hi w A n B m l) (hn : n ≤ 1048576) (hm : m ≤ 1048576) :
    Calls Try.prog 122 #[.agg (lsaCells l A B n c m d), .int .i64 t] w fun e w' => ∃ A' B' c' d', e = .returned (.agg (lsaCells { l with age := t } A' B' n c' m d')) ∧ LsaTwo w.heap.size w'.heap.size w' A' n B' m { l with age := t } ∧ Below w.heap.size w w' := by
  have HB := Lib.hid (Below.refl w.heap.size w)
  have HL := hl.kept
  have Z0 := Lib.hid hl.le
  clear hl
  go_enter Try.func122, Try.ntmps122
  go_wp2_with fail
  refine Calls.name ?_
  intro U1 hU1
  have hb : Below w.heap.size w U1 := by rw [hU1]; exact (((Below.refl _ _).alloc (Nat.le_refl _) _).alloc (by simp <;> omega) _)
  have zz : Hid (w.heap.size + 2 = U1.heap.size) := Lib.hid (by rw [hU1]; simp)
  have HX1 : Kept w.heap.size (w.heap.size + 1) (BoxK w.heap.size 93 #[.int .i64 t, .int .i64 l.options, .int .i64 l.typ, .int .i64 l.id, .int .i64 l.adv, .int .i64 l.seq, .slice A n c, .slice B m d, .int .i64 l.mask, .int .i64 l.cost]) U1 := by rw [hU1]; exact Kept.box ((Box.made_at _ _ _ rfl).over _)
  have HX2 : Kept (w.heap.size + 1) (w.heap.size + 1 + 1) (BoxK (w.heap.size + 1) 93 #[.int .i64 0, .int .i64 0, .int .i64 0, .int .i64 0, .int .i64 0, .int .i64 0, .slice none 0 0, .slice none 0 0, .int .i64 0, .int .i64 0]) U1 := by rw [hU1]; exact Kept.box (Box.made_at _ _ _ (by simp <;> omega))
  replace HL := HL.below hb
  replace HB := Lib.hid (below_step HB.out hb)
  clear hb
  have Z1 := zz; clear zz
  clear hU1
  refine (cloneLinks_any q lo hi A n c l.links _ HL.lsa.in_.links HL.le hn).mono ?_
  rintro e w2 ⟨A', c', rfl, hs, hb⟩
  have Z2 := Lib.hid hb.size
  replace HL := HL.below hb
  replace HX1 := HX1.below hb
  replace HX2 := HX2.below hb
  replace HB := Lib.hid (below_step HB.out hb)
  clear hb
  have HS1 := Rep.Sl.kept hs (Nat.le_refl _)
  clear hs
  have c2_0 := HX1.look 6
  have c2_1 := HX1.look 7
  have f2_0 := HX1.free 6
  have l2_0 := HX1.le
  have l2_1 := HX2.le
  go_wp2_with fail
  clear c2_0 c2_1 f2_0 l2_0 l2_1
  refine Calls.name ?_
  intro U3 hU3
  have ho : Only w.heap.size (w.heap.size + 1) w2 U3 := by rw [hU3]; exact ((Only.refl _ _ _).set (p := ⟨w.heap.size, 6, none⟩) (Nat.le_refl _) (Nat.lt_succ_self _) _)
  replace HX1 : Kept w.heap.size (w.heap.size + 1) (BoxK w.heap.size 93 #[.int .i64 t, .int .i64 l.options, .int .i64 l.typ, .int .i64 l.id, .int .i64 l.adv, .int .i64 l.seq, .slice A' n c', .slice B m d, .int .i64 l.mask, .int .i64 l.cost]) U3 := by rw [hU3]; exact Kept.box (HX1.bx.puts 6 (.slice A' n c') (cs' := #[.int .i64 t, .int .i64 l.options, .int .i64 l.typ, .int .i64 l.id, .int .i64 l.adv, .int .i64 l.seq, .slice A' n c', .slice B m d, .int .i64 l.mask, .int .i64 l.cost]) rfl)
  replace HL := HL.only ho (by have := Z0.out; have := Z1.out; have := Z2.out; omega)
  replace HX2 := HX2.only ho (by have := Z0.out; have := Z1.out; have := Z2.out; omega)
  replace HS1 := HS1.only ho (by have := Z0.out; have := Z1.out; have := Z2.out; omega)
  replace HB := Lib.hid (Below.only HB.out ho (by have := Z0.out; have := Z1.out; have := Z2.out; omega) HB.out.size)
  have Z3 := Lib.hid ho.size; clear ho
  clear hU3
  refine (cloneInts_any q lo hi B m d l.routers _ HL.lsa.in_.routers HL.le hm).mono ?_
  rintro e w4 ⟨B', d', rfl, hs, hb⟩
  have Z4 := Lib.hid hb.size
  replace HL := HL.below hb
  replace HX1 := HX1.below hb
  replace HX2 := HX2.below hb
  replace HS1 := HS1.below hb
  replace HB := Lib.hid (below_step HB.out hb)
  clear hb
  have HS2 := Rep.Sl.kept hs (Nat.le_refl _)
  clear hs
  have c3_0 := HX1.look 0
  have c3_1 := HX1.look 1
  have c3_2 := HX1.look 2
  have c3_3 := HX1.look 3
  have c3_4 := HX1.look 4
  have c3_5 := HX1.look 5
  have c3_6 := HX1.look 6
  have c3_7 := HX1.look 7
  have c3_8 := HX1.look 8
  have c3_9 := HX1.look 9
  have c3_10 := HX2.look 0
  have c3_11 := HX2.look 1
  have c3_12 := HX2.look 2
  have c3_13 := HX2.look 3
  have c3_14 := HX2.look 4
  have c3_15 := HX2.look 5
  have c3_16 := HX2.look 6
  have c3_17 := HX2.look 7
  have c3_18 := HX2.look 8
  have c3_19 := HX2.look 9
  have f3_0 := HX1.free 7
  have f3_1 := HX2.free 0
  have f3_2 := HX2.free 1
  have f3_3 := HX2.free 2
  have f3_4 := HX2.free 3
  have f3_5 := HX2.free 4
  have f3_6 := HX2.free 5
  have f3_7 := HX2.free 6
  have f3_8 := HX2.free 7
  have f3_9 := HX2.free 8
  have f3_10 := HX2.free 9
  have l3_0 := HX1.le
  have l3_1 := HX2.le
  have n3_0_1 : ¬ w.heap.size = (w.heap.size + 1) := (by have := Z0.out; have := Z1.out; have := Z2.out; have := Z3.out; have := Z4.out; omega)
  have m3_0_1 : ¬ (w.heap.size + 1) = w.heap.size := (by have := Z0.out; have := Z1.out; have := Z2.out; have := Z3.out; have := Z4.out; omega)
  go_wp2
  clear c3_0 c3_1 c3_2 c3_3 c3_4 c3_5 c3_6 c3_7 c3_8 c3_9 c3_10 c3_11 c3_12 c3_13 c3_14 c3_15 c3_16 c3_17 c3_18 c3_19 f3_0 f3_1 f3_2 f3_3 f3_4 f3_5 f3_6 f3_7 f3_8 f3_9 f3_10 l3_0 l3_1 n3_0_1 m3_0_1
  obtain ⟨U5, hU5⟩ : ∃ W : World, W = (w4.setCell ⟨w.heap.size, 7, none⟩ (.slice B' m d')) := ⟨_, rfl⟩
  have ho : Only w.heap.size (w.heap.size + 1) w4 U5 := by rw [hU5]; exact ((Only.refl _ _ _).set (p := ⟨w.heap.size, 7, none⟩) (Nat.le_refl _) (Nat.lt_succ_self _) _)
  replace HX1 : Kept w.heap.size (w.heap.size + 1) (BoxK w.heap.size 93 #[.int .i64 t, .int .i64 l.options, .int .i64 l.typ, .int .i64 l.id, .int .i64 l.adv, .int .i64 l.seq, .slice A' n c', .slice B' m d', .int .i64 l.mask, .int .i64 l.cost]) U5 := by rw [hU5]; exact Kept.box (HX1.bx.puts 7 (.slice B' m d') (cs' := #[.int .i64 t, .int .i64 l.options, .int .i64 l.typ, .int .i64 l.id, .int .i64 l.adv, .int .i64 l.seq, .slice A' n c', .slice B' m d', .int .i64 l.mask, .int .i64 l.cost]) rfl)
  replace HL := HL.only ho (by have := Z0.out; have := Z1.out; have := Z2.out; have := Z3.out; have := Z4.out; omega)
  replace HX2 := HX2.only ho (by have := Z0.out; have := Z1.out; have := Z2.out; have := Z3.out; have := Z4.out; omega)
  replace HS1 := HS1.only ho (by have := Z0.out; have := Z1.out; have := Z2.out; have := Z3.out; have := Z4.out; omega)
  replace HS2 := HS2.only ho (by have := Z0.out; have := Z1.out; have := Z2.out; have := Z3.out; have := Z4.out; omega)
  replace HB := Lib.hid (Below.only HB.out ho (by have := Z0.out; have := Z1.out; have := Z2.out; have := Z3.out; have := Z4.out; omega) HB.out.size)
  have Z5 := Lib.hid ho.size; clear ho
  obtain ⟨U6, hU6⟩ : ∃ W : World, W = ((((((((((U5.setCell ⟨w.heap.size + 1, 0, none⟩ (.int .i64 t)).setCell ⟨w.heap.size + 1, 1, none⟩ (.int .i64 l.options)).setCell ⟨w.heap.size + 1, 2, none⟩ (.int .i64 l.typ)).setCell ⟨w.heap.size + 1, 3, none⟩ (.int .i64 l.id)).setCell ⟨w.heap.size + 1, 4, none⟩ (.int .i64 l.adv)).setCell ⟨w.heap.size + 1, 5, none⟩ (.int .i64 l.seq)).setCell ⟨w.heap.size + 1, 6, none⟩ (.slice A' n c')).setCell ⟨w.heap.size + 1, 7, none⟩ (.slice B' m d')).setCell ⟨w.heap.size + 1, 8, none⟩ (.int .i64 l.mask)).setCell ⟨w.heap.size + 1, 9, none⟩ (.int .i64 l.cost)) := ⟨_, rfl⟩
  have ho : Only (w.heap.size + 1) (w.heap.size + 1 + 1) U5 U6 := by rw [hU6]; exact (((((((((((Only.refl _ _ _).set (p := ⟨w.heap.size + 1, 0, none⟩) (Nat.le_refl _) (Nat.lt_succ_self _) _).set (p := ⟨w.heap.size + 1, 1, none⟩) (Nat.le_refl _) (Nat.lt_succ_self _) _).set (p := ⟨w.heap.size + 1, 2, none⟩) (Nat.le_refl _) (Nat.lt_succ_self _) _).set (p := ⟨w.heap.size + 1, 3, none⟩) (Nat.le_refl _) (Nat.lt_succ_self _) _).set (p := ⟨w.heap.size + 1, 4, none⟩) (Nat.le_refl _) (Nat.lt_succ_self _) _).set (p := ⟨w.heap.size + 1, 5, none⟩) (Nat.le_refl _) (Nat.lt_succ_self _) _).set (p := ⟨w.heap.size + 1, 6, none⟩) (Nat.le_refl _) (Nat.lt_succ_self _) _).set (p := ⟨w.heap.size + 1, 7, none⟩) (Nat.le_refl _) (Nat.lt_succ_self _) _).set (p := ⟨w.heap.size + 1, 8, none⟩) (Nat.le_refl _) (Nat.lt_succ_self _) _).set (p := ⟨w.heap.size + 1, 9, none⟩) (Nat.le_refl _) (Nat.lt_succ_self _) _)
  replace HX2 : Kept (w.heap.size + 1) (w.heap.size + 1 + 1) (BoxK (w.heap.size + 1) 93 #[.int .i64 t, .int .i64 l.options, .int .i64 l.typ, .int .i64 l.id, .int .i64 l.adv, .int .i64 l.seq, .slice A' n c', .slice B' m d', .int .i64 l.mask, .int .i64 l.cost]) U6 := by rw [hU6]; exact Kept.box ((((((((((HX2.bx.puts 0 (.int .i64 t) (cs' := #[.int .i64 t, .int .i64 0, .int .i64 0, .int .i64 0, .int .i64 0, .int .i64 0, .slice none 0 0, .slice none 0 0, .int .i64 0, .int .i64 0]) rfl).puts 1 (.int .i64 l.options) (cs' := #[.int .i64 t, .int .i64 l.options, .int .i64 0, .int .i64 0, .int .i64 0, .int .i64 0, .slice none 0 0, .slice none 0 0, .int .i64 0, .int .i64 0]) rfl).puts 2 (.int .i64 l.typ) (cs' := #[.int .i64 t, .int .i64 l.options, .int .i64 l.typ, .int .i64 0, .int .i64 0, .int .i64 0, .slice none 0 0, .slice none 0 0, .int .i64 0, .int .i64 0]) rfl).puts 3 (.int .i64 l.id) (cs' := #[.int .i64 t, .int .i64 l.options, .int .i64 l.typ, .int .i64 l.id, .int .i64 0, .int .i64 0, .slice none 0 0, .slice none 0 0, .int .i64 0, .int .i64 0]) rfl).puts 4 (.int .i64 l.adv) (cs' := #[.int .i64 t, .int .i64 l.options, .int .i64 l.typ, .int .i64 l.id, .int .i64 l.adv, .int .i64 0, .slice none 0 0, .slice none 0 0, .int .i64 0, .int .i64 0]) rfl).puts 5 (.int .i64 l.seq) (cs' := #[.int .i64 t, .int .i64 l.options, .int .i64 l.typ, .int .i64 l.id, .int .i64 l.adv, .int .i64 l.seq, .slice none 0 0, .slice none 0 0, .int .i64 0, .int .i64 0]) rfl).puts 6 (.slice A' n c') (cs' := #[.int .i64 t, .int .i64 l.options, .int .i64 l.typ, .int .i64 l.id, .int .i64 l.adv, .int .i64 l.seq, .slice A' n c', .slice none 0 0, .int .i64 0, .int .i64 0]) rfl).puts 7 (.slice B' m d') (cs' := #[.int .i64 t, .int .i64 l.options, .int .i64 l.typ, .int .i64 l.id, .int .i64 l.adv, .int .i64 l.seq, .slice A' n c', .slice B' m d', .int .i64 0, .int .i64 0]) rfl).puts 8 (.int .i64 l.mask) (cs' := #[.int .i64 t, .int .i64 l.options, .int .i64 l.typ, .int .i64 l.id, .int .i64 l.adv, .int .i64 l.seq, .slice A' n c', .slice B' m d', .int .i64 l.mask, .int .i64 0]) rfl).puts 9 (.int .i64 l.cost) (cs' := #[.int .i64 t, .int .i64 l.options, .int .i64 l.typ, .int .i64 l.id, .int .i64 l.adv, .int .i64 l.seq, .slice A' n c', .slice B' m d', .int .i64 l.mask, .int .i64 l.cost]) rfl)
  replace HL := HL.only ho (by have := Z0.out; have := Z1.out; have := Z2.out; have := Z3.out; have := Z4.out; have := Z5.out; omega)
  replace HX1 := HX1.only ho (by have := Z0.out; have := Z1.out; have := Z2.out; have := Z3.out; have := Z4.out; have := Z5.out; omega)
  replace HS1 := HS1.only ho (by have := Z0.out; have := Z1.out; have := Z2.out; have := Z3.out; have := Z4.out; have := Z5.out; omega)
  replace HS2 := HS2.only ho (by have := Z0.out; have := Z1.out; have := Z2.out; have := Z3.out; have := Z4.out; have := Z5.out; omega)
  replace HB := Lib.hid (Below.only HB.out ho (by have := Z0.out; have := Z1.out; have := Z2.out; have := Z3.out; have := Z4.out; have := Z5.out; omega) HB.out.size)
  have Z6 := Lib.hid ho.size; clear ho
  have q_0 := HX2.look 0
  have q_1 := HX2.look 1
  have q_2 := HX2.look 2
  have q_3 := HX2.look 3
  have q_4 := HX2.look 4
  have q_5 := HX2.look 5
  have q_6 := HX2.look 6
  have q_7 := HX2.look 7
  have q_8 := HX2.look 8
  have q_9 := HX2.look 9
  have fin : ∀ e, e = Ending.returned (.agg (lsaCells { l with age := t } A' B' n c' m d')) → (∃ A' B' c' d', e = .returned (.agg (lsaCells { l with age := t } A' B' n c' m d')) ∧ LsaTwo w.heap.size U6.heap.size U6 A' n B' m { l with age := t } ∧ Below w.heap.size w U6) := by rintro _ rfl; exact ⟨A', B', c', d', rfl, ⟨⟨U1.heap.size, w2.heap.size, U3.heap.size, w4.heap.size, (by have := Z0.out; have := Z1.out; have := Z2.out; have := Z3.out; have := Z4.out; have := Z5.out; have := Z6.out; omega), (by have := Z0.out; have := Z1.out; have := Z2.out; have := Z3.out; have := Z4.out; have := Z5.out; have := Z6.out; omega), (by have := Z0.out; have := Z1.out; have := Z2.out; have := Z3.out; have := Z4.out; have := Z5.out; have := Z6.out; omega), (by have := Z0.out; have := Z1.out; have := Z2.out; have := Z3.out; have := Z4.out; have := Z5.out; have := Z6.out; omega), (by have := Z0.out; have := Z1.out; have := Z2.out; have := Z3.out; have := Z4.out; have := Z5.out; have := Z6.out; omega), HS1.sl, HS2.sl⟩, Nat.le_refl _⟩, HB.out⟩
  subst hU6 hU5
  exact bodyPost_ret (v := .agg (lsaCells { l with age := t } A' B' n c' m d')) (by simp [results, Try.results122, go_sem, q_0, q_1, q_2, q_3, q_4, q_5, q_6, q_7, q_8, q_9]) rfl (fin _ rfl)

set_option maxRecDepth 100000 in
set_option maxHeartbeats 3200000 in
theorem l2Copy_any (l : LsaM) (q : Bool) (lo hi : Nat) (A B : Option Addr) (n c m d : Nat) (w : World) (hl : LsaAt q lo hi w A n B m l) (hn : n ≤ 1048576) (hm : m ≤ 1048576) :
    Calls Try.prog 151 #[.agg (lsaCells l A B n c m d)] w fun e w' => ∃ A' B' c' d', e = .returned (.agg (lsaCells l A' B' n c' m d')) ∧ LsaTwo w.heap.size w'.heap.size w' A' n B' m l ∧ Below w.heap.size w w' := by
  have HB := Lib.hid (Below.refl w.heap.size w)
  have HL := hl.kept
  have Z0 := Lib.hid hl.le
  clear hl
  go_enter Try.func151, Try.ntmps151
  go_wp2_with (first | (at_builtin; refine wpList_name ?_; intro U1 hU1; have hb : Below w.heap.size w U1 := (by rw [hU1]; exact ((((Below.refl _ _).alloc (Nat.le_refl _) _).alloc (by simp <;> omega) _).alloc (by simp <;> omega) _)); have zz : Hid (w.heap.size + 3 = U1.heap.size) := Lib.hid (by rw [hU1]; simp); have HX1 : Kept w.heap.size (w.heap.size + 1) (BoxK w.heap.size 93 #[.int .i64 l.age, .int .i64 l.options, .int .i64 l.typ, .int .i64 l.id, .int .i64 l.adv, .int .i64 l.seq, .slice A n c, .slice B m d, .int .i64 l.mask, .int .i64 l.cost]) U1 := (by rw [hU1]; exact Kept.box (((Box.made_at _ _ _ rfl).over _).over _)); have HX2 : Kept (w.heap.size + 1) (w.heap.size + 1 + 1) (BoxK (w.heap.size + 1) 93 #[.int .i64 0, .int .i64 0, .int .i64 0, .int .i64 0, .int .i64 0, .int .i64 0, .slice none 0 0, .slice none 0 0, .int .i64 0, .int .i64 0]) U1 := (by rw [hU1]; exact Kept.box ((Box.made_at _ _ _ (by simp <;> omega)).over _)); have HX3 : Kept (w.heap.size + 1 + 1) (w.heap.size + 1 + 1 + 1) (BoxK (w.heap.size + 1 + 1) 204 #[]) U1 := (by rw [hU1]; exact Kept.box (Box.made_at _ _ _ (by simp <;> omega))); replace HL := HL.below hb; replace HB := Lib.hid (below_step HB.out hb); clear hb; have Z1 := zz; clear zz; clear hU1; refine wpList_appF0 lcell_len lcell_one Try.underlying90 linkInfo rfl (by decide) (by decide) rfl (.tmp 3) (.tmp 5) rfl (B := w.heap.size + 1 + 1) rfl (OwnF.of_box0 HX3.bx) rfl (Rep.link_inF HL.lsa.in_.links) (by omega) (by have := Z0.out; have := Z1.out; omega) ?_; intro A' c' w2 ho hg; have hq : Only (w.heap.size + 1 + 1) (w.heap.size + 1 + 1 + 1) U1 w2 := Only.of_grown hg (fun r hr => by simp only [Option.map_some, Option.some.injEq] at hr; omega); have Z2 := Lib.hid hq.size; clear HX3; replace HL := HL.only hq (by have := Z0.out; have := Z1.out; have := Z2.out; omega); replace HX1 := HX1.only hq (by have := Z0.out; have := Z1.out; have := Z2.out; omega); replace HX2 := HX2.only hq (by have := Z0.out; have := Z1.out; have := Z2.out; omega); replace HB := Lib.hid (Below.only HB.out hq (by have := Z0.out; have := Z1.out; have := Z2.out; omega) HB.out.size); clear hq hg; simp only [Nat.zero_add, List.nil_append] at ho; have HO1 := ho.kept rfl; clear ho; have HS1 := HO1.links; clear HO1; have c2_0 := HX1.look 6; have c2_1 := HX1.look 7; have f2_0 := HX1.free 6; have l2_0 := HX1.le; have l2_1 := HX2.le))
  clear c2_0 c2_1 f2_0 l2_0 l2_1
  refine Calls.name ?_
  intro U3 hU3
  have ho : Only w.heap.size (w.heap.size + 1) w2 U3 := by rw [hU3]; exact ((Only.refl _ _ _).set (p := ⟨w.heap.size, 6, none⟩) (Nat.le_refl _) (Nat.lt_succ_self _) _)
  replace HX1 : Kept w.heap.size (w.heap.size + 1) (BoxK w.heap.size 93 #[.int .i64 l.age, .int .i64 l.options, .int .i64 l.typ, .int .i64 l.id, .int .i64 l.adv, .int .i64 l.seq, .slice A' n c', .slice B m d, .int .i64 l.mask, .int .i64 l.cost]) U3 := by rw [hU3]; exact Kept.box (HX1.bx.puts 6 (.slice A' n c') (cs' := #[.int .i64 l.age, .int .i64 l.options, .int .i64 l.typ, .int .i64 l.id, .int .i64 l.adv, .int .i64 l.seq, .slice A' n c', .slice B m d, .int .i64 l.mask, .int .i64 l.cost]) rfl)
  replace HL := HL.only ho (by have := Z0.out; have := Z1.out; have := Z2.out; omega)
  replace HX2 := HX2.only ho (by have := Z0.out; have := Z1.out; have := Z2.out; omega)
  replace HS1 := HS1.only ho (by have := Z0.out; have := Z1.out; have := Z2.out; omega)
  replace HB := Lib.hid (Below.only HB.out ho (by have := Z0.out; have := Z1.out; have := Z2.out; omega) HB.out.size)
  have Z3 := Lib.hid ho.size; clear ho
  clear hU3
  refine (l1Ints_any q lo hi B m d l.routers _ HL.lsa.in_.routers HL.le hm).mono ?_
  rintro e w4 ⟨B', d', rfl, hs, hb⟩
  have Z4 := Lib.hid hb.size
  replace HL := HL.below hb
  replace HX1 := HX1.below hb
  replace HX2 := HX2.below hb
  replace HS1 := HS1.below hb
  replace HB := Lib.hid (below_step HB.out hb)
  clear hb
  have HS2 := Rep.Sl.kept hs (Nat.le_refl _)
  clear hs
  have c3_0 := HX1.look 0
  have c3_1 := HX1.look 1
  have c3_2 := HX1.look 2
  have c3_3 := HX1.look 3
  have c3_4 := HX1.look 4
  have c3_5 := HX1.look 5
  have c3_6 := HX1.look 6
  have c3_7 := HX1.look 7
  have c3_8 := HX1.look 8
  have c3_9 := HX1.look 9
  have c3_10 := HX2.look 0
  have c3_11 := HX2.look 1
  have c3_12 := HX2.look 2
  have c3_13 := HX2.look 3
  have c3_14 := HX2.look 4
  have c3_15 := HX2.look 5
  have c3_16 := HX2.look 6
  have c3_17 := HX2.look 7
  have c3_18 := HX2.look 8
  have c3_19 := HX2.look 9
  have f3_0 := HX1.free 7
  have f3_1 := HX2.free 0
  have f3_2 := HX2.free 1
  have f3_3 := HX2.free 2
  have f3_4 := HX2.free 3
  have f3_5 := HX2.free 4
  have f3_6 := HX2.free 5
  have f3_7 := HX2.free 6
  have f3_8 := HX2.free 7
  have f3_9 := HX2.free 8
  have f3_10 := HX2.free 9
  have l3_0 := HX1.le
  have l3_1 := HX2.le
  have n3_0_1 : ¬ w.heap.size = (w.heap.size + 1) := (by have := Z0.out; have := Z1.out; have := Z2.out; have := Z3.out; have := Z4.out; omega)
  have m3_0_1 : ¬ (w.heap.size + 1) = w.heap.size := (by have := Z0.out; have := Z1.out; have := Z2.out; have := Z3.out; have := Z4.out; omega)
  go_wp2
  clear c3_0 c3_1 c3_2 c3_3 c3_4 c3_5 c3_6 c3_7 c3_8 c3_9 c3_10 c3_11 c3_12 c3_13 c3_14 c3_15 c3_16 c3_17 c3_18 c3_19 f3_0 f3_1 f3_2 f3_3 f3_4 f3_5 f3_6 f3_7 f3_8 f3_9 f3_10 l3_0 l3_1 n3_0_1 m3_0_1
  obtain ⟨U5, hU5⟩ : ∃ W : World, W = (w4.setCell ⟨w.heap.size, 7, none⟩ (.slice B' m d')) := ⟨_, rfl⟩
  have ho : Only w.heap.size (w.heap.size + 1) w4 U5 := by rw [hU5]; exact ((Only.refl _ _ _).set (p := ⟨w.heap.size, 7, none⟩) (Nat.le_refl _) (Nat.lt_succ_self _) _)
  replace HX1 : Kept w.heap.size (w.heap.size + 1) (BoxK w.heap.size 93 #[.int .i64 l.age, .int .i64 l.options, .int .i64 l.typ, .int .i64 l.id, .int .i64 l.adv, .int .i64 l.seq, .slice A' n c', .slice B' m d', .int .i64 l.mask, .int .i64 l.cost]) U5 := by rw [hU5]; exact Kept.box (HX1.bx.puts 7 (.slice B' m d') (cs' := #[.int .i64 l.age, .int .i64 l.options, .int .i64 l.typ, .int .i64 l.id, .int .i64 l.adv, .int .i64 l.seq, .slice A' n c', .slice B' m d', .int .i64 l.mask, .int .i64 l.cost]) rfl)
  replace HL := HL.only ho (by have := Z0.out; have := Z1.out; have := Z2.out; have := Z3.out; have := Z4.out; omega)
  replace HX2 := HX2.only ho (by have := Z0.out; have := Z1.out; have := Z2.out; have := Z3.out; have := Z4.out; omega)
  replace HS1 := HS1.only ho (by have := Z0.out; have := Z1.out; have := Z2.out; have := Z3.out; have := Z4.out; omega)
  replace HS2 := HS2.only ho (by have := Z0.out; have := Z1.out; have := Z2.out; have := Z3.out; have := Z4.out; omega)
  replace HB := Lib.hid (Below.only HB.out ho (by have := Z0.out; have := Z1.out; have := Z2.out; have := Z3.out; have := Z4.out; omega) HB.out.size)
  have Z5 := Lib.hid ho.size; clear ho
  obtain ⟨U6, hU6⟩ : ∃ W : World, W = ((((((((((U5.setCell ⟨w.heap.size + 1, 0, none⟩ (.int .i64 l.age)).setCell ⟨w.heap.size + 1, 1, none⟩ (.int .i64 l.options)).setCell ⟨w.heap.size + 1, 2, none⟩ (.int .i64 l.typ)).setCell ⟨w.heap.size + 1, 3, none⟩ (.int .i64 l.id)).setCell ⟨w.heap.size + 1, 4, none⟩ (.int .i64 l.adv)).setCell ⟨w.heap.size + 1, 5, none⟩ (.int .i64 l.seq)).setCell ⟨w.heap.size + 1, 6, none⟩ (.slice A' n c')).setCell ⟨w.heap.size + 1, 7, none⟩ (.slice B' m d')).setCell ⟨w.heap.size + 1, 8, none⟩ (.int .i64 l.mask)).setCell ⟨w.heap.size + 1, 9, none⟩ (.int .i64 l.cost)) := ⟨_, rfl⟩
  have ho : Only (w.heap.size + 1) (w.heap.size + 1 + 1) U5 U6 := by rw [hU6]; exact (((((((((((Only.refl _ _ _).set (p := ⟨w.heap.size + 1, 0, none⟩) (Nat.le_refl _) (Nat.lt_succ_self _) _).set (p := ⟨w.heap.size + 1, 1, none⟩) (Nat.le_refl _) (Nat.lt_succ_self _) _).set (p := ⟨w.heap.size + 1, 2, none⟩) (Nat.le_refl _) (Nat.lt_succ_self _) _).set (p := ⟨w.heap.size + 1, 3, none⟩) (Nat.le_refl _) (Nat.lt_succ_self _) _).set (p := ⟨w.heap.size + 1, 4, none⟩) (Nat.le_refl _) (Nat.lt_succ_self _) _).set (p := ⟨w.heap.size + 1, 5, none⟩) (Nat.le_refl _) (Nat.lt_succ_self _) _).set (p := ⟨w.heap.size + 1, 6, none⟩) (Nat.le_refl _) (Nat.lt_succ_self _) _).set (p := ⟨w.heap.size + 1, 7, none⟩) (Nat.le_refl _) (Nat.lt_succ_self _) _).set (p := ⟨w.heap.size + 1, 8, none⟩) (Nat.le_refl _) (Nat.lt_succ_self _) _).set (p := ⟨w.heap.size + 1, 9, none⟩) (Nat.le_refl _) (Nat.lt_succ_self _) _)
  replace HX2 : Kept (w.heap.size + 1) (w.heap.size + 1 + 1) (BoxK (w.heap.size + 1) 93 #[.int .i64 l.age, .int .i64 l.options, .int .i64 l.typ, .int .i64 l.id, .int .i64 l.adv, .int .i64 l.seq, .slice A' n c', .slice B' m d', .int .i64 l.mask, .int .i64 l.cost]) U6 := by rw [hU6]; exact Kept.box ((((((((((HX2.bx.puts 0 (.int .i64 l.age) (cs' := #[.int .i64 l.age, .int .i64 0, .int .i64 0, .int .i64 0, .int .i64 0, .int .i64 0, .slice none 0 0, .slice none 0 0, .int .i64 0, .int .i64 0]) rfl).puts 1 (.int .i64 l.options) (cs' := #[.int .i64 l.age, .int .i64 l.options, .int .i64 0, .int .i64 0, .int .i64 0, .int .i64 0, .slice none 0 0, .slice none 0 0, .int .i64 0, .int .i64 0]) rfl).puts 2 (.int .i64 l.typ) (cs' := #[.int .i64 l.age, .int .i64 l.options, .int .i64 l.typ, .int .i64 0, .int .i64 0, .int .i64 0, .slice none 0 0, .slice none 0 0, .int .i64 0, .int .i64 0]) rfl).puts 3 (.int .i64 l.id) (cs' := #[.int .i64 l.age, .int .i64 l.options, .int .i64 l.typ, .int .i64 l.id, .int .i64 0, .int .i64 0, .slice none 0 0, .slice none 0 0, .int .i64 0, .int .i64 0]) rfl).puts 4 (.int .i64 l.adv) (cs' := #[.int .i64 l.age, .int .i64 l.options, .int .i64 l.typ, .int .i64 l.id, .int .i64 l.adv, .int .i64 0, .slice none 0 0, .slice none 0 0, .int .i64 0, .int .i64 0]) rfl).puts 5 (.int .i64 l.seq) (cs' := #[.int .i64 l.age, .int .i64 l.options, .int .i64 l.typ, .int .i64 l.id, .int .i64 l.adv, .int .i64 l.seq, .slice none 0 0, .slice none 0 0, .int .i64 0, .int .i64 0]) rfl).puts 6 (.slice A' n c') (cs' := #[.int .i64 l.age, .int .i64 l.options, .int .i64 l.typ, .int .i64 l.id, .int .i64 l.adv, .int .i64 l.seq, .slice A' n c', .slice none 0 0, .int .i64 0, .int .i64 0]) rfl).puts 7 (.slice B' m d') (cs' := #[.int .i64 l.age, .int .i64 l.options, .int .i64 l.typ, .int .i64 l.id, .int .i64 l.adv, .int .i64 l.seq, .slice A' n c', .slice B' m d', .int .i64 0, .int .i64 0]) rfl).puts 8 (.int .i64 l.mask) (cs' := #[.int .i64 l.age, .int .i64 l.options, .int .i64 l.typ, .int .i64 l.id, .int .i64 l.adv, .int .i64 l.seq, .slice A' n c', .slice B' m d', .int .i64 l.mask, .int .i64 0]) rfl).puts 9 (.int .i64 l.cost) (cs' := #[.int .i64 l.age, .int .i64 l.options, .int .i64 l.typ, .int .i64 l.id, .int .i64 l.adv, .int .i64 l.seq, .slice A' n c', .slice B' m d', .int .i64 l.mask, .int .i64 l.cost]) rfl)
  replace HL := HL.only ho (by have := Z0.out; have := Z1.out; have := Z2.out; have := Z3.out; have := Z4.out; have := Z5.out; omega)
  replace HX1 := HX1.only ho (by have := Z0.out; have := Z1.out; have := Z2.out; have := Z3.out; have := Z4.out; have := Z5.out; omega)
  replace HS1 := HS1.only ho (by have := Z0.out; have := Z1.out; have := Z2.out; have := Z3.out; have := Z4.out; have := Z5.out; omega)
  replace HS2 := HS2.only ho (by have := Z0.out; have := Z1.out; have := Z2.out; have := Z3.out; have := Z4.out; have := Z5.out; omega)
  replace HB := Lib.hid (Below.only HB.out ho (by have := Z0.out; have := Z1.out; have := Z2.out; have := Z3.out; have := Z4.out; have := Z5.out; omega) HB.out.size)
  have Z6 := Lib.hid ho.size; clear ho
  have q_0 := HX2.look 0
  have q_1 := HX2.look 1
  have q_2 := HX2.look 2
  have q_3 := HX2.look 3
  have q_4 := HX2.look 4
  have q_5 := HX2.look 5
  have q_6 := HX2.look 6
  have q_7 := HX2.look 7
  have q_8 := HX2.look 8
  have q_9 := HX2.look 9
  have fin : ∀ e, e = Ending.returned (.agg (lsaCells l A' B' n c' m d')) → (∃ A' B' c' d', e = .returned (.agg (lsaCells l A' B' n c' m d')) ∧ LsaTwo w.heap.size U6.heap.size U6 A' n B' m l ∧ Below w.heap.size w U6) := by rintro _ rfl; exact ⟨A', B', c', d', rfl, ⟨⟨w.heap.size + 1 + 1, w2.heap.size, U3.heap.size, w4.heap.size, (by have := Z0.out; have := Z1.out; have := Z2.out; have := Z3.out; have := Z4.out; have := Z5.out; have := Z6.out; omega), (by have := Z0.out; have := Z1.out; have := Z2.out; have := Z3.out; have := Z4.out; have := Z5.out; have := Z6.out; omega), (by have := Z0.out; have := Z1.out; have := Z2.out; have := Z3.out; have := Z4.out; have := Z5.out; have := Z6.out; omega), (by have := Z0.out; have := Z1.out; have := Z2.out; have := Z3.out; have := Z4.out; have := Z5.out; have := Z6.out; omega), (by have := Z0.out; have := Z1.out; have := Z2.out; have := Z3.out; have := Z4.out; have := Z5.out; have := Z6.out; omega), HS1.sl, HS2.sl⟩, Nat.le_refl _⟩, HB.out⟩
  subst hU6 hU5
  exact bodyPost_ret (v := .agg (lsaCells l A' B' n c' m d')) (by simp [results, Try.results151, go_sem, q_0, q_1, q_2, q_3, q_4, q_5, q_6, q_7, q_8, q_9]) rfl (fin _ rfl)

end Go.Proofs.Ytakplomopbnekaa

namespace Go.Proofs.Ytakplomopbnekaa
open Go.RowKit Go.Shelf
set_option linter.unusedVariables false

/-- Do two Keys tell the same. -/
def keyI (a b c x y z : Int) : Bool := decide (a = x) && (decide (b = y) && decide (c = z))
abbrev kV (a b c : Int) : Value := .agg #[.int .i64 a, .int .i64 b, .int .i64 c]
theorem keyI_comm (a b c x y z : Int) : keyI a b c x y z = keyI x y z a b c := by
  unfold keyI
  rw [decide_eq_decide.2 (eq_comm (a := a)), decide_eq_decide.2 (eq_comm (a := b)), decide_eq_decide.2 (eq_comm (a := c))]
theorem equal_kI (a b c x y z : Int) (W : World) : (Op.equal 34 (kV a b c) (kV x y z)).run Try.prog W = .ok (keyI a b c x y z) W := by
  by_cases h1 : a = x <;> by_cases h2 : b = y <;> by_cases h3 : c = z <;> simp [Op.equal, Op.maxDepth, go_sem, keyI, kV, h1, h2, h3]
theorem eql_kI (a b c x y z : Int) (W : World) : (binOp .eql 34 (.agg #[.int .i64 a, .int .i64 b, .int .i64 c]) (.agg #[.int .i64 x, .int .i64 y, .int .i64 z])).run Try.prog W = .ok (.bool (keyI a b c x y z)) W := by
  by_cases h1 : a = x <;> by_cases h2 : b = y <;> by_cases h3 : c = z <;> simp [go_sem, keyI, h1, h2, h3]
theorem checkKey_kI (e : Bool) (a b c : Int) (W : World) : (Instr.checkKey e 10000 34 (kV a b c)).run Try.prog W = .ok () W := by kernel_rfl

/-- A Key and what it leads to. -/
structure KV where
  typ : Int
  id : Int
  adv : Int
  val : Value
def MapE (w : World) (b : Nat) (ps : List KV) : Prop := ∃ es clock, w.heap[b]? = some (.map es clock) ∧ es.toList.map (fun e => (e.key, e.val)) = ps.map fun p => (kV p.typ p.id p.adv, p.val)
def findKV (x y z : Int) : List KV → Nat → Option (Nat × Value)
  | [], _ => none
  | p :: ps, i => if keyI x y z p.typ p.id p.adv = true then some (i, p.val) else findKV x y z ps (i + 1)
theorem findKV_none {x y z : Int} : ∀ {ps : List KV} {i : Nat}, (∀ p ∈ ps, keyI x y z p.typ p.id p.adv = false) → findKV x y z ps i = none
  | [], _, _ => rfl
  | p :: ps, i, h => by
    rw [findKV, if_neg (by rw [h p (by simp)]; simp)]
    exact findKV_none fun q hq => h q (List.mem_cons_of_mem _ hq)
theorem findKV_some {x y z : Int} : ∀ {ps : List KV} {i k : Nat} {p : KV}, ps[k]? = some p → keyI x y z p.typ p.id p.adv = true → (∀ j q, j < k → ps[j]? = some q → keyI x y z q.typ q.id q.adv = false) → findKV x y z ps i = some (i + k, p.val)
  | [], _, _, _, h, _, _ => by simp at h
  | q :: ps, i, 0, p, h, hk, _ => by
    simp only [List.getElem?_cons_zero, Option.some.injEq] at h
    subst h
    rw [findKV, if_pos hk]; rfl
  | q :: ps, i, k + 1, p, h, hk, hj => by
    rw [findKV, if_neg (by rw [hj 0 q (Nat.succ_pos _) rfl]; simp), findKV_some (by simpa using h) hk (fun j r hjk hr => hj (j + 1) r (by omega) (by simpa using hr))]
    rw [show i + 1 + k = i + (k + 1) by omega]

theorem findAsking_kI (x y z : Int) (W : World) : ∀ (ps : List KV) (es : List MapEntry) (i : Nat), es.map (fun e => (e.key, e.val)) = ps.map (fun p => (kV p.typ p.id p.adv, p.val)) →
    (Instr.findAsking 34 (kV x y z) es i).run Try.prog W = .ok (findKV x y z ps i) W := by
  intro ps
  induction ps with
  | nil =>
    intro es i h
    obtain rfl : es = [] := by simpa using h
    simp [Instr.findAsking, findKV]
  | cons t ts ih =>
    intro es i h
    cases es with
    | nil => simp at h
    | cons e es =>
      simp only [List.map_cons, List.cons.injEq, Prod.mk.injEq] at h
      obtain ⟨⟨hk, hv⟩, hr⟩ := h
      simp only [Instr.findAsking, Sem.run_bind, hk, equal_kI, Result.andThen_ok]
      by_cases hkt : keyI x y z t.typ t.id t.adv = true
      · simp [hkt, hv, findKV]
      · have hkf : keyI x y z t.typ t.id t.adv = false := by simpa using hkt
        rw [hkf]
        simp only [Bool.false_eq_true, if_false]
        rw [ih es (i + 1) hr, findKV, if_neg hkt]
theorem findKey_kI (x y z : Int) (W : World) (ps : List KV) (es : List MapEntry) (h : es.map (fun e => (e.key, e.val)) = ps.map (fun p => (kV p.typ p.id p.adv, p.val))) :
    (Instr.findKey 34 (kV x y z) es).run Try.prog W = .ok (findKV x y z ps 0) W := by
  have hu := run_underlying (w := W) Try.underlying34
  cases es with
  | nil =>
    obtain rfl : ps = [] := by cases ps; rfl; simp at h
    simp [Instr.findKey, hu, Instr.findNow, findKV]
  | cons e es =>
    have hn : ∀ fs, Instr.findNow (.struct fs) (kV x y z) (e :: es) 0 = none := by
      intro fs
      simp [Instr.findNow, Instr.sameNow]
    have ha := findAsking_kI x y z W ps (e :: es) 0 h
    simp only [Instr.findKey, Sem.run_bind, hu, Result.andThen_ok, hn, ha]

def zeroEnt : Value := .agg #[.int .i64 0, .int .i64 0, .int .i64 0, .int .i64 0, .int .i64 0, .int .i64 0, .slice none 0 0, .slice none 0 0, .int .i64 0, .int .i64 0, .int .i64 0]
theorem lookup_kI {w : World} {b : Nat} {ps : List KV} (h : MapE w b ps) (x y z : Int) : (Instr.lookup 168 (.map (some b)) (kV x y z) true).run Try.prog w =
    .ok (.tuple (match findKV x y z ps 0 with | some (_, v) => #[v, .bool true] | none => #[zeroEnt, .bool false])) w := by
  obtain ⟨es, clock, hb, he⟩ := h
  have hu := run_underlying (w := w) Try.underlying168
  have hf := findKey_kI x y z w ps es.toList he
  have hz : (zeroValue 152).run Try.prog w = .ok zeroEnt w := by kernel_rfl
  have hc := checkKey_kI es.isEmpty x y z w
  simp only [Instr.lookup, Sem.run_bind, hu, Result.andThen_ok, getObj, Sem.run, hb, hc, hf, Sem.run_pure]
  cases findKV x y z ps 0 with
  | none => simp [hz]
  | some p => simp

theorem update_kI {w : World} {b : Nat} {ps : List KV} (h : MapE w b ps) (p : KV) (hn : findKV p.typ p.id p.adv ps 0 = none) : ∃ w', (Instr.mapUpdate 168 (.map (some b)) (kV p.typ p.id p.adv) p.val).run Try.prog w = .ok () w' ∧ MapE w' b (ps ++ [p]) ∧ w.grownBy w' (some b) := by
  obtain ⟨es, clock, hb, he⟩ := h
  have hu := run_underlying (w := w) Try.underlying168
  have hf := findKey_kI p.typ p.id p.adv w ps es.toList he
  have hc := checkKey_kI false p.typ p.id p.adv w
  have hlt : b < w.heap.size := (Array.getElem?_eq_some_iff.1 hb).1
  refine ⟨w.putObj b (.map (es.push { key := kV p.typ p.id p.adv, val := p.val, born := clock }) (clock + 1)), ?_, ⟨_, _, World.putObj_heap_same hlt, by simp [he]⟩, grownBy_putObj' w b _⟩
  simp [Instr.mapUpdate, Sem.run_bind, hu, getObj, setObj, Sem.run, hb, hc, hf, hn, Result.andThen, World.putObj]

theorem wpList_lookup_kI {ops : Array Oper} {rest : List Oper} {o : Oper} {a : Act} {Q : Exit → Act → World → Prop} {w : World} (hgd : o.guard = none) (u v : Operand) (ho : o.op = .lookup 168 u v true)
    {b : Nat} {ps : List KV} (h : MapE w b ps) (x y z : Int) (hx : a.eval u = .map (some b)) (hy : a.eval v = kV x y z)
    (k : wpList Try.prog ops Q rest (a.put o.dst (.tuple (match findKV x y z ps 0 with | some (_, v) => #[v, .bool true] | none => #[zeroEnt, .bool false]))) w) : wpList Try.prog ops Q (o :: rest) a w := by
  refine wpList_plain hgd fun K hK => ?_
  have hl := lookup_kI h x y z
  unfold Oper.wp
  simp only [execOp, ho, hx, hy, Sem.run_bind, hl, Result.andThen_ok, Sem.run_pure]
  exact hK _ _ k
theorem wpList_update_kI {ops : Array Oper} {rest : List Oper} {o : Oper} {a : Act} {Q : Exit → Act → World → Prop} {w : World} (hgd : o.guard = none) (u v t : Operand) (ho : o.op = .mapUpdate 168 u v t)
    {b : Nat} {ps : List KV} (h : MapE w b ps) (p : KV) (hx : a.eval u = .map (some b)) (hy : a.eval v = kV p.typ p.id p.adv) (hz : a.eval t = p.val) (hn : findKV p.typ p.id p.adv ps 0 = none)
    (k : ∀ w', MapE w' b (ps ++ [p]) → w.grownBy w' (some b) → wpList Try.prog ops Q rest (a.put o.dst undef) w') : wpList Try.prog ops Q (o :: rest) a w := by
  refine wpList_plain hgd fun K hK => ?_
  obtain ⟨w', hl, h1, h2⟩ := update_kI h p hn
  unfold Oper.wp
  simp only [execOp, ho, hx, hy, hz, Sem.run_bind, hl, Result.andThen_ok, Sem.run_pure]
  exact hK _ _ (k w' h1 h2)
theorem MapE.grown {w w' : World} {b : Nat} {ps : List KV} (h : MapE w b ps) {row : Option Nat} (hg : w.grownBy w' row) (hr : row ≠ some b) : MapE w' b ps := by
  obtain ⟨es, clock, hb, he⟩ := h
  exact ⟨es, clock, (hg.block b (Array.getElem?_eq_some_iff.1 hb).1 (fun e => hr e.symm)).trans hb, he⟩
theorem MapE.same {w w' : World} {b : Nat} {ps : List KV} (h : MapE w b ps) (e : w'.heap[b]? = w.heap[b]?) : MapE w' b ps := by
  obtain ⟨es, clock, hb, he⟩ := h
  exact ⟨es, clock, e.trans hb, he⟩
theorem MapE.lt {w : World} {b : Nat} {ps : List KV} (h : MapE w b ps) : b < w.heap.size := by
  obtain ⟨es, clock, hb, he⟩ := h
  exact (Array.getElem?_eq_some_iff.1 hb).1
theorem MapE.made (w : World) : MapE (w.alloc (.map #[] 0)) w.heap.size [] := ⟨#[], 0, World.alloc_heap_new w _, rfl⟩

end Go.Proofs.Ytakplomopbnekaa

namespace Go.Proofs.Ytakplomopbnekaa
open Go.RowKit Go.Shelf
set_option linter.unusedVariables false

def zeroL : LsaM := ⟨0, 0, 0, 0, 0, 0, [], [], 0, 0⟩
theorem LsaTwo.zeroL (lo : Nat) (w : World) (h : lo ≤ w.heap.size) : LsaTwo lo w.heap.size w none 0 none 0 zeroL :=
  ⟨⟨lo, lo, lo, lo, Nat.le_refl _, h, Nat.le_refl _, h, .inl (Nat.le_refl _), Rep.Sl_nil _ _ _ _ _ _, Rep.Sl_nil _ _ _ _ _ _⟩, Nat.le_refl _⟩
def keyL (l : LsaM) (x y z : Int) : Bool := keyI l.typ l.id l.adv x y z
/-- The first entry with a key. -/
def lookI (x y z : Int) (ys : List Ent) : Option Nat := ys.findIdx? fun e => keyL e.l x y z
theorem lookI_none {x y z : Int} {ys : List Ent} (h : ∀ (j : Nat) (e : Ent), ys[j]? = some e → keyL e.l x y z = false) : lookI x y z ys = none := by
  unfold lookI
  rw [List.findIdx?_eq_none_iff]
  intro e he
  obtain ⟨j, hj⟩ := List.mem_iff_getElem?.1 he
  simpa using h j e hj
theorem lookI_some {x y z : Int} {ys : List Ent} {k : Nat} {e : Ent} (he : ys[k]? = some e) (hk : keyL e.l x y z = true) (h : ∀ (j : Nat) (e : Ent), j < k → ys[j]? = some e → keyL e.l x y z = false) : lookI x y z ys = some k := by
  unfold lookI
  have hl := (List.getElem?_eq_some_iff.1 he).1
  have hv := (List.getElem?_eq_some_iff.1 he).2
  rw [List.findIdx?_eq_some_iff_getElem]
  refine ⟨hl, by rw [hv]; exact hk, fun j hj => ?_⟩
  have := h j ys[j] hj (List.getElem?_eq_getElem (by omega))
  simp [this]
theorem lookI_at {x y z : Int} {ys : List Ent} {k : Nat} (h : lookI x y z ys = some k) : ∃ e, ys[k]? = some e ∧ keyL e.l x y z = true ∧ ∀ (j : Nat) (e : Ent), j < k → ys[j]? = some e → keyL e.l x y z = false := by
  unfold lookI at h
  rw [List.findIdx?_eq_some_iff_getElem] at h
  obtain ⟨hl, h1, h2⟩ := h
  refine ⟨ys[k], List.getElem?_eq_getElem hl, h1, fun j e hj he => ?_⟩
  have := h2 j hj
  rw [(List.getElem?_eq_some_iff.1 he).2] at this
  simpa using this
theorem lookI_no {x y z : Int} {ys : List Ent} (h : lookI x y z ys = none) : ∀ (j : Nat) (e : Ent), ys[j]? = some e → keyL e.l x y z = false := fun j e he => by
  unfold lookI at h
  rw [List.findIdx?_eq_none_iff] at h
  simpa using h e (List.mem_of_getElem? he)
def lookZ (x y z : Int) (ys : List Ent) : Int := match lookI x y z ys with | some i => (i : Int) | none => -1
/-- What LookupLsa tells. -/
noncomputable def lookC (now x y z : Int) (ys : List Ent) : Int := if faultB now ys = 0 then (match lookI x y z ys with | some _ => 0 | none => 4) else faultB now ys
noncomputable def lookM (now x y z : Int) (ys : List Ent) : LsaM := if faultB now ys = 0 then (match lookI x y z ys with | some i => (match ys[i]? with | some e => { e.l with age := ageE now e.l e.at_ } | none => zeroL) | none => zeroL) else zeroL

theorem ltE_key {a b : LsaM} (h : ltE a b = true) : keyI a.typ a.id a.adv b.typ b.id b.adv = false := by
  unfold ltE ltK at h
  unfold keyI
  simp only [Bool.or_eq_true, Bool.and_eq_true, decide_eq_true_eq, Bool.and_eq_false_iff, decide_eq_false_iff_not] at h ⊢
  omega
theorem ltE_trans {a b c : LsaM} (h : ltE a b = true) (k : ltE b c = true) : ltE a c = true := by
  unfold ltE ltK at h k ⊢
  simp only [Bool.or_eq_true, Bool.and_eq_true, decide_eq_true_eq] at h k ⊢
  omega
theorem Rising.lt {ys : List Ent} (h : Rising ys) : ∀ (d i : Nat) (a b : Ent), ys[i]? = some a → ys[i + d + 1]? = some b → ltE a.l b.l = true
  | 0, i, a, b, ha, hb => h i a b ha hb
  | d + 1, i, a, b, ha, hb => by
    have hl := (List.getElem?_eq_some_iff.1 hb).1
    have hc := List.getElem?_eq_getElem (show i + d + 1 < ys.length by omega)
    exact ltE_trans (h.lt d i a _ ha hc) (h (i + d + 1) _ b hc hb)
theorem Rising.key {ys : List Ent} (h : Rising ys) {i j : Nat} {a b : Ent} (hij : i < j) (ha : ys[i]? = some a) (hb : ys[j]? = some b) : keyI a.l.typ a.l.id a.l.adv b.l.typ b.l.id b.l.adv = false :=
  ltE_key (h.lt (j - i - 1) i a b ha (by rw [show i + (j - i - 1) + 1 = j by omega]; exact hb))

section
attribute [local go_sem high] eql_kI
set_option maxRecDepth 100000 in
set_option maxHeartbeats 3200000 in
theorem l5Find_any (x y z now : Int) (g : Nat) (q : Bool) (lo hi : Nat) (A : Option Addr) (n c : Nat) (ys : List Ent) (w : World) (hx : Kept g (g + 1) (BoxK g 79 #[.int .i64 now, .slice A n c]) w) (ha : Rep.ent.Sl q lo hi w A n ys) (hh : hi ≤ w.heap.size) (hn : n ≤ 1048576) :
    Calls Try.prog 150 #[.pointer (some ⟨g, 0, none⟩), kV x y z] w fun e w' => e = .returned (.int .i64 (lookZ x y z ys)) ∧ Below w.heap.size w w' := by
  have hl1 := ha.1
  obtain ⟨V, hV⟩ : ∃ V : World, V = w.alloc (.cells #[.int .i64 x, .int .i64 y, .int .i64 z] 34) := ⟨_, rfl⟩
  have hbV : Below w.heap.size w V := by rw [hV]; exact (Below.refl _ _).alloc (Nat.le_refl _) _
  have HK := Lib.hid (show Box V w.heap.size 34 #[.int .i64 x, .int .i64 y, .int .i64 z] by rw [hV]; exact Box.made _ _ _)
  have HB := Lib.hid hbV
  have HX := hx.below hbV
  have HA := (Rep.Sl.kept ha hh).below hbV
  clear ha hx hbV
  go_enter Try.func150, Try.ntmps150
  go_wp2
  rw [← hV]
  clear hV
  go_loopw [5] (fun i wr => ∃ k : Nat, k ≤ n ∧ i = .int .i64 k ∧ Hid (∀ (j : Nat) (e : Ent), j < k → ys[j]? = some e → keyL e.l x y z = false) ∧ Hid (Below V.heap.size V wr)) (fun i _ => n - (intOf i).toNat)
  case atStart => exact ⟨0, Nat.zero_le _, rfl, fun j e hj => absurd hj (by omega), Below.refl _ _⟩
  case round =>
    obtain ⟨k, hk, rfl, HS, HBW⟩ := hrel
    have x0 := (HX.below HBW.out).look 0
    have x1 := (HX.below HBW.out).look 1
    have xl := (HX.below HBW.out).bx.lt
    have k0 := (HK.out.below HBW.out).look 0
    have k1 := (HK.out.below HBW.out).look 1
    have k2 := (HK.out.below HBW.out).look 2
    have kl := (HK.out.below HBW.out).lt
    by_cases hlt : k < n
    · obtain ⟨b, o, ⟨l, t⟩, E, F, m1, c1, m1', d1, rfl, hya, hyl, a0, a1, a2, a3, a4, a5, a6, a7, a8, a9, a10⟩ := Rep.ent_at (HA.below HBW.out).sl hlt
      have hlt' : (k : Int) < n := by omega
      simp only [] at hyl a0 a1 a2 a3 a4 a5 a6 a7 a8 a9 a10
      have HYA := Lib.hid hya
      clear hya hyl a0 a1 a5 a6 a7 a8 a9 a10
      by_cases hkey : keyL l x y z = true
      · have HR : Hid (lookZ x y z ys = k) := Lib.hid (by unfold lookZ; rw [lookI_some HYA.out hkey HS.out])
        have hkb : keyI l.typ l.id l.adv x y z = true := hkey
        clear hkey
        go_wp2
        go_quiet (fail)
        go_wp2
        go_ret
        exact ⟨by rw [HR.out]; rfl, below_drewN (below_step HB.out HBW.out) _⟩
      · have hkb : keyI l.typ l.id l.adv x y z = false := by simpa [keyL] using hkey
        have HKB := Lib.hid hkb
        clear hkey
        go_wp2
        go_quiet (fail)
        go_wp2
        go_roundw
        case rel => exact ⟨k + 1, by omega, by go_num, Lib.hid (fun j e hj he => by
          by_cases h : j < k
          · exact HS.out j e h he
          · obtain rfl : j = k := by omega
            rw [HYA.out] at he; injection he with he; subst he; exact HKB.out), Lib.hid (below_drewN HBW.out _)⟩
        case measure => simp [intOf]; omega
    · have HR : Hid (lookZ x y z ys = -1) := Lib.hid (by unfold lookZ; rw [lookI_none fun j e he => HS.out j e (by have := (List.getElem?_eq_some_iff.1 he).1; omega) he])
      go_wp2
      go_ret
      exact ⟨by rw [HR.out]; rfl, below_step HB.out HBW.out⟩
end

/-- The entries of a table, one for each of a base's. -/
def Tab (q : Bool) (lo hi : Nat) (w : World) (ys : List Ent) (ps : List KV) : Prop := ps.length = ys.length ∧ ∀ (k : Nat) (y : Ent), ys[k]? = some y → ∃ E m c F m' d, ps[k]? = some ⟨y.l.typ, y.l.id, y.l.adv, .agg (entCells y.l y.at_ E F m c m' d)⟩ ∧ LsaIn q lo hi w E m F m' y.l

set_option maxRecDepth 100000 in
set_option maxHeartbeats 3200000 in
theorem tableOf_any (now : Int) (q : Bool) (lo hi : Nat) (A : Option Addr) (n c : Nat) (ys : List Ent) (w : World) (ha : Rep.ent.Sl q lo hi w A n ys) (hh : hi ≤ w.heap.size) (hn : n ≤ 1048576) (hr : Rising ys) :
    Calls Try.prog 121 #[.agg #[.int .i64 now, .slice A n c]] w fun e w' => ∃ b ps, e = .returned (.map (some b)) ∧ MapE w' b ps ∧ w.heap.size ≤ b ∧ Tab q lo hi w' ys ps ∧ Below w.heap.size w w' := by
  have hl1 := ha.1
  have HRS := Lib.hid hr
  have HA0 := Rep.Sl.kept ha hh
  have HH := Lib.hid hh
  clear ha hr
  go_enter Try.func121, Try.ntmps121
  have hmm := @run_makeMap Try.prog
  go_upto_region 2 with (fail)
  clear hmm
  refine Code.wp_name ?_
  intro V hV
  have HX : Hid (Box V w.heap.size 79 #[.int .i64 now, .slice A n c]) := Lib.hid (by rw [hV]; exact (Box.made _ _ _).over _)
  have HT : Hid (MapE V (w.heap.size + 1) []) := Lib.hid (by rw [hV]; have := MapE.made (w.alloc (.cells #[.int .i64 now, .slice A n c] 79)); simpa using this)
  have HB : Hid (Below w.heap.size w V) := Lib.hid (by rw [hV]; exact ((Below.refl _ _).alloc (Nat.le_refl _) _).alloc (by simp) _)
  have HZ : Hid (w.heap.size + 2 = V.heap.size) := Lib.hid (by rw [hV]; simp)
  clear hV
  have x0 := HX.out.look 0
  have x1 := HX.out.look 1
  have xl := HX.out.lt
  go_wp2
  clear x0 x1 xl
  go_loopw [10] (fun i wr => ∃ k : Nat, k ≤ n ∧ i = .int .i64 k ∧ Hid (∃ ps : List KV, MapE wr (w.heap.size + 1) ps ∧ ps.length = k ∧ ∀ (j : Nat) (y : Ent), j < k → ys[j]? = some y → ∃ E m c F m' d, ps[j]? = some ⟨y.l.typ, y.l.id, y.l.adv, .agg (entCells y.l y.at_ E F m c m' d)⟩ ∧ LsaIn q lo hi w E m F m' y.l) ∧ Hid (Below w.heap.size w wr) ∧ Hid (V.heap.size ≤ wr.heap.size)) (fun i _ => n - (intOf i).toNat)
  case atStart => exact ⟨0, Nat.zero_le _, rfl, ⟨[], HT.out, rfl, fun j y hj => absurd hj (by omega)⟩, HB, Nat.le_refl _⟩
  case round =>
    obtain ⟨k, hk, rfl, HP, HB, HV⟩ := hrel
    by_cases hlt : k < n
    · obtain ⟨b, o, ⟨l, t⟩, E, F, m1, c1, m1', d1, rfl, hya, hyl, a0, a1, a2, a3, a4, a5, a6, a7, a8, a9, a10⟩ := Rep.ent_at HA0.sl hlt
      have hlt' : (k : Int) < n := by omega
      simp only [] at hyl a0 a1 a2 a3 a4 a5 a6 a7 a8 a9 a10
      replace a0 := (HB.out.cell (World.block_lt_of_cell? w _ a0)).trans a0
      replace a1 := (HB.out.cell (World.block_lt_of_cell? w _ a1)).trans a1
      replace a2 := (HB.out.cell (World.block_lt_of_cell? w _ a2)).trans a2
      replace a3 := (HB.out.cell (World.block_lt_of_cell? w _ a3)).trans a3
      replace a4 := (HB.out.cell (World.block_lt_of_cell? w _ a4)).trans a4
      replace a5 := (HB.out.cell (World.block_lt_of_cell? w _ a5)).trans a5
      replace a6 := (HB.out.cell (World.block_lt_of_cell? w _ a6)).trans a6
      replace a7 := (HB.out.cell (World.block_lt_of_cell? w _ a7)).trans a7
      replace a8 := (HB.out.cell (World.block_lt_of_cell? w _ a8)).trans a8
      replace a9 := (HB.out.cell (World.block_lt_of_cell? w _ a9)).trans a9
      replace a10 := (HB.out.cell (World.block_lt_of_cell? w _ a10)).trans a10
      obtain ⟨ps, hps, hpl, hpf⟩ := HP.out
      have hno : findKV l.typ l.id l.adv ps 0 = none := findKV_none fun p hp => by
        obtain ⟨j, hj⟩ := List.mem_iff_getElem?.1 hp
        have hjk : j < k := by have := (List.getElem?_eq_some_iff.1 hj).1; omega
        have hjy := List.getElem?_eq_getElem (show j < ys.length by omega)
        obtain ⟨_, _, _, _, _, _, h1, _⟩ := hpf j _ hjk hjy
        rw [hj] at h1
        injection h1 with h1
        subst h1
        rw [keyI_comm]
        exact HRS.out.key hjk hjy hya
      have HNO := Lib.hid hno
      have HPS : Hid (MapE (wr.alloc (.cells (entCells l t E F m1 c1 m1' d1) 152)) (w.heap.size + 1) ps) := Lib.hid (hps.grown (World.grownBy_alloc _ _ none) (by simp))
      have HPF := Lib.hid (And.intro hpl hpf)
      have HYA := Lib.hid hya
      have HYL := Lib.hid hyl
      clear hno hps hpl hpf hya hyl HP
      go_wp2_with (refine wpList_update_kI rfl _ _ _ rfl HPS.out ⟨l.typ, l.id, l.adv, .agg (entCells l t E F m1 c1 m1' d1)⟩ rfl rfl rfl HNO.out ?_; intro w3 hm3 hg3)
      go_roundw
      case rel =>
        have h1 := HB.out.size
        have h2 := HZ.out
        have h3 := HV.out
        refine ⟨k + 1, by omega, by go_num, Lib.hid ⟨_, hm3, by simp [HPF.out.1], fun j y hj hy => ?_⟩, Lib.hid ((HB.out.alloc HB.out.size _).grown hg3 (by simp; omega) (fun k e => by injection e with e; omega)), Lib.hid (by have := hg3.size; simp at this; omega)⟩
        by_cases hjk : j < k
        · obtain ⟨E', m', c', F', m2, d', e1, e2⟩ := HPF.out.2 j y hjk hy
          exact ⟨E', m', c', F', m2, d', by rw [List.getElem?_append_left (by have := HPF.out.1; omega)]; exact e1, e2⟩
        · obtain rfl : j = k := by omega
          rw [HYA.out] at hy
          injection hy with hy
          subst hy
          exact ⟨E, m1, c1, F, m1', d1, by rw [List.getElem?_append_right (by have := HPF.out.1; omega), HPF.out.1]; simp, HYL.out⟩
      case measure => simp [intOf]; omega
    · have hkn : k = n := by omega
      subst hkn
      go_wp2
      go_ret
      obtain ⟨ps, hps, hpl, hpf⟩ := HP.out
      refine ⟨_, ps, rfl, hps, Nat.le_succ _, ⟨by omega, fun j y hy => ?_⟩, HB.out⟩
      obtain ⟨E, m, c, F, m', d, e1, e2⟩ := hpf j y (by have := (List.getElem?_eq_some_iff.1 hy).1; omega) hy
      exact ⟨E, m, c, F, m', d, e1, e2.keep fun b h1 h2 => HB.out.block b (by have := HH.out; omega)⟩

end Go.Proofs.Ytakplomopbnekaa

namespace Go.Proofs.Ytakplomopbnekaa
open Go.RowKit
set_option linter.unusedVariables false

theorem firstC_zero {now : Int} : ∀ {ys : List Ent}, firstC now ys = 0 → ∀ y ∈ ys, entC now y = 0
  | [], _, y, h => by cases h
  | e :: t, h, y, hy => by
    unfold firstC at h
    by_cases he : entC now e = 0
    · rw [if_pos he] at h
      rcases List.mem_cons.1 hy with rfl | hy
      · exact he
      · exact firstC_zero h y hy
    · rw [if_neg he] at h; exact absurd h he
theorem firstC_three {now : Int} : ∀ {ys : List Ent}, 0 ≤ firstC now ys → True := fun _ => trivial
theorem faultB_ok {now : Int} {ys : List Ent} (h : faultB now ys = 0) : (0 ≤ now ∧ now ≤ 1000000) ∧ Rising ys ∧ ∀ y ∈ ys, (0 ≤ y.l.age ∧ y.l.age ≤ 3600) ∧ 0 ≤ y.at_ ∧ y.at_ ≤ now := by
  by_cases h1 : 0 ≤ now ∧ now ≤ 1000000
  · by_cases h2 : 40 < ys.length
    · rw [faultB_2 h1 h2] at h; cases h
    · by_cases h3 : firstC now ys = 0
      · by_cases h4 : Rising ys
        · refine ⟨h1, h4, fun y hy => ?_⟩
          have he := firstC_zero h3 y hy
          unfold entC at he
          by_cases hf : faultOf y.l = 0
          · rw [if_pos hf] at he
            by_cases hg : 0 ≤ y.at_ ∧ y.at_ ≤ now ∧ ageE now y.l y.at_ < 3600
            · exact ⟨(sound_of y.l hf).age, hg.1, hg.2.1⟩
            · rw [if_neg hg] at he; cases he
          · rw [if_neg hf] at he; exact absurd he hf
        · rw [faultB_5 h1 h2 h3 h4] at h; cases h
      · rw [faultB_3 h1 h2 h3] at h; exact absurd h h3
  · rw [faultB_1 h1] at h; cases h
theorem lookC_bad {now x y z : Int} {ys : List Ent} (h : ¬ faultB now ys = 0) : lookC now x y z ys = faultB now ys ∧ lookM now x y z ys = zeroL := by
  unfold lookC lookM; rw [if_neg h, if_neg h]; exact ⟨rfl, rfl⟩
theorem lookC_no {now x y z : Int} {ys : List Ent} (h : faultB now ys = 0) (h2 : lookI x y z ys = none) : lookC now x y z ys = 4 ∧ lookM now x y z ys = zeroL := by
  unfold lookC lookM; rw [if_pos h, if_pos h, h2]; exact ⟨rfl, rfl⟩
theorem lookC_yes {now x y z : Int} {ys : List Ent} {i : Nat} {l : LsaM} {t : Int} (h : faultB now ys = 0) (h2 : lookI x y z ys = some i) (h3 : ys[i]? = some ⟨l, t⟩) : lookC now x y z ys = 0 ∧ lookM now x y z ys = { l with age := ageE now l t } := by
  unfold lookC lookM; rw [if_pos h, if_pos h, h2]; simp only [h3]; exact ⟨trivial, trivial⟩

theorem ent_ends {q : Bool} {lo hi : Nat} {w : World} {b o n : Nat} {ys : List Ent} {i : Nat} {l : LsaM} {t : Int} (h : Rep.ent.Sl q lo hi w (some ⟨b, o, none⟩) n ys) (hi2 : i < n) (he : ys[i]? = some ⟨l, t⟩) :
    w.cell? ⟨b, o + i * 11, none⟩ = some (.int .i64 l.age) ∧ w.cell? ⟨b, o + i * 11 + 10, none⟩ = some (.int .i64 t) := by
  obtain ⟨b2, o2, e0, E, F, m, c1, m', d1, e1, hya, hyl, a0, a1, a2, a3, a4, a5, a6, a7, a8, a9, a10⟩ := Rep.ent_at h hi2
  injection e1 with e1
  injection e1 with e1 e2
  subst e1 e2
  rw [he] at hya
  injection hya with hya
  subst hya
  exact ⟨a0, a10⟩
theorem l5Age_below (l : LsaM) (t now v : Int) (g b o : Nat) (w : World) (hg : w.cell? ⟨g, 0, none⟩ = some (.int .i64 now)) (ha : w.cell? ⟨b, o, none⟩ = some (.int .i64 l.age) ∧ w.cell? ⟨b, o + 10, none⟩ = some (.int .i64 t))
    (h0 : 0 ≤ l.age) (h1 : l.age ≤ 3600) (h2 : 0 ≤ now) (h3 : now ≤ 1000000) (h4 : 0 ≤ t) (h5 : t ≤ now) (hv : ageE now l t = v) :
    Calls Try.prog 110 #[.pointer (some ⟨g, 0, none⟩), .pointer (some ⟨b, o, none⟩)] w fun e w' => e = .returned (.int .i64 v) ∧ Below w.heap.size w w' :=
  (l5Age_any l t now g b o w hg ha.1 ha.2 h0 h1 h2 h3 h4 h5).mono fun e w' ⟨h, m, hm⟩ => ⟨by rw [h, hv], by rw [hm]; exact below_drewN (Below.refl _ _) m⟩

set_option maxRecDepth 100000 in
set_option maxHeartbeats 3200000 in
theorem l5Lookup_no (x y z now : Int) (g : Nat) (q : Bool) (lo hi : Nat) (A : Option Addr) (n c : Nat) (ys : List Ent) (w : World) (hx : Kept g (g + 1) (BoxK g 79 #[.int .i64 now, .slice A n c]) w) (ha : Rep.ent.Sl q lo hi w A n ys) (hh : hi ≤ w.heap.size) (hn : n ≤ 1048576) (hi2 : lookI x y z ys = none) :
    Calls Try.prog 120 #[.pointer (some ⟨g, 0, none⟩), kV x y z] w fun e w' => e = .returned (.tuple #[.agg (lsaCells zeroL none none 0 0 0 0), .bool false]) ∧ Below w.heap.size w w' := by
  have HB := Lib.hid (Below.refl w.heap.size w)
  have HA := Rep.Sl.kept ha hh
  have Z0 := Lib.hid hh
  have HXB := hx
  have Zg := Lib.hid hx.le
  have HR : Hid (lookZ x y z ys = -1) := Lib.hid (by unfold lookZ; rw [hi2])
  clear hx hi2
  clear ha
  go_enter Try.func120, Try.ntmps120
  have l1_0 := HXB.bx.lt
  go_wp2_with fail
  clear l1_0
  refine Calls.name ?_
  intro U1 hU1
  have hb : Below w.heap.size w U1 := by rw [hU1]; exact (((Below.refl _ _).alloc (Nat.le_refl _) _).alloc (by simp <;> omega) _)
  have zz : Hid (w.heap.size + 2 = U1.heap.size) := Lib.hid (by rw [hU1]; simp)
  have HX1 : Kept w.heap.size (w.heap.size + 1) (BoxK w.heap.size 34 #[.int .i64 x, .int .i64 y, .int .i64 z]) U1 := by rw [hU1]; exact Kept.box ((Box.made_at _ _ _ rfl).over _)
  have HX2 : Kept (w.heap.size + 1) (w.heap.size + 1 + 1) (BoxK (w.heap.size + 1) 93 #[.int .i64 0, .int .i64 0, .int .i64 0, .int .i64 0, .int .i64 0, .int .i64 0, .slice none 0 0, .slice none 0 0, .int .i64 0, .int .i64 0]) U1 := by rw [hU1]; exact Kept.box (Box.made_at _ _ _ (by simp <;> omega))
  replace HXB := HXB.below hb
  replace HA := HA.below hb
  replace HB := Lib.hid (below_step HB.out hb)
  clear hb
  have Z1 := zz; clear zz
  clear hU1
  refine (l5Find_any x y z now g q lo hi A n c ys _ HXB HA.sl HA.le hn).mono ?_
  rw [HR.out]
  rintro e w2 ⟨rfl, hb⟩
  have Z2 := Lib.hid hb.size
  replace HXB := HXB.below hb
  replace HA := HA.below hb
  replace HX1 := HX1.below hb
  replace HX2 := HX2.below hb
  replace HB := Lib.hid (below_step HB.out hb)
  clear hb
  have c2_0 := HX2.look 0
  have c2_1 := HX2.look 1
  have c2_2 := HX2.look 2
  have c2_3 := HX2.look 3
  have c2_4 := HX2.look 4
  have c2_5 := HX2.look 5
  have c2_6 := HX2.look 6
  have c2_7 := HX2.look 7
  have c2_8 := HX2.look 8
  have c2_9 := HX2.look 9
  have f2_0 := HX2.free 0
  have f2_1 := HX2.free 1
  have f2_2 := HX2.free 2
  have f2_3 := HX2.free 3
  have f2_4 := HX2.free 4
  have f2_5 := HX2.free 5
  have f2_6 := HX2.free 6
  have f2_7 := HX2.free 7
  have f2_8 := HX2.free 8
  have f2_9 := HX2.free 9
  have l2_0 := HXB.bx.lt
  have l2_1 := HX1.bx.lt
  have l2_2 := HX2.bx.lt
  go_wp2
  clear c2_0 c2_1 c2_2 c2_3 c2_4 c2_5 c2_6 c2_7 c2_8 c2_9 f2_0 f2_1 f2_2 f2_3 f2_4 f2_5 f2_6 f2_7 f2_8 f2_9 l2_0 l2_1 l2_2
  obtain ⟨U3, hU3⟩ : ∃ W : World, W = ((((((((((w2.setCell ⟨w.heap.size + 1, 0, none⟩ (.int .i64 0)).setCell ⟨w.heap.size + 1, 1, none⟩ (.int .i64 0)).setCell ⟨w.heap.size + 1, 2, none⟩ (.int .i64 0)).setCell ⟨w.heap.size + 1, 3, none⟩ (.int .i64 0)).setCell ⟨w.heap.size + 1, 4, none⟩ (.int .i64 0)).setCell ⟨w.heap.size + 1, 5, none⟩ (.int .i64 0)).setCell ⟨w.heap.size + 1, 6, none⟩ (.slice none 0 0)).setCell ⟨w.heap.size + 1, 7, none⟩ (.slice none 0 0)).setCell ⟨w.heap.size + 1, 8, none⟩ (.int .i64 0)).setCell ⟨w.heap.size + 1, 9, none⟩ (.int .i64 0)) := ⟨_, rfl⟩
  have ho : Only (w.heap.size + 1) (w.heap.size + 1 + 1) w2 U3 := by rw [hU3]; exact (((((((((((Only.refl _ _ _).set (p := ⟨w.heap.size + 1, 0, none⟩) (Nat.le_refl _) (Nat.lt_succ_self _) _).set (p := ⟨w.heap.size + 1, 1, none⟩) (Nat.le_refl _) (Nat.lt_succ_self _) _).set (p := ⟨w.heap.size + 1, 2, none⟩) (Nat.le_refl _) (Nat.lt_succ_self _) _).set (p := ⟨w.heap.size + 1, 3, none⟩) (Nat.le_refl _) (Nat.lt_succ_self _) _).set (p := ⟨w.heap.size + 1, 4, none⟩) (Nat.le_refl _) (Nat.lt_succ_self _) _).set (p := ⟨w.heap.size + 1, 5, none⟩) (Nat.le_refl _) (Nat.lt_succ_self _) _).set (p := ⟨w.heap.size + 1, 6, none⟩) (Nat.le_refl _) (Nat.lt_succ_self _) _).set (p := ⟨w.heap.size + 1, 7, none⟩) (Nat.le_refl _) (Nat.lt_succ_self _) _).set (p := ⟨w.heap.size + 1, 8, none⟩) (Nat.le_refl _) (Nat.lt_succ_self _) _).set (p := ⟨w.heap.size + 1, 9, none⟩) (Nat.le_refl _) (Nat.lt_succ_self _) _)
  replace HX2 : Kept (w.heap.size + 1) (w.heap.size + 1 + 1) (BoxK (w.heap.size + 1) 93 #[.int .i64 0, .int .i64 0, .int .i64 0, .int .i64 0, .int .i64 0, .int .i64 0, .slice none 0 0, .slice none 0 0, .int .i64 0, .int .i64 0]) U3 := by rw [hU3]; exact Kept.box ((((((((((HX2.bx.puts 0 (.int .i64 0) (cs' := #[.int .i64 0, .int .i64 0, .int .i64 0, .int .i64 0, .int .i64 0, .int .i64 0, .slice none 0 0, .slice none 0 0, .int .i64 0, .int .i64 0]) rfl).puts 1 (.int .i64 0) (cs' := #[.int .i64 0, .int .i64 0, .int .i64 0, .int .i64 0, .int .i64 0, .int .i64 0, .slice none 0 0, .slice none 0 0, .int .i64 0, .int .i64 0]) rfl).puts 2 (.int .i64 0) (cs' := #[.int .i64 0, .int .i64 0, .int .i64 0, .int .i64 0, .int .i64 0, .int .i64 0, .slice none 0 0, .slice none 0 0, .int .i64 0, .int .i64 0]) rfl).puts 3 (.int .i64 0) (cs' := #[.int .i64 0, .int .i64 0, .int .i64 0, .int .i64 0, .int .i64 0, .int .i64 0, .slice none 0 0, .slice none 0 0, .int .i64 0, .int .i64 0]) rfl).puts 4 (.int .i64 0) (cs' := #[.int .i64 0, .int .i64 0, .int .i64 0, .int .i64 0, .int .i64 0, .int .i64 0, .slice none 0 0, .slice none 0 0, .int .i64 0, .int .i64 0]) rfl).puts 5 (.int .i64 0) (cs' := #[.int .i64 0, .int .i64 0, .int .i64 0, .int .i64 0, .int .i64 0, .int .i64 0, .slice none 0 0, .slice none 0 0, .int .i64 0, .int .i64 0]) rfl).puts 6 (.slice none 0 0) (cs' := #[.int .i64 0, .int .i64 0, .int .i64 0, .int .i64 0, .int .i64 0, .int .i64 0, .slice none 0 0, .slice none 0 0, .int .i64 0, .int .i64 0]) rfl).puts 7 (.slice none 0 0) (cs' := #[.int .i64 0, .int .i64 0, .int .i64 0, .int .i64 0, .int .i64 0, .int .i64 0, .slice none 0 0, .slice none 0 0, .int .i64 0, .int .i64 0]) rfl).puts 8 (.int .i64 0) (cs' := #[.int .i64 0, .int .i64 0, .int .i64 0, .int .i64 0, .int .i64 0, .int .i64 0, .slice none 0 0, .slice none 0 0, .int .i64 0, .int .i64 0]) rfl).puts 9 (.int .i64 0) (cs' := #[.int .i64 0, .int .i64 0, .int .i64 0, .int .i64 0, .int .i64 0, .int .i64 0, .slice none 0 0, .slice none 0 0, .int .i64 0, .int .i64 0]) rfl)
  replace HXB := HXB.only ho (by have := Z0.out; have := Zg.out; have := Z1.out; have := Z2.out; omega)
  replace HA := HA.only ho (by have := Z0.out; have := Zg.out; have := Z1.out; have := Z2.out; omega)
  replace HX1 := HX1.only ho (by have := Z0.out; have := Zg.out; have := Z1.out; have := Z2.out; omega)
  replace HB := Lib.hid (Below.only HB.out ho (by have := Z0.out; have := Zg.out; have := Z1.out; have := Z2.out; omega) HB.out.size)
  have Z3 : Hid (U3.heap.size = w2.heap.size) := Lib.hid (by rw [hU3]; simp [World.setCell]); clear ho
  have q0_0 := HX2.look 0
  have q0_1 := HX2.look 1
  have q0_2 := HX2.look 2
  have q0_3 := HX2.look 3
  have q0_4 := HX2.look 4
  have q0_5 := HX2.look 5
  have q0_6 := HX2.look 6
  have q0_7 := HX2.look 7
  have q0_8 := HX2.look 8
  have q0_9 := HX2.look 9
  have fin : ∀ e, e = Ending.returned (.tuple #[.agg (lsaCells zeroL none none 0 0 0 0), .bool false]) → (e = .returned (.tuple #[.agg (lsaCells zeroL none none 0 0 0 0), .bool false]) ∧ Below w.heap.size w U3) := by rintro _ rfl; exact ⟨rfl, HB.out⟩
  subst hU3
  exact bodyPost_ret (v := .tuple #[.agg (lsaCells zeroL none none 0 0 0 0), .bool false]) (by simp [results, Try.results120, go_sem, lsaCells, zeroL, q0_0, q0_1, q0_2, q0_3, q0_4, q0_5, q0_6, q0_7, q0_8, q0_9]) rfl (fin _ rfl)

set_option maxRecDepth 100000 in
set_option maxHeartbeats 3200000 in
theorem l5Lookup_yes (x y z now : Int) (g : Nat) (q : Bool) (lo hi : Nat) (A : Option Addr) (n c : Nat) (ys : List Ent) (i : Nat) (l : LsaM) (t : Int) (w : World) (hx : Kept g (g + 1) (BoxK g 79 #[.int .i64 now, .slice A n c]) w) (ha : Rep.ent.Sl q lo hi w A n ys) (hh : hi ≤ w.heap.size) (hn : n ≤ 1048576) (hm : ∀ y ∈ ys, y.l.links.length ≤ 1048576 ∧ y.l.routers.length ≤ 1048576) (hi2 : lookI x y z ys = some i) (he : ys[i]? = some ⟨l, t⟩) (h0 : 0 ≤ l.age) (h1 : l.age ≤ 3600) (h2 : 0 ≤ now) (h3 : now ≤ 1000000) (h4 : 0 ≤ t) (h5 : t ≤ now) :
    Calls Try.prog 120 #[.pointer (some ⟨g, 0, none⟩), kV x y z] w fun e w' => ∃ A' B' m c' m' d', e = .returned (.tuple #[.agg (lsaCells { l with age := ageE now l t } A' B' m c' m' d'), .bool true]) ∧ LsaTwo w.heap.size w'.heap.size w' A' m B' m' { l with age := ageE now l t } ∧ m ≤ 1048576 ∧ m' ≤ 1048576 ∧ Below w.heap.size w w' := by
  have HB := Lib.hid (Below.refl w.heap.size w)
  have HA := Rep.Sl.kept ha hh
  have Z0 := Lib.hid hh
  have HXB := hx
  have Zg := Lib.hid hx.le
  have HR : Hid (lookZ x y z ys = (i : Int)) := Lib.hid (by unfold lookZ; rw [hi2])
  have hin : i < n := by have := (List.getElem?_eq_some_iff.1 he).1; have := ha.1; omega
  have hmm := hm _ (List.mem_of_getElem? he)
  have HE := Lib.hid he
  obtain ⟨v, hv⟩ : ∃ v, ageE now l t = v := ⟨_, rfl⟩
  have HV := Lib.hid hv
  rw [hv]
  clear hm he hv
  clear hx hi2
  clear ha
  go_enter Try.func120, Try.ntmps120
  have l1_0 := HXB.bx.lt
  go_wp2_with fail
  clear l1_0
  refine Calls.name ?_
  intro U1 hU1
  have hb : Below w.heap.size w U1 := by rw [hU1]; exact (((Below.refl _ _).alloc (Nat.le_refl _) _).alloc (by simp <;> omega) _)
  have zz : Hid (w.heap.size + 2 = U1.heap.size) := Lib.hid (by rw [hU1]; simp)
  have HX1 : Kept w.heap.size (w.heap.size + 1) (BoxK w.heap.size 34 #[.int .i64 x, .int .i64 y, .int .i64 z]) U1 := by rw [hU1]; exact Kept.box ((Box.made_at _ _ _ rfl).over _)
  have HX2 : Kept (w.heap.size + 1) (w.heap.size + 1 + 1) (BoxK (w.heap.size + 1) 93 #[.int .i64 0, .int .i64 0, .int .i64 0, .int .i64 0, .int .i64 0, .int .i64 0, .slice none 0 0, .slice none 0 0, .int .i64 0, .int .i64 0]) U1 := by rw [hU1]; exact Kept.box (Box.made_at _ _ _ (by simp <;> omega))
  replace HXB := HXB.below hb
  replace HA := HA.below hb
  replace HB := Lib.hid (below_step HB.out hb)
  clear hb
  have Z1 := zz; clear zz
  clear hU1
  refine (l5Find_any x y z now g q lo hi A n c ys _ HXB HA.sl HA.le hn).mono ?_
  rw [HR.out]
  rintro e w2 ⟨rfl, hb⟩
  have Z2 := Lib.hid hb.size
  replace HXB := HXB.below hb
  replace HA := HA.below hb
  replace HX1 := HX1.below hb
  replace HX2 := HX2.below hb
  replace HB := Lib.hid (below_step HB.out hb)
  clear hb
  obtain ⟨b, o, e0, E, F, m, c1, m', d1, rfl, hya, hyl, a0, a1, a2, a3, a4, a5, a6, a7, a8, a9, a10⟩ := Rep.ent_at HA.sl hin
  obtain rfl : e0 = ⟨l, t⟩ := by have := HE.out; rw [hya] at this; injection this
  simp only [] at hyl a0 a1 a2 a3 a4 a5 a6 a7 a8 a9 a10
  have hin' : (i : Int) < n := by omega
  rw [show l.links.length = m from hyl.links.1, show l.routers.length = m' from hyl.routers.1] at hmm
  have HL := (show LsaAt q lo hi w2 E m F m' l from ⟨hyl, HA.le⟩).kept
  clear hya hyl
  have c2_0 := HXB.look 1
  have l2_0 := HXB.bx.lt
  have l2_1 := HX1.bx.lt
  have l2_2 := HX2.bx.lt
  go_wp2_with fail
  clear c2_0 l2_0 l2_1 l2_2
  refine (l2Copy_any l q lo hi E F m c1 m' d1 _ HL.lsa hmm.1 hmm.2).mono ?_
  rintro e w3 ⟨A', B', c', d', rfl, ht, hb⟩
  have Z3 := Lib.hid hb.size
  replace HXB := HXB.below hb
  replace HA := HA.below hb
  replace HX1 := HX1.below hb
  replace HX2 := HX2.below hb
  replace HL := HL.below hb
  replace HB := Lib.hid (below_step HB.out hb)
  clear hb
  have HT := ht.kept; clear ht
  have c3_0 := HXB.look 1
  have l3_0 := HXB.bx.lt
  have l3_1 := HX1.bx.lt
  have l3_2 := HX2.bx.lt
  go_wp2_with fail
  clear c3_0 l3_0 l3_1 l3_2
  refine Calls.name ?_
  intro U4 hU4
  have hb : Below w3.heap.size w3 U4 := by rw [hU4]; exact ((Below.refl _ _).alloc (Nat.le_refl _) _)
  have zz : Hid (w3.heap.size + 1 = U4.heap.size) := Lib.hid (by rw [hU4]; simp)
  have HX3 : Kept w3.heap.size (w3.heap.size + 1) (BoxK w3.heap.size 93 #[.int .i64 l.age, .int .i64 l.options, .int .i64 l.typ, .int .i64 l.id, .int .i64 l.adv, .int .i64 l.seq, .slice A' m c', .slice B' m' d', .int .i64 l.mask, .int .i64 l.cost]) U4 := by rw [hU4]; exact Kept.box (Box.made_at _ _ _ rfl)
  replace HXB := HXB.below hb
  replace HA := HA.below hb
  replace HX1 := HX1.below hb
  replace HX2 := HX2.below hb
  replace HL := HL.below hb
  replace HT := HT.below hb
  replace HB := Lib.hid (below_step HB.out hb)
  clear hb
  have Z4 := zz; clear zz
  clear hU4
  refine (l5Age_below l t now v g b (o + i * 11) _ (HXB.look 0) (ent_ends HA.sl hin HE.out) h0 h1 h2 h3 h4 h5 HV.out).mono ?_
  rintro e w5 ⟨rfl, hb⟩
  have Z5 := Lib.hid hb.size
  replace HXB := HXB.below hb
  replace HA := HA.below hb
  replace HX1 := HX1.below hb
  replace HX2 := HX2.below hb
  replace HL := HL.below hb
  replace HT := HT.below hb
  replace HX3 := HX3.below hb
  replace HB := Lib.hid (below_step HB.out hb)
  clear hb
  have c4_0 := HX2.look 0
  have c4_1 := HX2.look 1
  have c4_2 := HX2.look 2
  have c4_3 := HX2.look 3
  have c4_4 := HX2.look 4
  have c4_5 := HX2.look 5
  have c4_6 := HX2.look 6
  have c4_7 := HX2.look 7
  have c4_8 := HX2.look 8
  have c4_9 := HX2.look 9
  have c4_10 := HX3.look 0
  have c4_11 := HX3.look 1
  have c4_12 := HX3.look 2
  have c4_13 := HX3.look 3
  have c4_14 := HX3.look 4
  have c4_15 := HX3.look 5
  have c4_16 := HX3.look 6
  have c4_17 := HX3.look 7
  have c4_18 := HX3.look 8
  have c4_19 := HX3.look 9
  have f4_0 := HX2.free 0
  have f4_1 := HX2.free 1
  have f4_2 := HX2.free 2
  have f4_3 := HX2.free 3
  have f4_4 := HX2.free 4
  have f4_5 := HX2.free 5
  have f4_6 := HX2.free 6
  have f4_7 := HX2.free 7
  have f4_8 := HX2.free 8
  have f4_9 := HX2.free 9
  have f4_10 := HX3.free 0
  have l4_0 := HXB.bx.lt
  have l4_1 := HX1.bx.lt
  have l4_2 := HX2.bx.lt
  have l4_3 := HX3.bx.lt
  have n4_0_1 : ¬ (w.heap.size + 1) = w3.heap.size := (by have := Z0.out; have := Zg.out; have := Z1.out; have := Z2.out; have := Z3.out; have := Z4.out; have := Z5.out; omega)
  have m4_0_1 : ¬ w3.heap.size = (w.heap.size + 1) := (by have := Z0.out; have := Zg.out; have := Z1.out; have := Z2.out; have := Z3.out; have := Z4.out; have := Z5.out; omega)
  go_wp2
  clear c4_0 c4_1 c4_2 c4_3 c4_4 c4_5 c4_6 c4_7 c4_8 c4_9 c4_10 c4_11 c4_12 c4_13 c4_14 c4_15 c4_16 c4_17 c4_18 c4_19 f4_0 f4_1 f4_2 f4_3 f4_4 f4_5 f4_6 f4_7 f4_8 f4_9 f4_10 l4_0 l4_1 l4_2 l4_3 n4_0_1 m4_0_1
  obtain ⟨U6, hU6⟩ : ∃ W : World, W = (w5.setCell ⟨w3.heap.size, 0, none⟩ (.int .i64 v)) := ⟨_, rfl⟩
  have ho : Only w3.heap.size (w3.heap.size + 1) w5 U6 := by rw [hU6]; exact ((Only.refl _ _ _).set (p := ⟨w3.heap.size, 0, none⟩) (Nat.le_refl _) (Nat.lt_succ_self _) _)
  replace HX3 : Kept w3.heap.size (w3.heap.size + 1) (BoxK w3.heap.size 93 #[.int .i64 v, .int .i64 l.options, .int .i64 l.typ, .int .i64 l.id, .int .i64 l.adv, .int .i64 l.seq, .slice A' m c', .slice B' m' d', .int .i64 l.mask, .int .i64 l.cost]) U6 := by rw [hU6]; exact Kept.box (HX3.bx.puts 0 (.int .i64 v) (cs' := #[.int .i64 v, .int .i64 l.options, .int .i64 l.typ, .int .i64 l.id, .int .i64 l.adv, .int .i64 l.seq, .slice A' m c', .slice B' m' d', .int .i64 l.mask, .int .i64 l.cost]) rfl)
  replace HXB := HXB.only ho (by have := Z0.out; have := Zg.out; have := Z1.out; have := Z2.out; have := Z3.out; have := Z4.out; have := Z5.out; omega)
  replace HA := HA.only ho (by have := Z0.out; have := Zg.out; have := Z1.out; have := Z2.out; have := Z3.out; have := Z4.out; have := Z5.out; omega)
  replace HX1 := HX1.only ho (by have := Z0.out; have := Zg.out; have := Z1.out; have := Z2.out; have := Z3.out; have := Z4.out; have := Z5.out; omega)
  replace HX2 := HX2.only ho (by have := Z0.out; have := Zg.out; have := Z1.out; have := Z2.out; have := Z3.out; have := Z4.out; have := Z5.out; omega)
  replace HL := HL.only ho (by have := Z0.out; have := Zg.out; have := Z1.out; have := Z2.out; have := Z3.out; have := Z4.out; have := Z5.out; omega)
  replace HT := HT.only ho (by have := Z0.out; have := Zg.out; have := Z1.out; have := Z2.out; have := Z3.out; have := Z4.out; have := Z5.out; omega)
  replace HB := Lib.hid (Below.only HB.out ho (by have := Z0.out; have := Zg.out; have := Z1.out; have := Z2.out; have := Z3.out; have := Z4.out; have := Z5.out; omega) HB.out.size)
  have Z6 : Hid (U6.heap.size = w5.heap.size) := Lib.hid (by rw [hU6]; simp [World.setCell]); clear ho
  obtain ⟨U7, hU7⟩ : ∃ W : World, W = ((((((((((U6.setCell ⟨w.heap.size + 1, 0, none⟩ (.int .i64 v)).setCell ⟨w.heap.size + 1, 1, none⟩ (.int .i64 l.options)).setCell ⟨w.heap.size + 1, 2, none⟩ (.int .i64 l.typ)).setCell ⟨w.heap.size + 1, 3, none⟩ (.int .i64 l.id)).setCell ⟨w.heap.size + 1, 4, none⟩ (.int .i64 l.adv)).setCell ⟨w.heap.size + 1, 5, none⟩ (.int .i64 l.seq)).setCell ⟨w.heap.size + 1, 6, none⟩ (.slice A' m c')).setCell ⟨w.heap.size + 1, 7, none⟩ (.slice B' m' d')).setCell ⟨w.heap.size + 1, 8, none⟩ (.int .i64 l.mask)).setCell ⟨w.heap.size + 1, 9, none⟩ (.int .i64 l.cost)) := ⟨_, rfl⟩
  have ho : Only (w.heap.size + 1) (w.heap.size + 1 + 1) U6 U7 := by rw [hU7]; exact (((((((((((Only.refl _ _ _).set (p := ⟨w.heap.size + 1, 0, none⟩) (Nat.le_refl _) (Nat.lt_succ_self _) _).set (p := ⟨w.heap.size + 1, 1, none⟩) (Nat.le_refl _) (Nat.lt_succ_self _) _).set (p := ⟨w.heap.size + 1, 2, none⟩) (Nat.le_refl _) (Nat.lt_succ_self _) _).set (p := ⟨w.heap.size + 1, 3, none⟩) (Nat.le_refl _) (Nat.lt_succ_self _) _).set (p := ⟨w.heap.size + 1, 4, none⟩) (Nat.le_refl _) (Nat.lt_succ_self _) _).set (p := ⟨w.heap.size + 1, 5, none⟩) (Nat.le_refl _) (Nat.lt_succ_self _) _).set (p := ⟨w.heap.size + 1, 6, none⟩) (Nat.le_refl _) (Nat.lt_succ_self _) _).set (p := ⟨w.heap.size + 1, 7, none⟩) (Nat.le_refl _) (Nat.lt_succ_self _) _).set (p := ⟨w.heap.size + 1, 8, none⟩) (Nat.le_refl _) (Nat.lt_succ_self _) _).set (p := ⟨w.heap.size + 1, 9, none⟩) (Nat.le_refl _) (Nat.lt_succ_self _) _)
  replace HX2 : Kept (w.heap.size + 1) (w.heap.size + 1 + 1) (BoxK (w.heap.size + 1) 93 #[.int .i64 v, .int .i64 l.options, .int .i64 l.typ, .int .i64 l.id, .int .i64 l.adv, .int .i64 l.seq, .slice A' m c', .slice B' m' d', .int .i64 l.mask, .int .i64 l.cost]) U7 := by rw [hU7]; exact Kept.box ((((((((((HX2.bx.puts 0 (.int .i64 v) (cs' := #[.int .i64 v, .int .i64 0, .int .i64 0, .int .i64 0, .int .i64 0, .int .i64 0, .slice none 0 0, .slice none 0 0, .int .i64 0, .int .i64 0]) rfl).puts 1 (.int .i64 l.options) (cs' := #[.int .i64 v, .int .i64 l.options, .int .i64 0, .int .i64 0, .int .i64 0, .int .i64 0, .slice none 0 0, .slice none 0 0, .int .i64 0, .int .i64 0]) rfl).puts 2 (.int .i64 l.typ) (cs' := #[.int .i64 v, .int .i64 l.options, .int .i64 l.typ, .int .i64 0, .int .i64 0, .int .i64 0, .slice none 0 0, .slice none 0 0, .int .i64 0, .int .i64 0]) rfl).puts 3 (.int .i64 l.id) (cs' := #[.int .i64 v, .int .i64 l.options, .int .i64 l.typ, .int .i64 l.id, .int .i64 0, .int .i64 0, .slice none 0 0, .slice none 0 0, .int .i64 0, .int .i64 0]) rfl).puts 4 (.int .i64 l.adv) (cs' := #[.int .i64 v, .int .i64 l.options, .int .i64 l.typ, .int .i64 l.id, .int .i64 l.adv, .int .i64 0, .slice none 0 0, .slice none 0 0, .int .i64 0, .int .i64 0]) rfl).puts 5 (.int .i64 l.seq) (cs' := #[.int .i64 v, .int .i64 l.options, .int .i64 l.typ, .int .i64 l.id, .int .i64 l.adv, .int .i64 l.seq, .slice none 0 0, .slice none 0 0, .int .i64 0, .int .i64 0]) rfl).puts 6 (.slice A' m c') (cs' := #[.int .i64 v, .int .i64 l.options, .int .i64 l.typ, .int .i64 l.id, .int .i64 l.adv, .int .i64 l.seq, .slice A' m c', .slice none 0 0, .int .i64 0, .int .i64 0]) rfl).puts 7 (.slice B' m' d') (cs' := #[.int .i64 v, .int .i64 l.options, .int .i64 l.typ, .int .i64 l.id, .int .i64 l.adv, .int .i64 l.seq, .slice A' m c', .slice B' m' d', .int .i64 0, .int .i64 0]) rfl).puts 8 (.int .i64 l.mask) (cs' := #[.int .i64 v, .int .i64 l.options, .int .i64 l.typ, .int .i64 l.id, .int .i64 l.adv, .int .i64 l.seq, .slice A' m c', .slice B' m' d', .int .i64 l.mask, .int .i64 0]) rfl).puts 9 (.int .i64 l.cost) (cs' := #[.int .i64 v, .int .i64 l.options, .int .i64 l.typ, .int .i64 l.id, .int .i64 l.adv, .int .i64 l.seq, .slice A' m c', .slice B' m' d', .int .i64 l.mask, .int .i64 l.cost]) rfl)
  replace HXB := HXB.only ho (by have := Z0.out; have := Zg.out; have := Z1.out; have := Z2.out; have := Z3.out; have := Z4.out; have := Z5.out; have := Z6.out; omega)
  replace HA := HA.only ho (by have := Z0.out; have := Zg.out; have := Z1.out; have := Z2.out; have := Z3.out; have := Z4.out; have := Z5.out; have := Z6.out; omega)
  replace HX1 := HX1.only ho (by have := Z0.out; have := Zg.out; have := Z1.out; have := Z2.out; have := Z3.out; have := Z4.out; have := Z5.out; have := Z6.out; omega)
  replace HL := HL.only ho (by have := Z0.out; have := Zg.out; have := Z1.out; have := Z2.out; have := Z3.out; have := Z4.out; have := Z5.out; have := Z6.out; omega)
  replace HT := HT.only ho (by have := Z0.out; have := Zg.out; have := Z1.out; have := Z2.out; have := Z3.out; have := Z4.out; have := Z5.out; have := Z6.out; omega)
  replace HX3 := HX3.only ho (by have := Z0.out; have := Zg.out; have := Z1.out; have := Z2.out; have := Z3.out; have := Z4.out; have := Z5.out; have := Z6.out; omega)
  replace HB := Lib.hid (Below.only HB.out ho (by have := Z0.out; have := Zg.out; have := Z1.out; have := Z2.out; have := Z3.out; have := Z4.out; have := Z5.out; have := Z6.out; omega) HB.out.size)
  have Z7 : Hid (U7.heap.size = U6.heap.size) := Lib.hid (by rw [hU7]; simp [World.setCell]); clear ho
  have q0_0 := HX2.look 0
  have q0_1 := HX2.look 1
  have q0_2 := HX2.look 2
  have q0_3 := HX2.look 3
  have q0_4 := HX2.look 4
  have q0_5 := HX2.look 5
  have q0_6 := HX2.look 6
  have q0_7 := HX2.look 7
  have q0_8 := HX2.look 8
  have q0_9 := HX2.look 9
  have fin : ∀ e, e = Ending.returned (.tuple #[.agg (lsaCells { l with age := v } A' B' m c' m' d'), .bool true]) → (∃ A' B' m c' m' d', e = .returned (.tuple #[.agg (lsaCells { l with age := v } A' B' m c' m' d'), .bool true]) ∧ LsaTwo w.heap.size U7.heap.size U7 A' m B' m' { l with age := v } ∧ m ≤ 1048576 ∧ m' ≤ 1048576 ∧ Below w.heap.size w U7) := by rintro _ rfl; exact ⟨A', B', m, c', m', d', rfl, LsaTwo.mono (lo' := w.heap.size) (hi' := U7.heap.size) (HT.two.as rfl rfl) (by have := Z0.out; have := Zg.out; have := Z1.out; have := Z2.out; have := Z3.out; have := Z4.out; have := Z5.out; have := Z6.out; have := Z7.out; omega) (by have := Z0.out; have := Zg.out; have := Z1.out; have := Z2.out; have := Z3.out; have := Z4.out; have := Z5.out; have := Z6.out; have := Z7.out; omega) (Nat.le_refl _), hmm.1, hmm.2, HB.out⟩
  subst hU7 hU6
  exact bodyPost_ret (v := .tuple #[.agg (lsaCells { l with age := v } A' B' m c' m' d'), .bool true]) (by simp [results, Try.results120, go_sem, lsaCells, q0_0, q0_1, q0_2, q0_3, q0_4, q0_5, q0_6, q0_7, q0_8, q0_9]) rfl (fin _ rfl)

set_option maxRecDepth 100000 in
set_option maxHeartbeats 3200000 in
theorem specLook_1 (x y z now : Int) (q : Bool) (lo hi : Nat) (A : Option Addr) (n c : Nat) (ys : List Ent) (w : World) (ha : Rep.ent.Sl q lo hi w A n ys) (hh : hi ≤ w.heap.size) (hn : n ≤ 1048576) (hm : ∀ y ∈ ys, y.l.links.length ≤ 1048576 ∧ y.l.routers.length ≤ 1048576) (h : ¬ faultB now ys = 0) :
    Calls Try.prog 58 #[.agg #[.int .i64 now, .slice A n c], kV x y z] w fun e w' => LsaOut w (lookC now x y z ys) (lookM now x y z ys) e w' := by
  have HB := Lib.hid (Below.refl w.heap.size w)
  have HA := Rep.Sl.kept ha hh
  have Z0 := Lib.hid hh
  have HM0 := Lib.hid hm
  obtain ⟨r, hr⟩ : ∃ r, faultB now ys = r := ⟨_, rfl⟩
  have HC : Hid (lookC now x y z ys = r) := Lib.hid (by rw [← hr]; exact (lookC_bad h).1)
  have HM : Hid (lookM now x y z ys = zeroL) := Lib.hid (lookC_bad h).2
  rw [hr] at h
  have HF := Lib.hid hr
  clear hr
  have hne : (r != 0) = true := by rw [bne_iff_ne]; exact h
  clear hm
  clear ha
  go_enter Try.func58, Try.ntmps58
  go_wp2_with fail
  refine Calls.name ?_
  intro U1 hU1
  have hb : Below w.heap.size w U1 := by rw [hU1]; exact ((((Below.refl _ _).alloc (Nat.le_refl _) _).alloc (by simp <;> omega) _).alloc (by simp <;> omega) _)
  have zz : Hid (w.heap.size + 3 = U1.heap.size) := Lib.hid (by rw [hU1]; simp)
  have HX1 : Kept w.heap.size (w.heap.size + 1) (BoxK w.heap.size 79 #[.int .i64 now, .slice A n c]) U1 := by rw [hU1]; exact Kept.box (((Box.made_at _ _ _ rfl).over _).over _)
  have HX2 : Kept (w.heap.size + 1) (w.heap.size + 1 + 1) (BoxK (w.heap.size + 1) 34 #[.int .i64 x, .int .i64 y, .int .i64 z]) U1 := by rw [hU1]; exact Kept.box ((Box.made_at _ _ _ (by simp <;> omega)).over _)
  have HX3 : Kept (w.heap.size + 1 + 1) (w.heap.size + 1 + 1 + 1) (BoxK (w.heap.size + 1 + 1) 95 #[.int .i64 0, .int .i64 0, .int .i64 0, .int .i64 0, .int .i64 0, .int .i64 0, .int .i64 0, .slice none 0 0, .slice none 0 0, .int .i64 0, .int .i64 0]) U1 := by rw [hU1]; exact Kept.box (Box.made_at _ _ _ (by simp <;> omega))
  replace HA := HA.below hb
  replace HB := Lib.hid (below_step HB.out hb)
  clear hb
  have Z1 := zz; clear zz
  clear hU1
  refine (specBaseFault_any now q lo hi A n c ys _ HA.sl HA.le hn HM0.out).mono ?_
  rw [HF.out]
  rintro e w2 ⟨rfl, hb⟩
  have Z2 := Lib.hid hb.size
  replace HA := HA.below hb
  replace HX1 := HX1.below hb
  replace HX2 := HX2.below hb
  replace HX3 := HX3.below hb
  replace HB := Lib.hid (below_step HB.out hb)
  clear hb
  have c2_0 := HX3.look 0
  have c2_1 := HX3.look 1
  have c2_2 := HX3.look 2
  have c2_3 := HX3.look 3
  have c2_4 := HX3.look 4
  have c2_5 := HX3.look 5
  have c2_6 := HX3.look 6
  have c2_7 := HX3.look 7
  have c2_8 := HX3.look 8
  have c2_9 := HX3.look 9
  have c2_10 := HX3.look 10
  have f2_0 := HX3.free 0
  have f2_1 := HX3.free 1
  have f2_2 := HX3.free 2
  have f2_3 := HX3.free 3
  have f2_4 := HX3.free 4
  have f2_5 := HX3.free 5
  have f2_6 := HX3.free 6
  have f2_7 := HX3.free 7
  have f2_8 := HX3.free 8
  have f2_9 := HX3.free 9
  have f2_10 := HX3.free 10
  have l2_0 := HX1.bx.lt
  have l2_1 := HX2.bx.lt
  have l2_2 := HX3.bx.lt
  go_wp2
  clear c2_0 c2_1 c2_2 c2_3 c2_4 c2_5 c2_6 c2_7 c2_8 c2_9 c2_10 f2_0 f2_1 f2_2 f2_3 f2_4 f2_5 f2_6 f2_7 f2_8 f2_9 f2_10 l2_0 l2_1 l2_2
  obtain ⟨U3, hU3⟩ : ∃ W : World, W = (((((((((((w2.setCell ⟨w.heap.size + 1 + 1, 0, none⟩ (.int .i64 r)).setCell ⟨w.heap.size + 1 + 1, 1, none⟩ (.int .i64 0)).setCell ⟨w.heap.size + 1 + 1, 2, none⟩ (.int .i64 0)).setCell ⟨w.heap.size + 1 + 1, 3, none⟩ (.int .i64 0)).setCell ⟨w.heap.size + 1 + 1, 4, none⟩ (.int .i64 0)).setCell ⟨w.heap.size + 1 + 1, 5, none⟩ (.int .i64 0)).setCell ⟨w.heap.size + 1 + 1, 6, none⟩ (.int .i64 0)).setCell ⟨w.heap.size + 1 + 1, 7, none⟩ (.slice none 0 0)).setCell ⟨w.heap.size + 1 + 1, 8, none⟩ (.slice none 0 0)).setCell ⟨w.heap.size + 1 + 1, 9, none⟩ (.int .i64 0)).setCell ⟨w.heap.size + 1 + 1, 10, none⟩ (.int .i64 0)) := ⟨_, rfl⟩
  have ho : Only (w.heap.size + 1 + 1) (w.heap.size + 1 + 1 + 1) w2 U3 := by rw [hU3]; exact ((((((((((((Only.refl _ _ _).set (p := ⟨w.heap.size + 1 + 1, 0, none⟩) (Nat.le_refl _) (Nat.lt_succ_self _) _).set (p := ⟨w.heap.size + 1 + 1, 1, none⟩) (Nat.le_refl _) (Nat.lt_succ_self _) _).set (p := ⟨w.heap.size + 1 + 1, 2, none⟩) (Nat.le_refl _) (Nat.lt_succ_self _) _).set (p := ⟨w.heap.size + 1 + 1, 3, none⟩) (Nat.le_refl _) (Nat.lt_succ_self _) _).set (p := ⟨w.heap.size + 1 + 1, 4, none⟩) (Nat.le_refl _) (Nat.lt_succ_self _) _).set (p := ⟨w.heap.size + 1 + 1, 5, none⟩) (Nat.le_refl _) (Nat.lt_succ_self _) _).set (p := ⟨w.heap.size + 1 + 1, 6, none⟩) (Nat.le_refl _) (Nat.lt_succ_self _) _).set (p := ⟨w.heap.size + 1 + 1, 7, none⟩) (Nat.le_refl _) (Nat.lt_succ_self _) _).set (p := ⟨w.heap.size + 1 + 1, 8, none⟩) (Nat.le_refl _) (Nat.lt_succ_self _) _).set (p := ⟨w.heap.size + 1 + 1, 9, none⟩) (Nat.le_refl _) (Nat.lt_succ_self _) _).set (p := ⟨w.heap.size + 1 + 1, 10, none⟩) (Nat.le_refl _) (Nat.lt_succ_self _) _)
  replace HX3 : Kept (w.heap.size + 1 + 1) (w.heap.size + 1 + 1 + 1) (BoxK (w.heap.size + 1 + 1) 95 #[.int .i64 r, .int .i64 0, .int .i64 0, .int .i64 0, .int .i64 0, .int .i64 0, .int .i64 0, .slice none 0 0, .slice none 0 0, .int .i64 0, .int .i64 0]) U3 := by rw [hU3]; exact Kept.box (((((((((((HX3.bx.puts 0 (.int .i64 r) (cs' := #[.int .i64 r, .int .i64 0, .int .i64 0, .int .i64 0, .int .i64 0, .int .i64 0, .int .i64 0, .slice none 0 0, .slice none 0 0, .int .i64 0, .int .i64 0]) rfl).puts 1 (.int .i64 0) (cs' := #[.int .i64 r, .int .i64 0, .int .i64 0, .int .i64 0, .int .i64 0, .int .i64 0, .int .i64 0, .slice none 0 0, .slice none 0 0, .int .i64 0, .int .i64 0]) rfl).puts 2 (.int .i64 0) (cs' := #[.int .i64 r, .int .i64 0, .int .i64 0, .int .i64 0, .int .i64 0, .int .i64 0, .int .i64 0, .slice none 0 0, .slice none 0 0, .int .i64 0, .int .i64 0]) rfl).puts 3 (.int .i64 0) (cs' := #[.int .i64 r, .int .i64 0, .int .i64 0, .int .i64 0, .int .i64 0, .int .i64 0, .int .i64 0, .slice none 0 0, .slice none 0 0, .int .i64 0, .int .i64 0]) rfl).puts 4 (.int .i64 0) (cs' := #[.int .i64 r, .int .i64 0, .int .i64 0, .int .i64 0, .int .i64 0, .int .i64 0, .int .i64 0, .slice none 0 0, .slice none 0 0, .int .i64 0, .int .i64 0]) rfl).puts 5 (.int .i64 0) (cs' := #[.int .i64 r, .int .i64 0, .int .i64 0, .int .i64 0, .int .i64 0, .int .i64 0, .int .i64 0, .slice none 0 0, .slice none 0 0, .int .i64 0, .int .i64 0]) rfl).puts 6 (.int .i64 0) (cs' := #[.int .i64 r, .int .i64 0, .int .i64 0, .int .i64 0, .int .i64 0, .int .i64 0, .int .i64 0, .slice none 0 0, .slice none 0 0, .int .i64 0, .int .i64 0]) rfl).puts 7 (.slice none 0 0) (cs' := #[.int .i64 r, .int .i64 0, .int .i64 0, .int .i64 0, .int .i64 0, .int .i64 0, .int .i64 0, .slice none 0 0, .slice none 0 0, .int .i64 0, .int .i64 0]) rfl).puts 8 (.slice none 0 0) (cs' := #[.int .i64 r, .int .i64 0, .int .i64 0, .int .i64 0, .int .i64 0, .int .i64 0, .int .i64 0, .slice none 0 0, .slice none 0 0, .int .i64 0, .int .i64 0]) rfl).puts 9 (.int .i64 0) (cs' := #[.int .i64 r, .int .i64 0, .int .i64 0, .int .i64 0, .int .i64 0, .int .i64 0, .int .i64 0, .slice none 0 0, .slice none 0 0, .int .i64 0, .int .i64 0]) rfl).puts 10 (.int .i64 0) (cs' := #[.int .i64 r, .int .i64 0, .int .i64 0, .int .i64 0, .int .i64 0, .int .i64 0, .int .i64 0, .slice none 0 0, .slice none 0 0, .int .i64 0, .int .i64 0]) rfl)
  replace HA := HA.only ho (by have := Z0.out; have := Z1.out; have := Z2.out; omega)
  replace HX1 := HX1.only ho (by have := Z0.out; have := Z1.out; have := Z2.out; omega)
  replace HX2 := HX2.only ho (by have := Z0.out; have := Z1.out; have := Z2.out; omega)
  replace HB := Lib.hid (Below.only HB.out ho (by have := Z0.out; have := Z1.out; have := Z2.out; omega) HB.out.size)
  have Z3 : Hid (U3.heap.size = w2.heap.size) := Lib.hid (by rw [hU3]; simp [World.setCell]); clear ho
  have q_0 := HX3.look 0
  have q_1 := HX3.look 1
  have q_2 := HX3.look 2
  have q_3 := HX3.look 3
  have q_4 := HX3.look 4
  have q_5 := HX3.look 5
  have q_6 := HX3.look 6
  have q_7 := HX3.look 7
  have q_8 := HX3.look 8
  have q_9 := HX3.look 9
  have q_10 := HX3.look 10
  have fin : ∀ e, e = Ending.returned (.agg (resCells r (zeroL) none none 0 0 0 0)) → (LsaOut w (lookC now x y z ys) (lookM now x y z ys) e U3) := by rintro _ rfl; exact by rw [HC.out, HM.out]; exact ⟨none, none, 0, 0, 0, 0, rfl, LsaTwo.zeroL _ _ (by have := Z0.out; have := Z1.out; have := Z2.out; have := Z3.out; omega), by omega, by omega, HB.out⟩
  subst hU3
  exact bodyPost_ret (v := .agg (resCells r (zeroL) none none 0 0 0 0)) (by simp [results, Try.results58, go_sem, zeroL, q_0, q_1, q_2, q_3, q_4, q_5, q_6, q_7, q_8, q_9, q_10]) rfl (fin _ rfl)

set_option maxRecDepth 100000 in
set_option maxHeartbeats 3200000 in
theorem specLook_2 (x y z now : Int) (q : Bool) (lo hi : Nat) (A : Option Addr) (n c : Nat) (ys : List Ent) (w : World) (ha : Rep.ent.Sl q lo hi w A n ys) (hh : hi ≤ w.heap.size) (hn : n ≤ 1048576) (hm : ∀ y ∈ ys, y.l.links.length ≤ 1048576 ∧ y.l.routers.length ≤ 1048576) (h : faultB now ys = 0) (h2 : lookI x y z ys = none) :
    Calls Try.prog 58 #[.agg #[.int .i64 now, .slice A n c], kV x y z] w fun e w' => LsaOut w (lookC now x y z ys) (lookM now x y z ys) e w' := by
  have HB := Lib.hid (Below.refl w.heap.size w)
  have HA := Rep.Sl.kept ha hh
  have Z0 := Lib.hid hh
  have HM0 := Lib.hid hm
  have HC : Hid (lookC now x y z ys = 4) := Lib.hid (lookC_no h h2).1
  have HM : Hid (lookM now x y z ys = zeroL) := Lib.hid (lookC_no h h2).2
  have HF := Lib.hid h
  have HI := Lib.hid h2
  have HOK := Lib.hid (faultB_ok h)
  clear h h2
  clear hm
  clear ha
  go_enter Try.func58, Try.ntmps58
  go_wp2_with fail
  refine Calls.name ?_
  intro U1 hU1
  have hb : Below w.heap.size w U1 := by rw [hU1]; exact ((((Below.refl _ _).alloc (Nat.le_refl _) _).alloc (by simp <;> omega) _).alloc (by simp <;> omega) _)
  have zz : Hid (w.heap.size + 3 = U1.heap.size) := Lib.hid (by rw [hU1]; simp)
  have HX1 : Kept w.heap.size (w.heap.size + 1) (BoxK w.heap.size 79 #[.int .i64 now, .slice A n c]) U1 := by rw [hU1]; exact Kept.box (((Box.made_at _ _ _ rfl).over _).over _)
  have HX2 : Kept (w.heap.size + 1) (w.heap.size + 1 + 1) (BoxK (w.heap.size + 1) 34 #[.int .i64 x, .int .i64 y, .int .i64 z]) U1 := by rw [hU1]; exact Kept.box ((Box.made_at _ _ _ (by simp <;> omega)).over _)
  have HX3 : Kept (w.heap.size + 1 + 1) (w.heap.size + 1 + 1 + 1) (BoxK (w.heap.size + 1 + 1) 95 #[.int .i64 0, .int .i64 0, .int .i64 0, .int .i64 0, .int .i64 0, .int .i64 0, .int .i64 0, .slice none 0 0, .slice none 0 0, .int .i64 0, .int .i64 0]) U1 := by rw [hU1]; exact Kept.box (Box.made_at _ _ _ (by simp <;> omega))
  replace HA := HA.below hb
  replace HB := Lib.hid (below_step HB.out hb)
  clear hb
  have Z1 := zz; clear zz
  clear hU1
  refine (specBaseFault_any now q lo hi A n c ys _ HA.sl HA.le hn HM0.out).mono ?_
  rw [HF.out]
  rintro e w2 ⟨rfl, hb⟩
  have Z2 := Lib.hid hb.size
  replace HA := HA.below hb
  replace HX1 := HX1.below hb
  replace HX2 := HX2.below hb
  replace HX3 := HX3.below hb
  replace HB := Lib.hid (below_step HB.out hb)
  clear hb
  have c2_0 := HX2.look 0
  have c2_1 := HX2.look 1
  have c2_2 := HX2.look 2
  have l2_0 := HX1.bx.lt
  have l2_1 := HX2.bx.lt
  have l2_2 := HX3.bx.lt
  go_wp2_with fail
  clear c2_0 c2_1 c2_2 l2_0 l2_1 l2_2
  refine (l5Lookup_no x y z now _ q lo hi A n c ys _ HX1 HA.sl HA.le hn HI.out).mono ?_
  rintro e w3 ⟨rfl, hb⟩
  have Z3 := Lib.hid hb.size
  replace HA := HA.below hb
  replace HX1 := HX1.below hb
  replace HX2 := HX2.below hb
  replace HX3 := HX3.below hb
  replace HB := Lib.hid (below_step HB.out hb)
  clear hb
  have c3_0 := HX3.look 0
  have c3_1 := HX3.look 1
  have c3_2 := HX3.look 2
  have c3_3 := HX3.look 3
  have c3_4 := HX3.look 4
  have c3_5 := HX3.look 5
  have c3_6 := HX3.look 6
  have c3_7 := HX3.look 7
  have c3_8 := HX3.look 8
  have c3_9 := HX3.look 9
  have c3_10 := HX3.look 10
  have f3_0 := HX3.free 0
  have f3_1 := HX3.free 1
  have f3_2 := HX3.free 2
  have f3_3 := HX3.free 3
  have f3_4 := HX3.free 4
  have f3_5 := HX3.free 5
  have f3_6 := HX3.free 6
  have f3_7 := HX3.free 7
  have f3_8 := HX3.free 8
  have f3_9 := HX3.free 9
  have f3_10 := HX3.free 10
  have l3_0 := HX1.bx.lt
  have l3_1 := HX2.bx.lt
  have l3_2 := HX3.bx.lt
  go_wp2
  clear c3_0 c3_1 c3_2 c3_3 c3_4 c3_5 c3_6 c3_7 c3_8 c3_9 c3_10 f3_0 f3_1 f3_2 f3_3 f3_4 f3_5 f3_6 f3_7 f3_8 f3_9 f3_10 l3_0 l3_1 l3_2
  obtain ⟨U4, hU4⟩ : ∃ W : World, W = (((((((((((w3.setCell ⟨w.heap.size + 1 + 1, 0, none⟩ (.int .i64 4)).setCell ⟨w.heap.size + 1 + 1, 1, none⟩ (.int .i64 0)).setCell ⟨w.heap.size + 1 + 1, 2, none⟩ (.int .i64 0)).setCell ⟨w.heap.size + 1 + 1, 3, none⟩ (.int .i64 0)).setCell ⟨w.heap.size + 1 + 1, 4, none⟩ (.int .i64 0)).setCell ⟨w.heap.size + 1 + 1, 5, none⟩ (.int .i64 0)).setCell ⟨w.heap.size + 1 + 1, 6, none⟩ (.int .i64 0)).setCell ⟨w.heap.size + 1 + 1, 7, none⟩ (.slice none 0 0)).setCell ⟨w.heap.size + 1 + 1, 8, none⟩ (.slice none 0 0)).setCell ⟨w.heap.size + 1 + 1, 9, none⟩ (.int .i64 0)).setCell ⟨w.heap.size + 1 + 1, 10, none⟩ (.int .i64 0)) := ⟨_, rfl⟩
  have ho : Only (w.heap.size + 1 + 1) (w.heap.size + 1 + 1 + 1) w3 U4 := by rw [hU4]; exact ((((((((((((Only.refl _ _ _).set (p := ⟨w.heap.size + 1 + 1, 0, none⟩) (Nat.le_refl _) (Nat.lt_succ_self _) _).set (p := ⟨w.heap.size + 1 + 1, 1, none⟩) (Nat.le_refl _) (Nat.lt_succ_self _) _).set (p := ⟨w.heap.size + 1 + 1, 2, none⟩) (Nat.le_refl _) (Nat.lt_succ_self _) _).set (p := ⟨w.heap.size + 1 + 1, 3, none⟩) (Nat.le_refl _) (Nat.lt_succ_self _) _).set (p := ⟨w.heap.size + 1 + 1, 4, none⟩) (Nat.le_refl _) (Nat.lt_succ_self _) _).set (p := ⟨w.heap.size + 1 + 1, 5, none⟩) (Nat.le_refl _) (Nat.lt_succ_self _) _).set (p := ⟨w.heap.size + 1 + 1, 6, none⟩) (Nat.le_refl _) (Nat.lt_succ_self _) _).set (p := ⟨w.heap.size + 1 + 1, 7, none⟩) (Nat.le_refl _) (Nat.lt_succ_self _) _).set (p := ⟨w.heap.size + 1 + 1, 8, none⟩) (Nat.le_refl _) (Nat.lt_succ_self _) _).set (p := ⟨w.heap.size + 1 + 1, 9, none⟩) (Nat.le_refl _) (Nat.lt_succ_self _) _).set (p := ⟨w.heap.size + 1 + 1, 10, none⟩) (Nat.le_refl _) (Nat.lt_succ_self _) _)
  replace HX3 : Kept (w.heap.size + 1 + 1) (w.heap.size + 1 + 1 + 1) (BoxK (w.heap.size + 1 + 1) 95 #[.int .i64 4, .int .i64 0, .int .i64 0, .int .i64 0, .int .i64 0, .int .i64 0, .int .i64 0, .slice none 0 0, .slice none 0 0, .int .i64 0, .int .i64 0]) U4 := by rw [hU4]; exact Kept.box (((((((((((HX3.bx.puts 0 (.int .i64 4) (cs' := #[.int .i64 4, .int .i64 0, .int .i64 0, .int .i64 0, .int .i64 0, .int .i64 0, .int .i64 0, .slice none 0 0, .slice none 0 0, .int .i64 0, .int .i64 0]) rfl).puts 1 (.int .i64 0) (cs' := #[.int .i64 4, .int .i64 0, .int .i64 0, .int .i64 0, .int .i64 0, .int .i64 0, .int .i64 0, .slice none 0 0, .slice none 0 0, .int .i64 0, .int .i64 0]) rfl).puts 2 (.int .i64 0) (cs' := #[.int .i64 4, .int .i64 0, .int .i64 0, .int .i64 0, .int .i64 0, .int .i64 0, .int .i64 0, .slice none 0 0, .slice none 0 0, .int .i64 0, .int .i64 0]) rfl).puts 3 (.int .i64 0) (cs' := #[.int .i64 4, .int .i64 0, .int .i64 0, .int .i64 0, .int .i64 0, .int .i64 0, .int .i64 0, .slice none 0 0, .slice none 0 0, .int .i64 0, .int .i64 0]) rfl).puts 4 (.int .i64 0) (cs' := #[.int .i64 4, .int .i64 0, .int .i64 0, .int .i64 0, .int .i64 0, .int .i64 0, .int .i64 0, .slice none 0 0, .slice none 0 0, .int .i64 0, .int .i64 0]) rfl).puts 5 (.int .i64 0) (cs' := #[.int .i64 4, .int .i64 0, .int .i64 0, .int .i64 0, .int .i64 0, .int .i64 0, .int .i64 0, .slice none 0 0, .slice none 0 0, .int .i64 0, .int .i64 0]) rfl).puts 6 (.int .i64 0) (cs' := #[.int .i64 4, .int .i64 0, .int .i64 0, .int .i64 0, .int .i64 0, .int .i64 0, .int .i64 0, .slice none 0 0, .slice none 0 0, .int .i64 0, .int .i64 0]) rfl).puts 7 (.slice none 0 0) (cs' := #[.int .i64 4, .int .i64 0, .int .i64 0, .int .i64 0, .int .i64 0, .int .i64 0, .int .i64 0, .slice none 0 0, .slice none 0 0, .int .i64 0, .int .i64 0]) rfl).puts 8 (.slice none 0 0) (cs' := #[.int .i64 4, .int .i64 0, .int .i64 0, .int .i64 0, .int .i64 0, .int .i64 0, .int .i64 0, .slice none 0 0, .slice none 0 0, .int .i64 0, .int .i64 0]) rfl).puts 9 (.int .i64 0) (cs' := #[.int .i64 4, .int .i64 0, .int .i64 0, .int .i64 0, .int .i64 0, .int .i64 0, .int .i64 0, .slice none 0 0, .slice none 0 0, .int .i64 0, .int .i64 0]) rfl).puts 10 (.int .i64 0) (cs' := #[.int .i64 4, .int .i64 0, .int .i64 0, .int .i64 0, .int .i64 0, .int .i64 0, .int .i64 0, .slice none 0 0, .slice none 0 0, .int .i64 0, .int .i64 0]) rfl)
  replace HA := HA.only ho (by have := Z0.out; have := Z1.out; have := Z2.out; have := Z3.out; omega)
  replace HX1 := HX1.only ho (by have := Z0.out; have := Z1.out; have := Z2.out; have := Z3.out; omega)
  replace HX2 := HX2.only ho (by have := Z0.out; have := Z1.out; have := Z2.out; have := Z3.out; omega)
  replace HB := Lib.hid (Below.only HB.out ho (by have := Z0.out; have := Z1.out; have := Z2.out; have := Z3.out; omega) HB.out.size)
  have Z4 : Hid (U4.heap.size = w3.heap.size) := Lib.hid (by rw [hU4]; simp [World.setCell]); clear ho
  obtain ⟨U5, hU5⟩ : ∃ W : World, W = (U4.alloc (.cells #[.int .i64 0, .int .i64 0, .int .i64 0, .int .i64 0, .int .i64 0, .int .i64 0, .slice none 0 0, .slice none 0 0, .int .i64 0, .int .i64 0] 93)) := ⟨_, rfl⟩
  have hb : Below U4.heap.size U4 U5 := by rw [hU5]; exact ((Below.refl _ _).alloc (Nat.le_refl _) _)
  have zz : Hid (U4.heap.size + 1 = U5.heap.size) := Lib.hid (by rw [hU5]; simp)
  have HX4 : Kept w3.heap.size (w3.heap.size + 1) (BoxK w3.heap.size 93 #[.int .i64 0, .int .i64 0, .int .i64 0, .int .i64 0, .int .i64 0, .int .i64 0, .slice none 0 0, .slice none 0 0, .int .i64 0, .int .i64 0]) U5 := by rw [hU5]; exact Kept.box (Box.made_at _ _ _ (by rw [hU4]; simp [World.setCell]))
  replace HA := HA.below hb
  replace HX1 := HX1.below hb
  replace HX2 := HX2.below hb
  replace HX3 := HX3.below hb
  replace HB := Lib.hid (below_step HB.out hb)
  clear hb
  have Z5 := zz; clear zz
  have q_0 := HX3.look 0
  have q_1 := HX3.look 1
  have q_2 := HX3.look 2
  have q_3 := HX3.look 3
  have q_4 := HX3.look 4
  have q_5 := HX3.look 5
  have q_6 := HX3.look 6
  have q_7 := HX3.look 7
  have q_8 := HX3.look 8
  have q_9 := HX3.look 9
  have q_10 := HX3.look 10
  have fin : ∀ e, e = Ending.returned (.agg (resCells 4 (zeroL) none none 0 0 0 0)) → (LsaOut w (lookC now x y z ys) (lookM now x y z ys) e U5) := by rintro _ rfl; exact by rw [HC.out, HM.out]; exact ⟨none, none, 0, 0, 0, 0, rfl, LsaTwo.zeroL _ _ (by have := Z0.out; have := Z1.out; have := Z2.out; have := Z3.out; have := Z4.out; have := Z5.out; omega), by omega, by omega, HB.out⟩
  subst hU5 hU4
  exact bodyPost_ret (v := .agg (resCells 4 (zeroL) none none 0 0 0 0)) (by simp [results, Try.results58, go_sem, zeroL, q_0, q_1, q_2, q_3, q_4, q_5, q_6, q_7, q_8, q_9, q_10]) rfl (fin _ rfl)

set_option maxRecDepth 100000 in
set_option maxHeartbeats 3200000 in
theorem specLook_3 (x y z now : Int) (q : Bool) (lo hi : Nat) (A : Option Addr) (n c : Nat) (ys : List Ent) (w : World) (ha : Rep.ent.Sl q lo hi w A n ys) (hh : hi ≤ w.heap.size) (hn : n ≤ 1048576) (hm : ∀ y ∈ ys, y.l.links.length ≤ 1048576 ∧ y.l.routers.length ≤ 1048576) (i : Nat) (l : LsaM) (t : Int) (h : faultB now ys = 0) (h2 : lookI x y z ys = some i) (he : ys[i]? = some ⟨l, t⟩) :
    Calls Try.prog 58 #[.agg #[.int .i64 now, .slice A n c], kV x y z] w fun e w' => LsaOut w (lookC now x y z ys) (lookM now x y z ys) e w' := by
  have HB := Lib.hid (Below.refl w.heap.size w)
  have HA := Rep.Sl.kept ha hh
  have Z0 := Lib.hid hh
  have HM0 := Lib.hid hm
  have HC : Hid (lookC now x y z ys = 0) := Lib.hid (lookC_yes h h2 he).1
  have HM : Hid (lookM now x y z ys = { l with age := ageE now l t }) := Lib.hid (lookC_yes h h2 he).2
  have HF := Lib.hid h
  have HI := Lib.hid h2
  have HE := Lib.hid he
  have HOK := Lib.hid (faultB_ok h)
  have hok := HOK.out.2.2 _ (List.mem_of_getElem? he)
  simp only [] at hok
  obtain ⟨⟨ha0, ha1⟩, ht0, ht1⟩ := hok
  have hw0 := HOK.out.1.1
  have hw1 := HOK.out.1.2
  obtain ⟨v, hv⟩ : ∃ v, ageE now l t = v := ⟨_, rfl⟩
  have HV := Lib.hid hv
  rw [hv] at HM
  clear h h2 he hv
  clear hm
  clear ha
  go_enter Try.func58, Try.ntmps58
  go_wp2_with fail
  refine Calls.name ?_
  intro U1 hU1
  have hb : Below w.heap.size w U1 := by rw [hU1]; exact ((((Below.refl _ _).alloc (Nat.le_refl _) _).alloc (by simp <;> omega) _).alloc (by simp <;> omega) _)
  have zz : Hid (w.heap.size + 3 = U1.heap.size) := Lib.hid (by rw [hU1]; simp)
  have HX1 : Kept w.heap.size (w.heap.size + 1) (BoxK w.heap.size 79 #[.int .i64 now, .slice A n c]) U1 := by rw [hU1]; exact Kept.box (((Box.made_at _ _ _ rfl).over _).over _)
  have HX2 : Kept (w.heap.size + 1) (w.heap.size + 1 + 1) (BoxK (w.heap.size + 1) 34 #[.int .i64 x, .int .i64 y, .int .i64 z]) U1 := by rw [hU1]; exact Kept.box ((Box.made_at _ _ _ (by simp <;> omega)).over _)
  have HX3 : Kept (w.heap.size + 1 + 1) (w.heap.size + 1 + 1 + 1) (BoxK (w.heap.size + 1 + 1) 95 #[.int .i64 0, .int .i64 0, .int .i64 0, .int .i64 0, .int .i64 0, .int .i64 0, .int .i64 0, .slice none 0 0, .slice none 0 0, .int .i64 0, .int .i64 0]) U1 := by rw [hU1]; exact Kept.box (Box.made_at _ _ _ (by simp <;> omega))
  replace HA := HA.below hb
  replace HB := Lib.hid (below_step HB.out hb)
  clear hb
  have Z1 := zz; clear zz
  clear hU1
  refine (specBaseFault_any now q lo hi A n c ys _ HA.sl HA.le hn HM0.out).mono ?_
  rw [HF.out]
  rintro e w2 ⟨rfl, hb⟩
  have Z2 := Lib.hid hb.size
  replace HA := HA.below hb
  replace HX1 := HX1.below hb
  replace HX2 := HX2.below hb
  replace HX3 := HX3.below hb
  replace HB := Lib.hid (below_step HB.out hb)
  clear hb
  have c2_0 := HX2.look 0
  have c2_1 := HX2.look 1
  have c2_2 := HX2.look 2
  have l2_0 := HX1.bx.lt
  have l2_1 := HX2.bx.lt
  have l2_2 := HX3.bx.lt
  go_wp2_with fail
  clear c2_0 c2_1 c2_2 l2_0 l2_1 l2_2
  refine (l5Lookup_yes x y z now _ q lo hi A n c ys i l t _ HX1 HA.sl HA.le hn HM0.out HI.out HE.out ha0 ha1 hw0 hw1 ht0 ht1).mono ?_
  rw [HV.out]
  rintro e w3 ⟨A', B', m, c', m', d', rfl, ht, hm1, hm2, hb⟩
  have Z3 := Lib.hid hb.size
  replace HA := HA.below hb
  replace HX1 := HX1.below hb
  replace HX2 := HX2.below hb
  replace HX3 := HX3.below hb
  replace HB := Lib.hid (below_step HB.out hb)
  clear hb
  have HT := ht.kept; clear ht
  have c3_0 := HX3.look 0
  have c3_1 := HX3.look 1
  have c3_2 := HX3.look 2
  have c3_3 := HX3.look 3
  have c3_4 := HX3.look 4
  have c3_5 := HX3.look 5
  have c3_6 := HX3.look 6
  have c3_7 := HX3.look 7
  have c3_8 := HX3.look 8
  have c3_9 := HX3.look 9
  have c3_10 := HX3.look 10
  have f3_0 := HX3.free 0
  have f3_1 := HX3.free 1
  have f3_2 := HX3.free 2
  have f3_3 := HX3.free 3
  have f3_4 := HX3.free 4
  have f3_5 := HX3.free 5
  have f3_6 := HX3.free 6
  have f3_7 := HX3.free 7
  have f3_8 := HX3.free 8
  have f3_9 := HX3.free 9
  have f3_10 := HX3.free 10
  have l3_0 := HX1.bx.lt
  have l3_1 := HX2.bx.lt
  have l3_2 := HX3.bx.lt
  go_wp2
  clear c3_0 c3_1 c3_2 c3_3 c3_4 c3_5 c3_6 c3_7 c3_8 c3_9 c3_10 f3_0 f3_1 f3_2 f3_3 f3_4 f3_5 f3_6 f3_7 f3_8 f3_9 f3_10 l3_0 l3_1 l3_2
  obtain ⟨U4, hU4⟩ : ∃ W : World, W = (((((((((((w3.setCell ⟨w.heap.size + 1 + 1, 0, none⟩ (.int .i64 0)).setCell ⟨w.heap.size + 1 + 1, 1, none⟩ (.int .i64 (v))).setCell ⟨w.heap.size + 1 + 1, 2, none⟩ (.int .i64 (l.options))).setCell ⟨w.heap.size + 1 + 1, 3, none⟩ (.int .i64 (l.typ))).setCell ⟨w.heap.size + 1 + 1, 4, none⟩ (.int .i64 (l.id))).setCell ⟨w.heap.size + 1 + 1, 5, none⟩ (.int .i64 (l.adv))).setCell ⟨w.heap.size + 1 + 1, 6, none⟩ (.int .i64 (l.seq))).setCell ⟨w.heap.size + 1 + 1, 7, none⟩ (.slice A' m c')).setCell ⟨w.heap.size + 1 + 1, 8, none⟩ (.slice B' m' d')).setCell ⟨w.heap.size + 1 + 1, 9, none⟩ (.int .i64 (l.mask))).setCell ⟨w.heap.size + 1 + 1, 10, none⟩ (.int .i64 (l.cost))) := ⟨_, rfl⟩
  have ho : Only (w.heap.size + 1 + 1) (w.heap.size + 1 + 1 + 1) w3 U4 := by rw [hU4]; exact ((((((((((((Only.refl _ _ _).set (p := ⟨w.heap.size + 1 + 1, 0, none⟩) (Nat.le_refl _) (Nat.lt_succ_self _) _).set (p := ⟨w.heap.size + 1 + 1, 1, none⟩) (Nat.le_refl _) (Nat.lt_succ_self _) _).set (p := ⟨w.heap.size + 1 + 1, 2, none⟩) (Nat.le_refl _) (Nat.lt_succ_self _) _).set (p := ⟨w.heap.size + 1 + 1, 3, none⟩) (Nat.le_refl _) (Nat.lt_succ_self _) _).set (p := ⟨w.heap.size + 1 + 1, 4, none⟩) (Nat.le_refl _) (Nat.lt_succ_self _) _).set (p := ⟨w.heap.size + 1 + 1, 5, none⟩) (Nat.le_refl _) (Nat.lt_succ_self _) _).set (p := ⟨w.heap.size + 1 + 1, 6, none⟩) (Nat.le_refl _) (Nat.lt_succ_self _) _).set (p := ⟨w.heap.size + 1 + 1, 7, none⟩) (Nat.le_refl _) (Nat.lt_succ_self _) _).set (p := ⟨w.heap.size + 1 + 1, 8, none⟩) (Nat.le_refl _) (Nat.lt_succ_self _) _).set (p := ⟨w.heap.size + 1 + 1, 9, none⟩) (Nat.le_refl _) (Nat.lt_succ_self _) _).set (p := ⟨w.heap.size + 1 + 1, 10, none⟩) (Nat.le_refl _) (Nat.lt_succ_self _) _)
  replace HX3 : Kept (w.heap.size + 1 + 1) (w.heap.size + 1 + 1 + 1) (BoxK (w.heap.size + 1 + 1) 95 #[.int .i64 0, .int .i64 (v), .int .i64 (l.options), .int .i64 (l.typ), .int .i64 (l.id), .int .i64 (l.adv), .int .i64 (l.seq), .slice A' m c', .slice B' m' d', .int .i64 (l.mask), .int .i64 (l.cost)]) U4 := by rw [hU4]; exact Kept.box (((((((((((HX3.bx.puts 0 (.int .i64 0) (cs' := #[.int .i64 0, .int .i64 0, .int .i64 0, .int .i64 0, .int .i64 0, .int .i64 0, .int .i64 0, .slice none 0 0, .slice none 0 0, .int .i64 0, .int .i64 0]) rfl).puts 1 (.int .i64 (v)) (cs' := #[.int .i64 0, .int .i64 (v), .int .i64 0, .int .i64 0, .int .i64 0, .int .i64 0, .int .i64 0, .slice none 0 0, .slice none 0 0, .int .i64 0, .int .i64 0]) rfl).puts 2 (.int .i64 (l.options)) (cs' := #[.int .i64 0, .int .i64 (v), .int .i64 (l.options), .int .i64 0, .int .i64 0, .int .i64 0, .int .i64 0, .slice none 0 0, .slice none 0 0, .int .i64 0, .int .i64 0]) rfl).puts 3 (.int .i64 (l.typ)) (cs' := #[.int .i64 0, .int .i64 (v), .int .i64 (l.options), .int .i64 (l.typ), .int .i64 0, .int .i64 0, .int .i64 0, .slice none 0 0, .slice none 0 0, .int .i64 0, .int .i64 0]) rfl).puts 4 (.int .i64 (l.id)) (cs' := #[.int .i64 0, .int .i64 (v), .int .i64 (l.options), .int .i64 (l.typ), .int .i64 (l.id), .int .i64 0, .int .i64 0, .slice none 0 0, .slice none 0 0, .int .i64 0, .int .i64 0]) rfl).puts 5 (.int .i64 (l.adv)) (cs' := #[.int .i64 0, .int .i64 (v), .int .i64 (l.options), .int .i64 (l.typ), .int .i64 (l.id), .int .i64 (l.adv), .int .i64 0, .slice none 0 0, .slice none 0 0, .int .i64 0, .int .i64 0]) rfl).puts 6 (.int .i64 (l.seq)) (cs' := #[.int .i64 0, .int .i64 (v), .int .i64 (l.options), .int .i64 (l.typ), .int .i64 (l.id), .int .i64 (l.adv), .int .i64 (l.seq), .slice none 0 0, .slice none 0 0, .int .i64 0, .int .i64 0]) rfl).puts 7 (.slice A' m c') (cs' := #[.int .i64 0, .int .i64 (v), .int .i64 (l.options), .int .i64 (l.typ), .int .i64 (l.id), .int .i64 (l.adv), .int .i64 (l.seq), .slice A' m c', .slice none 0 0, .int .i64 0, .int .i64 0]) rfl).puts 8 (.slice B' m' d') (cs' := #[.int .i64 0, .int .i64 (v), .int .i64 (l.options), .int .i64 (l.typ), .int .i64 (l.id), .int .i64 (l.adv), .int .i64 (l.seq), .slice A' m c', .slice B' m' d', .int .i64 0, .int .i64 0]) rfl).puts 9 (.int .i64 (l.mask)) (cs' := #[.int .i64 0, .int .i64 (v), .int .i64 (l.options), .int .i64 (l.typ), .int .i64 (l.id), .int .i64 (l.adv), .int .i64 (l.seq), .slice A' m c', .slice B' m' d', .int .i64 (l.mask), .int .i64 0]) rfl).puts 10 (.int .i64 (l.cost)) (cs' := #[.int .i64 0, .int .i64 (v), .int .i64 (l.options), .int .i64 (l.typ), .int .i64 (l.id), .int .i64 (l.adv), .int .i64 (l.seq), .slice A' m c', .slice B' m' d', .int .i64 (l.mask), .int .i64 (l.cost)]) rfl)
  replace HA := HA.only ho (by have := Z0.out; have := Z1.out; have := Z2.out; have := Z3.out; omega)
  replace HX1 := HX1.only ho (by have := Z0.out; have := Z1.out; have := Z2.out; have := Z3.out; omega)
  replace HX2 := HX2.only ho (by have := Z0.out; have := Z1.out; have := Z2.out; have := Z3.out; omega)
  replace HT := HT.only ho (by have := Z0.out; have := Z1.out; have := Z2.out; have := Z3.out; omega)
  replace HB := Lib.hid (Below.only HB.out ho (by have := Z0.out; have := Z1.out; have := Z2.out; have := Z3.out; omega) HB.out.size)
  have Z4 : Hid (U4.heap.size = w3.heap.size) := Lib.hid (by rw [hU4]; simp [World.setCell]); clear ho
  obtain ⟨U5, hU5⟩ : ∃ W : World, W = (U4.alloc (.cells #[.int .i64 (v), .int .i64 (l.options), .int .i64 (l.typ), .int .i64 (l.id), .int .i64 (l.adv), .int .i64 (l.seq), .slice A' m c', .slice B' m' d', .int .i64 (l.mask), .int .i64 (l.cost)] 93)) := ⟨_, rfl⟩
  have hb : Below U4.heap.size U4 U5 := by rw [hU5]; exact ((Below.refl _ _).alloc (Nat.le_refl _) _)
  have zz : Hid (U4.heap.size + 1 = U5.heap.size) := Lib.hid (by rw [hU5]; simp)
  have HX4 : Kept w3.heap.size (w3.heap.size + 1) (BoxK w3.heap.size 93 #[.int .i64 (v), .int .i64 (l.options), .int .i64 (l.typ), .int .i64 (l.id), .int .i64 (l.adv), .int .i64 (l.seq), .slice A' m c', .slice B' m' d', .int .i64 (l.mask), .int .i64 (l.cost)]) U5 := by rw [hU5]; exact Kept.box (Box.made_at _ _ _ (by rw [hU4]; simp [World.setCell]))
  replace HA := HA.below hb
  replace HX1 := HX1.below hb
  replace HX2 := HX2.below hb
  replace HX3 := HX3.below hb
  replace HT := HT.below hb
  replace HB := Lib.hid (below_step HB.out hb)
  clear hb
  have Z5 := zz; clear zz
  have q_0 := HX3.look 0
  have q_1 := HX3.look 1
  have q_2 := HX3.look 2
  have q_3 := HX3.look 3
  have q_4 := HX3.look 4
  have q_5 := HX3.look 5
  have q_6 := HX3.look 6
  have q_7 := HX3.look 7
  have q_8 := HX3.look 8
  have q_9 := HX3.look 9
  have q_10 := HX3.look 10
  have fin : ∀ e, e = Ending.returned (.agg (resCells 0 ({ l with age := v }) A' B' m c' m' d')) → (LsaOut w (lookC now x y z ys) (lookM now x y z ys) e U5) := by rintro _ rfl; exact by rw [HC.out, HM.out]; exact ⟨A', B', m, c', m', d', rfl, LsaTwo.mono (lo' := w.heap.size) (hi' := U5.heap.size) HT.two (by have := Z0.out; have := Z1.out; have := Z2.out; have := Z3.out; have := Z4.out; have := Z5.out; omega) (by have := Z0.out; have := Z1.out; have := Z2.out; have := Z3.out; have := Z4.out; have := Z5.out; omega) (Nat.le_refl _), hm1, hm2, HB.out⟩
  subst hU5 hU4
  exact bodyPost_ret (v := .agg (resCells 0 ({ l with age := v }) A' B' m c' m' d')) (by simp [results, Try.results58, go_sem, q_0, q_1, q_2, q_3, q_4, q_5, q_6, q_7, q_8, q_9, q_10]) rfl (fin _ rfl)

theorem specLook_any (x y z now : Int) (q : Bool) (lo hi : Nat) (A : Option Addr) (n c : Nat) (ys : List Ent) (w : World) (ha : Rep.ent.Sl q lo hi w A n ys) (hh : hi ≤ w.heap.size) (hn : n ≤ 1048576) (hm : ∀ y ∈ ys, y.l.links.length ≤ 1048576 ∧ y.l.routers.length ≤ 1048576) :
    Calls Try.prog 58 #[.agg #[.int .i64 now, .slice A n c], kV x y z] w (LsaOut w (lookC now x y z ys) (lookM now x y z ys)) := by
  by_cases h : faultB now ys = 0
  · cases hI : lookI x y z ys with
    | none => exact specLook_2 x y z now q lo hi A n c ys w ha hh hn hm h hI
    | some i =>
      obtain ⟨⟨l, t⟩, he, _⟩ := lookI_at hI
      exact specLook_3 x y z now q lo hi A n c ys w ha hh hn hm i l t h hI he
  · exact specLook_1 x y z now q lo hi A n c ys w ha hh hn hm h


end Go.Proofs.Ytakplomopbnekaa

namespace Go.Proofs.Ytakplomopbnekaa
open Go.RowKit
set_option linter.unusedVariables false

theorem Tab.yes {q : Bool} {lo hi : Nat} {w : World} {ys : List Ent} {ps : List KV} {x y z : Int} {i : Nat} {l : LsaM} {t : Int} (h : Tab q lo hi w ys ps) (hi2 : lookI x y z ys = some i) (he : ys[i]? = some ⟨l, t⟩) :
    ∃ E m c F m' d, findKV x y z ps 0 = some (i, .agg (entCells l t E F m c m' d)) ∧ LsaIn q lo hi w E m F m' l := by
  obtain ⟨e, h1, h2, h3⟩ := lookI_at hi2
  rw [he] at h1; injection h1 with h1; subst h1
  obtain ⟨E, m, c, F, m', d, h4, h5⟩ := h.2 i _ he
  refine ⟨E, m, c, F, m', d, ?_, h5⟩
  rw [findKV_some h4 (by rw [keyI_comm]; exact h2) (fun j p hj hp => ?_), Nat.zero_add]
  have hjl : j < ys.length := by rw [← h.1]; exact (List.getElem?_eq_some_iff.1 hp).1
  obtain ⟨_, _, _, _, _, _, h6, _⟩ := h.2 j ys[j] (List.getElem?_eq_getElem hjl)
  rw [hp] at h6; injection h6 with h6; subst h6
  rw [keyI_comm]; exact h3 j _ hj (List.getElem?_eq_getElem hjl)
theorem Tab.no {q : Bool} {lo hi : Nat} {w : World} {ys : List Ent} {ps : List KV} {x y z : Int} (h : Tab q lo hi w ys ps) (hi2 : lookI x y z ys = none) : findKV x y z ps 0 = none := findKV_none fun p hp => by
  obtain ⟨j, hj⟩ := List.mem_iff_getElem?.1 hp
  have hjl : j < ys.length := by rw [← h.1]; exact (List.getElem?_eq_some_iff.1 hj).1
  obtain ⟨_, _, _, _, _, _, h6, _⟩ := h.2 j ys[j] (List.getElem?_eq_getElem hjl)
  rw [hj] at h6; injection h6 with h6; subst h6
  rw [keyI_comm]; exact lookI_no hi2 j _ (List.getElem?_eq_getElem hjl)
theorem ageOf_v (l : LsaM) (t now v : Int) (A B : Option Addr) (n c m d : Nat) (w : World) (h0 : 0 ≤ l.age) (h1 : l.age ≤ 3600) (h2 : 0 ≤ now) (h3 : now ≤ 1000000) (h4 : 0 ≤ t) (h5 : t ≤ now) (hv : ageE now l t = v) :
    Calls Try.prog 123 #[.agg (entCells l t A B n c m d), .int .i64 now] w fun e w' => e = .returned (.int .i64 v) ∧ Below w.heap.size w w' := by
  rw [← hv]; exact ageOf_any l t now A B n c m d w h0 h1 h2 h3 h4 h5

set_option maxRecDepth 100000 in
set_option maxHeartbeats 3200000 in
theorem look_1 (x y z now : Int) (q : Bool) (lo hi : Nat) (A : Option Addr) (n c : Nat) (ys : List Ent) (w : World) (ha : Rep.ent.Sl q lo hi w A n ys) (hh : hi ≤ w.heap.size) (hn : n ≤ 1048576) (hm : ∀ y ∈ ys, y.l.links.length ≤ 1048576 ∧ y.l.routers.length ≤ 1048576) (h : ¬ faultB now ys = 0) :
    Calls Try.prog 60 #[.agg #[.int .i64 now, .slice A n c], kV x y z] w fun e w' => LsaOut w (lookC now x y z ys) (lookM now x y z ys) e w' := by
  have HB := Lib.hid (Below.refl w.heap.size w)
  have HA := Rep.Sl.kept ha hh
  have Z0 := Lib.hid hh
  have HM0 := Lib.hid hm
  obtain ⟨r, hr⟩ : ∃ r, faultB now ys = r := ⟨_, rfl⟩
  have HC : Hid (lookC now x y z ys = r) := Lib.hid (by rw [← hr]; exact (lookC_bad h).1)
  have HM : Hid (lookM now x y z ys = zeroL) := Lib.hid (lookC_bad h).2
  rw [hr] at h
  have HF := Lib.hid hr
  clear hr
  have hne : (r != 0) = true := by rw [bne_iff_ne]; exact h
  clear hm
  clear ha
  go_enter Try.func60, Try.ntmps60
  go_wp2_with fail
  refine Calls.name ?_
  intro U1 hU1
  have hb : Below w.heap.size w U1 := by rw [hU1]; exact ((((Below.refl _ _).alloc (Nat.le_refl _) _).alloc (by simp <;> omega) _).alloc (by simp <;> omega) _)
  have zz : Hid (w.heap.size + 3 = U1.heap.size) := Lib.hid (by rw [hU1]; simp)
  have HX1 : Kept w.heap.size (w.heap.size + 1) (BoxK w.heap.size 79 #[.int .i64 now, .slice A n c]) U1 := by rw [hU1]; exact Kept.box (((Box.made_at _ _ _ rfl).over _).over _)
  have HX2 : Kept (w.heap.size + 1) (w.heap.size + 1 + 1) (BoxK (w.heap.size + 1) 34 #[.int .i64 x, .int .i64 y, .int .i64 z]) U1 := by rw [hU1]; exact Kept.box ((Box.made_at _ _ _ (by simp <;> omega)).over _)
  have HX3 : Kept (w.heap.size + 1 + 1) (w.heap.size + 1 + 1 + 1) (BoxK (w.heap.size + 1 + 1) 95 #[.int .i64 0, .int .i64 0, .int .i64 0, .int .i64 0, .int .i64 0, .int .i64 0, .int .i64 0, .slice none 0 0, .slice none 0 0, .int .i64 0, .int .i64 0]) U1 := by rw [hU1]; exact Kept.box (Box.made_at _ _ _ (by simp <;> omega))
  replace HA := HA.below hb
  replace HB := Lib.hid (below_step HB.out hb)
  clear hb
  have Z1 := zz; clear zz
  clear hU1
  refine (baseFault_any now q lo hi A n c ys _ HA.sl HA.le hn HM0.out).mono ?_
  rw [HF.out]
  rintro e w2 ⟨rfl, hb⟩
  have Z2 := Lib.hid hb.size
  replace HA := HA.below hb
  replace HX1 := HX1.below hb
  replace HX2 := HX2.below hb
  replace HX3 := HX3.below hb
  replace HB := Lib.hid (below_step HB.out hb)
  clear hb
  have c2_0 := HX3.look 0
  have c2_1 := HX3.look 1
  have c2_2 := HX3.look 2
  have c2_3 := HX3.look 3
  have c2_4 := HX3.look 4
  have c2_5 := HX3.look 5
  have c2_6 := HX3.look 6
  have c2_7 := HX3.look 7
  have c2_8 := HX3.look 8
  have c2_9 := HX3.look 9
  have c2_10 := HX3.look 10
  have f2_0 := HX3.free 0
  have f2_1 := HX3.free 1
  have f2_2 := HX3.free 2
  have f2_3 := HX3.free 3
  have f2_4 := HX3.free 4
  have f2_5 := HX3.free 5
  have f2_6 := HX3.free 6
  have f2_7 := HX3.free 7
  have f2_8 := HX3.free 8
  have f2_9 := HX3.free 9
  have f2_10 := HX3.free 10
  have l2_0 := HX1.bx.lt
  have l2_1 := HX2.bx.lt
  have l2_2 := HX3.bx.lt
  go_wp2
  clear c2_0 c2_1 c2_2 c2_3 c2_4 c2_5 c2_6 c2_7 c2_8 c2_9 c2_10 f2_0 f2_1 f2_2 f2_3 f2_4 f2_5 f2_6 f2_7 f2_8 f2_9 f2_10 l2_0 l2_1 l2_2
  obtain ⟨U3, hU3⟩ : ∃ W : World, W = (((((((((((w2.setCell ⟨w.heap.size + 1 + 1, 0, none⟩ (.int .i64 r)).setCell ⟨w.heap.size + 1 + 1, 1, none⟩ (.int .i64 0)).setCell ⟨w.heap.size + 1 + 1, 2, none⟩ (.int .i64 0)).setCell ⟨w.heap.size + 1 + 1, 3, none⟩ (.int .i64 0)).setCell ⟨w.heap.size + 1 + 1, 4, none⟩ (.int .i64 0)).setCell ⟨w.heap.size + 1 + 1, 5, none⟩ (.int .i64 0)).setCell ⟨w.heap.size + 1 + 1, 6, none⟩ (.int .i64 0)).setCell ⟨w.heap.size + 1 + 1, 7, none⟩ (.slice none 0 0)).setCell ⟨w.heap.size + 1 + 1, 8, none⟩ (.slice none 0 0)).setCell ⟨w.heap.size + 1 + 1, 9, none⟩ (.int .i64 0)).setCell ⟨w.heap.size + 1 + 1, 10, none⟩ (.int .i64 0)) := ⟨_, rfl⟩
  have ho : Only (w.heap.size + 1 + 1) (w.heap.size + 1 + 1 + 1) w2 U3 := by rw [hU3]; exact ((((((((((((Only.refl _ _ _).set (p := ⟨w.heap.size + 1 + 1, 0, none⟩) (Nat.le_refl _) (Nat.lt_succ_self _) _).set (p := ⟨w.heap.size + 1 + 1, 1, none⟩) (Nat.le_refl _) (Nat.lt_succ_self _) _).set (p := ⟨w.heap.size + 1 + 1, 2, none⟩) (Nat.le_refl _) (Nat.lt_succ_self _) _).set (p := ⟨w.heap.size + 1 + 1, 3, none⟩) (Nat.le_refl _) (Nat.lt_succ_self _) _).set (p := ⟨w.heap.size + 1 + 1, 4, none⟩) (Nat.le_refl _) (Nat.lt_succ_self _) _).set (p := ⟨w.heap.size + 1 + 1, 5, none⟩) (Nat.le_refl _) (Nat.lt_succ_self _) _).set (p := ⟨w.heap.size + 1 + 1, 6, none⟩) (Nat.le_refl _) (Nat.lt_succ_self _) _).set (p := ⟨w.heap.size + 1 + 1, 7, none⟩) (Nat.le_refl _) (Nat.lt_succ_self _) _).set (p := ⟨w.heap.size + 1 + 1, 8, none⟩) (Nat.le_refl _) (Nat.lt_succ_self _) _).set (p := ⟨w.heap.size + 1 + 1, 9, none⟩) (Nat.le_refl _) (Nat.lt_succ_self _) _).set (p := ⟨w.heap.size + 1 + 1, 10, none⟩) (Nat.le_refl _) (Nat.lt_succ_self _) _)
  replace HX3 : Kept (w.heap.size + 1 + 1) (w.heap.size + 1 + 1 + 1) (BoxK (w.heap.size + 1 + 1) 95 #[.int .i64 r, .int .i64 0, .int .i64 0, .int .i64 0, .int .i64 0, .int .i64 0, .int .i64 0, .slice none 0 0, .slice none 0 0, .int .i64 0, .int .i64 0]) U3 := by rw [hU3]; exact Kept.box (((((((((((HX3.bx.puts 0 (.int .i64 r) (cs' := #[.int .i64 r, .int .i64 0, .int .i64 0, .int .i64 0, .int .i64 0, .int .i64 0, .int .i64 0, .slice none 0 0, .slice none 0 0, .int .i64 0, .int .i64 0]) rfl).puts 1 (.int .i64 0) (cs' := #[.int .i64 r, .int .i64 0, .int .i64 0, .int .i64 0, .int .i64 0, .int .i64 0, .int .i64 0, .slice none 0 0, .slice none 0 0, .int .i64 0, .int .i64 0]) rfl).puts 2 (.int .i64 0) (cs' := #[.int .i64 r, .int .i64 0, .int .i64 0, .int .i64 0, .int .i64 0, .int .i64 0, .int .i64 0, .slice none 0 0, .slice none 0 0, .int .i64 0, .int .i64 0]) rfl).puts 3 (.int .i64 0) (cs' := #[.int .i64 r, .int .i64 0, .int .i64 0, .int .i64 0, .int .i64 0, .int .i64 0, .int .i64 0, .slice none 0 0, .slice none 0 0, .int .i64 0, .int .i64 0]) rfl).puts 4 (.int .i64 0) (cs' := #[.int .i64 r, .int .i64 0, .int .i64 0, .int .i64 0, .int .i64 0, .int .i64 0, .int .i64 0, .slice none 0 0, .slice none 0 0, .int .i64 0, .int .i64 0]) rfl).puts 5 (.int .i64 0) (cs' := #[.int .i64 r, .int .i64 0, .int .i64 0, .int .i64 0, .int .i64 0, .int .i64 0, .int .i64 0, .slice none 0 0, .slice none 0 0, .int .i64 0, .int .i64 0]) rfl).puts 6 (.int .i64 0) (cs' := #[.int .i64 r, .int .i64 0, .int .i64 0, .int .i64 0, .int .i64 0, .int .i64 0, .int .i64 0, .slice none 0 0, .slice none 0 0, .int .i64 0, .int .i64 0]) rfl).puts 7 (.slice none 0 0) (cs' := #[.int .i64 r, .int .i64 0, .int .i64 0, .int .i64 0, .int .i64 0, .int .i64 0, .int .i64 0, .slice none 0 0, .slice none 0 0, .int .i64 0, .int .i64 0]) rfl).puts 8 (.slice none 0 0) (cs' := #[.int .i64 r, .int .i64 0, .int .i64 0, .int .i64 0, .int .i64 0, .int .i64 0, .int .i64 0, .slice none 0 0, .slice none 0 0, .int .i64 0, .int .i64 0]) rfl).puts 9 (.int .i64 0) (cs' := #[.int .i64 r, .int .i64 0, .int .i64 0, .int .i64 0, .int .i64 0, .int .i64 0, .int .i64 0, .slice none 0 0, .slice none 0 0, .int .i64 0, .int .i64 0]) rfl).puts 10 (.int .i64 0) (cs' := #[.int .i64 r, .int .i64 0, .int .i64 0, .int .i64 0, .int .i64 0, .int .i64 0, .int .i64 0, .slice none 0 0, .slice none 0 0, .int .i64 0, .int .i64 0]) rfl)
  replace HA := HA.only ho (by have := Z0.out; have := Z1.out; have := Z2.out; omega)
  replace HX1 := HX1.only ho (by have := Z0.out; have := Z1.out; have := Z2.out; omega)
  replace HX2 := HX2.only ho (by have := Z0.out; have := Z1.out; have := Z2.out; omega)
  replace HB := Lib.hid (Below.only HB.out ho (by have := Z0.out; have := Z1.out; have := Z2.out; omega) HB.out.size)
  have Z3 : Hid (U3.heap.size = w2.heap.size) := Lib.hid (by rw [hU3]; simp [World.setCell]); clear ho
  have q_0 := HX3.look 0
  have q_1 := HX3.look 1
  have q_2 := HX3.look 2
  have q_3 := HX3.look 3
  have q_4 := HX3.look 4
  have q_5 := HX3.look 5
  have q_6 := HX3.look 6
  have q_7 := HX3.look 7
  have q_8 := HX3.look 8
  have q_9 := HX3.look 9
  have q_10 := HX3.look 10
  have fin : ∀ e, e = Ending.returned (.agg (resCells r (zeroL) none none 0 0 0 0)) → (LsaOut w (lookC now x y z ys) (lookM now x y z ys) e U3) := by rintro _ rfl; exact by rw [HC.out, HM.out]; exact ⟨none, none, 0, 0, 0, 0, rfl, LsaTwo.zeroL _ _ (by have := Z0.out; have := Z1.out; have := Z2.out; have := Z3.out; omega), by omega, by omega, HB.out⟩
  subst hU3
  exact bodyPost_ret (v := .agg (resCells r (zeroL) none none 0 0 0 0)) (by simp [results, Try.results60, go_sem, zeroL, q_0, q_1, q_2, q_3, q_4, q_5, q_6, q_7, q_8, q_9, q_10]) rfl (fin _ rfl)

set_option maxRecDepth 100000 in
set_option maxHeartbeats 3200000 in
theorem look_2 (x y z now : Int) (q : Bool) (lo hi : Nat) (A : Option Addr) (n c : Nat) (ys : List Ent) (w : World) (ha : Rep.ent.Sl q lo hi w A n ys) (hh : hi ≤ w.heap.size) (hn : n ≤ 1048576) (hm : ∀ y ∈ ys, y.l.links.length ≤ 1048576 ∧ y.l.routers.length ≤ 1048576) (h : faultB now ys = 0) (h2 : lookI x y z ys = none) :
    Calls Try.prog 60 #[.agg #[.int .i64 now, .slice A n c], kV x y z] w fun e w' => LsaOut w (lookC now x y z ys) (lookM now x y z ys) e w' := by
  have HB := Lib.hid (Below.refl w.heap.size w)
  have HA := Rep.Sl.kept ha hh
  have Z0 := Lib.hid hh
  have HM0 := Lib.hid hm
  have HC : Hid (lookC now x y z ys = 4) := Lib.hid (lookC_no h h2).1
  have HM : Hid (lookM now x y z ys = zeroL) := Lib.hid (lookC_no h h2).2
  have HF := Lib.hid h
  have HI := Lib.hid h2
  have HOK := Lib.hid (faultB_ok h)
  clear h h2
  clear hm
  clear ha
  go_enter Try.func60, Try.ntmps60
  go_wp2_with fail
  refine Calls.name ?_
  intro U1 hU1
  have hb : Below w.heap.size w U1 := by rw [hU1]; exact ((((Below.refl _ _).alloc (Nat.le_refl _) _).alloc (by simp <;> omega) _).alloc (by simp <;> omega) _)
  have zz : Hid (w.heap.size + 3 = U1.heap.size) := Lib.hid (by rw [hU1]; simp)
  have HX1 : Kept w.heap.size (w.heap.size + 1) (BoxK w.heap.size 79 #[.int .i64 now, .slice A n c]) U1 := by rw [hU1]; exact Kept.box (((Box.made_at _ _ _ rfl).over _).over _)
  have HX2 : Kept (w.heap.size + 1) (w.heap.size + 1 + 1) (BoxK (w.heap.size + 1) 34 #[.int .i64 x, .int .i64 y, .int .i64 z]) U1 := by rw [hU1]; exact Kept.box ((Box.made_at _ _ _ (by simp <;> omega)).over _)
  have HX3 : Kept (w.heap.size + 1 + 1) (w.heap.size + 1 + 1 + 1) (BoxK (w.heap.size + 1 + 1) 95 #[.int .i64 0, .int .i64 0, .int .i64 0, .int .i64 0, .int .i64 0, .int .i64 0, .int .i64 0, .slice none 0 0, .slice none 0 0, .int .i64 0, .int .i64 0]) U1 := by rw [hU1]; exact Kept.box (Box.made_at _ _ _ (by simp <;> omega))
  replace HA := HA.below hb
  replace HB := Lib.hid (below_step HB.out hb)
  clear hb
  have Z1 := zz; clear zz
  clear hU1
  refine (baseFault_any now q lo hi A n c ys _ HA.sl HA.le hn HM0.out).mono ?_
  rw [HF.out]
  rintro e w2 ⟨rfl, hb⟩
  have Z2 := Lib.hid hb.size
  replace HA := HA.below hb
  replace HX1 := HX1.below hb
  replace HX2 := HX2.below hb
  replace HX3 := HX3.below hb
  replace HB := Lib.hid (below_step HB.out hb)
  clear hb
  have l2_0 := HX1.bx.lt
  have l2_1 := HX2.bx.lt
  have l2_2 := HX3.bx.lt
  go_wp2_with fail
  clear l2_0 l2_1 l2_2
  have SB : Hid (∀ W, Hid (Below w2.heap.size w2 W) → (fun W => W.cell? ⟨w.heap.size, 0, none⟩ = some (.int .i64 now) ∧ W.cell? ⟨w.heap.size, 1, none⟩ = some (.slice A n c) ∧ W.cell? ⟨w.heap.size + 1, 0, none⟩ = some (.int .i64 x) ∧ W.cell? ⟨w.heap.size + 1, 1, none⟩ = some (.int .i64 y) ∧ W.cell? ⟨w.heap.size + 1, 2, none⟩ = some (.int .i64 z)) W) := fun W h => ⟨(HX1.below h.out).look 0, (HX1.below h.out).look 1, (HX2.below h.out).look 0, (HX2.below h.out).look 1, (HX2.below h.out).look 2⟩
  have V0 : Hid (Below w2.heap.size w2 w2.drew) := (Below.refl _ _).drew
  have VA0 : ∀ o, Hid (Below w2.heap.size w2 (w2.alloc o).drew) := fun o => ((Below.refl _ _).alloc (Nat.le_refl _) o).drew
  go_upto_region 4 with (fail)
  go_cut [6, 7] (fun s6 s7 wx => ∃ g, s6 = .pointer (some ⟨g, 0, none⟩) ∧ s7 = .bool false ∧ Hid (w2.heap.size ≤ g) ∧ Kept g (g + 1) (BoxK g 152 #[.int .i64 0, .int .i64 0, .int .i64 0, .int .i64 0, .int .i64 0, .int .i64 0, .slice none 0 0, .slice none 0 0, .int .i64 0, .int .i64 0, .int .i64 0]) wx ∧ Hid (Below w2.heap.size w2 wx))
  case first =>
    have VN0 : ∀ o, Hid (Below w2.heap.size w2 (w2.alloc o).drew) := VA0
    go_region_held3 (fun W => W.cell? ⟨w.heap.size, 0, none⟩ = some (.int .i64 now) ∧ W.cell? ⟨w.heap.size, 1, none⟩ = some (.slice A n c) ∧ W.cell? ⟨w.heap.size + 1, 0, none⟩ = some (.int .i64 x) ∧ W.cell? ⟨w.heap.size + 1, 1, none⟩ = some (.int .i64 y) ∧ W.cell? ⟨w.heap.size + 1, 2, none⟩ = some (.int .i64 z)) (first | (with_reducible exact SB.out _ V0) | (with_reducible exact SB.out _ (VA0 _)) | (with_reducible exact SB.out _ V1) | (with_reducible exact SB.out _ (VA1 _)) | (with_reducible exact SB.out _ (VS _ (by first | exact Nat.le_refl _ | assumption) _ _ _ _ _ _ _ _ _ _ _)))
      (first
        | (go_at_call 121; ((with_reducible refine (tableOf_any now q lo hi A n c ys _ (HA.below V0.out).sl (HA.below V0.out).le hn HOK.out.2.1).mono ?_); rintro e u1_0 ⟨b, ps, rfl, hm, hbl, ht, hb⟩; have V1 := Lib.hid (below_step V0.out hb); (try replace HW := HW.below hb); have VN1 : ∀ o, Hid (Below u1_0.heap.size u1_0 (u1_0.alloc o)) := (fun o => (Below.refl _ _).alloc (Nat.le_refl _) o); have VA1 : ∀ o, Hid (Below w2.heap.size w2 (u1_0.alloc o)) := (fun o => Below.alloc V1.out V1.out.size o); have VQ1 := V1.out.size; clear hb; have hfk := ht.no HI.out; have hl1 : (Instr.lookup 168 (.map (some b)) (.agg #[.int .i64 x, .int .i64 y, .int .i64 z]) true).run Try.prog u1_0 = .ok (.tuple #[.agg #[.int .i64 0, .int .i64 0, .int .i64 0, .int .i64 0, .int .i64 0, .int .i64 0, .slice none 0 0, .slice none 0 0, .int .i64 0, .int .i64 0, .int .i64 0], .bool false]) u1_0 := (by have := lookup_kI hm x y z; rw [hfk] at this; exact this); have hl2 : ∀ o, (Instr.lookup 168 (.map (some b)) (.agg #[.int .i64 x, .int .i64 y, .int .i64 z]) true).run Try.prog (u1_0.alloc o) = .ok (.tuple #[.agg #[.int .i64 0, .int .i64 0, .int .i64 0, .int .i64 0, .int .i64 0, .int .i64 0, .slice none 0 0, .slice none 0 0, .int .i64 0, .int .i64 0, .int .i64 0], .bool false]) (u1_0.alloc o) := (fun o => (by have := lookup_kI (hm.grown (World.grownBy_alloc _ o none) (by simp)) x y z; rw [hfk] at this; exact this)); clear hm hfk ht hbl; have VS : ∀ (g : Nat) (hg : w2.heap.size ≤ g) (v0 v1 v2 v3 v4 v5 v6 v7 v8 v9 v10 : Value), Hid (Below w2.heap.size w2 (((((((((((u1_0.setCell ⟨g, 0, none⟩ v0).setCell ⟨g, 1, none⟩ v1).setCell ⟨g, 2, none⟩ v2).setCell ⟨g, 3, none⟩ v3).setCell ⟨g, 4, none⟩ v4).setCell ⟨g, 5, none⟩ v5).setCell ⟨g, 6, none⟩ v6).setCell ⟨g, 7, none⟩ v7).setCell ⟨g, 8, none⟩ v8).setCell ⟨g, 9, none⟩ v9).setCell ⟨g, 10, none⟩ v10)) := (fun g hg v0 v1 v2 v3 v4 v5 v6 v7 v8 v9 v10 => (Below.setCell (p := ⟨g, 10, none⟩) (Below.setCell (p := ⟨g, 9, none⟩) (Below.setCell (p := ⟨g, 8, none⟩) (Below.setCell (p := ⟨g, 7, none⟩) (Below.setCell (p := ⟨g, 6, none⟩) (Below.setCell (p := ⟨g, 5, none⟩) (Below.setCell (p := ⟨g, 4, none⟩) (Below.setCell (p := ⟨g, 3, none⟩) (Below.setCell (p := ⟨g, 2, none⟩) (Below.setCell (p := ⟨g, 1, none⟩) (Below.setCell (p := ⟨g, 0, none⟩) V1.out hg v0) hg v1) hg v2) hg v3) hg v4) hg v5) hg v6) hg v7) hg v8) hg v9) hg v10)); (try (have hk0 := HW.look 0; have hf0 := HW.free 0)); (try (have hk1 := HW.look 1; have hf1 := HW.free 1)); (try (have hk2 := HW.look 2; have hf2 := HW.free 2)); (try (have hk3 := HW.look 3; have hf3 := HW.free 3)); (try (have hk4 := HW.look 4; have hf4 := HW.free 4)); (try (have hk5 := HW.look 5; have hf5 := HW.free 5)); (try (have hk6 := HW.look 6; have hf6 := HW.free 6)); (try (have hk7 := HW.look 7; have hf7 := HW.free 7)); (try (have hk8 := HW.look 8; have hf8 := HW.free 8)); (try (have hk9 := HW.look 9; have hf9 := HW.free 9)); (try (have hk10 := HW.look 10; have hf10 := HW.free 10))))
        | (go_at_call 121; ((with_reducible refine (tableOf_any now q lo hi A n c ys _ (HA.below (VA0 _).out).sl (HA.below (VA0 _).out).le hn HOK.out.2.1).mono ?_); rintro e u1_0 ⟨b, ps, rfl, hm, hbl, ht, hb⟩; have V1 := Lib.hid (below_step (VA0 _).out hb); have HW := ((Kept.box (show Box ((w2.alloc (.cells #[.int .i64 0, .int .i64 0, .int .i64 0, .int .i64 0, .int .i64 0, .int .i64 0, .slice none 0 0, .slice none 0 0, .int .i64 0, .int .i64 0, .int .i64 0] 152)).drew) w2.heap.size 152 #[.int .i64 0, .int .i64 0, .int .i64 0, .int .i64 0, .int .i64 0, .int .i64 0, .slice none 0 0, .slice none 0 0, .int .i64 0, .int .i64 0, .int .i64 0] from Box.made _ _ _))).below hb; have VN1 : ∀ o, Hid (Below u1_0.heap.size u1_0 (u1_0.alloc o)) := (fun o => (Below.refl _ _).alloc (Nat.le_refl _) o); have VA1 : ∀ o, Hid (Below w2.heap.size w2 (u1_0.alloc o)) := (fun o => Below.alloc V1.out V1.out.size o); have VQ1 := V1.out.size; clear hb; have hfk := ht.no HI.out; have hl1 : (Instr.lookup 168 (.map (some b)) (.agg #[.int .i64 x, .int .i64 y, .int .i64 z]) true).run Try.prog u1_0 = .ok (.tuple #[.agg #[.int .i64 0, .int .i64 0, .int .i64 0, .int .i64 0, .int .i64 0, .int .i64 0, .slice none 0 0, .slice none 0 0, .int .i64 0, .int .i64 0, .int .i64 0], .bool false]) u1_0 := (by have := lookup_kI hm x y z; rw [hfk] at this; exact this); have hl2 : ∀ o, (Instr.lookup 168 (.map (some b)) (.agg #[.int .i64 x, .int .i64 y, .int .i64 z]) true).run Try.prog (u1_0.alloc o) = .ok (.tuple #[.agg #[.int .i64 0, .int .i64 0, .int .i64 0, .int .i64 0, .int .i64 0, .int .i64 0, .slice none 0 0, .slice none 0 0, .int .i64 0, .int .i64 0, .int .i64 0], .bool false]) (u1_0.alloc o) := (fun o => (by have := lookup_kI (hm.grown (World.grownBy_alloc _ o none) (by simp)) x y z; rw [hfk] at this; exact this)); clear hm hfk ht hbl; have VS : ∀ (g : Nat) (hg : w2.heap.size ≤ g) (v0 v1 v2 v3 v4 v5 v6 v7 v8 v9 v10 : Value), Hid (Below w2.heap.size w2 (((((((((((u1_0.setCell ⟨g, 0, none⟩ v0).setCell ⟨g, 1, none⟩ v1).setCell ⟨g, 2, none⟩ v2).setCell ⟨g, 3, none⟩ v3).setCell ⟨g, 4, none⟩ v4).setCell ⟨g, 5, none⟩ v5).setCell ⟨g, 6, none⟩ v6).setCell ⟨g, 7, none⟩ v7).setCell ⟨g, 8, none⟩ v8).setCell ⟨g, 9, none⟩ v9).setCell ⟨g, 10, none⟩ v10)) := (fun g hg v0 v1 v2 v3 v4 v5 v6 v7 v8 v9 v10 => (Below.setCell (p := ⟨g, 10, none⟩) (Below.setCell (p := ⟨g, 9, none⟩) (Below.setCell (p := ⟨g, 8, none⟩) (Below.setCell (p := ⟨g, 7, none⟩) (Below.setCell (p := ⟨g, 6, none⟩) (Below.setCell (p := ⟨g, 5, none⟩) (Below.setCell (p := ⟨g, 4, none⟩) (Below.setCell (p := ⟨g, 3, none⟩) (Below.setCell (p := ⟨g, 2, none⟩) (Below.setCell (p := ⟨g, 1, none⟩) (Below.setCell (p := ⟨g, 0, none⟩) V1.out hg v0) hg v1) hg v2) hg v3) hg v4) hg v5) hg v6) hg v7) hg v8) hg v9) hg v10)); (try (have hk0 := HW.look 0; have hf0 := HW.free 0)); (try (have hk1 := HW.look 1; have hf1 := HW.free 1)); (try (have hk2 := HW.look 2; have hf2 := HW.free 2)); (try (have hk3 := HW.look 3; have hf3 := HW.free 3)); (try (have hk4 := HW.look 4; have hf4 := HW.free 4)); (try (have hk5 := HW.look 5; have hf5 := HW.free 5)); (try (have hk6 := HW.look 6; have hf6 := HW.free 6)); (try (have hk7 := HW.look 7; have hf7 := HW.free 7)); (try (have hk8 := HW.look 8; have hf8 := HW.free 8)); (try (have hk9 := HW.look 9; have hf9 := HW.free 9)); (try (have hk10 := HW.look 10; have hf10 := HW.free 10)))))
    all_goals (go_wp2_with fail; go_meet; first | exact ⟨_, rfl, rfl, Lib.hid (by first | exact Nat.le_refl _ | assumption), Kept.box (((((((((((HW.bx.puts 0 (.int .i64 0) (cs' := #[.int .i64 0, .int .i64 0, .int .i64 0, .int .i64 0, .int .i64 0, .int .i64 0, .slice none 0 0, .slice none 0 0, .int .i64 0, .int .i64 0, .int .i64 0]) rfl).puts 1 (.int .i64 0) (cs' := #[.int .i64 0, .int .i64 0, .int .i64 0, .int .i64 0, .int .i64 0, .int .i64 0, .slice none 0 0, .slice none 0 0, .int .i64 0, .int .i64 0, .int .i64 0]) rfl).puts 2 (.int .i64 0) (cs' := #[.int .i64 0, .int .i64 0, .int .i64 0, .int .i64 0, .int .i64 0, .int .i64 0, .slice none 0 0, .slice none 0 0, .int .i64 0, .int .i64 0, .int .i64 0]) rfl).puts 3 (.int .i64 0) (cs' := #[.int .i64 0, .int .i64 0, .int .i64 0, .int .i64 0, .int .i64 0, .int .i64 0, .slice none 0 0, .slice none 0 0, .int .i64 0, .int .i64 0, .int .i64 0]) rfl).puts 4 (.int .i64 0) (cs' := #[.int .i64 0, .int .i64 0, .int .i64 0, .int .i64 0, .int .i64 0, .int .i64 0, .slice none 0 0, .slice none 0 0, .int .i64 0, .int .i64 0, .int .i64 0]) rfl).puts 5 (.int .i64 0) (cs' := #[.int .i64 0, .int .i64 0, .int .i64 0, .int .i64 0, .int .i64 0, .int .i64 0, .slice none 0 0, .slice none 0 0, .int .i64 0, .int .i64 0, .int .i64 0]) rfl).puts 6 (.slice none 0 0) (cs' := #[.int .i64 0, .int .i64 0, .int .i64 0, .int .i64 0, .int .i64 0, .int .i64 0, .slice none 0 0, .slice none 0 0, .int .i64 0, .int .i64 0, .int .i64 0]) rfl).puts 7 (.slice none 0 0) (cs' := #[.int .i64 0, .int .i64 0, .int .i64 0, .int .i64 0, .int .i64 0, .int .i64 0, .slice none 0 0, .slice none 0 0, .int .i64 0, .int .i64 0, .int .i64 0]) rfl).puts 8 (.int .i64 0) (cs' := #[.int .i64 0, .int .i64 0, .int .i64 0, .int .i64 0, .int .i64 0, .int .i64 0, .slice none 0 0, .slice none 0 0, .int .i64 0, .int .i64 0, .int .i64 0]) rfl).puts 9 (.int .i64 0) (cs' := #[.int .i64 0, .int .i64 0, .int .i64 0, .int .i64 0, .int .i64 0, .int .i64 0, .slice none 0 0, .slice none 0 0, .int .i64 0, .int .i64 0, .int .i64 0]) rfl).puts 10 (.int .i64 0) (cs' := #[.int .i64 0, .int .i64 0, .int .i64 0, .int .i64 0, .int .i64 0, .int .i64 0, .slice none 0 0, .slice none 0 0, .int .i64 0, .int .i64 0, .int .i64 0]) rfl), VS _ (by first | exact Nat.le_refl _ | assumption) _ _ _ _ _ _ _ _ _ _ _⟩ | exact ⟨_, rfl, rfl, Lib.hid VQ1, Kept.box (Box.made _ _ _), VA1 _⟩)
  obtain ⟨g1, rfl, rfl, hg, HW1, HC⟩ := hcut
  skip
  obtain ⟨wx1, rfl⟩ : ∃ W : World, W = wc := ⟨_, rfl⟩
  have hb := HC.out
  clear HC SB V0 VA0
  have Z3 := hg; clear hg
  have Z4 := Lib.hid hb.size
  have Z5 := Lib.hid HW1.le
  replace HA := HA.below hb
  replace HX1 := HX1.below hb
  replace HX2 := HX2.below hb
  replace HX3 := HX3.below hb
  replace HB := Lib.hid (below_step HB.out hb)
  clear hb
  have c3_0 := HX3.look 0
  have c3_1 := HX3.look 1
  have c3_2 := HX3.look 2
  have c3_3 := HX3.look 3
  have c3_4 := HX3.look 4
  have c3_5 := HX3.look 5
  have c3_6 := HX3.look 6
  have c3_7 := HX3.look 7
  have c3_8 := HX3.look 8
  have c3_9 := HX3.look 9
  have c3_10 := HX3.look 10
  have f3_0 := HX3.free 0
  have f3_1 := HX3.free 1
  have f3_2 := HX3.free 2
  have f3_3 := HX3.free 3
  have f3_4 := HX3.free 4
  have f3_5 := HX3.free 5
  have f3_6 := HX3.free 6
  have f3_7 := HX3.free 7
  have f3_8 := HX3.free 8
  have f3_9 := HX3.free 9
  have f3_10 := HX3.free 10
  have l3_0 := HX1.bx.lt
  have l3_1 := HX2.bx.lt
  have l3_2 := HX3.bx.lt
  have l3_3 := HW1.bx.lt
  go_wp2
  clear c3_0 c3_1 c3_2 c3_3 c3_4 c3_5 c3_6 c3_7 c3_8 c3_9 c3_10 f3_0 f3_1 f3_2 f3_3 f3_4 f3_5 f3_6 f3_7 f3_8 f3_9 f3_10 l3_0 l3_1 l3_2 l3_3
  obtain ⟨U3, hU3⟩ : ∃ W : World, W = (((((((((((wx1.setCell ⟨w.heap.size + 1 + 1, 0, none⟩ (.int .i64 4)).setCell ⟨w.heap.size + 1 + 1, 1, none⟩ (.int .i64 0)).setCell ⟨w.heap.size + 1 + 1, 2, none⟩ (.int .i64 0)).setCell ⟨w.heap.size + 1 + 1, 3, none⟩ (.int .i64 0)).setCell ⟨w.heap.size + 1 + 1, 4, none⟩ (.int .i64 0)).setCell ⟨w.heap.size + 1 + 1, 5, none⟩ (.int .i64 0)).setCell ⟨w.heap.size + 1 + 1, 6, none⟩ (.int .i64 0)).setCell ⟨w.heap.size + 1 + 1, 7, none⟩ (.slice none 0 0)).setCell ⟨w.heap.size + 1 + 1, 8, none⟩ (.slice none 0 0)).setCell ⟨w.heap.size + 1 + 1, 9, none⟩ (.int .i64 0)).setCell ⟨w.heap.size + 1 + 1, 10, none⟩ (.int .i64 0)) := ⟨_, rfl⟩
  have ho : Only (w.heap.size + 1 + 1) (w.heap.size + 1 + 1 + 1) wx1 U3 := by rw [hU3]; exact ((((((((((((Only.refl _ _ _).set (p := ⟨w.heap.size + 1 + 1, 0, none⟩) (Nat.le_refl _) (Nat.lt_succ_self _) _).set (p := ⟨w.heap.size + 1 + 1, 1, none⟩) (Nat.le_refl _) (Nat.lt_succ_self _) _).set (p := ⟨w.heap.size + 1 + 1, 2, none⟩) (Nat.le_refl _) (Nat.lt_succ_self _) _).set (p := ⟨w.heap.size + 1 + 1, 3, none⟩) (Nat.le_refl _) (Nat.lt_succ_self _) _).set (p := ⟨w.heap.size + 1 + 1, 4, none⟩) (Nat.le_refl _) (Nat.lt_succ_self _) _).set (p := ⟨w.heap.size + 1 + 1, 5, none⟩) (Nat.le_refl _) (Nat.lt_succ_self _) _).set (p := ⟨w.heap.size + 1 + 1, 6, none⟩) (Nat.le_refl _) (Nat.lt_succ_self _) _).set (p := ⟨w.heap.size + 1 + 1, 7, none⟩) (Nat.le_refl _) (Nat.lt_succ_self _) _).set (p := ⟨w.heap.size + 1 + 1, 8, none⟩) (Nat.le_refl _) (Nat.lt_succ_self _) _).set (p := ⟨w.heap.size + 1 + 1, 9, none⟩) (Nat.le_refl _) (Nat.lt_succ_self _) _).set (p := ⟨w.heap.size + 1 + 1, 10, none⟩) (Nat.le_refl _) (Nat.lt_succ_self _) _)
  replace HX3 : Kept (w.heap.size + 1 + 1) (w.heap.size + 1 + 1 + 1) (BoxK (w.heap.size + 1 + 1) 95 #[.int .i64 4, .int .i64 0, .int .i64 0, .int .i64 0, .int .i64 0, .int .i64 0, .int .i64 0, .slice none 0 0, .slice none 0 0, .int .i64 0, .int .i64 0]) U3 := by rw [hU3]; exact Kept.box (((((((((((HX3.bx.puts 0 (.int .i64 4) (cs' := #[.int .i64 4, .int .i64 0, .int .i64 0, .int .i64 0, .int .i64 0, .int .i64 0, .int .i64 0, .slice none 0 0, .slice none 0 0, .int .i64 0, .int .i64 0]) rfl).puts 1 (.int .i64 0) (cs' := #[.int .i64 4, .int .i64 0, .int .i64 0, .int .i64 0, .int .i64 0, .int .i64 0, .int .i64 0, .slice none 0 0, .slice none 0 0, .int .i64 0, .int .i64 0]) rfl).puts 2 (.int .i64 0) (cs' := #[.int .i64 4, .int .i64 0, .int .i64 0, .int .i64 0, .int .i64 0, .int .i64 0, .int .i64 0, .slice none 0 0, .slice none 0 0, .int .i64 0, .int .i64 0]) rfl).puts 3 (.int .i64 0) (cs' := #[.int .i64 4, .int .i64 0, .int .i64 0, .int .i64 0, .int .i64 0, .int .i64 0, .int .i64 0, .slice none 0 0, .slice none 0 0, .int .i64 0, .int .i64 0]) rfl).puts 4 (.int .i64 0) (cs' := #[.int .i64 4, .int .i64 0, .int .i64 0, .int .i64 0, .int .i64 0, .int .i64 0, .int .i64 0, .slice none 0 0, .slice none 0 0, .int .i64 0, .int .i64 0]) rfl).puts 5 (.int .i64 0) (cs' := #[.int .i64 4, .int .i64 0, .int .i64 0, .int .i64 0, .int .i64 0, .int .i64 0, .int .i64 0, .slice none 0 0, .slice none 0 0, .int .i64 0, .int .i64 0]) rfl).puts 6 (.int .i64 0) (cs' := #[.int .i64 4, .int .i64 0, .int .i64 0, .int .i64 0, .int .i64 0, .int .i64 0, .int .i64 0, .slice none 0 0, .slice none 0 0, .int .i64 0, .int .i64 0]) rfl).puts 7 (.slice none 0 0) (cs' := #[.int .i64 4, .int .i64 0, .int .i64 0, .int .i64 0, .int .i64 0, .int .i64 0, .int .i64 0, .slice none 0 0, .slice none 0 0, .int .i64 0, .int .i64 0]) rfl).puts 8 (.slice none 0 0) (cs' := #[.int .i64 4, .int .i64 0, .int .i64 0, .int .i64 0, .int .i64 0, .int .i64 0, .int .i64 0, .slice none 0 0, .slice none 0 0, .int .i64 0, .int .i64 0]) rfl).puts 9 (.int .i64 0) (cs' := #[.int .i64 4, .int .i64 0, .int .i64 0, .int .i64 0, .int .i64 0, .int .i64 0, .int .i64 0, .slice none 0 0, .slice none 0 0, .int .i64 0, .int .i64 0]) rfl).puts 10 (.int .i64 0) (cs' := #[.int .i64 4, .int .i64 0, .int .i64 0, .int .i64 0, .int .i64 0, .int .i64 0, .int .i64 0, .slice none 0 0, .slice none 0 0, .int .i64 0, .int .i64 0]) rfl)
  replace HA := HA.only ho (by have := Z0.out; have := Z1.out; have := Z2.out; have := Z3.out; have := Z4.out; have := Z5.out; omega)
  replace HX1 := HX1.only ho (by have := Z0.out; have := Z1.out; have := Z2.out; have := Z3.out; have := Z4.out; have := Z5.out; omega)
  replace HX2 := HX2.only ho (by have := Z0.out; have := Z1.out; have := Z2.out; have := Z3.out; have := Z4.out; have := Z5.out; omega)
  replace HW1 := HW1.only ho (by have := Z0.out; have := Z1.out; have := Z2.out; have := Z3.out; have := Z4.out; have := Z5.out; omega)
  replace HB := Lib.hid (Below.only HB.out ho (by have := Z0.out; have := Z1.out; have := Z2.out; have := Z3.out; have := Z4.out; have := Z5.out; omega) HB.out.size)
  have Z6 : Hid (U3.heap.size = wx1.heap.size) := Lib.hid (by rw [hU3]; simp [World.setCell]); clear ho
  have q_0 := HX3.look 0
  have q_1 := HX3.look 1
  have q_2 := HX3.look 2
  have q_3 := HX3.look 3
  have q_4 := HX3.look 4
  have q_5 := HX3.look 5
  have q_6 := HX3.look 6
  have q_7 := HX3.look 7
  have q_8 := HX3.look 8
  have q_9 := HX3.look 9
  have q_10 := HX3.look 10
  have fin : ∀ e, e = Ending.returned (.agg (resCells 4 (zeroL) none none 0 0 0 0)) → (LsaOut w (lookC now x y z ys) (lookM now x y z ys) e U3) := by rintro _ rfl; exact by rw [HC.out, HM.out]; exact ⟨none, none, 0, 0, 0, 0, rfl, LsaTwo.zeroL _ _ (by have := Z0.out; have := Z1.out; have := Z2.out; have := Z3.out; have := Z4.out; have := Z5.out; have := Z6.out; omega), by omega, by omega, HB.out⟩
  subst hU3
  exact bodyPost_ret (v := .agg (resCells 4 (zeroL) none none 0 0 0 0)) (by simp [results, Try.results60, go_sem, zeroL, q_0, q_1, q_2, q_3, q_4, q_5, q_6, q_7, q_8, q_9, q_10]) rfl (fin _ rfl)

set_option maxRecDepth 100000 in
set_option maxHeartbeats 3200000 in
theorem look_3 (x y z now : Int) (q : Bool) (lo hi : Nat) (A : Option Addr) (n c : Nat) (ys : List Ent) (w : World) (ha : Rep.ent.Sl q lo hi w A n ys) (hh : hi ≤ w.heap.size) (hn : n ≤ 1048576) (hm : ∀ y ∈ ys, y.l.links.length ≤ 1048576 ∧ y.l.routers.length ≤ 1048576) (i : Nat) (l : LsaM) (t : Int) (h : faultB now ys = 0) (h2 : lookI x y z ys = some i) (he : ys[i]? = some ⟨l, t⟩) :
    Calls Try.prog 60 #[.agg #[.int .i64 now, .slice A n c], kV x y z] w fun e w' => LsaOut w (lookC now x y z ys) (lookM now x y z ys) e w' := by
  have HB := Lib.hid (Below.refl w.heap.size w)
  have HA := Rep.Sl.kept ha hh
  have Z0 := Lib.hid hh
  have HM0 := Lib.hid hm
  have HC : Hid (lookC now x y z ys = 0) := Lib.hid (lookC_yes h h2 he).1
  have HM : Hid (lookM now x y z ys = { l with age := ageE now l t }) := Lib.hid (lookC_yes h h2 he).2
  have HF := Lib.hid h
  have HI := Lib.hid h2
  have HE := Lib.hid he
  have HOK := Lib.hid (faultB_ok h)
  have hok := HOK.out.2.2 _ (List.mem_of_getElem? he)
  simp only [] at hok
  obtain ⟨⟨ha0, ha1⟩, ht0, ht1⟩ := hok
  have hw0 := HOK.out.1.1
  have hw1 := HOK.out.1.2
  obtain ⟨v, hv⟩ : ∃ v, ageE now l t = v := ⟨_, rfl⟩
  have HV := Lib.hid hv
  rw [hv] at HM
  clear h h2 he hv
  clear hm
  clear ha
  go_enter Try.func60, Try.ntmps60
  go_wp2_with fail
  refine Calls.name ?_
  intro U1 hU1
  have hb : Below w.heap.size w U1 := by rw [hU1]; exact ((((Below.refl _ _).alloc (Nat.le_refl _) _).alloc (by simp <;> omega) _).alloc (by simp <;> omega) _)
  have zz : Hid (w.heap.size + 3 = U1.heap.size) := Lib.hid (by rw [hU1]; simp)
  have HX1 : Kept w.heap.size (w.heap.size + 1) (BoxK w.heap.size 79 #[.int .i64 now, .slice A n c]) U1 := by rw [hU1]; exact Kept.box (((Box.made_at _ _ _ rfl).over _).over _)
  have HX2 : Kept (w.heap.size + 1) (w.heap.size + 1 + 1) (BoxK (w.heap.size + 1) 34 #[.int .i64 x, .int .i64 y, .int .i64 z]) U1 := by rw [hU1]; exact Kept.box ((Box.made_at _ _ _ (by simp <;> omega)).over _)
  have HX3 : Kept (w.heap.size + 1 + 1) (w.heap.size + 1 + 1 + 1) (BoxK (w.heap.size + 1 + 1) 95 #[.int .i64 0, .int .i64 0, .int .i64 0, .int .i64 0, .int .i64 0, .int .i64 0, .int .i64 0, .slice none 0 0, .slice none 0 0, .int .i64 0, .int .i64 0]) U1 := by rw [hU1]; exact Kept.box (Box.made_at _ _ _ (by simp <;> omega))
  replace HA := HA.below hb
  replace HB := Lib.hid (below_step HB.out hb)
  clear hb
  have Z1 := zz; clear zz
  clear hU1
  refine (baseFault_any now q lo hi A n c ys _ HA.sl HA.le hn HM0.out).mono ?_
  rw [HF.out]
  rintro e w2 ⟨rfl, hb⟩
  have Z2 := Lib.hid hb.size
  replace HA := HA.below hb
  replace HX1 := HX1.below hb
  replace HX2 := HX2.below hb
  replace HX3 := HX3.below hb
  replace HB := Lib.hid (below_step HB.out hb)
  clear hb
  have l2_0 := HX1.bx.lt
  have l2_1 := HX2.bx.lt
  have l2_2 := HX3.bx.lt
  go_wp2_with fail
  clear l2_0 l2_1 l2_2
  have SB : Hid (∀ W, Hid (Below w2.heap.size w2 W) → (fun W => W.cell? ⟨w.heap.size, 0, none⟩ = some (.int .i64 now) ∧ W.cell? ⟨w.heap.size, 1, none⟩ = some (.slice A n c) ∧ W.cell? ⟨w.heap.size + 1, 0, none⟩ = some (.int .i64 x) ∧ W.cell? ⟨w.heap.size + 1, 1, none⟩ = some (.int .i64 y) ∧ W.cell? ⟨w.heap.size + 1, 2, none⟩ = some (.int .i64 z)) W) := fun W h => ⟨(HX1.below h.out).look 0, (HX1.below h.out).look 1, (HX2.below h.out).look 0, (HX2.below h.out).look 1, (HX2.below h.out).look 2⟩
  have V0 : Hid (Below w2.heap.size w2 w2.drew) := (Below.refl _ _).drew
  have VA0 : ∀ o, Hid (Below w2.heap.size w2 (w2.alloc o).drew) := fun o => ((Below.refl _ _).alloc (Nat.le_refl _) o).drew
  go_upto_region 4 with (fail)
  go_cut [6, 7] (fun s6 s7 wx => ∃ g E m c1 F m' d1, s6 = .pointer (some ⟨g, 0, none⟩) ∧ s7 = .bool true ∧ Hid (LsaIn q lo hi w2 E m F m' l) ∧ Hid (w2.heap.size ≤ g) ∧ Kept g (g + 1) (BoxK g 152 #[.int .i64 l.age, .int .i64 l.options, .int .i64 l.typ, .int .i64 l.id, .int .i64 l.adv, .int .i64 l.seq, .slice E m c1, .slice F m' d1, .int .i64 l.mask, .int .i64 l.cost, .int .i64 t]) wx ∧ Hid (Below w2.heap.size w2 wx))
  case first =>
    have VN0 : ∀ o, Hid (Below w2.heap.size w2 (w2.alloc o).drew) := VA0
    go_region_held3 (fun W => W.cell? ⟨w.heap.size, 0, none⟩ = some (.int .i64 now) ∧ W.cell? ⟨w.heap.size, 1, none⟩ = some (.slice A n c) ∧ W.cell? ⟨w.heap.size + 1, 0, none⟩ = some (.int .i64 x) ∧ W.cell? ⟨w.heap.size + 1, 1, none⟩ = some (.int .i64 y) ∧ W.cell? ⟨w.heap.size + 1, 2, none⟩ = some (.int .i64 z)) (first | (with_reducible exact SB.out _ V0) | (with_reducible exact SB.out _ (VA0 _)) | (with_reducible exact SB.out _ V1) | (with_reducible exact SB.out _ (VA1 _)) | (with_reducible exact SB.out _ (VS _ (by first | exact Nat.le_refl _ | assumption) _ _ _ _ _ _ _ _ _ _ _)))
      (first
        | (go_at_call 121; ((with_reducible refine (tableOf_any now q lo hi A n c ys _ (HA.below V0.out).sl (HA.below V0.out).le hn HOK.out.2.1).mono ?_); rintro e u1_0 ⟨b, ps, rfl, hm, hbl, ht, hb⟩; have V1 := Lib.hid (below_step V0.out hb); (try replace HW := HW.below hb); have VN1 : ∀ o, Hid (Below u1_0.heap.size u1_0 (u1_0.alloc o)) := (fun o => (Below.refl _ _).alloc (Nat.le_refl _) o); have VA1 : ∀ o, Hid (Below w2.heap.size w2 (u1_0.alloc o)) := (fun o => Below.alloc V1.out V1.out.size o); have VQ1 := V1.out.size; clear hb; obtain ⟨E, m, c1, F, m', d1, hfk, hli⟩ := ht.yes HI.out HE.out; have HLI : Hid (LsaIn q lo hi w2 E m F m' l) := Lib.hid (hli.keep (fun b h1 h2 => (V1.out.block b (Nat.lt_of_lt_of_le h2 HA.le)).symm)); have hl1 : (Instr.lookup 168 (.map (some b)) (.agg #[.int .i64 x, .int .i64 y, .int .i64 z]) true).run Try.prog u1_0 = .ok (.tuple #[.agg (entCells l t E F m c1 m' d1), .bool true]) u1_0 := (by have := lookup_kI hm x y z; rw [hfk] at this; exact this); have hl2 : ∀ o, (Instr.lookup 168 (.map (some b)) (.agg #[.int .i64 x, .int .i64 y, .int .i64 z]) true).run Try.prog (u1_0.alloc o) = .ok (.tuple #[.agg (entCells l t E F m c1 m' d1), .bool true]) (u1_0.alloc o) := (fun o => (by have := lookup_kI (hm.grown (World.grownBy_alloc _ o none) (by simp)) x y z; rw [hfk] at this; exact this)); clear hm hfk ht hbl hli; have VS : ∀ (g : Nat) (hg : w2.heap.size ≤ g) (v0 v1 v2 v3 v4 v5 v6 v7 v8 v9 v10 : Value), Hid (Below w2.heap.size w2 (((((((((((u1_0.setCell ⟨g, 0, none⟩ v0).setCell ⟨g, 1, none⟩ v1).setCell ⟨g, 2, none⟩ v2).setCell ⟨g, 3, none⟩ v3).setCell ⟨g, 4, none⟩ v4).setCell ⟨g, 5, none⟩ v5).setCell ⟨g, 6, none⟩ v6).setCell ⟨g, 7, none⟩ v7).setCell ⟨g, 8, none⟩ v8).setCell ⟨g, 9, none⟩ v9).setCell ⟨g, 10, none⟩ v10)) := (fun g hg v0 v1 v2 v3 v4 v5 v6 v7 v8 v9 v10 => (Below.setCell (p := ⟨g, 10, none⟩) (Below.setCell (p := ⟨g, 9, none⟩) (Below.setCell (p := ⟨g, 8, none⟩) (Below.setCell (p := ⟨g, 7, none⟩) (Below.setCell (p := ⟨g, 6, none⟩) (Below.setCell (p := ⟨g, 5, none⟩) (Below.setCell (p := ⟨g, 4, none⟩) (Below.setCell (p := ⟨g, 3, none⟩) (Below.setCell (p := ⟨g, 2, none⟩) (Below.setCell (p := ⟨g, 1, none⟩) (Below.setCell (p := ⟨g, 0, none⟩) V1.out hg v0) hg v1) hg v2) hg v3) hg v4) hg v5) hg v6) hg v7) hg v8) hg v9) hg v10)); (try (have hk0 := HW.look 0; have hf0 := HW.free 0)); (try (have hk1 := HW.look 1; have hf1 := HW.free 1)); (try (have hk2 := HW.look 2; have hf2 := HW.free 2)); (try (have hk3 := HW.look 3; have hf3 := HW.free 3)); (try (have hk4 := HW.look 4; have hf4 := HW.free 4)); (try (have hk5 := HW.look 5; have hf5 := HW.free 5)); (try (have hk6 := HW.look 6; have hf6 := HW.free 6)); (try (have hk7 := HW.look 7; have hf7 := HW.free 7)); (try (have hk8 := HW.look 8; have hf8 := HW.free 8)); (try (have hk9 := HW.look 9; have hf9 := HW.free 9)); (try (have hk10 := HW.look 10; have hf10 := HW.free 10))))
        | (go_at_call 121; ((with_reducible refine (tableOf_any now q lo hi A n c ys _ (HA.below (VA0 _).out).sl (HA.below (VA0 _).out).le hn HOK.out.2.1).mono ?_); rintro e u1_0 ⟨b, ps, rfl, hm, hbl, ht, hb⟩; have V1 := Lib.hid (below_step (VA0 _).out hb); have HW := ((Kept.box (show Box ((w2.alloc (.cells #[.int .i64 0, .int .i64 0, .int .i64 0, .int .i64 0, .int .i64 0, .int .i64 0, .slice none 0 0, .slice none 0 0, .int .i64 0, .int .i64 0, .int .i64 0] 152)).drew) w2.heap.size 152 #[.int .i64 0, .int .i64 0, .int .i64 0, .int .i64 0, .int .i64 0, .int .i64 0, .slice none 0 0, .slice none 0 0, .int .i64 0, .int .i64 0, .int .i64 0] from Box.made _ _ _))).below hb; have VN1 : ∀ o, Hid (Below u1_0.heap.size u1_0 (u1_0.alloc o)) := (fun o => (Below.refl _ _).alloc (Nat.le_refl _) o); have VA1 : ∀ o, Hid (Below w2.heap.size w2 (u1_0.alloc o)) := (fun o => Below.alloc V1.out V1.out.size o); have VQ1 := V1.out.size; clear hb; obtain ⟨E, m, c1, F, m', d1, hfk, hli⟩ := ht.yes HI.out HE.out; have HLI : Hid (LsaIn q lo hi w2 E m F m' l) := Lib.hid (hli.keep (fun b h1 h2 => (V1.out.block b (Nat.lt_of_lt_of_le h2 HA.le)).symm)); have hl1 : (Instr.lookup 168 (.map (some b)) (.agg #[.int .i64 x, .int .i64 y, .int .i64 z]) true).run Try.prog u1_0 = .ok (.tuple #[.agg (entCells l t E F m c1 m' d1), .bool true]) u1_0 := (by have := lookup_kI hm x y z; rw [hfk] at this; exact this); have hl2 : ∀ o, (Instr.lookup 168 (.map (some b)) (.agg #[.int .i64 x, .int .i64 y, .int .i64 z]) true).run Try.prog (u1_0.alloc o) = .ok (.tuple #[.agg (entCells l t E F m c1 m' d1), .bool true]) (u1_0.alloc o) := (fun o => (by have := lookup_kI (hm.grown (World.grownBy_alloc _ o none) (by simp)) x y z; rw [hfk] at this; exact this)); clear hm hfk ht hbl hli; have VS : ∀ (g : Nat) (hg : w2.heap.size ≤ g) (v0 v1 v2 v3 v4 v5 v6 v7 v8 v9 v10 : Value), Hid (Below w2.heap.size w2 (((((((((((u1_0.setCell ⟨g, 0, none⟩ v0).setCell ⟨g, 1, none⟩ v1).setCell ⟨g, 2, none⟩ v2).setCell ⟨g, 3, none⟩ v3).setCell ⟨g, 4, none⟩ v4).setCell ⟨g, 5, none⟩ v5).setCell ⟨g, 6, none⟩ v6).setCell ⟨g, 7, none⟩ v7).setCell ⟨g, 8, none⟩ v8).setCell ⟨g, 9, none⟩ v9).setCell ⟨g, 10, none⟩ v10)) := (fun g hg v0 v1 v2 v3 v4 v5 v6 v7 v8 v9 v10 => (Below.setCell (p := ⟨g, 10, none⟩) (Below.setCell (p := ⟨g, 9, none⟩) (Below.setCell (p := ⟨g, 8, none⟩) (Below.setCell (p := ⟨g, 7, none⟩) (Below.setCell (p := ⟨g, 6, none⟩) (Below.setCell (p := ⟨g, 5, none⟩) (Below.setCell (p := ⟨g, 4, none⟩) (Below.setCell (p := ⟨g, 3, none⟩) (Below.setCell (p := ⟨g, 2, none⟩) (Below.setCell (p := ⟨g, 1, none⟩) (Below.setCell (p := ⟨g, 0, none⟩) V1.out hg v0) hg v1) hg v2) hg v3) hg v4) hg v5) hg v6) hg v7) hg v8) hg v9) hg v10)); (try (have hk0 := HW.look 0; have hf0 := HW.free 0)); (try (have hk1 := HW.look 1; have hf1 := HW.free 1)); (try (have hk2 := HW.look 2; have hf2 := HW.free 2)); (try (have hk3 := HW.look 3; have hf3 := HW.free 3)); (try (have hk4 := HW.look 4; have hf4 := HW.free 4)); (try (have hk5 := HW.look 5; have hf5 := HW.free 5)); (try (have hk6 := HW.look 6; have hf6 := HW.free 6)); (try (have hk7 := HW.look 7; have hf7 := HW.free 7)); (try (have hk8 := HW.look 8; have hf8 := HW.free 8)); (try (have hk9 := HW.look 9; have hf9 := HW.free 9)); (try (have hk10 := HW.look 10; have hf10 := HW.free 10)))))
    all_goals (go_wp2_with fail; go_meet; first | exact ⟨_, E, m, c1, F, m', d1, rfl, rfl, HLI, Lib.hid (by first | exact Nat.le_refl _ | assumption), Kept.box (((((((((((HW.bx.puts 0 (.int .i64 l.age) (cs' := #[.int .i64 l.age, .int .i64 0, .int .i64 0, .int .i64 0, .int .i64 0, .int .i64 0, .slice none 0 0, .slice none 0 0, .int .i64 0, .int .i64 0, .int .i64 0]) rfl).puts 1 (.int .i64 l.options) (cs' := #[.int .i64 l.age, .int .i64 l.options, .int .i64 0, .int .i64 0, .int .i64 0, .int .i64 0, .slice none 0 0, .slice none 0 0, .int .i64 0, .int .i64 0, .int .i64 0]) rfl).puts 2 (.int .i64 l.typ) (cs' := #[.int .i64 l.age, .int .i64 l.options, .int .i64 l.typ, .int .i64 0, .int .i64 0, .int .i64 0, .slice none 0 0, .slice none 0 0, .int .i64 0, .int .i64 0, .int .i64 0]) rfl).puts 3 (.int .i64 l.id) (cs' := #[.int .i64 l.age, .int .i64 l.options, .int .i64 l.typ, .int .i64 l.id, .int .i64 0, .int .i64 0, .slice none 0 0, .slice none 0 0, .int .i64 0, .int .i64 0, .int .i64 0]) rfl).puts 4 (.int .i64 l.adv) (cs' := #[.int .i64 l.age, .int .i64 l.options, .int .i64 l.typ, .int .i64 l.id, .int .i64 l.adv, .int .i64 0, .slice none 0 0, .slice none 0 0, .int .i64 0, .int .i64 0, .int .i64 0]) rfl).puts 5 (.int .i64 l.seq) (cs' := #[.int .i64 l.age, .int .i64 l.options, .int .i64 l.typ, .int .i64 l.id, .int .i64 l.adv, .int .i64 l.seq, .slice none 0 0, .slice none 0 0, .int .i64 0, .int .i64 0, .int .i64 0]) rfl).puts 6 (.slice E m c1) (cs' := #[.int .i64 l.age, .int .i64 l.options, .int .i64 l.typ, .int .i64 l.id, .int .i64 l.adv, .int .i64 l.seq, .slice E m c1, .slice none 0 0, .int .i64 0, .int .i64 0, .int .i64 0]) rfl).puts 7 (.slice F m' d1) (cs' := #[.int .i64 l.age, .int .i64 l.options, .int .i64 l.typ, .int .i64 l.id, .int .i64 l.adv, .int .i64 l.seq, .slice E m c1, .slice F m' d1, .int .i64 0, .int .i64 0, .int .i64 0]) rfl).puts 8 (.int .i64 l.mask) (cs' := #[.int .i64 l.age, .int .i64 l.options, .int .i64 l.typ, .int .i64 l.id, .int .i64 l.adv, .int .i64 l.seq, .slice E m c1, .slice F m' d1, .int .i64 l.mask, .int .i64 0, .int .i64 0]) rfl).puts 9 (.int .i64 l.cost) (cs' := #[.int .i64 l.age, .int .i64 l.options, .int .i64 l.typ, .int .i64 l.id, .int .i64 l.adv, .int .i64 l.seq, .slice E m c1, .slice F m' d1, .int .i64 l.mask, .int .i64 l.cost, .int .i64 0]) rfl).puts 10 (.int .i64 t) (cs' := #[.int .i64 l.age, .int .i64 l.options, .int .i64 l.typ, .int .i64 l.id, .int .i64 l.adv, .int .i64 l.seq, .slice E m c1, .slice F m' d1, .int .i64 l.mask, .int .i64 l.cost, .int .i64 t]) rfl), VS _ (by first | exact Nat.le_refl _ | assumption) _ _ _ _ _ _ _ _ _ _ _⟩ | exact ⟨_, E, m, c1, F, m', d1, rfl, rfl, HLI, Lib.hid VQ1, Kept.box (Box.made _ _ _), VA1 _⟩)
  obtain ⟨g1, E, m, c1, F, m', d1, rfl, rfl, HLI, hg, HW1, HC⟩ := hcut
  have HLL := (show LsaAt q lo hi w2 E m F m' l from ⟨HLI.out, HA.le⟩).kept
  have hmm := HM0.out _ (List.mem_of_getElem? HE.out)
  simp only [] at hmm
  rw [show l.links.length = m from HLI.out.links.1, show l.routers.length = m' from HLI.out.routers.1] at hmm
  clear HLI
  obtain ⟨wx1, rfl⟩ : ∃ W : World, W = wc := ⟨_, rfl⟩
  have hb := HC.out
  clear HC SB V0 VA0
  have Z3 := hg; clear hg
  have Z4 := Lib.hid hb.size
  have Z5 := Lib.hid HW1.le
  replace HA := HA.below hb
  replace HX1 := HX1.below hb
  replace HX2 := HX2.below hb
  replace HX3 := HX3.below hb
  replace HLL := HLL.below hb
  replace HB := Lib.hid (below_step HB.out hb)
  clear hb
  have l3_0 := HX1.bx.lt
  have l3_1 := HX2.bx.lt
  have l3_2 := HX3.bx.lt
  have l3_3 := HW1.bx.lt
  go_wp2_with fail
  clear l3_0 l3_1 l3_2 l3_3
  have V0 : Hid (Below wx1.heap.size wx1 wx1.drew) := Lib.hid (Below.refl _ _).drew
  have hdz : wx1.heap.size ≤ wx1.drew.heap.size := Nat.le_refl _
  have hdq : wx1.drew.heap.size = wx1.heap.size := rfl
  have cl0_HW1_0 := HW1.look 0
  have cl0_HW1_1 := HW1.look 1
  have cl0_HW1_2 := HW1.look 2
  have cl0_HW1_3 := HW1.look 3
  have cl0_HW1_4 := HW1.look 4
  have cl0_HW1_5 := HW1.look 5
  have cl0_HW1_6 := HW1.look 6
  have cl0_HW1_7 := HW1.look 7
  have cl0_HW1_8 := HW1.look 8
  have cl0_HW1_9 := HW1.look 9
  have cl0_HW1_10 := HW1.look 10
  have cl0_HX1_0 := HX1.look 0
  have cl0_HX1_1 := HX1.look 1
  have ll0_HW1 := HW1.bx.lt
  have ll0_HX1 := HX1.bx.lt
  have ll0_HX3 := HX3.bx.lt
  have ne_HX3_HW1 : ¬ w.heap.size + 1 + 1 = g1 := (by have := Z0.out; have := Z1.out; have := Z2.out; have := Z3.out; have := Z4.out; have := Z5.out; omega)
  have nf_HW1_HX3 : ¬ g1 = w.heap.size + 1 + 1 := (by have := Z0.out; have := Z1.out; have := Z2.out; have := Z3.out; have := Z4.out; have := Z5.out; omega)
  have ne_HX3_HX1 : ¬ w.heap.size + 1 + 1 = w.heap.size := (by have := Z0.out; have := Z1.out; have := Z2.out; have := Z3.out; have := Z4.out; have := Z5.out; omega)
  have nf_HX1_HX3 : ¬ w.heap.size = w.heap.size + 1 + 1 := (by have := Z0.out; have := Z1.out; have := Z2.out; have := Z3.out; have := Z4.out; have := Z5.out; omega)
  go_region_law (first
      | ((show (if Region.wanted (Oper.mk (some 29) _ _ _ _ _) _ = true then _ else _)); go_simp; have PC := ageOf_v l t now v E F m c1 m' d1 (wx1.drew) ha0 ha1 hw0 hw1 ht0 ht1 HV.out; with_reducible refine PC.mono ?_; clear PC; rintro e uu0 ⟨rfl, hb⟩; replace HA := HA.below V0.out; replace HX1 := HX1.below V0.out; replace HX2 := HX2.below V0.out; replace HX3 := HX3.below V0.out; replace HLL := HLL.below V0.out; replace HW1 := HW1.below V0.out; replace HB := Lib.hid (below_step HB.out V0.out); have Z6 := Lib.hid (Nat.le_trans hdz hb.size); replace HA := HA.below hb; replace HX1 := HX1.below hb; replace HX2 := HX2.below hb; replace HX3 := HX3.below hb; replace HLL := HLL.below hb; replace HW1 := HW1.below hb; replace HB := Lib.hid (below_step HB.out hb); clear hb; have cl1_HW1_0 := HW1.look 0; have cl1_HW1_1 := HW1.look 1; have cl1_HW1_2 := HW1.look 2; have cl1_HW1_3 := HW1.look 3; have cl1_HW1_4 := HW1.look 4; have cl1_HW1_5 := HW1.look 5; have cl1_HW1_6 := HW1.look 6; have cl1_HW1_7 := HW1.look 7; have cl1_HW1_8 := HW1.look 8; have cl1_HW1_9 := HW1.look 9; have cl1_HW1_10 := HW1.look 10; have cl1_HX1_0 := HX1.look 0; have cl1_HX1_1 := HX1.look 1; have ll1_HW1 := HW1.bx.lt; have ll1_HX1 := HX1.bx.lt; have ll1_HX3 := HX3.bx.lt)
      | ((show (if Region.wanted (Oper.mk (some 30) _ _ _ _ _) _ = true then _ else _)); go_simp; have PC := withAge_any l q lo hi E F m c1 m' d1 v (uu0) (HLL).lsa hmm.1 hmm.2; with_reducible refine PC.mono ?_; clear PC; rintro e uu1 ⟨A', B', c', d', rfl, ht, hb⟩; have Z7 := Lib.hid (hb.size); replace HA := HA.below hb; replace HX1 := HX1.below hb; replace HX2 := HX2.below hb; replace HX3 := HX3.below hb; replace HLL := HLL.below hb; replace HW1 := HW1.below hb; replace HB := Lib.hid (below_step HB.out hb); clear hb; have HT := ht.kept; clear ht; have cl2_HW1_0 := HW1.look 0; have cl2_HW1_1 := HW1.look 1; have cl2_HW1_2 := HW1.look 2; have cl2_HW1_3 := HW1.look 3; have cl2_HW1_4 := HW1.look 4; have cl2_HW1_5 := HW1.look 5; have cl2_HW1_6 := HW1.look 6; have cl2_HW1_7 := HW1.look 7; have cl2_HW1_8 := HW1.look 8; have cl2_HW1_9 := HW1.look 9; have cl2_HW1_10 := HW1.look 10; have cl2_HX1_0 := HX1.look 0; have cl2_HX1_1 := HX1.look 1; have ll2_HW1 := HW1.bx.lt; have ll2_HX1 := HX1.bx.lt; have ll2_HX3 := HX3.bx.lt; have cs2_HX3_0 := HX3.look 0; have fs2_HX3_0 := HX3.free 0; have cs2_HX3_1 := HX3.look 1; have fs2_HX3_1 := HX3.free 1; have cs2_HX3_2 := HX3.look 2; have fs2_HX3_2 := HX3.free 2; have cs2_HX3_3 := HX3.look 3; have fs2_HX3_3 := HX3.free 3; have cs2_HX3_4 := HX3.look 4; have fs2_HX3_4 := HX3.free 4; have cs2_HX3_5 := HX3.look 5; have fs2_HX3_5 := HX3.free 5; have cs2_HX3_6 := HX3.look 6; have fs2_HX3_6 := HX3.free 6; have cs2_HX3_7 := HX3.look 7; have fs2_HX3_7 := HX3.free 7; have cs2_HX3_8 := HX3.look 8; have fs2_HX3_8 := HX3.free 8; have cs2_HX3_9 := HX3.look 9; have fs2_HX3_9 := HX3.free 9; have cs2_HX3_10 := HX3.look 10; have fs2_HX3_10 := HX3.free 10))
  all_goals
    have l4_0 := HX1.bx.lt
    have l4_1 := HX2.bx.lt
    have l4_2 := HX3.bx.lt
    have l4_3 := HW1.bx.lt
    go_wp2
    clear l4_0 l4_1 l4_2 l4_3
    obtain ⟨U3, hU3⟩ : ∃ W : World, W = (((((((((((uu1.setCell ⟨w.heap.size + 1 + 1, 0, none⟩ (.int .i64 0)).setCell ⟨w.heap.size + 1 + 1, 1, none⟩ (.int .i64 (v))).setCell ⟨w.heap.size + 1 + 1, 2, none⟩ (.int .i64 (l.options))).setCell ⟨w.heap.size + 1 + 1, 3, none⟩ (.int .i64 (l.typ))).setCell ⟨w.heap.size + 1 + 1, 4, none⟩ (.int .i64 (l.id))).setCell ⟨w.heap.size + 1 + 1, 5, none⟩ (.int .i64 (l.adv))).setCell ⟨w.heap.size + 1 + 1, 6, none⟩ (.int .i64 (l.seq))).setCell ⟨w.heap.size + 1 + 1, 7, none⟩ (.slice A' m c')).setCell ⟨w.heap.size + 1 + 1, 8, none⟩ (.slice B' m' d')).setCell ⟨w.heap.size + 1 + 1, 9, none⟩ (.int .i64 (l.mask))).setCell ⟨w.heap.size + 1 + 1, 10, none⟩ (.int .i64 (l.cost))) := ⟨_, rfl⟩
    have ho : Only (w.heap.size + 1 + 1) (w.heap.size + 1 + 1 + 1) uu1 U3 := by rw [hU3]; exact ((((((((((((Only.refl _ _ _).set (p := ⟨w.heap.size + 1 + 1, 0, none⟩) (Nat.le_refl _) (Nat.lt_succ_self _) _).set (p := ⟨w.heap.size + 1 + 1, 1, none⟩) (Nat.le_refl _) (Nat.lt_succ_self _) _).set (p := ⟨w.heap.size + 1 + 1, 2, none⟩) (Nat.le_refl _) (Nat.lt_succ_self _) _).set (p := ⟨w.heap.size + 1 + 1, 3, none⟩) (Nat.le_refl _) (Nat.lt_succ_self _) _).set (p := ⟨w.heap.size + 1 + 1, 4, none⟩) (Nat.le_refl _) (Nat.lt_succ_self _) _).set (p := ⟨w.heap.size + 1 + 1, 5, none⟩) (Nat.le_refl _) (Nat.lt_succ_self _) _).set (p := ⟨w.heap.size + 1 + 1, 6, none⟩) (Nat.le_refl _) (Nat.lt_succ_self _) _).set (p := ⟨w.heap.size + 1 + 1, 7, none⟩) (Nat.le_refl _) (Nat.lt_succ_self _) _).set (p := ⟨w.heap.size + 1 + 1, 8, none⟩) (Nat.le_refl _) (Nat.lt_succ_self _) _).set (p := ⟨w.heap.size + 1 + 1, 9, none⟩) (Nat.le_refl _) (Nat.lt_succ_self _) _).set (p := ⟨w.heap.size + 1 + 1, 10, none⟩) (Nat.le_refl _) (Nat.lt_succ_self _) _)
    replace HX3 : Kept (w.heap.size + 1 + 1) (w.heap.size + 1 + 1 + 1) (BoxK (w.heap.size + 1 + 1) 95 #[.int .i64 0, .int .i64 (v), .int .i64 (l.options), .int .i64 (l.typ), .int .i64 (l.id), .int .i64 (l.adv), .int .i64 (l.seq), .slice A' m c', .slice B' m' d', .int .i64 (l.mask), .int .i64 (l.cost)]) U3 := by rw [hU3]; exact Kept.box (((((((((((HX3.bx.puts 0 (.int .i64 0) (cs' := #[.int .i64 0, .int .i64 0, .int .i64 0, .int .i64 0, .int .i64 0, .int .i64 0, .int .i64 0, .slice none 0 0, .slice none 0 0, .int .i64 0, .int .i64 0]) rfl).puts 1 (.int .i64 (v)) (cs' := #[.int .i64 0, .int .i64 (v), .int .i64 0, .int .i64 0, .int .i64 0, .int .i64 0, .int .i64 0, .slice none 0 0, .slice none 0 0, .int .i64 0, .int .i64 0]) rfl).puts 2 (.int .i64 (l.options)) (cs' := #[.int .i64 0, .int .i64 (v), .int .i64 (l.options), .int .i64 0, .int .i64 0, .int .i64 0, .int .i64 0, .slice none 0 0, .slice none 0 0, .int .i64 0, .int .i64 0]) rfl).puts 3 (.int .i64 (l.typ)) (cs' := #[.int .i64 0, .int .i64 (v), .int .i64 (l.options), .int .i64 (l.typ), .int .i64 0, .int .i64 0, .int .i64 0, .slice none 0 0, .slice none 0 0, .int .i64 0, .int .i64 0]) rfl).puts 4 (.int .i64 (l.id)) (cs' := #[.int .i64 0, .int .i64 (v), .int .i64 (l.options), .int .i64 (l.typ), .int .i64 (l.id), .int .i64 0, .int .i64 0, .slice none 0 0, .slice none 0 0, .int .i64 0, .int .i64 0]) rfl).puts 5 (.int .i64 (l.adv)) (cs' := #[.int .i64 0, .int .i64 (v), .int .i64 (l.options), .int .i64 (l.typ), .int .i64 (l.id), .int .i64 (l.adv), .int .i64 0, .slice none 0 0, .slice none 0 0, .int .i64 0, .int .i64 0]) rfl).puts 6 (.int .i64 (l.seq)) (cs' := #[.int .i64 0, .int .i64 (v), .int .i64 (l.options), .int .i64 (l.typ), .int .i64 (l.id), .int .i64 (l.adv), .int .i64 (l.seq), .slice none 0 0, .slice none 0 0, .int .i64 0, .int .i64 0]) rfl).puts 7 (.slice A' m c') (cs' := #[.int .i64 0, .int .i64 (v), .int .i64 (l.options), .int .i64 (l.typ), .int .i64 (l.id), .int .i64 (l.adv), .int .i64 (l.seq), .slice A' m c', .slice none 0 0, .int .i64 0, .int .i64 0]) rfl).puts 8 (.slice B' m' d') (cs' := #[.int .i64 0, .int .i64 (v), .int .i64 (l.options), .int .i64 (l.typ), .int .i64 (l.id), .int .i64 (l.adv), .int .i64 (l.seq), .slice A' m c', .slice B' m' d', .int .i64 0, .int .i64 0]) rfl).puts 9 (.int .i64 (l.mask)) (cs' := #[.int .i64 0, .int .i64 (v), .int .i64 (l.options), .int .i64 (l.typ), .int .i64 (l.id), .int .i64 (l.adv), .int .i64 (l.seq), .slice A' m c', .slice B' m' d', .int .i64 (l.mask), .int .i64 0]) rfl).puts 10 (.int .i64 (l.cost)) (cs' := #[.int .i64 0, .int .i64 (v), .int .i64 (l.options), .int .i64 (l.typ), .int .i64 (l.id), .int .i64 (l.adv), .int .i64 (l.seq), .slice A' m c', .slice B' m' d', .int .i64 (l.mask), .int .i64 (l.cost)]) rfl)
    replace HA := HA.only ho (by have := Z0.out; have := Z1.out; have := Z2.out; have := Z3.out; have := Z4.out; have := Z5.out; have := Z6.out; have := Z7.out; omega)
    replace HX1 := HX1.only ho (by have := Z0.out; have := Z1.out; have := Z2.out; have := Z3.out; have := Z4.out; have := Z5.out; have := Z6.out; have := Z7.out; omega)
    replace HX2 := HX2.only ho (by have := Z0.out; have := Z1.out; have := Z2.out; have := Z3.out; have := Z4.out; have := Z5.out; have := Z6.out; have := Z7.out; omega)
    replace HLL := HLL.only ho (by have := Z0.out; have := Z1.out; have := Z2.out; have := Z3.out; have := Z4.out; have := Z5.out; have := Z6.out; have := Z7.out; omega)
    replace HW1 := HW1.only ho (by have := Z0.out; have := Z1.out; have := Z2.out; have := Z3.out; have := Z4.out; have := Z5.out; have := Z6.out; have := Z7.out; omega)
    replace HT := HT.only ho (by have := Z0.out; have := Z1.out; have := Z2.out; have := Z3.out; have := Z4.out; have := Z5.out; have := Z6.out; have := Z7.out; omega)
    replace HB := Lib.hid (Below.only HB.out ho (by have := Z0.out; have := Z1.out; have := Z2.out; have := Z3.out; have := Z4.out; have := Z5.out; have := Z6.out; have := Z7.out; omega) HB.out.size)
    have Z8 : Hid (U3.heap.size = uu1.heap.size) := Lib.hid (by rw [hU3]; simp [World.setCell]); clear ho
    have q_0 := HX3.look 0
    have q_1 := HX3.look 1
    have q_2 := HX3.look 2
    have q_3 := HX3.look 3
    have q_4 := HX3.look 4
    have q_5 := HX3.look 5
    have q_6 := HX3.look 6
    have q_7 := HX3.look 7
    have q_8 := HX3.look 8
    have q_9 := HX3.look 9
    have q_10 := HX3.look 10
    have fin : ∀ e, e = Ending.returned (.agg (resCells 0 ({ l with age := v }) A' B' m c' m' d')) → (LsaOut w (lookC now x y z ys) (lookM now x y z ys) e U3) := by rintro _ rfl; exact by rw [HC.out, HM.out]; exact ⟨A', B', m, c', m', d', rfl, LsaTwo.mono (lo' := w.heap.size) (hi' := U3.heap.size) HT.two (by have := Z0.out; have := Z1.out; have := Z2.out; have := Z3.out; have := Z4.out; have := Z5.out; have := Z6.out; have := Z7.out; have := Z8.out; omega) (by have := Z0.out; have := Z1.out; have := Z2.out; have := Z3.out; have := Z4.out; have := Z5.out; have := Z6.out; have := Z7.out; have := Z8.out; omega) (Nat.le_refl _), hmm.1, hmm.2, HB.out⟩
    subst hU3
    exact bodyPost_ret (v := .agg (resCells 0 ({ l with age := v }) A' B' m c' m' d')) (by simp [results, Try.results60, go_sem, q_0, q_1, q_2, q_3, q_4, q_5, q_6, q_7, q_8, q_9, q_10]) rfl (fin _ rfl)

theorem look_any (x y z now : Int) (q : Bool) (lo hi : Nat) (A : Option Addr) (n c : Nat) (ys : List Ent) (w : World) (ha : Rep.ent.Sl q lo hi w A n ys) (hh : hi ≤ w.heap.size) (hn : n ≤ 1048576) (hm : ∀ y ∈ ys, y.l.links.length ≤ 1048576 ∧ y.l.routers.length ≤ 1048576) :
    Calls Try.prog 60 #[.agg #[.int .i64 now, .slice A n c], kV x y z] w (LsaOut w (lookC now x y z ys) (lookM now x y z ys)) := by
  by_cases h : faultB now ys = 0
  · cases hI : lookI x y z ys with
    | none => exact look_2 x y z now q lo hi A n c ys w ha hh hn hm h hI
    | some i =>
      obtain ⟨⟨l, t⟩, he, _⟩ := lookI_at hI
      exact look_3 x y z now q lo hi A n c ys w ha hh hn hm i l t h hI he
  · exact look_1 x y z now q lo hi A n c ys w ha hh hn hm h


end Go.Proofs.Ytakplomopbnekaa

namespace Go.Proofs.Ytakplomopbnekaa
open Go.RowKit
set_option linter.unusedVariables false

theorem only11 (u : World) (g : Nat) (v0 v1 v2 v3 v4 v5 v6 v7 v8 v9 v10 : Value) : Only g (g + 1) u (((((((((((u.setCell ⟨g, 0, none⟩ v0).setCell ⟨g, 1, none⟩ v1).setCell ⟨g, 2, none⟩ v2).setCell ⟨g, 3, none⟩ v3).setCell ⟨g, 4, none⟩ v4).setCell ⟨g, 5, none⟩ v5).setCell ⟨g, 6, none⟩ v6).setCell ⟨g, 7, none⟩ v7).setCell ⟨g, 8, none⟩ v8).setCell ⟨g, 9, none⟩ v9).setCell ⟨g, 10, none⟩ v10) :=
  ((((((((((((Only.refl g (g + 1) u).set (p := ⟨g, 0, none⟩) (Nat.le_refl _) (Nat.lt_succ_self _) v0).set (p := ⟨g, 1, none⟩) (Nat.le_refl _) (Nat.lt_succ_self _) v1).set (p := ⟨g, 2, none⟩) (Nat.le_refl _) (Nat.lt_succ_self _) v2).set (p := ⟨g, 3, none⟩) (Nat.le_refl _) (Nat.lt_succ_self _) v3).set (p := ⟨g, 4, none⟩) (Nat.le_refl _) (Nat.lt_succ_self _) v4).set (p := ⟨g, 5, none⟩) (Nat.le_refl _) (Nat.lt_succ_self _) v5).set (p := ⟨g, 6, none⟩) (Nat.le_refl _) (Nat.lt_succ_self _) v6).set (p := ⟨g, 7, none⟩) (Nat.le_refl _) (Nat.lt_succ_self _) v7).set (p := ⟨g, 8, none⟩) (Nat.le_refl _) (Nat.lt_succ_self _) v8).set (p := ⟨g, 9, none⟩) (Nat.le_refl _) (Nat.lt_succ_self _) v9).set (p := ⟨g, 10, none⟩) (Nat.le_refl _) (Nat.lt_succ_self _) v10)

set_option maxRecDepth 100000 in
set_option maxHeartbeats 3200000 in
theorem law_LookupLsa (v0 : Int) (ys0 : List Ent) (q0 : Bool) (lo0 hi0 : Nat) (A0 : Option Addr) (n0 c0 : Nat) (s1 t1 u1 : Int) (w : World) (ha0 : Rep.ent.Sl q0 lo0 hi0 w A0 n0 ys0) (hh0 : hi0 ≤ w.heap.size) (hn0 : n0 ≤ maxLen) (hm0 : ∀ y ∈ ys0, y.l.links.length ≤ maxLen ∧ y.l.routers.length ≤ maxLen) :
    Calls Try.prog 10 #[.agg #[.int .i64 v0, .slice A0 n0 c0], .agg #[.int .i64 s1, .int .i64 t1, .int .i64 u1]] w fun e w' => e = .returned (.bool true) ∧ Below w.heap.size w w' := by
  have hle0 := szSS_bd (entRows ys0) 1048576 (by omega)
  by_cases hbig0 : szSS 1048576 (entRows ys0) < 0
  · have HB := Lib.hid (Below.refl w.heap.size w)
    have HA0 := Rep.Sl.kept ha0 hh0
    have HMX0 := Lib.hid hm0
    clear ha0 hm0
    have HR0 := Lib.hid (szSS_neg (entRows ys0) 1048576 hbig0)
    clear hbig0 hle0
    go_enter Try.func10, Try.ntmps10
    go_wp2_with fail
    refine Calls.name ?_
    intro U1 hU1
    have hb : Below w.heap.size w U1 := by rw [hU1]; exact (((Below.refl _ _).alloc (Nat.le_refl _) _).alloc (by simp <;> omega) _)
    have zz : Hid (w.heap.size + 2 = U1.heap.size) := Lib.hid (by rw [hU1]; simp)
    have HX1 : Kept w.heap.size (w.heap.size + 1) (BoxK w.heap.size 74 #[.int .i64 v0, .slice A0 n0 c0]) U1 := by rw [hU1]; exact Kept.box ((Box.made_at _ _ _ rfl).over _)
    have HX2 : Kept (w.heap.size + 1) (w.heap.size + 1 + 1) (BoxK (w.heap.size + 1) 60 #[.int .i64 s1, .int .i64 t1, .int .i64 u1]) U1 := by rw [hU1]; exact Kept.box (Box.made_at _ _ _ (by simp <;> omega))
    replace HA0 := HA0.below hb
    replace HB := Lib.hid (below_step HB.out hb)
    clear hb
    have Z1 := zz; clear zz
    clear hU1
    refine (szBase_any q0 lo0 hi0 A0 n0 c0 ys0 v0 (1048576) _ HA0.sl HA0.le hn0 HMX0.out (by omega) (by omega)).mono ?_
    rw [HR0.out]
    rintro e w2 ⟨rfl, hb⟩
    have Z2 := Lib.hid hb.size
    replace HA0 := HA0.below hb
    replace HX1 := HX1.below hb
    replace HX2 := HX2.below hb
    replace HB := Lib.hid (below_step HB.out hb)
    clear hb
    have l2_0 := HX1.bx.lt
    have l2_1 := HX2.bx.lt
    go_wp2
    clear l2_0 l2_1
    go_ret
    exact ⟨rfl, HB.out⟩
  have hsz0 := szSS_nonneg (show (0 : Int) ≤ 1048576 by omega) (show 0 ≤ szSS 1048576 (entRows ys0) by omega)
  obtain ⟨r0, hr0⟩ : ∃ r, szSS 1048576 (entRows ys0) = r := ⟨_, rfl⟩
  rw [hr0] at hle0 hbig0 hsz0
  have HR0 := Lib.hid hr0
  have hln0 := ha0.1
  rw [entRows_len, hln0] at hsz0
  have hN0 : n0 ≤ 1048576 := by omega
  have HT0 : Hid (tot (entRows ys0) ≤ 1048576) := Lib.hid (by omega)
  have HM0 : Hid (∀ y ∈ ys0, y.l.links.length ≤ 1048576 ∧ y.l.routers.length ≤ 1048576) := Lib.hid (fun y hy => by obtain ⟨i, hi, rfl⟩ := List.getElem_of_mem hy; have := tot_ent (List.getElem?_eq_getElem hi); omega)
  have hz0 : 0 ≤ r0 := by omega
  clear hr0 hln0 hsz0 hbig0
  have HB := Lib.hid (Below.refl w.heap.size w)
  have HA0 := Rep.Sl.kept ha0 hh0
  have HMX0 := Lib.hid hm0
  clear ha0 hm0
  obtain ⟨r, hr⟩ : ∃ z, lookC v0 s1 t1 u1 ys0 = z := ⟨_, rfl⟩
  have HRr := Lib.hid hr
  clear hr
  obtain ⟨x, hr⟩ : ∃ z, lookM v0 s1 t1 u1 ys0 = z := ⟨_, rfl⟩
  have HRx := Lib.hid hr
  clear hr
  go_enter Try.func10, Try.ntmps10
  go_wp2_with fail
  refine Calls.name ?_
  intro U1 hU1
  have hb : Below w.heap.size w U1 := by rw [hU1]; exact (((Below.refl _ _).alloc (Nat.le_refl _) _).alloc (by simp <;> omega) _)
  have zz : Hid (w.heap.size + 2 = U1.heap.size) := Lib.hid (by rw [hU1]; simp)
  have HX1 : Kept w.heap.size (w.heap.size + 1) (BoxK w.heap.size 74 #[.int .i64 v0, .slice A0 n0 c0]) U1 := by rw [hU1]; exact Kept.box ((Box.made_at _ _ _ rfl).over _)
  have HX2 : Kept (w.heap.size + 1) (w.heap.size + 1 + 1) (BoxK (w.heap.size + 1) 60 #[.int .i64 s1, .int .i64 t1, .int .i64 u1]) U1 := by rw [hU1]; exact Kept.box (Box.made_at _ _ _ (by simp <;> omega))
  replace HA0 := HA0.below hb
  replace HB := Lib.hid (below_step HB.out hb)
  clear hb
  have Z1 := zz; clear zz
  clear hU1
  refine (szBase_any q0 lo0 hi0 A0 n0 c0 ys0 v0 (1048576) _ HA0.sl HA0.le hn0 HMX0.out (by omega) (by omega)).mono ?_
  rw [HR0.out]
  rintro e w2 ⟨rfl, hb⟩
  have Z2 := Lib.hid hb.size
  replace HA0 := HA0.below hb
  replace HX1 := HX1.below hb
  replace HX2 := HX2.below hb
  replace HB := Lib.hid (below_step HB.out hb)
  clear hb
  have l2_0 := HX1.bx.lt
  have l2_1 := HX2.bx.lt
  go_wp2_with fail
  clear l2_0 l2_1
  have SB : Hid (∀ W, Hid (Below w2.heap.size w2 W) → (fun W => W.cell? ⟨w.heap.size, 0, none⟩ = some (.int .i64 v0) ∧ W.cell? ⟨w.heap.size, 1, none⟩ = some (.slice A0 n0 c0) ∧ W.cell? ⟨w.heap.size + 1, 0, none⟩ = some (.int .i64 s1) ∧ W.cell? ⟨w.heap.size + 1, 1, none⟩ = some (.int .i64 t1) ∧ W.cell? ⟨w.heap.size + 1, 2, none⟩ = some (.int .i64 u1)) W) := fun W h => ⟨(HX1.below h.out).look 0, (HX1.below h.out).look 1, (HX2.below h.out).look 0, (HX2.below h.out).look 1, (HX2.below h.out).look 2⟩
  have V0 : Hid (Below w2.heap.size w2 w2.drew) := (Below.refl _ _).drew
  have VA0 : ∀ o, Hid (Below w2.heap.size w2 (w2.alloc o).drew) := fun o => ((Below.refl _ _).alloc (Nat.le_refl _) o).drew
  go_upto_region 5 with (fail)
  go_cut [6] (fun s6 wx => ∃ g E F j b p d lo hi, s6 = .pointer (some ⟨g, 0, none⟩) ∧ Hid (w2.heap.size ≤ g) ∧ Kept g (g + 1) (BoxK g 95 #[.int .i64 r, .int .i64 x.age, .int .i64 x.options, .int .i64 x.typ, .int .i64 x.id, .int .i64 x.adv, .int .i64 x.seq, .slice E j b, .slice F p d, .int .i64 x.mask, .int .i64 x.cost]) wx ∧ Hid (Below w2.heap.size w2 wx) ∧ Hid (w2.heap.size ≤ lo ∧ (g < lo ∨ hi ≤ g)) ∧ Hid (j ≤ 1048576 ∧ p ≤ 1048576) ∧ Kept lo hi (LsaTwoK lo hi E j F p x) wx)
  case first =>
    have VN0 : ∀ o, Hid (Below w2.heap.size w2 (w2.alloc o).drew) := VA0
    go_region_held3 (fun W => W.cell? ⟨w.heap.size, 0, none⟩ = some (.int .i64 v0) ∧ W.cell? ⟨w.heap.size, 1, none⟩ = some (.slice A0 n0 c0) ∧ W.cell? ⟨w.heap.size + 1, 0, none⟩ = some (.int .i64 s1) ∧ W.cell? ⟨w.heap.size + 1, 1, none⟩ = some (.int .i64 t1) ∧ W.cell? ⟨w.heap.size + 1, 2, none⟩ = some (.int .i64 u1)) (first | (with_reducible exact SB.out _ V0) | (with_reducible exact SB.out _ (VA0 _)) | (with_reducible exact SB.out _ V1) | (with_reducible exact SB.out _ (VA1 _)) | (with_reducible exact SB.out _ V2) | (with_reducible exact SB.out _ (VA2 _)) | (with_reducible exact SB.out _ V3) | (with_reducible exact SB.out _ (VA3 _)) | (with_reducible exact SB.out _ (VS _ (by first | exact Nat.le_refl _ | assumption) _ _ _ _ _ _ _ _ _ _ _)))
      (first
        | (go_at_call 50; ((with_reducible refine (toBase_any q0 lo0 hi0 A0 n0 c0 ys0 v0 _ (HA0.below V0.out).sl (HA0.below V0.out).le hN0 HM0.out).mono ?_); rintro e u1_0 ⟨Ps0, rfl, hk, hb⟩; have V1 := Lib.hid (below_step V0.out hb); (try replace HW := HW.below hb); have VN1 : ∀ o, Hid (Below u1_0.heap.size u1_0 (u1_0.alloc o)) := (fun o => (Below.refl _ _).alloc (Nat.le_refl _) o); have VA1 : ∀ o, Hid (Below w2.heap.size w2 (u1_0.alloc o)) := (fun o => Below.alloc V1.out V1.out.size o); have VQ1 := V1.out.size; clear hb; have HS0 := hk; clear hk))
        | (go_at_call 50; ((with_reducible refine (toBase_any q0 lo0 hi0 A0 n0 c0 ys0 v0 _ (HA0.below (VA0 _).out).sl (HA0.below (VA0 _).out).le hN0 HM0.out).mono ?_); rintro e u1_0 ⟨Ps0, rfl, hk, hb⟩; have V1 := Lib.hid (below_step (VA0 _).out hb); have HW := ((Kept.box (show Box ((w2.alloc (.cells #[.int .i64 0, .int .i64 0, .int .i64 0, .int .i64 0, .int .i64 0, .int .i64 0, .int .i64 0, .slice none 0 0, .slice none 0 0, .int .i64 0, .int .i64 0] 95)).drew) w2.heap.size 95 #[.int .i64 0, .int .i64 0, .int .i64 0, .int .i64 0, .int .i64 0, .int .i64 0, .int .i64 0, .slice none 0 0, .slice none 0 0, .int .i64 0, .int .i64 0] from Box.made _ _ _))).below hb; have VN1 : ∀ o, Hid (Below u1_0.heap.size u1_0 (u1_0.alloc o)) := (fun o => (Below.refl _ _).alloc (Nat.le_refl _) o); have VA1 : ∀ o, Hid (Below w2.heap.size w2 (u1_0.alloc o)) := (fun o => Below.alloc V1.out V1.out.size o); have VQ1 := V1.out.size; clear hb; have HS0 := hk; clear hk))
        | (go_at_call 59; ((with_reducible refine (toKey_any s1 t1 u1 _).mono ?_); rintro e u1_1 ⟨rfl, hb⟩; have V2 := Lib.hid (below_step V1.out hb); replace HS0 := HS0.below hb; (try replace HW := HW.below hb); have VN2 : ∀ o, Hid (Below u1_1.heap.size u1_1 (u1_1.alloc o)) := (fun o => (Below.refl _ _).alloc (Nat.le_refl _) o); have VA2 : ∀ o, Hid (Below w2.heap.size w2 (u1_1.alloc o)) := (fun o => Below.alloc V2.out V2.out.size o); have VQ2 := V2.out.size; clear hb))
        | (go_at_call 59; ((with_reducible refine (toKey_any s1 t1 u1 _).mono ?_); rintro e u1_1 ⟨rfl, hb⟩; have V2 := Lib.hid (below_step (VA1 _).out hb); replace HS0 := (HS0.below (VN1 _).out).below hb; have HW := ((Kept.box (show Box ((u1_0.alloc (.cells #[.int .i64 0, .int .i64 0, .int .i64 0, .int .i64 0, .int .i64 0, .int .i64 0, .int .i64 0, .slice none 0 0, .slice none 0 0, .int .i64 0, .int .i64 0] 95))) u1_0.heap.size 95 #[.int .i64 0, .int .i64 0, .int .i64 0, .int .i64 0, .int .i64 0, .int .i64 0, .int .i64 0, .slice none 0 0, .slice none 0 0, .int .i64 0, .int .i64 0] from Box.made _ _ _))).below hb; have VN2 : ∀ o, Hid (Below u1_1.heap.size u1_1 (u1_1.alloc o)) := (fun o => (Below.refl _ _).alloc (Nat.le_refl _) o); have VA2 : ∀ o, Hid (Below w2.heap.size w2 (u1_1.alloc o)) := (fun o => Below.alloc V2.out V2.out.size o); have VQ2 := V2.out.size; clear hb))
        | (go_at_call 58; (try have HGL := HW.le); ((with_reducible refine (specLook_any s1 t1 u1 v0 true _ _ Ps0 n0 n0 ys0 _ HS0.ents HS0.le hN0 HM0.out).mono ?_); rw [HRr.out, HRx.out]; rintro e u1_2 ⟨E0, F0, j0, b0, p0, d0, rfl, ht, hj0, hp0, hb⟩; have V3 := Lib.hid (below_step V2.out hb); replace HS0 := HS0.below hb; (try replace HW := HW.below hb); have VN3 : ∀ o, Hid (Below u1_2.heap.size u1_2 (u1_2.alloc o)) := (fun o => (Below.refl _ _).alloc (Nat.le_refl _) o); have VA3 : ∀ o, Hid (Below w2.heap.size w2 (u1_2.alloc o)) := (fun o => Below.alloc V3.out V3.out.size o); have VQ3 := V3.out.size; clear hb; have HOk := ht.kept; clear ht; have VS : ∀ (g : Nat) (hg : w2.heap.size ≤ g) (v0 v1 v2 v3 v4 v5 v6 v7 v8 v9 v10 : Value), Hid (Below w2.heap.size w2 (((((((((((u1_2.setCell ⟨g, 0, none⟩ v0).setCell ⟨g, 1, none⟩ v1).setCell ⟨g, 2, none⟩ v2).setCell ⟨g, 3, none⟩ v3).setCell ⟨g, 4, none⟩ v4).setCell ⟨g, 5, none⟩ v5).setCell ⟨g, 6, none⟩ v6).setCell ⟨g, 7, none⟩ v7).setCell ⟨g, 8, none⟩ v8).setCell ⟨g, 9, none⟩ v9).setCell ⟨g, 10, none⟩ v10)) := (fun g hg v0 v1 v2 v3 v4 v5 v6 v7 v8 v9 v10 => (Below.setCell (p := ⟨g, 10, none⟩) (Below.setCell (p := ⟨g, 9, none⟩) (Below.setCell (p := ⟨g, 8, none⟩) (Below.setCell (p := ⟨g, 7, none⟩) (Below.setCell (p := ⟨g, 6, none⟩) (Below.setCell (p := ⟨g, 5, none⟩) (Below.setCell (p := ⟨g, 4, none⟩) (Below.setCell (p := ⟨g, 3, none⟩) (Below.setCell (p := ⟨g, 2, none⟩) (Below.setCell (p := ⟨g, 1, none⟩) (Below.setCell (p := ⟨g, 0, none⟩) V3.out hg v0) hg v1) hg v2) hg v3) hg v4) hg v5) hg v6) hg v7) hg v8) hg v9) hg v10)); (try (have hk0 := HW.look 0; have hf0 := HW.free 0)); (try (have hk1 := HW.look 1; have hf1 := HW.free 1)); (try (have hk2 := HW.look 2; have hf2 := HW.free 2)); (try (have hk3 := HW.look 3; have hf3 := HW.free 3)); (try (have hk4 := HW.look 4; have hf4 := HW.free 4)); (try (have hk5 := HW.look 5; have hf5 := HW.free 5)); (try (have hk6 := HW.look 6; have hf6 := HW.free 6)); (try (have hk7 := HW.look 7; have hf7 := HW.free 7)); (try (have hk8 := HW.look 8; have hf8 := HW.free 8)); (try (have hk9 := HW.look 9; have hf9 := HW.free 9)); (try (have hk10 := HW.look 10; have hf10 := HW.free 10))))
        | (go_at_call 58; have HGL := ((Kept.box (show Box ((u1_1.alloc (.cells #[.int .i64 0, .int .i64 0, .int .i64 0, .int .i64 0, .int .i64 0, .int .i64 0, .int .i64 0, .slice none 0 0, .slice none 0 0, .int .i64 0, .int .i64 0] 95))) u1_1.heap.size 95 #[.int .i64 0, .int .i64 0, .int .i64 0, .int .i64 0, .int .i64 0, .int .i64 0, .int .i64 0, .slice none 0 0, .slice none 0 0, .int .i64 0, .int .i64 0] from Box.made _ _ _))).le; ((with_reducible refine (specLook_any s1 t1 u1 v0 true _ _ Ps0 n0 n0 ys0 _ (HS0.below (VN2 _).out).ents (HS0.below (VN2 _).out).le hN0 HM0.out).mono ?_); rw [HRr.out, HRx.out]; rintro e u1_2 ⟨E0, F0, j0, b0, p0, d0, rfl, ht, hj0, hp0, hb⟩; have V3 := Lib.hid (below_step (VA2 _).out hb); replace HS0 := (HS0.below (VN2 _).out).below hb; have HW := ((Kept.box (show Box ((u1_1.alloc (.cells #[.int .i64 0, .int .i64 0, .int .i64 0, .int .i64 0, .int .i64 0, .int .i64 0, .int .i64 0, .slice none 0 0, .slice none 0 0, .int .i64 0, .int .i64 0] 95))) u1_1.heap.size 95 #[.int .i64 0, .int .i64 0, .int .i64 0, .int .i64 0, .int .i64 0, .int .i64 0, .int .i64 0, .slice none 0 0, .slice none 0 0, .int .i64 0, .int .i64 0] from Box.made _ _ _))).below hb; have VN3 : ∀ o, Hid (Below u1_2.heap.size u1_2 (u1_2.alloc o)) := (fun o => (Below.refl _ _).alloc (Nat.le_refl _) o); have VA3 : ∀ o, Hid (Below w2.heap.size w2 (u1_2.alloc o)) := (fun o => Below.alloc V3.out V3.out.size o); have VQ3 := V3.out.size; clear hb; have HOk := ht.kept; clear ht; have VS : ∀ (g : Nat) (hg : w2.heap.size ≤ g) (v0 v1 v2 v3 v4 v5 v6 v7 v8 v9 v10 : Value), Hid (Below w2.heap.size w2 (((((((((((u1_2.setCell ⟨g, 0, none⟩ v0).setCell ⟨g, 1, none⟩ v1).setCell ⟨g, 2, none⟩ v2).setCell ⟨g, 3, none⟩ v3).setCell ⟨g, 4, none⟩ v4).setCell ⟨g, 5, none⟩ v5).setCell ⟨g, 6, none⟩ v6).setCell ⟨g, 7, none⟩ v7).setCell ⟨g, 8, none⟩ v8).setCell ⟨g, 9, none⟩ v9).setCell ⟨g, 10, none⟩ v10)) := (fun g hg v0 v1 v2 v3 v4 v5 v6 v7 v8 v9 v10 => (Below.setCell (p := ⟨g, 10, none⟩) (Below.setCell (p := ⟨g, 9, none⟩) (Below.setCell (p := ⟨g, 8, none⟩) (Below.setCell (p := ⟨g, 7, none⟩) (Below.setCell (p := ⟨g, 6, none⟩) (Below.setCell (p := ⟨g, 5, none⟩) (Below.setCell (p := ⟨g, 4, none⟩) (Below.setCell (p := ⟨g, 3, none⟩) (Below.setCell (p := ⟨g, 2, none⟩) (Below.setCell (p := ⟨g, 1, none⟩) (Below.setCell (p := ⟨g, 0, none⟩) V3.out hg v0) hg v1) hg v2) hg v3) hg v4) hg v5) hg v6) hg v7) hg v8) hg v9) hg v10)); (try (have hk0 := HW.look 0; have hf0 := HW.free 0)); (try (have hk1 := HW.look 1; have hf1 := HW.free 1)); (try (have hk2 := HW.look 2; have hf2 := HW.free 2)); (try (have hk3 := HW.look 3; have hf3 := HW.free 3)); (try (have hk4 := HW.look 4; have hf4 := HW.free 4)); (try (have hk5 := HW.look 5; have hf5 := HW.free 5)); (try (have hk6 := HW.look 6; have hf6 := HW.free 6)); (try (have hk7 := HW.look 7; have hf7 := HW.free 7)); (try (have hk8 := HW.look 8; have hf8 := HW.free 8)); (try (have hk9 := HW.look 9; have hf9 := HW.free 9)); (try (have hk10 := HW.look 10; have hf10 := HW.free 10)))))
    all_goals (go_wp2_with fail; go_meet; first | exact ⟨_, E0, F0, j0, b0, p0, d0, _, _, rfl, Lib.hid (by first | exact Nat.le_refl _ | assumption), Kept.box (((((((((((HW.bx.puts 0 (.int .i64 r) (cs' := #[.int .i64 r, .int .i64 0, .int .i64 0, .int .i64 0, .int .i64 0, .int .i64 0, .int .i64 0, .slice none 0 0, .slice none 0 0, .int .i64 0, .int .i64 0]) rfl).puts 1 (.int .i64 x.age) (cs' := #[.int .i64 r, .int .i64 x.age, .int .i64 0, .int .i64 0, .int .i64 0, .int .i64 0, .int .i64 0, .slice none 0 0, .slice none 0 0, .int .i64 0, .int .i64 0]) rfl).puts 2 (.int .i64 x.options) (cs' := #[.int .i64 r, .int .i64 x.age, .int .i64 x.options, .int .i64 0, .int .i64 0, .int .i64 0, .int .i64 0, .slice none 0 0, .slice none 0 0, .int .i64 0, .int .i64 0]) rfl).puts 3 (.int .i64 x.typ) (cs' := #[.int .i64 r, .int .i64 x.age, .int .i64 x.options, .int .i64 x.typ, .int .i64 0, .int .i64 0, .int .i64 0, .slice none 0 0, .slice none 0 0, .int .i64 0, .int .i64 0]) rfl).puts 4 (.int .i64 x.id) (cs' := #[.int .i64 r, .int .i64 x.age, .int .i64 x.options, .int .i64 x.typ, .int .i64 x.id, .int .i64 0, .int .i64 0, .slice none 0 0, .slice none 0 0, .int .i64 0, .int .i64 0]) rfl).puts 5 (.int .i64 x.adv) (cs' := #[.int .i64 r, .int .i64 x.age, .int .i64 x.options, .int .i64 x.typ, .int .i64 x.id, .int .i64 x.adv, .int .i64 0, .slice none 0 0, .slice none 0 0, .int .i64 0, .int .i64 0]) rfl).puts 6 (.int .i64 x.seq) (cs' := #[.int .i64 r, .int .i64 x.age, .int .i64 x.options, .int .i64 x.typ, .int .i64 x.id, .int .i64 x.adv, .int .i64 x.seq, .slice none 0 0, .slice none 0 0, .int .i64 0, .int .i64 0]) rfl).puts 7 (.slice E0 j0 b0) (cs' := #[.int .i64 r, .int .i64 x.age, .int .i64 x.options, .int .i64 x.typ, .int .i64 x.id, .int .i64 x.adv, .int .i64 x.seq, .slice E0 j0 b0, .slice none 0 0, .int .i64 0, .int .i64 0]) rfl).puts 8 (.slice F0 p0 d0) (cs' := #[.int .i64 r, .int .i64 x.age, .int .i64 x.options, .int .i64 x.typ, .int .i64 x.id, .int .i64 x.adv, .int .i64 x.seq, .slice E0 j0 b0, .slice F0 p0 d0, .int .i64 0, .int .i64 0]) rfl).puts 9 (.int .i64 x.mask) (cs' := #[.int .i64 r, .int .i64 x.age, .int .i64 x.options, .int .i64 x.typ, .int .i64 x.id, .int .i64 x.adv, .int .i64 x.seq, .slice E0 j0 b0, .slice F0 p0 d0, .int .i64 x.mask, .int .i64 0]) rfl).puts 10 (.int .i64 x.cost) (cs' := #[.int .i64 r, .int .i64 x.age, .int .i64 x.options, .int .i64 x.typ, .int .i64 x.id, .int .i64 x.adv, .int .i64 x.seq, .slice E0 j0 b0, .slice F0 p0 d0, .int .i64 x.mask, .int .i64 x.cost]) rfl), VS _ (by first | exact Nat.le_refl _ | assumption) _ _ _ _ _ _ _ _ _ _ _, Lib.hid ⟨(by first | exact V2.out.size | exact (VA2 _).out.size), .inl HGL⟩, Lib.hid ⟨hj0, hp0⟩, HOk.only (only11 _ _ _ _ _ _ _ _ _ _ _ _ _) (.inr HGL)⟩ | exact ⟨_, E0, F0, j0, b0, p0, d0, _, _, rfl, Lib.hid VQ3, Kept.box (Box.made _ _ _), VA3 _, Lib.hid ⟨(by first | exact V2.out.size | exact (VA2 _).out.size), .inr (Nat.le_refl _)⟩, Lib.hid ⟨hj0, hp0⟩, HOk.below (VN3 _).out⟩)
  obtain ⟨g1, E0, F0, j0, b0, p0, d0, ol0, oh0, rfl, hg, HW1, HC, HLH, HJS, HO0⟩ := hcut
  obtain ⟨hj0, hp0⟩ := HJS.out; clear HJS
  obtain ⟨wx1, rfl⟩ : ∃ W : World, W = wc := ⟨_, rfl⟩
  have hb := HC.out
  clear HC SB V0 VA0
  have Z3 := hg; clear hg
  have Z4 := HLH; clear HLH
  have Z5 := Lib.hid hb.size
  have Z6 := Lib.hid HW1.le
  have Z7 := Lib.hid HO0.le
  replace HA0 := HA0.below hb
  replace HX1 := HX1.below hb
  replace HX2 := HX2.below hb
  replace HB := Lib.hid (below_step HB.out hb)
  clear hb
  have HQ : Hid (x.links.length = j0 ∧ x.routers.length = p0) := Lib.hid ⟨HO0.two.at_.in_.links.1, HO0.two.at_.in_.routers.1⟩
  have c3_0 := HX1.look 0
  have c3_1 := HX1.look 1
  have l3_0 := HX1.bx.lt
  have l3_1 := HX2.bx.lt
  have l3_2 := HW1.bx.lt
  go_wp2_with fail
  clear c3_0 c3_1 l3_0 l3_1 l3_2
  refine (toBase_any q0 lo0 hi0 A0 n0 c0 ys0 v0 _ HA0.sl HA0.le hN0 HM0.out).mono ?_
  rintro e w3 ⟨Px0, rfl, hk, hb⟩
  have Z8 := Lib.hid hb.size
  replace HA0 := HA0.below hb
  replace HX1 := HX1.below hb
  replace HX2 := HX2.below hb
  replace HO0 := HO0.below hb
  replace HW1 := HW1.below hb
  replace HB := Lib.hid (below_step HB.out hb)
  clear hb
  have HG0 := hk; clear hk
  have l4_0 := HX1.bx.lt
  have l4_1 := HX2.bx.lt
  have l4_2 := HW1.bx.lt
  go_wp2_with fail
  clear l4_0 l4_1 l4_2
  refine Code.wp_name ?_
  intro U4 hU4
  have hb : Below w3.heap.size w3 U4 := by rw [hU4]; exact ((Below.refl _ _).alloc (Nat.le_refl _) _)
  have zz : Hid (w3.heap.size + 1 = U4.heap.size) := Lib.hid (by rw [hU4]; simp)
  have HX3 : Kept w3.heap.size (w3.heap.size + 1) (BoxK w3.heap.size 79 #[.int .i64 v0, .slice Px0 n0 n0]) U4 := by rw [hU4]; exact Kept.box (Box.made_at _ _ _ rfl)
  replace HA0 := HA0.below hb
  replace HX1 := HX1.below hb
  replace HX2 := HX2.below hb
  replace HO0 := HO0.below hb
  replace HW1 := HW1.below hb
  replace HG0 := HG0.below hb
  replace HB := Lib.hid (below_step HB.out hb)
  clear hb
  have Z9 := zz; clear zz
  clear hU4
  have SB : Hid (∀ W, Hid (Below U4.heap.size U4 W) → (fun W => W.cell? ⟨w3.heap.size, 0, none⟩ = some (.int .i64 v0) ∧ W.cell? ⟨w3.heap.size, 1, none⟩ = some (.slice Px0 n0 n0) ∧ W.cell? ⟨w.heap.size + 1, 0, none⟩ = some (.int .i64 s1) ∧ W.cell? ⟨w.heap.size + 1, 1, none⟩ = some (.int .i64 t1) ∧ W.cell? ⟨w.heap.size + 1, 2, none⟩ = some (.int .i64 u1)) W) := fun W h => ⟨(HX3.below h.out).look 0, (HX3.below h.out).look 1, (HX2.below h.out).look 0, (HX2.below h.out).look 1, (HX2.below h.out).look 2⟩
  have V0 : Hid (Below U4.heap.size U4 U4.drew) := (Below.refl _ _).drew
  have VA0 : ∀ o, Hid (Below U4.heap.size U4 (U4.alloc o).drew) := fun o => ((Below.refl _ _).alloc (Nat.le_refl _) o).drew
  go_upto_region 7 with (fail)
  go_cut [8] (fun s6 wx => ∃ g E F j b p d lo hi, s6 = .pointer (some ⟨g, 0, none⟩) ∧ Hid (U4.heap.size ≤ g) ∧ Kept g (g + 1) (BoxK g 95 #[.int .i64 r, .int .i64 x.age, .int .i64 x.options, .int .i64 x.typ, .int .i64 x.id, .int .i64 x.adv, .int .i64 x.seq, .slice E j b, .slice F p d, .int .i64 x.mask, .int .i64 x.cost]) wx ∧ Hid (Below U4.heap.size U4 wx) ∧ Hid (U4.heap.size ≤ lo ∧ (g < lo ∨ hi ≤ g)) ∧ Hid (j ≤ 1048576 ∧ p ≤ 1048576) ∧ Kept lo hi (LsaTwoK lo hi E j F p x) wx)
  case first =>
    have VN0 : ∀ o, Hid (Below U4.heap.size U4 (U4.alloc o).drew) := VA0
    go_region_held3 (fun W => W.cell? ⟨w3.heap.size, 0, none⟩ = some (.int .i64 v0) ∧ W.cell? ⟨w3.heap.size, 1, none⟩ = some (.slice Px0 n0 n0) ∧ W.cell? ⟨w.heap.size + 1, 0, none⟩ = some (.int .i64 s1) ∧ W.cell? ⟨w.heap.size + 1, 1, none⟩ = some (.int .i64 t1) ∧ W.cell? ⟨w.heap.size + 1, 2, none⟩ = some (.int .i64 u1)) (first | (with_reducible exact SB.out _ V0) | (with_reducible exact SB.out _ (VA0 _)) | (with_reducible exact SB.out _ V1) | (with_reducible exact SB.out _ (VA1 _)) | (with_reducible exact SB.out _ V2) | (with_reducible exact SB.out _ (VA2 _)) | (with_reducible exact SB.out _ (VS _ (by first | exact Nat.le_refl _ | assumption) _ _ _ _ _ _ _ _ _ _ _)))
      (first
        | (go_at_call 59; ((with_reducible refine (toKey_any s1 t1 u1 _).mono ?_); rintro e u2_0 ⟨rfl, hb⟩; have V1 := Lib.hid (below_step V0.out hb); (try replace HW := HW.below hb); have VN1 : ∀ o, Hid (Below u2_0.heap.size u2_0 (u2_0.alloc o)) := (fun o => (Below.refl _ _).alloc (Nat.le_refl _) o); have VA1 : ∀ o, Hid (Below U4.heap.size U4 (u2_0.alloc o)) := (fun o => Below.alloc V1.out V1.out.size o); have VQ1 := V1.out.size; clear hb))
        | (go_at_call 59; ((with_reducible refine (toKey_any s1 t1 u1 _).mono ?_); rintro e u2_0 ⟨rfl, hb⟩; have V1 := Lib.hid (below_step (VA0 _).out hb); have HW := ((Kept.box (show Box ((U4.alloc (.cells #[.int .i64 0, .int .i64 0, .int .i64 0, .int .i64 0, .int .i64 0, .int .i64 0, .int .i64 0, .slice none 0 0, .slice none 0 0, .int .i64 0, .int .i64 0] 95)).drew) U4.heap.size 95 #[.int .i64 0, .int .i64 0, .int .i64 0, .int .i64 0, .int .i64 0, .int .i64 0, .int .i64 0, .slice none 0 0, .slice none 0 0, .int .i64 0, .int .i64 0] from Box.made _ _ _))).below hb; have VN1 : ∀ o, Hid (Below u2_0.heap.size u2_0 (u2_0.alloc o)) := (fun o => (Below.refl _ _).alloc (Nat.le_refl _) o); have VA1 : ∀ o, Hid (Below U4.heap.size U4 (u2_0.alloc o)) := (fun o => Below.alloc V1.out V1.out.size o); have VQ1 := V1.out.size; clear hb))
        | (go_at_call 60; (try have HGL := HW.le); ((with_reducible refine (look_any s1 t1 u1 v0 true _ _ Px0 n0 n0 ys0 _ (HG0.below V1.out).ents (HG0.below V1.out).le hN0 HM0.out).mono ?_); rw [HRr.out, HRx.out]; rintro e u2_1 ⟨E1, F1, j1, b1, p1, d1, rfl, ht, hj1, hp1, hb⟩; have V2 := Lib.hid (below_step V1.out hb); (try replace HW := HW.below hb); have VN2 : ∀ o, Hid (Below u2_1.heap.size u2_1 (u2_1.alloc o)) := (fun o => (Below.refl _ _).alloc (Nat.le_refl _) o); have VA2 : ∀ o, Hid (Below U4.heap.size U4 (u2_1.alloc o)) := (fun o => Below.alloc V2.out V2.out.size o); have VQ2 := V2.out.size; clear hb; have HOk := ht.kept; clear ht; have VS : ∀ (g : Nat) (hg : U4.heap.size ≤ g) (v0 v1 v2 v3 v4 v5 v6 v7 v8 v9 v10 : Value), Hid (Below U4.heap.size U4 (((((((((((u2_1.setCell ⟨g, 0, none⟩ v0).setCell ⟨g, 1, none⟩ v1).setCell ⟨g, 2, none⟩ v2).setCell ⟨g, 3, none⟩ v3).setCell ⟨g, 4, none⟩ v4).setCell ⟨g, 5, none⟩ v5).setCell ⟨g, 6, none⟩ v6).setCell ⟨g, 7, none⟩ v7).setCell ⟨g, 8, none⟩ v8).setCell ⟨g, 9, none⟩ v9).setCell ⟨g, 10, none⟩ v10)) := (fun g hg v0 v1 v2 v3 v4 v5 v6 v7 v8 v9 v10 => (Below.setCell (p := ⟨g, 10, none⟩) (Below.setCell (p := ⟨g, 9, none⟩) (Below.setCell (p := ⟨g, 8, none⟩) (Below.setCell (p := ⟨g, 7, none⟩) (Below.setCell (p := ⟨g, 6, none⟩) (Below.setCell (p := ⟨g, 5, none⟩) (Below.setCell (p := ⟨g, 4, none⟩) (Below.setCell (p := ⟨g, 3, none⟩) (Below.setCell (p := ⟨g, 2, none⟩) (Below.setCell (p := ⟨g, 1, none⟩) (Below.setCell (p := ⟨g, 0, none⟩) V2.out hg v0) hg v1) hg v2) hg v3) hg v4) hg v5) hg v6) hg v7) hg v8) hg v9) hg v10)); (try (have hk0 := HW.look 0; have hf0 := HW.free 0)); (try (have hk1 := HW.look 1; have hf1 := HW.free 1)); (try (have hk2 := HW.look 2; have hf2 := HW.free 2)); (try (have hk3 := HW.look 3; have hf3 := HW.free 3)); (try (have hk4 := HW.look 4; have hf4 := HW.free 4)); (try (have hk5 := HW.look 5; have hf5 := HW.free 5)); (try (have hk6 := HW.look 6; have hf6 := HW.free 6)); (try (have hk7 := HW.look 7; have hf7 := HW.free 7)); (try (have hk8 := HW.look 8; have hf8 := HW.free 8)); (try (have hk9 := HW.look 9; have hf9 := HW.free 9)); (try (have hk10 := HW.look 10; have hf10 := HW.free 10))))
        | (go_at_call 60; have HGL := ((Kept.box (show Box ((u2_0.alloc (.cells #[.int .i64 0, .int .i64 0, .int .i64 0, .int .i64 0, .int .i64 0, .int .i64 0, .int .i64 0, .slice none 0 0, .slice none 0 0, .int .i64 0, .int .i64 0] 95))) u2_0.heap.size 95 #[.int .i64 0, .int .i64 0, .int .i64 0, .int .i64 0, .int .i64 0, .int .i64 0, .int .i64 0, .slice none 0 0, .slice none 0 0, .int .i64 0, .int .i64 0] from Box.made _ _ _))).le; ((with_reducible refine (look_any s1 t1 u1 v0 true _ _ Px0 n0 n0 ys0 _ (HG0.below (VA1 _).out).ents (HG0.below (VA1 _).out).le hN0 HM0.out).mono ?_); rw [HRr.out, HRx.out]; rintro e u2_1 ⟨E1, F1, j1, b1, p1, d1, rfl, ht, hj1, hp1, hb⟩; have V2 := Lib.hid (below_step (VA1 _).out hb); have HW := ((Kept.box (show Box ((u2_0.alloc (.cells #[.int .i64 0, .int .i64 0, .int .i64 0, .int .i64 0, .int .i64 0, .int .i64 0, .int .i64 0, .slice none 0 0, .slice none 0 0, .int .i64 0, .int .i64 0] 95))) u2_0.heap.size 95 #[.int .i64 0, .int .i64 0, .int .i64 0, .int .i64 0, .int .i64 0, .int .i64 0, .int .i64 0, .slice none 0 0, .slice none 0 0, .int .i64 0, .int .i64 0] from Box.made _ _ _))).below hb; have VN2 : ∀ o, Hid (Below u2_1.heap.size u2_1 (u2_1.alloc o)) := (fun o => (Below.refl _ _).alloc (Nat.le_refl _) o); have VA2 : ∀ o, Hid (Below U4.heap.size U4 (u2_1.alloc o)) := (fun o => Below.alloc V2.out V2.out.size o); have VQ2 := V2.out.size; clear hb; have HOk := ht.kept; clear ht; have VS : ∀ (g : Nat) (hg : U4.heap.size ≤ g) (v0 v1 v2 v3 v4 v5 v6 v7 v8 v9 v10 : Value), Hid (Below U4.heap.size U4 (((((((((((u2_1.setCell ⟨g, 0, none⟩ v0).setCell ⟨g, 1, none⟩ v1).setCell ⟨g, 2, none⟩ v2).setCell ⟨g, 3, none⟩ v3).setCell ⟨g, 4, none⟩ v4).setCell ⟨g, 5, none⟩ v5).setCell ⟨g, 6, none⟩ v6).setCell ⟨g, 7, none⟩ v7).setCell ⟨g, 8, none⟩ v8).setCell ⟨g, 9, none⟩ v9).setCell ⟨g, 10, none⟩ v10)) := (fun g hg v0 v1 v2 v3 v4 v5 v6 v7 v8 v9 v10 => (Below.setCell (p := ⟨g, 10, none⟩) (Below.setCell (p := ⟨g, 9, none⟩) (Below.setCell (p := ⟨g, 8, none⟩) (Below.setCell (p := ⟨g, 7, none⟩) (Below.setCell (p := ⟨g, 6, none⟩) (Below.setCell (p := ⟨g, 5, none⟩) (Below.setCell (p := ⟨g, 4, none⟩) (Below.setCell (p := ⟨g, 3, none⟩) (Below.setCell (p := ⟨g, 2, none⟩) (Below.setCell (p := ⟨g, 1, none⟩) (Below.setCell (p := ⟨g, 0, none⟩) V2.out hg v0) hg v1) hg v2) hg v3) hg v4) hg v5) hg v6) hg v7) hg v8) hg v9) hg v10)); (try (have hk0 := HW.look 0; have hf0 := HW.free 0)); (try (have hk1 := HW.look 1; have hf1 := HW.free 1)); (try (have hk2 := HW.look 2; have hf2 := HW.free 2)); (try (have hk3 := HW.look 3; have hf3 := HW.free 3)); (try (have hk4 := HW.look 4; have hf4 := HW.free 4)); (try (have hk5 := HW.look 5; have hf5 := HW.free 5)); (try (have hk6 := HW.look 6; have hf6 := HW.free 6)); (try (have hk7 := HW.look 7; have hf7 := HW.free 7)); (try (have hk8 := HW.look 8; have hf8 := HW.free 8)); (try (have hk9 := HW.look 9; have hf9 := HW.free 9)); (try (have hk10 := HW.look 10; have hf10 := HW.free 10)))))
    all_goals (go_wp2_with fail; go_meet; first | exact ⟨_, E1, F1, j1, b1, p1, d1, _, _, rfl, Lib.hid (by first | exact Nat.le_refl _ | assumption), Kept.box (((((((((((HW.bx.puts 0 (.int .i64 r) (cs' := #[.int .i64 r, .int .i64 0, .int .i64 0, .int .i64 0, .int .i64 0, .int .i64 0, .int .i64 0, .slice none 0 0, .slice none 0 0, .int .i64 0, .int .i64 0]) rfl).puts 1 (.int .i64 x.age) (cs' := #[.int .i64 r, .int .i64 x.age, .int .i64 0, .int .i64 0, .int .i64 0, .int .i64 0, .int .i64 0, .slice none 0 0, .slice none 0 0, .int .i64 0, .int .i64 0]) rfl).puts 2 (.int .i64 x.options) (cs' := #[.int .i64 r, .int .i64 x.age, .int .i64 x.options, .int .i64 0, .int .i64 0, .int .i64 0, .int .i64 0, .slice none 0 0, .slice none 0 0, .int .i64 0, .int .i64 0]) rfl).puts 3 (.int .i64 x.typ) (cs' := #[.int .i64 r, .int .i64 x.age, .int .i64 x.options, .int .i64 x.typ, .int .i64 0, .int .i64 0, .int .i64 0, .slice none 0 0, .slice none 0 0, .int .i64 0, .int .i64 0]) rfl).puts 4 (.int .i64 x.id) (cs' := #[.int .i64 r, .int .i64 x.age, .int .i64 x.options, .int .i64 x.typ, .int .i64 x.id, .int .i64 0, .int .i64 0, .slice none 0 0, .slice none 0 0, .int .i64 0, .int .i64 0]) rfl).puts 5 (.int .i64 x.adv) (cs' := #[.int .i64 r, .int .i64 x.age, .int .i64 x.options, .int .i64 x.typ, .int .i64 x.id, .int .i64 x.adv, .int .i64 0, .slice none 0 0, .slice none 0 0, .int .i64 0, .int .i64 0]) rfl).puts 6 (.int .i64 x.seq) (cs' := #[.int .i64 r, .int .i64 x.age, .int .i64 x.options, .int .i64 x.typ, .int .i64 x.id, .int .i64 x.adv, .int .i64 x.seq, .slice none 0 0, .slice none 0 0, .int .i64 0, .int .i64 0]) rfl).puts 7 (.slice E1 j1 b1) (cs' := #[.int .i64 r, .int .i64 x.age, .int .i64 x.options, .int .i64 x.typ, .int .i64 x.id, .int .i64 x.adv, .int .i64 x.seq, .slice E1 j1 b1, .slice none 0 0, .int .i64 0, .int .i64 0]) rfl).puts 8 (.slice F1 p1 d1) (cs' := #[.int .i64 r, .int .i64 x.age, .int .i64 x.options, .int .i64 x.typ, .int .i64 x.id, .int .i64 x.adv, .int .i64 x.seq, .slice E1 j1 b1, .slice F1 p1 d1, .int .i64 0, .int .i64 0]) rfl).puts 9 (.int .i64 x.mask) (cs' := #[.int .i64 r, .int .i64 x.age, .int .i64 x.options, .int .i64 x.typ, .int .i64 x.id, .int .i64 x.adv, .int .i64 x.seq, .slice E1 j1 b1, .slice F1 p1 d1, .int .i64 x.mask, .int .i64 0]) rfl).puts 10 (.int .i64 x.cost) (cs' := #[.int .i64 r, .int .i64 x.age, .int .i64 x.options, .int .i64 x.typ, .int .i64 x.id, .int .i64 x.adv, .int .i64 x.seq, .slice E1 j1 b1, .slice F1 p1 d1, .int .i64 x.mask, .int .i64 x.cost]) rfl), VS _ (by first | exact Nat.le_refl _ | assumption) _ _ _ _ _ _ _ _ _ _ _, Lib.hid ⟨(by first | exact V1.out.size | exact (VA1 _).out.size), .inl HGL⟩, Lib.hid ⟨hj1, hp1⟩, HOk.only (only11 _ _ _ _ _ _ _ _ _ _ _ _ _) (.inr HGL)⟩ | exact ⟨_, E1, F1, j1, b1, p1, d1, _, _, rfl, Lib.hid VQ2, Kept.box (Box.made _ _ _), VA2 _, Lib.hid ⟨(by first | exact V1.out.size | exact (VA1 _).out.size), .inr (Nat.le_refl _)⟩, Lib.hid ⟨hj1, hp1⟩, HOk.below (VN2 _).out⟩)
  obtain ⟨g2, E1, F1, j1, b1, p1, d1, ol1, oh1, rfl, hg, HW2, HC, HLH, HJS, HO1⟩ := hcut
  obtain ⟨hj1, hp1⟩ := HJS.out; clear HJS
  obtain ⟨wx2, rfl⟩ : ∃ W : World, W = wc := ⟨_, rfl⟩
  have hb := HC.out
  clear HC SB V0 VA0
  have Z10 := hg; clear hg
  have Z11 := HLH; clear HLH
  have Z12 := Lib.hid hb.size
  have Z13 := Lib.hid HW2.le
  have Z14 := Lib.hid HO1.le
  replace HA0 := HA0.below hb
  replace HX1 := HX1.below hb
  replace HX2 := HX2.below hb
  replace HO0 := HO0.below hb
  replace HW1 := HW1.below hb
  replace HG0 := HG0.below hb
  replace HX3 := HX3.below hb
  replace HB := Lib.hid (below_step HB.out hb)
  clear hb
  obtain rfl : j0 = j1 := by have := HO1.two.at_.in_.links.1; have := HO0.two.at_.in_.links.1; omega
  obtain rfl : p0 = p1 := by have := HO1.two.at_.in_.routers.1; have := HO0.two.at_.in_.routers.1; omega
  have c5_0 := HW1.look 0
  have c5_1 := HW1.look 1
  have c5_2 := HW1.look 2
  have c5_3 := HW1.look 3
  have c5_4 := HW1.look 4
  have c5_5 := HW1.look 5
  have c5_6 := HW1.look 6
  have c5_7 := HW1.look 7
  have c5_8 := HW1.look 8
  have c5_9 := HW1.look 9
  have c5_10 := HW1.look 10
  have c5_11 := HW2.look 0
  have c5_12 := HW2.look 1
  have c5_13 := HW2.look 2
  have c5_14 := HW2.look 3
  have c5_15 := HW2.look 4
  have c5_16 := HW2.look 5
  have c5_17 := HW2.look 6
  have c5_18 := HW2.look 7
  have c5_19 := HW2.look 8
  have c5_20 := HW2.look 9
  have c5_21 := HW2.look 10
  have l5_0 := HX1.bx.lt
  have l5_1 := HX2.bx.lt
  have l5_2 := HW1.bx.lt
  have l5_3 := HX3.bx.lt
  have l5_4 := HW2.bx.lt
  go_wp2_with fail
  clear c5_0 c5_1 c5_2 c5_3 c5_4 c5_5 c5_6 c5_7 c5_8 c5_9 c5_10 c5_11 c5_12 c5_13 c5_14 c5_15 c5_16 c5_17 c5_18 c5_19 c5_20 c5_21 l5_0 l5_1 l5_2 l5_3 l5_4
  refine (eqLsaResult_yes r x _ _ _ _ _ _ E1 F1 E0 F0 j0 b1 p0 d1 b0 d0 _ HO1.two.at_ HO0.two.at_ hj0 hp0).mono ?_
  rintro e w5 ⟨rfl, hb⟩
  have Z15 := Lib.hid hb.size
  replace HA0 := HA0.below hb
  replace HX1 := HX1.below hb
  replace HX2 := HX2.below hb
  replace HO0 := HO0.below hb
  replace HW1 := HW1.below hb
  replace HG0 := HG0.below hb
  replace HX3 := HX3.below hb
  replace HO1 := HO1.below hb
  replace HW2 := HW2.below hb
  replace HB := Lib.hid (below_step HB.out hb)
  clear hb
  have l6_0 := HX1.bx.lt
  have l6_1 := HX2.bx.lt
  have l6_2 := HW1.bx.lt
  have l6_3 := HX3.bx.lt
  have l6_4 := HW2.bx.lt
  go_wp2
  clear l6_0 l6_1 l6_2 l6_3 l6_4
  have SB : Hid (∀ W, Hid (Below w5.heap.size w5 W) → (fun W => W.cell? ⟨w.heap.size, 0, none⟩ = some (.int .i64 v0) ∧ W.cell? ⟨w.heap.size, 1, none⟩ = some (.slice A0 n0 c0) ∧ W.cell? ⟨w3.heap.size, 0, none⟩ = some (.int .i64 v0) ∧ W.cell? ⟨w3.heap.size, 1, none⟩ = some (.slice Px0 n0 n0)) W) := fun W h => ⟨(HX1.below h.out).look 0, (HX1.below h.out).look 1, (HX3.below h.out).look 0, (HX3.below h.out).look 1⟩
  have V0 : Hid (Below w5.heap.size w5 w5.drew) := (Below.refl _ _).drew
  go_region_held3 (fun W => W.cell? ⟨w.heap.size, 0, none⟩ = some (.int .i64 v0) ∧ W.cell? ⟨w.heap.size, 1, none⟩ = some (.slice A0 n0 c0) ∧ W.cell? ⟨w3.heap.size, 0, none⟩ = some (.int .i64 v0) ∧ W.cell? ⟨w3.heap.size, 1, none⟩ = some (.slice Px0 n0 n0)) (exact SB.out _ (by assumption))
    (first | (go_at_call 50; ((with_reducible refine (toBase_any q0 lo0 hi0 A0 n0 c0 ys0 v0 _ (HA0.below V0.out).sl (HA0.below V0.out).le hN0 HM0.out).mono ?_); rintro e u3_0 ⟨Pz0, rfl, hk, hb⟩; have V1 := Lib.hid (below_step V0.out hb); clear hb; have HZ0 := hk; clear hk)) | (go_at_call 52; ((with_reducible refine (eqBase_yes true true _ _ _ _ Px0 _ n0 n0 n0 ys0 v0 _ (HG0.below V1.out).ents HZ0.ents (HG0.below V1.out).le HZ0.le hN0 HM0.out).mono ?_); rintro e u3_1 ⟨rfl, hb⟩; have V2 := Lib.hid (below_step V1.out hb); clear hb)))
  have hb := V2.out
  clear SB V0 V1 V2
  have Z16 := Lib.hid hb.size
  replace HA0 := HA0.below hb
  replace HX1 := HX1.below hb
  replace HX2 := HX2.below hb
  replace HO0 := HO0.below hb
  replace HW1 := HW1.below hb
  replace HG0 := HG0.below hb
  replace HX3 := HX3.below hb
  replace HO1 := HO1.below hb
  replace HW2 := HW2.below hb
  replace HB := Lib.hid (below_step HB.out hb)
  clear hb
  clear HZ0
  have c7_0 := HX3.look 0
  have c7_1 := HX3.look 1
  have l7_0 := HX1.bx.lt
  have l7_1 := HX2.bx.lt
  have l7_2 := HW1.bx.lt
  have l7_3 := HX3.bx.lt
  have l7_4 := HW2.bx.lt
  go_wp2_with fail
  clear c7_0 c7_1 l7_0 l7_1 l7_2 l7_3 l7_4
  obtain ⟨bsw, hfw, hndw, hinw⟩ := HG0.out
  have HLW := HG0.le
  refine (markBase_F Px0 n0 n0 ys0 bsw v0 1 _ hfw hndw (fun b hb => Nat.lt_of_lt_of_le (hinw b hb).2 HLW) hN0 HT0.out (by omega) (by omega)).mono ?_
  rintro e w6 ⟨rfl, _, how⟩
  have ho := how.only hinw
  have Z17 := Lib.hid ho.size
  replace HA0 := HA0.only ho (by have := Z1.out; have := Z2.out; have := Z3.out; have := Z4.out; have := Z5.out; have := Z6.out; have := Z7.out; have := Z8.out; have := Z9.out; have := Z10.out; have := Z11.out; have := Z12.out; have := Z13.out; have := Z14.out; have := Z15.out; have := Z16.out; have := Z17.out; omega)
  replace HX1 := HX1.only ho (by have := Z1.out; have := Z2.out; have := Z3.out; have := Z4.out; have := Z5.out; have := Z6.out; have := Z7.out; have := Z8.out; have := Z9.out; have := Z10.out; have := Z11.out; have := Z12.out; have := Z13.out; have := Z14.out; have := Z15.out; have := Z16.out; have := Z17.out; omega)
  replace HX2 := HX2.only ho (by have := Z1.out; have := Z2.out; have := Z3.out; have := Z4.out; have := Z5.out; have := Z6.out; have := Z7.out; have := Z8.out; have := Z9.out; have := Z10.out; have := Z11.out; have := Z12.out; have := Z13.out; have := Z14.out; have := Z15.out; have := Z16.out; have := Z17.out; omega)
  replace HO0 := HO0.only ho (by have := Z1.out; have := Z2.out; have := Z3.out; have := Z4.out; have := Z5.out; have := Z6.out; have := Z7.out; have := Z8.out; have := Z9.out; have := Z10.out; have := Z11.out; have := Z12.out; have := Z13.out; have := Z14.out; have := Z15.out; have := Z16.out; have := Z17.out; omega)
  replace HW1 := HW1.only ho (by have := Z1.out; have := Z2.out; have := Z3.out; have := Z4.out; have := Z5.out; have := Z6.out; have := Z7.out; have := Z8.out; have := Z9.out; have := Z10.out; have := Z11.out; have := Z12.out; have := Z13.out; have := Z14.out; have := Z15.out; have := Z16.out; have := Z17.out; omega)
  replace HX3 := HX3.only ho (by have := Z1.out; have := Z2.out; have := Z3.out; have := Z4.out; have := Z5.out; have := Z6.out; have := Z7.out; have := Z8.out; have := Z9.out; have := Z10.out; have := Z11.out; have := Z12.out; have := Z13.out; have := Z14.out; have := Z15.out; have := Z16.out; have := Z17.out; omega)
  replace HO1 := HO1.only ho (by have := Z1.out; have := Z2.out; have := Z3.out; have := Z4.out; have := Z5.out; have := Z6.out; have := Z7.out; have := Z8.out; have := Z9.out; have := Z10.out; have := Z11.out; have := Z12.out; have := Z13.out; have := Z14.out; have := Z15.out; have := Z16.out; have := Z17.out; omega)
  replace HW2 := HW2.only ho (by have := Z1.out; have := Z2.out; have := Z3.out; have := Z4.out; have := Z5.out; have := Z6.out; have := Z7.out; have := Z8.out; have := Z9.out; have := Z10.out; have := Z11.out; have := Z12.out; have := Z13.out; have := Z14.out; have := Z15.out; have := Z16.out; have := Z17.out; omega)
  replace HB := Lib.hid (Below.only HB.out ho (by have := Z1.out; have := Z2.out; have := Z3.out; have := Z4.out; have := Z5.out; have := Z6.out; have := Z7.out; have := Z8.out; have := Z9.out; have := Z10.out; have := Z11.out; have := Z12.out; have := Z13.out; have := Z14.out; have := Z15.out; have := Z16.out; have := Z17.out; omega) HB.out.size)
  clear HG0
  clear ho how hfw hndw hinw HLW
  obtain ⟨tw, htw⟩ : ∃ t, entWs ys0 = t := ⟨_, rfl⟩
  rw [htw]
  clear htw
  have hq0 : ¬ (1 + (tw : Int) < 0) := by omega
  have c8_0 := HW1.look 0
  have c8_1 := HW1.look 1
  have c8_2 := HW1.look 2
  have c8_3 := HW1.look 3
  have c8_4 := HW1.look 4
  have c8_5 := HW1.look 5
  have c8_6 := HW1.look 6
  have c8_7 := HW1.look 7
  have c8_8 := HW1.look 8
  have c8_9 := HW1.look 9
  have c8_10 := HW1.look 10
  have c8_11 := HW2.look 0
  have c8_12 := HW2.look 1
  have c8_13 := HW2.look 2
  have c8_14 := HW2.look 3
  have c8_15 := HW2.look 4
  have c8_16 := HW2.look 5
  have c8_17 := HW2.look 6
  have c8_18 := HW2.look 7
  have c8_19 := HW2.look 8
  have c8_20 := HW2.look 9
  have c8_21 := HW2.look 10
  have l8_0 := HX1.bx.lt
  have l8_1 := HX2.bx.lt
  have l8_2 := HW1.bx.lt
  have l8_3 := HX3.bx.lt
  have l8_4 := HW2.bx.lt
  go_wp2_with fail
  clear c8_0 c8_1 c8_2 c8_3 c8_4 c8_5 c8_6 c8_7 c8_8 c8_9 c8_10 c8_11 c8_12 c8_13 c8_14 c8_15 c8_16 c8_17 c8_18 c8_19 c8_20 c8_21 l8_0 l8_1 l8_2 l8_3 l8_4
  refine (eqLsaResult_yes r x _ _ _ _ _ _ E1 F1 E0 F0 j0 b1 p0 d1 b0 d0 _ HO1.two.at_ HO0.two.at_ hj0 hp0).mono ?_
  rintro e w7 ⟨rfl, hb⟩
  have Z18 := Lib.hid hb.size
  replace HA0 := HA0.below hb
  replace HX1 := HX1.below hb
  replace HX2 := HX2.below hb
  replace HO0 := HO0.below hb
  replace HW1 := HW1.below hb
  replace HX3 := HX3.below hb
  replace HO1 := HO1.below hb
  replace HW2 := HW2.below hb
  replace HB := Lib.hid (below_step HB.out hb)
  clear hb
  have c9_0 := HW2.look 0
  have c9_1 := HW2.look 1
  have c9_2 := HW2.look 2
  have c9_3 := HW2.look 3
  have c9_4 := HW2.look 4
  have c9_5 := HW2.look 5
  have c9_6 := HW2.look 6
  have c9_7 := HW2.look 7
  have c9_8 := HW2.look 8
  have c9_9 := HW2.look 9
  have c9_10 := HW2.look 10
  have l9_0 := HX1.bx.lt
  have l9_1 := HX2.bx.lt
  have l9_2 := HW1.bx.lt
  have l9_3 := HX3.bx.lt
  have l9_4 := HW2.bx.lt
  go_wp2_with fail
  clear c9_0 c9_1 c9_2 c9_3 c9_4 c9_5 c9_6 c9_7 c9_8 c9_9 c9_10 l9_0 l9_1 l9_2 l9_3 l9_4
  refine (markLsaResult_two r x _ _ E1 F1 j0 b1 p0 d1 1 _ HO1.two hj0 hp0 (by omega) (by omega)).mono ?_
  rintro e w8 ⟨rfl, ht, ho⟩
  have Z19 := Lib.hid ho.size
  replace HA0 := HA0.only ho (by have := Z1.out; have := Z2.out; have := Z3.out; have := Z4.out; have := Z5.out; have := Z6.out; have := Z7.out; have := Z8.out; have := Z9.out; have := Z10.out; have := Z11.out; have := Z12.out; have := Z13.out; have := Z14.out; have := Z15.out; have := Z16.out; have := Z17.out; have := Z18.out; have := Z19.out; omega)
  replace HX1 := HX1.only ho (by have := Z1.out; have := Z2.out; have := Z3.out; have := Z4.out; have := Z5.out; have := Z6.out; have := Z7.out; have := Z8.out; have := Z9.out; have := Z10.out; have := Z11.out; have := Z12.out; have := Z13.out; have := Z14.out; have := Z15.out; have := Z16.out; have := Z17.out; have := Z18.out; have := Z19.out; omega)
  replace HX2 := HX2.only ho (by have := Z1.out; have := Z2.out; have := Z3.out; have := Z4.out; have := Z5.out; have := Z6.out; have := Z7.out; have := Z8.out; have := Z9.out; have := Z10.out; have := Z11.out; have := Z12.out; have := Z13.out; have := Z14.out; have := Z15.out; have := Z16.out; have := Z17.out; have := Z18.out; have := Z19.out; omega)
  replace HO0 := HO0.only ho (by have := Z1.out; have := Z2.out; have := Z3.out; have := Z4.out; have := Z5.out; have := Z6.out; have := Z7.out; have := Z8.out; have := Z9.out; have := Z10.out; have := Z11.out; have := Z12.out; have := Z13.out; have := Z14.out; have := Z15.out; have := Z16.out; have := Z17.out; have := Z18.out; have := Z19.out; omega)
  replace HW1 := HW1.only ho (by have := Z1.out; have := Z2.out; have := Z3.out; have := Z4.out; have := Z5.out; have := Z6.out; have := Z7.out; have := Z8.out; have := Z9.out; have := Z10.out; have := Z11.out; have := Z12.out; have := Z13.out; have := Z14.out; have := Z15.out; have := Z16.out; have := Z17.out; have := Z18.out; have := Z19.out; omega)
  replace HX3 := HX3.only ho (by have := Z1.out; have := Z2.out; have := Z3.out; have := Z4.out; have := Z5.out; have := Z6.out; have := Z7.out; have := Z8.out; have := Z9.out; have := Z10.out; have := Z11.out; have := Z12.out; have := Z13.out; have := Z14.out; have := Z15.out; have := Z16.out; have := Z17.out; have := Z18.out; have := Z19.out; omega)
  replace HW2 := HW2.only ho (by have := Z1.out; have := Z2.out; have := Z3.out; have := Z4.out; have := Z5.out; have := Z6.out; have := Z7.out; have := Z8.out; have := Z9.out; have := Z10.out; have := Z11.out; have := Z12.out; have := Z13.out; have := Z14.out; have := Z15.out; have := Z16.out; have := Z17.out; have := Z18.out; have := Z19.out; omega)
  replace HB := Lib.hid (Below.only HB.out ho (by have := Z1.out; have := Z2.out; have := Z3.out; have := Z4.out; have := Z5.out; have := Z6.out; have := Z7.out; have := Z8.out; have := Z9.out; have := Z10.out; have := Z11.out; have := Z12.out; have := Z13.out; have := Z14.out; have := Z15.out; have := Z16.out; have := Z17.out; have := Z18.out; have := Z19.out; omega) HB.out.size)
  clear ho
  clear HO1
  have HM := ht.kept; clear ht
  have hq1 : ¬ (1 + 4 * (j0 : Int) + p0 < 0) := by omega
  have c10_0 := HW2.look 0
  have c10_1 := HW2.look 1
  have c10_2 := HW2.look 2
  have c10_3 := HW2.look 3
  have c10_4 := HW2.look 4
  have c10_5 := HW2.look 5
  have c10_6 := HW2.look 6
  have c10_7 := HW2.look 7
  have c10_8 := HW2.look 8
  have c10_9 := HW2.look 9
  have c10_10 := HW2.look 10
  have l10_0 := HX1.bx.lt
  have l10_1 := HX2.bx.lt
  have l10_2 := HW1.bx.lt
  have l10_3 := HX3.bx.lt
  have l10_4 := HW2.bx.lt
  go_wp2_with fail
  clear c10_0 c10_1 c10_2 c10_3 c10_4 c10_5 c10_6 c10_7 c10_8 c10_9 c10_10 l10_0 l10_1 l10_2 l10_3 l10_4
  refine (heldLsaResult_yes r x true _ _ E1 F1 j0 b1 p0 d1 1 _ HM.two.at_ hj0 hp0 (by omega) (by omega) HQ.out).mono ?_
  rintro e w9 ⟨rfl, hb⟩
  have Z20 := Lib.hid hb.size
  replace HA0 := HA0.below hb
  replace HX1 := HX1.below hb
  replace HX2 := HX2.below hb
  replace HO0 := HO0.below hb
  replace HW1 := HW1.below hb
  replace HX3 := HX3.below hb
  replace HW2 := HW2.below hb
  replace HM := HM.below hb
  replace HB := Lib.hid (below_step HB.out hb)
  clear hb
  have l11_0 := HX1.bx.lt
  have l11_1 := HX2.bx.lt
  have l11_2 := HW1.bx.lt
  have l11_3 := HX3.bx.lt
  have l11_4 := HW2.bx.lt
  go_wp2_with fail
  clear l11_0 l11_1 l11_2 l11_3 l11_4
  have SB : Hid (∀ W, Hid (Below w9.heap.size w9 W) → (fun W => W.cell? ⟨w.heap.size, 0, none⟩ = some (.int .i64 v0) ∧ W.cell? ⟨w.heap.size, 1, none⟩ = some (.slice A0 n0 c0) ∧ W.cell? ⟨w.heap.size + 1, 0, none⟩ = some (.int .i64 s1) ∧ W.cell? ⟨w.heap.size + 1, 1, none⟩ = some (.int .i64 t1) ∧ W.cell? ⟨w.heap.size + 1, 2, none⟩ = some (.int .i64 u1)) W) := fun W h => ⟨(HX1.below h.out).look 0, (HX1.below h.out).look 1, (HX2.below h.out).look 0, (HX2.below h.out).look 1, (HX2.below h.out).look 2⟩
  have V0 : Hid (Below w9.heap.size w9 w9.drew) := (Below.refl _ _).drew
  have VA0 : ∀ o, Hid (Below w9.heap.size w9 (w9.alloc o).drew) := fun o => ((Below.refl _ _).alloc (Nat.le_refl _) o).drew
  go_upto_region 24 with (fail)
  go_cut [12] (fun s6 wx => ∃ g E F j b p d lo hi, s6 = .pointer (some ⟨g, 0, none⟩) ∧ Hid (w9.heap.size ≤ g) ∧ Kept g (g + 1) (BoxK g 95 #[.int .i64 r, .int .i64 x.age, .int .i64 x.options, .int .i64 x.typ, .int .i64 x.id, .int .i64 x.adv, .int .i64 x.seq, .slice E j b, .slice F p d, .int .i64 x.mask, .int .i64 x.cost]) wx ∧ Hid (Below w9.heap.size w9 wx) ∧ Hid (w9.heap.size ≤ lo ∧ (g < lo ∨ hi ≤ g)) ∧ Hid (j ≤ 1048576 ∧ p ≤ 1048576) ∧ Kept lo hi (LsaTwoK lo hi E j F p x) wx)
  case first =>
    have VN0 : ∀ o, Hid (Below w9.heap.size w9 (w9.alloc o).drew) := VA0
    go_region_held3 (fun W => W.cell? ⟨w.heap.size, 0, none⟩ = some (.int .i64 v0) ∧ W.cell? ⟨w.heap.size, 1, none⟩ = some (.slice A0 n0 c0) ∧ W.cell? ⟨w.heap.size + 1, 0, none⟩ = some (.int .i64 s1) ∧ W.cell? ⟨w.heap.size + 1, 1, none⟩ = some (.int .i64 t1) ∧ W.cell? ⟨w.heap.size + 1, 2, none⟩ = some (.int .i64 u1)) (first | (with_reducible exact SB.out _ V0) | (with_reducible exact SB.out _ (VA0 _)) | (with_reducible exact SB.out _ V1) | (with_reducible exact SB.out _ (VA1 _)) | (with_reducible exact SB.out _ V2) | (with_reducible exact SB.out _ (VA2 _)) | (with_reducible exact SB.out _ V3) | (with_reducible exact SB.out _ (VA3 _)) | (with_reducible exact SB.out _ (VS _ (by first | exact Nat.le_refl _ | assumption) _ _ _ _ _ _ _ _ _ _ _)))
      (first
        | (go_at_call 50; ((with_reducible refine (toBase_any q0 lo0 hi0 A0 n0 c0 ys0 v0 _ (HA0.below V0.out).sl (HA0.below V0.out).le hN0 HM0.out).mono ?_); rintro e u4_0 ⟨Py0, rfl, hk, hb⟩; have V1 := Lib.hid (below_step V0.out hb); (try replace HW := HW.below hb); have VN1 : ∀ o, Hid (Below u4_0.heap.size u4_0 (u4_0.alloc o)) := (fun o => (Below.refl _ _).alloc (Nat.le_refl _) o); have VA1 : ∀ o, Hid (Below w9.heap.size w9 (u4_0.alloc o)) := (fun o => Below.alloc V1.out V1.out.size o); have VQ1 := V1.out.size; clear hb; have HH0 := hk; clear hk))
        | (go_at_call 50; ((with_reducible refine (toBase_any q0 lo0 hi0 A0 n0 c0 ys0 v0 _ (HA0.below (VA0 _).out).sl (HA0.below (VA0 _).out).le hN0 HM0.out).mono ?_); rintro e u4_0 ⟨Py0, rfl, hk, hb⟩; have V1 := Lib.hid (below_step (VA0 _).out hb); have HW := ((Kept.box (show Box ((w9.alloc (.cells #[.int .i64 0, .int .i64 0, .int .i64 0, .int .i64 0, .int .i64 0, .int .i64 0, .int .i64 0, .slice none 0 0, .slice none 0 0, .int .i64 0, .int .i64 0] 95)).drew) w9.heap.size 95 #[.int .i64 0, .int .i64 0, .int .i64 0, .int .i64 0, .int .i64 0, .int .i64 0, .int .i64 0, .slice none 0 0, .slice none 0 0, .int .i64 0, .int .i64 0] from Box.made _ _ _))).below hb; have VN1 : ∀ o, Hid (Below u4_0.heap.size u4_0 (u4_0.alloc o)) := (fun o => (Below.refl _ _).alloc (Nat.le_refl _) o); have VA1 : ∀ o, Hid (Below w9.heap.size w9 (u4_0.alloc o)) := (fun o => Below.alloc V1.out V1.out.size o); have VQ1 := V1.out.size; clear hb; have HH0 := hk; clear hk))
        | (go_at_call 59; ((with_reducible refine (toKey_any s1 t1 u1 _).mono ?_); rintro e u4_1 ⟨rfl, hb⟩; have V2 := Lib.hid (below_step V1.out hb); replace HH0 := HH0.below hb; (try replace HW := HW.below hb); have VN2 : ∀ o, Hid (Below u4_1.heap.size u4_1 (u4_1.alloc o)) := (fun o => (Below.refl _ _).alloc (Nat.le_refl _) o); have VA2 : ∀ o, Hid (Below w9.heap.size w9 (u4_1.alloc o)) := (fun o => Below.alloc V2.out V2.out.size o); have VQ2 := V2.out.size; clear hb))
        | (go_at_call 59; ((with_reducible refine (toKey_any s1 t1 u1 _).mono ?_); rintro e u4_1 ⟨rfl, hb⟩; have V2 := Lib.hid (below_step (VA1 _).out hb); replace HH0 := (HH0.below (VN1 _).out).below hb; have HW := ((Kept.box (show Box ((u4_0.alloc (.cells #[.int .i64 0, .int .i64 0, .int .i64 0, .int .i64 0, .int .i64 0, .int .i64 0, .int .i64 0, .slice none 0 0, .slice none 0 0, .int .i64 0, .int .i64 0] 95))) u4_0.heap.size 95 #[.int .i64 0, .int .i64 0, .int .i64 0, .int .i64 0, .int .i64 0, .int .i64 0, .int .i64 0, .slice none 0 0, .slice none 0 0, .int .i64 0, .int .i64 0] from Box.made _ _ _))).below hb; have VN2 : ∀ o, Hid (Below u4_1.heap.size u4_1 (u4_1.alloc o)) := (fun o => (Below.refl _ _).alloc (Nat.le_refl _) o); have VA2 : ∀ o, Hid (Below w9.heap.size w9 (u4_1.alloc o)) := (fun o => Below.alloc V2.out V2.out.size o); have VQ2 := V2.out.size; clear hb))
        | (go_at_call 60; (try have HGL := HW.le); ((with_reducible refine (look_any s1 t1 u1 v0 true _ _ Py0 n0 n0 ys0 _ HH0.ents HH0.le hN0 HM0.out).mono ?_); rw [HRr.out, HRx.out]; rintro e u4_2 ⟨E2, F2, j2, b2, p2, d2, rfl, ht, hj2, hp2, hb⟩; have V3 := Lib.hid (below_step V2.out hb); replace HH0 := HH0.below hb; (try replace HW := HW.below hb); have VN3 : ∀ o, Hid (Below u4_2.heap.size u4_2 (u4_2.alloc o)) := (fun o => (Below.refl _ _).alloc (Nat.le_refl _) o); have VA3 : ∀ o, Hid (Below w9.heap.size w9 (u4_2.alloc o)) := (fun o => Below.alloc V3.out V3.out.size o); have VQ3 := V3.out.size; clear hb; have HOk := ht.kept; clear ht; have VS : ∀ (g : Nat) (hg : w9.heap.size ≤ g) (v0 v1 v2 v3 v4 v5 v6 v7 v8 v9 v10 : Value), Hid (Below w9.heap.size w9 (((((((((((u4_2.setCell ⟨g, 0, none⟩ v0).setCell ⟨g, 1, none⟩ v1).setCell ⟨g, 2, none⟩ v2).setCell ⟨g, 3, none⟩ v3).setCell ⟨g, 4, none⟩ v4).setCell ⟨g, 5, none⟩ v5).setCell ⟨g, 6, none⟩ v6).setCell ⟨g, 7, none⟩ v7).setCell ⟨g, 8, none⟩ v8).setCell ⟨g, 9, none⟩ v9).setCell ⟨g, 10, none⟩ v10)) := (fun g hg v0 v1 v2 v3 v4 v5 v6 v7 v8 v9 v10 => (Below.setCell (p := ⟨g, 10, none⟩) (Below.setCell (p := ⟨g, 9, none⟩) (Below.setCell (p := ⟨g, 8, none⟩) (Below.setCell (p := ⟨g, 7, none⟩) (Below.setCell (p := ⟨g, 6, none⟩) (Below.setCell (p := ⟨g, 5, none⟩) (Below.setCell (p := ⟨g, 4, none⟩) (Below.setCell (p := ⟨g, 3, none⟩) (Below.setCell (p := ⟨g, 2, none⟩) (Below.setCell (p := ⟨g, 1, none⟩) (Below.setCell (p := ⟨g, 0, none⟩) V3.out hg v0) hg v1) hg v2) hg v3) hg v4) hg v5) hg v6) hg v7) hg v8) hg v9) hg v10)); (try (have hk0 := HW.look 0; have hf0 := HW.free 0)); (try (have hk1 := HW.look 1; have hf1 := HW.free 1)); (try (have hk2 := HW.look 2; have hf2 := HW.free 2)); (try (have hk3 := HW.look 3; have hf3 := HW.free 3)); (try (have hk4 := HW.look 4; have hf4 := HW.free 4)); (try (have hk5 := HW.look 5; have hf5 := HW.free 5)); (try (have hk6 := HW.look 6; have hf6 := HW.free 6)); (try (have hk7 := HW.look 7; have hf7 := HW.free 7)); (try (have hk8 := HW.look 8; have hf8 := HW.free 8)); (try (have hk9 := HW.look 9; have hf9 := HW.free 9)); (try (have hk10 := HW.look 10; have hf10 := HW.free 10))))
        | (go_at_call 60; have HGL := ((Kept.box (show Box ((u4_1.alloc (.cells #[.int .i64 0, .int .i64 0, .int .i64 0, .int .i64 0, .int .i64 0, .int .i64 0, .int .i64 0, .slice none 0 0, .slice none 0 0, .int .i64 0, .int .i64 0] 95))) u4_1.heap.size 95 #[.int .i64 0, .int .i64 0, .int .i64 0, .int .i64 0, .int .i64 0, .int .i64 0, .int .i64 0, .slice none 0 0, .slice none 0 0, .int .i64 0, .int .i64 0] from Box.made _ _ _))).le; ((with_reducible refine (look_any s1 t1 u1 v0 true _ _ Py0 n0 n0 ys0 _ (HH0.below (VN2 _).out).ents (HH0.below (VN2 _).out).le hN0 HM0.out).mono ?_); rw [HRr.out, HRx.out]; rintro e u4_2 ⟨E2, F2, j2, b2, p2, d2, rfl, ht, hj2, hp2, hb⟩; have V3 := Lib.hid (below_step (VA2 _).out hb); replace HH0 := (HH0.below (VN2 _).out).below hb; have HW := ((Kept.box (show Box ((u4_1.alloc (.cells #[.int .i64 0, .int .i64 0, .int .i64 0, .int .i64 0, .int .i64 0, .int .i64 0, .int .i64 0, .slice none 0 0, .slice none 0 0, .int .i64 0, .int .i64 0] 95))) u4_1.heap.size 95 #[.int .i64 0, .int .i64 0, .int .i64 0, .int .i64 0, .int .i64 0, .int .i64 0, .int .i64 0, .slice none 0 0, .slice none 0 0, .int .i64 0, .int .i64 0] from Box.made _ _ _))).below hb; have VN3 : ∀ o, Hid (Below u4_2.heap.size u4_2 (u4_2.alloc o)) := (fun o => (Below.refl _ _).alloc (Nat.le_refl _) o); have VA3 : ∀ o, Hid (Below w9.heap.size w9 (u4_2.alloc o)) := (fun o => Below.alloc V3.out V3.out.size o); have VQ3 := V3.out.size; clear hb; have HOk := ht.kept; clear ht; have VS : ∀ (g : Nat) (hg : w9.heap.size ≤ g) (v0 v1 v2 v3 v4 v5 v6 v7 v8 v9 v10 : Value), Hid (Below w9.heap.size w9 (((((((((((u4_2.setCell ⟨g, 0, none⟩ v0).setCell ⟨g, 1, none⟩ v1).setCell ⟨g, 2, none⟩ v2).setCell ⟨g, 3, none⟩ v3).setCell ⟨g, 4, none⟩ v4).setCell ⟨g, 5, none⟩ v5).setCell ⟨g, 6, none⟩ v6).setCell ⟨g, 7, none⟩ v7).setCell ⟨g, 8, none⟩ v8).setCell ⟨g, 9, none⟩ v9).setCell ⟨g, 10, none⟩ v10)) := (fun g hg v0 v1 v2 v3 v4 v5 v6 v7 v8 v9 v10 => (Below.setCell (p := ⟨g, 10, none⟩) (Below.setCell (p := ⟨g, 9, none⟩) (Below.setCell (p := ⟨g, 8, none⟩) (Below.setCell (p := ⟨g, 7, none⟩) (Below.setCell (p := ⟨g, 6, none⟩) (Below.setCell (p := ⟨g, 5, none⟩) (Below.setCell (p := ⟨g, 4, none⟩) (Below.setCell (p := ⟨g, 3, none⟩) (Below.setCell (p := ⟨g, 2, none⟩) (Below.setCell (p := ⟨g, 1, none⟩) (Below.setCell (p := ⟨g, 0, none⟩) V3.out hg v0) hg v1) hg v2) hg v3) hg v4) hg v5) hg v6) hg v7) hg v8) hg v9) hg v10)); (try (have hk0 := HW.look 0; have hf0 := HW.free 0)); (try (have hk1 := HW.look 1; have hf1 := HW.free 1)); (try (have hk2 := HW.look 2; have hf2 := HW.free 2)); (try (have hk3 := HW.look 3; have hf3 := HW.free 3)); (try (have hk4 := HW.look 4; have hf4 := HW.free 4)); (try (have hk5 := HW.look 5; have hf5 := HW.free 5)); (try (have hk6 := HW.look 6; have hf6 := HW.free 6)); (try (have hk7 := HW.look 7; have hf7 := HW.free 7)); (try (have hk8 := HW.look 8; have hf8 := HW.free 8)); (try (have hk9 := HW.look 9; have hf9 := HW.free 9)); (try (have hk10 := HW.look 10; have hf10 := HW.free 10)))))
    all_goals (go_wp2_with fail; go_meet; first | exact ⟨_, E2, F2, j2, b2, p2, d2, _, _, rfl, Lib.hid (by first | exact Nat.le_refl _ | assumption), Kept.box (((((((((((HW.bx.puts 0 (.int .i64 r) (cs' := #[.int .i64 r, .int .i64 0, .int .i64 0, .int .i64 0, .int .i64 0, .int .i64 0, .int .i64 0, .slice none 0 0, .slice none 0 0, .int .i64 0, .int .i64 0]) rfl).puts 1 (.int .i64 x.age) (cs' := #[.int .i64 r, .int .i64 x.age, .int .i64 0, .int .i64 0, .int .i64 0, .int .i64 0, .int .i64 0, .slice none 0 0, .slice none 0 0, .int .i64 0, .int .i64 0]) rfl).puts 2 (.int .i64 x.options) (cs' := #[.int .i64 r, .int .i64 x.age, .int .i64 x.options, .int .i64 0, .int .i64 0, .int .i64 0, .int .i64 0, .slice none 0 0, .slice none 0 0, .int .i64 0, .int .i64 0]) rfl).puts 3 (.int .i64 x.typ) (cs' := #[.int .i64 r, .int .i64 x.age, .int .i64 x.options, .int .i64 x.typ, .int .i64 0, .int .i64 0, .int .i64 0, .slice none 0 0, .slice none 0 0, .int .i64 0, .int .i64 0]) rfl).puts 4 (.int .i64 x.id) (cs' := #[.int .i64 r, .int .i64 x.age, .int .i64 x.options, .int .i64 x.typ, .int .i64 x.id, .int .i64 0, .int .i64 0, .slice none 0 0, .slice none 0 0, .int .i64 0, .int .i64 0]) rfl).puts 5 (.int .i64 x.adv) (cs' := #[.int .i64 r, .int .i64 x.age, .int .i64 x.options, .int .i64 x.typ, .int .i64 x.id, .int .i64 x.adv, .int .i64 0, .slice none 0 0, .slice none 0 0, .int .i64 0, .int .i64 0]) rfl).puts 6 (.int .i64 x.seq) (cs' := #[.int .i64 r, .int .i64 x.age, .int .i64 x.options, .int .i64 x.typ, .int .i64 x.id, .int .i64 x.adv, .int .i64 x.seq, .slice none 0 0, .slice none 0 0, .int .i64 0, .int .i64 0]) rfl).puts 7 (.slice E2 j2 b2) (cs' := #[.int .i64 r, .int .i64 x.age, .int .i64 x.options, .int .i64 x.typ, .int .i64 x.id, .int .i64 x.adv, .int .i64 x.seq, .slice E2 j2 b2, .slice none 0 0, .int .i64 0, .int .i64 0]) rfl).puts 8 (.slice F2 p2 d2) (cs' := #[.int .i64 r, .int .i64 x.age, .int .i64 x.options, .int .i64 x.typ, .int .i64 x.id, .int .i64 x.adv, .int .i64 x.seq, .slice E2 j2 b2, .slice F2 p2 d2, .int .i64 0, .int .i64 0]) rfl).puts 9 (.int .i64 x.mask) (cs' := #[.int .i64 r, .int .i64 x.age, .int .i64 x.options, .int .i64 x.typ, .int .i64 x.id, .int .i64 x.adv, .int .i64 x.seq, .slice E2 j2 b2, .slice F2 p2 d2, .int .i64 x.mask, .int .i64 0]) rfl).puts 10 (.int .i64 x.cost) (cs' := #[.int .i64 r, .int .i64 x.age, .int .i64 x.options, .int .i64 x.typ, .int .i64 x.id, .int .i64 x.adv, .int .i64 x.seq, .slice E2 j2 b2, .slice F2 p2 d2, .int .i64 x.mask, .int .i64 x.cost]) rfl), VS _ (by first | exact Nat.le_refl _ | assumption) _ _ _ _ _ _ _ _ _ _ _, Lib.hid ⟨(by first | exact V2.out.size | exact (VA2 _).out.size), .inl HGL⟩, Lib.hid ⟨hj2, hp2⟩, HOk.only (only11 _ _ _ _ _ _ _ _ _ _ _ _ _) (.inr HGL)⟩ | exact ⟨_, E2, F2, j2, b2, p2, d2, _, _, rfl, Lib.hid VQ3, Kept.box (Box.made _ _ _), VA3 _, Lib.hid ⟨(by first | exact V2.out.size | exact (VA2 _).out.size), .inr (Nat.le_refl _)⟩, Lib.hid ⟨hj2, hp2⟩, HOk.below (VN3 _).out⟩)
  obtain ⟨g4, E2, F2, j2, b2, p2, d2, ol2, oh2, rfl, hg, HW4, HC, HLH, HJS, HO2⟩ := hcut
  obtain ⟨hj2, hp2⟩ := HJS.out; clear HJS
  obtain ⟨wx4, rfl⟩ : ∃ W : World, W = wc := ⟨_, rfl⟩
  have hb := HC.out
  clear HC SB V0 VA0
  have Z21 := hg; clear hg
  have Z22 := HLH; clear HLH
  have Z23 := Lib.hid hb.size
  have Z24 := Lib.hid HW4.le
  have Z25 := Lib.hid HO2.le
  replace HA0 := HA0.below hb
  replace HX1 := HX1.below hb
  replace HX2 := HX2.below hb
  replace HO0 := HO0.below hb
  replace HW1 := HW1.below hb
  replace HX3 := HX3.below hb
  replace HW2 := HW2.below hb
  replace HM := HM.below hb
  replace HB := Lib.hid (below_step HB.out hb)
  clear hb
  obtain rfl : j0 = j2 := by have := HO2.two.at_.in_.links.1; have := HO0.two.at_.in_.links.1; omega
  obtain rfl : p0 = p2 := by have := HO2.two.at_.in_.routers.1; have := HO0.two.at_.in_.routers.1; omega
  have c12_0 := HW1.look 0
  have c12_1 := HW1.look 1
  have c12_2 := HW1.look 2
  have c12_3 := HW1.look 3
  have c12_4 := HW1.look 4
  have c12_5 := HW1.look 5
  have c12_6 := HW1.look 6
  have c12_7 := HW1.look 7
  have c12_8 := HW1.look 8
  have c12_9 := HW1.look 9
  have c12_10 := HW1.look 10
  have c12_11 := HW4.look 0
  have c12_12 := HW4.look 1
  have c12_13 := HW4.look 2
  have c12_14 := HW4.look 3
  have c12_15 := HW4.look 4
  have c12_16 := HW4.look 5
  have c12_17 := HW4.look 6
  have c12_18 := HW4.look 7
  have c12_19 := HW4.look 8
  have c12_20 := HW4.look 9
  have c12_21 := HW4.look 10
  have l12_0 := HX1.bx.lt
  have l12_1 := HX2.bx.lt
  have l12_2 := HW1.bx.lt
  have l12_3 := HX3.bx.lt
  have l12_4 := HW2.bx.lt
  have l12_5 := HW4.bx.lt
  go_wp2_with fail
  clear c12_0 c12_1 c12_2 c12_3 c12_4 c12_5 c12_6 c12_7 c12_8 c12_9 c12_10 c12_11 c12_12 c12_13 c12_14 c12_15 c12_16 c12_17 c12_18 c12_19 c12_20 c12_21 l12_0 l12_1 l12_2 l12_3 l12_4 l12_5
  refine (eqLsaResult_yes r x _ _ _ _ _ _ E2 F2 E0 F0 j0 b2 p0 d2 b0 d0 _ HO2.two.at_ HO0.two.at_ hj0 hp0).mono ?_
  rintro e w10 ⟨rfl, hb⟩
  have Z26 := Lib.hid hb.size
  replace HA0 := HA0.below hb
  replace HX1 := HX1.below hb
  replace HX2 := HX2.below hb
  replace HO0 := HO0.below hb
  replace HW1 := HW1.below hb
  replace HX3 := HX3.below hb
  replace HW2 := HW2.below hb
  replace HM := HM.below hb
  replace HO2 := HO2.below hb
  replace HW4 := HW4.below hb
  replace HB := Lib.hid (below_step HB.out hb)
  clear hb
  have c13_0 := HW2.look 0
  have c13_1 := HW2.look 1
  have c13_2 := HW2.look 2
  have c13_3 := HW2.look 3
  have c13_4 := HW2.look 4
  have c13_5 := HW2.look 5
  have c13_6 := HW2.look 6
  have c13_7 := HW2.look 7
  have c13_8 := HW2.look 8
  have c13_9 := HW2.look 9
  have c13_10 := HW2.look 10
  have l13_0 := HX1.bx.lt
  have l13_1 := HX2.bx.lt
  have l13_2 := HW1.bx.lt
  have l13_3 := HX3.bx.lt
  have l13_4 := HW2.bx.lt
  have l13_5 := HW4.bx.lt
  go_wp2_with fail
  clear c13_0 c13_1 c13_2 c13_3 c13_4 c13_5 c13_6 c13_7 c13_8 c13_9 c13_10 l13_0 l13_1 l13_2 l13_3 l13_4 l13_5
  refine (heldLsaResult_yes r x true _ _ E1 F1 j0 b1 p0 d1 1 _ HM.two.at_ hj0 hp0 (by omega) (by omega) HQ.out).mono ?_
  rintro e w11 ⟨rfl, hb⟩
  have Z27 := Lib.hid hb.size
  replace HA0 := HA0.below hb
  replace HX1 := HX1.below hb
  replace HX2 := HX2.below hb
  replace HO0 := HO0.below hb
  replace HW1 := HW1.below hb
  replace HX3 := HX3.below hb
  replace HW2 := HW2.below hb
  replace HM := HM.below hb
  replace HO2 := HO2.below hb
  replace HW4 := HW4.below hb
  replace HB := Lib.hid (below_step HB.out hb)
  clear hb
  have l14_0 := HX1.bx.lt
  have l14_1 := HX2.bx.lt
  have l14_2 := HW1.bx.lt
  have l14_3 := HX3.bx.lt
  have l14_4 := HW2.bx.lt
  have l14_5 := HW4.bx.lt
  go_wp2
  clear l14_0 l14_1 l14_2 l14_3 l14_4 l14_5
  go_ret
  exact ⟨rfl, HB.out⟩

end Go.Proofs.Ytakplomopbnekaa

namespace Go.Proofs.Ytakplomopbnekaa.fnExactLookupLsa
open Go.ChangeShapes Go.WideShapes Go.ChangeAt Go.RowKit
open Go.ChangeMaps (open_string shut_string)
set_option linter.unusedVariables false

theorem own : ownKnob Try.prog.godebug = none := by kernel_rfl
theorem laidOut : laidOutB Try.prog = true := by kernel_rfl

theorem walk (v0 : Int) (A0 : Option Addr) (n0 c0 : Nat) (ys0 : List Ent) (s1 t1 u1 : Int) (w : World) (hl0 : Rep.ent.Sl false 0 w.heap.size w A0 n0 ys0) (hn0 : n0 ≤ maxLen) (hm0 : ∀ y ∈ ys0, y.l.links.length ≤ maxLen ∧ y.l.routers.length ≤ maxLen)  :
    Calls Try.prog 10 #[.agg (#[.int .i64 v0, .slice A0 n0 c0]), .agg (#[.int .i64 s1, .int .i64 t1, .int .i64 u1])] w fun e w' => e = .returned (.bool true) ∧ Below w.heap.size w w' := by
  exact law_LookupLsa v0 ys0 false 0 w.heap.size A0 n0 c0 s1 t1 u1 w hl0 (Nat.le_refl _) hn0 hm0

set_option maxRecDepth 100000 in
theorem lifted (os : Os) (started : os.Started) (H : Type) (enc : TypeId × Value → H) :
    ReturnsInHanded {} Try.checked os 10 .any (Rows.fnExactLookupLsaSpec.pre6 enc Try.prog Try.f10 Rows.fnExactLookupLsaRow.domain false) (Rows.fnExactLookupLsaSpec.post enc Try.prog Try.f10 false true false false) := by
  refine returnsInHanded_of_change (C := Try.checked) own started (by kernel_rfl) Try.func10
    (ChangeSpec.witness6 (enc := enc) (C := Try.checked) false ⟨#[], #[.agg #[.int .i64 0, .slice none 0 0], .agg #[.int .i64 0, .int .i64 0, .int .i64 0]], []⟩ 8 (by kernel_rfl) (by kernel_rfl) (by kernel_rfl) (by kernel_rfl)) ?_
  intro W base args ds gs before hval0 hW hcnd _
  have hval : ∀ (j : Nat) t v, Try.f10.params[j]? = some t → args[j]? = some v → Value.okWide Try.prog W .any base t v := hval0
  have hW' := hW
  obtain ⟨p, q, hA0, hV, rfl, hfz, hnd⟩ := hW
  have hA : DataW.TrodAll enc Try.prog W 0 (fun _ => true) true Try.f10.params.toList args.toList ds p := hA0
  rw [Try.params10] at hA hval
  obtain ⟨v0, vs0, d0, ds0, p0, q0, hargs, rfl, rfl, h0, r0⟩ := trodAll_cons hA
  obtain ⟨v1, vs1, d1, ds1, p1, q1, rfl, rfl, rfl, h1, r1⟩ := trodAll_cons r0
  obtain ⟨rfl, rfl, rfl⟩ := trodAll_nil r1
  obtain rfl : args = #[v0, v1] := by cases args; simp_all
  obtain ⟨rfl, rfl⟩ := trodVars_none hV
  obtain ⟨cs0, rfl, hsz0⟩ := okWide_struct Try.underlying74 (hval 0 74 v0 rfl rfl)
  have k0 := h0
  have lt0 : ∀ x ∈ p0, x.block < W.heap.size := by obtain ⟨m, hm⟩ := k0; exact DataW.trod_lt m _ _ _ hm
  obtain ⟨fuel0, hf0⟩ := h0
  obtain ⟨v0, A0, n0, c0, ys0, he0, hl0, hn0, hm0⟩ := open_base hf0
  obtain rfl : cs0 = #[.int .i64 v0, .slice A0 n0 c0] := by cases cs0; simp [Value.cells] at he0; simp [he0]
  obtain ⟨cs1, rfl, hsz1⟩ := okWide_struct Try.underlying60 (hval 1 60 v1 rfl rfl)
  have k1 := h1
  have lt1 : ∀ x ∈ p1, x.block < W.heap.size := by obtain ⟨m, hm⟩ := k1; exact DataW.trod_lt m _ _ _ hm
  obtain ⟨fuel1, hf1⟩ := h1
  obtain ⟨s1, t1, u1, he1⟩ := open_key hf1
  obtain rfl : cs1 = #[.int .i64 s1, .int .i64 t1, .int .i64 u1] := by cases cs1; simp [Value.cells] at he1; simp [he1]
  clear hA0 hval0
  refine (walk v0 A0 n0 c0 ys0 s1 t1 u1 W hl0 hn0 hm0 ).mono fun e W' ⟨he, bel⟩ => ?_
  subst he
  exact ⟨_, rfl, _, _, _, [], _, [], hW', trodAll_mk1 (shut_bool Try.underlying4 _), (trodAll_cons_mk (Below.trod laidOut (by kernel_rfl) (of_decide_eq_true (by kernel_rfl)) k0 bel lt0) (trodAll_cons_mk (Below.trod laidOut (by kernel_rfl) (of_decide_eq_true (by kernel_rfl)) k1 bel lt1) trodAll_mk0)), rfl, bel.frame _, fun h => by cases h⟩

theorem over : Rows.fnExactLookupLsaRow.holds Try.pinned (OpenSpec.ofChange Rows.fnExactLookupLsaSpec) :=
  OpenClaim.holds_of_wide 10 Try.f10 rfl rfl rfl rfl rfl rfl rfl ⟨rfl, rfl, rfl, rfl, rfl⟩ rfl rfl rfl rfl rfl (by kernel_rfl) Try.func10 (by kernel_rfl)
    (of_decide_eq_true (by kernel_rfl)) (by unfold Func.isWrapper; first | (rw [if_pos (by decide +kernel)]; kernel_rfl) | (rw [if_neg (by decide +kernel)]; exact ⟨rfl, rfl⟩))
    (fun os started H enc _ => lifted os started H enc)

theorem proved : Rows.FnExactLookupLsaSaid := over
#print axioms proved
end Go.Proofs.Ytakplomopbnekaa.fnExactLookupLsa
