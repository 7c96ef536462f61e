/-
  What the program reads out of bytes: wordAt, readLinks, readRouters. No statement is proved here.
-/
import Derived.Test.YtamclkjofojhmaaRead
import Derived.Test.YtamclkjofojhmaaFlat
import Derived.Test.YtamclkjofojhmaaLinks
namespace Go.Proofs.Ytamclkjofojhmaa
open Go.RowKit
set_option linter.unusedVariables false

theorem fieldI1 (w : World) (x y : Int) : (Instr.field 42 (.agg #[.int .i64 x, .int .i64 y]) 1).run Try.prog w = .ok (.int .i64 y) w := by kernel_rfl
attribute [local go_sem] fieldI1

theorem wordAt_any (A : Option Addr) (n c : Nat) (xs : List Int) (a s : Int) (w : World) (ha : BIn w A n xs) (hb : Bytes xs) (hn : n ≤ 1048576) (hnc : n ≤ c) :
    Calls Try.prog 66 #[.slice A n c, .int .i64 a, .int .i64 s] w fun e w' => e = .returned (.int .i64 (rval n xs a s)) ∧ Below w.heap.size w w' := by
  go_enter Try.func66, Try.ntmps66
  go_wp2_with fail
  refine (read_any A n c xs a s _ ha hb hn hnc).mono ?_
  rintro e w1 ⟨rfl, hb⟩
  have HB := Lib.hid hb
  clear hb
  go_wp2
  go_ret
  exact ⟨rfl, HB.out⟩

theorem rval_bd (n : Nat) (xs : List Int) (a s : Int) (hb : Bytes xs) (hl : xs.length = n) : 0 ≤ rval n xs a s ∧ rval n xs a s < 281474976710656 := by
  unfold rval
  split
  · rename_i h
    unfold rOK at h
    have hx := sub_len (zs := xs) (a := a.toNat) (s := s.toNat) (by omega)
    have := readN_bd ((xs.drop a.toNat).take s.toNat) (hb.sub _ _) s.toNat (by omega) (by omega)
    rw [List.take_of_length_le (by omega)] at this
    refine ⟨this.1, Int.lt_of_lt_of_le this.2 ?_⟩
    rcases (show s.toNat = 1 ∨ s.toNat = 2 ∨ s.toNat = 3 ∨ s.toNat = 4 ∨ s.toNat = 5 ∨ s.toNat = 6 by omega) with e | e | e | e | e | e <;> rw [e] <;> decide
  · omega

abbrev lcell (a : Lnk) : List Value := [.int .i64 a.kind, .int .i64 a.to_, .int .i64 a.own, .int .i64 a.cost]
theorem lcell_len (a : Lnk) : (lcell a).length = 4 := rfl
theorem lcell_one (a : Lnk) : ∀ u ∈ lcell a, u.oneCell' = true := by
  intro u hu
  simp only [lcell, List.mem_cons, List.not_mem_nil, or_false] at hu
  rcases hu with rfl | rfl | rfl | rfl <;> rfl
abbrev icell (a : Int) : List Value := [.int .i64 a]
theorem icell_len (a : Int) : (icell a).length = 1 := rfl
theorem icell_one (a : Int) : ∀ u ∈ icell a, u.oneCell' = true := by
  intro u hu
  simp only [icell, List.mem_cons, List.not_mem_nil, or_false] at hu
  subst hu; rfl

theorem links_of_own {w : World} {B : Nat} {A : Option Addr} {n c : Nat} {ys : List Lnk} (h : OwnF 101 4 lcell w B A n c ys) : Rep.link.Sl true B w.heap.size w A n ys :=
  ⟨h.1, fun hn => by
    obtain ⟨g, rfl, h1, h2⟩ := h.form hn
    refine ⟨g, 0, rfl, h1, h2, fun _ i => World.ownsRow.frozenAt h.2 i, fun i a ha => ⟨lcell a, rfl, fun j u hj => ?_⟩⟩
    have hi : i < n := by
      have := (List.getElem?_eq_some_iff.1 ha).1; have := h.1; omega
    have hj4 : j < 4 := (List.getElem?_eq_some_iff.1 hj).1
    obtain ⟨b, o, a', e, ha', hc⟩ := (h.inF lcell_len).at_ lcell_len hi
    injection e with e
    injection e with e1 e2 _
    rw [ha] at ha'; injection ha' with ha'
    subst e1 e2 ha'
    exact hc j u hj4 hj⟩
theorem ints_of_own {w : World} {B : Nat} {A : Option Addr} {n c : Nat} {ys : List Int} (h : OwnF 2 1 icell w B A n c ys) : Rep.int.Sl true B w.heap.size w A n ys :=
  ⟨h.1, fun hn => by
    obtain ⟨g, rfl, h1, h2⟩ := h.form hn
    refine ⟨g, 0, rfl, h1, h2, fun _ i => World.ownsRow.frozenAt h.2 i, fun i a ha => ⟨icell a, rfl, fun j u hj => ?_⟩⟩
    have hi : i < n := by
      have := (List.getElem?_eq_some_iff.1 ha).1; have := h.1; omega
    have hj4 : j < 1 := (List.getElem?_eq_some_iff.1 hj).1
    obtain ⟨b, o, a', e, ha', hc⟩ := (h.inF icell_len).at_ icell_len hi
    injection e with e
    injection e with e1 e2 _
    rw [ha] at ha'; injection ha' with ha'
    subst e1 e2 ha'
    exact hc j u hj4 hj⟩

def linkR (n : Nat) (xs : List Int) (k : Nat) : Lnk := ⟨rval n xs (24 + 12 * (k : Int) + 8) 1, rval n xs (24 + 12 * (k : Int)) 4, rval n xs (24 + 12 * (k : Int) + 4) 4, rval n xs (24 + 12 * (k : Int) + 10) 2⟩
def linksR (n : Nat) (xs : List Int) (k : Nat) : List Lnk := (List.range k).map (linkR n xs)
def routersR (n : Nat) (xs : List Int) (k : Nat) : List Int := (List.range k).map fun (i : Nat) => rval n xs (24 + 4 * (i : Int)) 4
theorem linksR_snoc (n : Nat) (xs : List Int) (k : Nat) : linksR n xs (k + 1) = linksR n xs k ++ [linkR n xs k] := by simp [linksR, List.range_succ]
theorem routersR_snoc (n : Nat) (xs : List Int) (k : Nat) : routersR n xs (k + 1) = routersR n xs k ++ [rval n xs (24 + 4 * (k : Int)) 4] := by simp [routersR, List.range_succ]

set_option maxRecDepth 100000 in
set_option maxHeartbeats 1600000 in
theorem readLinks_any (A : Option Addr) (n c : Nat) (xs : List Int) (w : World) (ha : BIn w A n xs) (hb : Bytes xs) (hn : n ≤ 400) (hnc : n ≤ c) :
    Calls Try.prog 115 #[.slice A n c] w fun e w' => ∃ E d, e = .returned (.slice E ((n - 24) / 12) d) ∧ OwnF 101 4 lcell w' w.heap.size E ((n - 24) / 12) d (linksR n xs ((n - 24) / 12)) ∧ Below w.heap.size w w' := by
  have HA := Lib.hid ha
  have HBY := Lib.hid hb
  clear ha hb
  obtain ⟨K, hK⟩ : ∃ K, (n - 24) / 12 = K := ⟨_, rfl⟩
  rw [hK]
  have HK := Lib.hid hK
  have hK1 : 12 * K ≤ n - 24 := by omega
  have hK2 : n - 24 < 12 * K + 12 := by omega
  clear hK
  have HO0 : Hid (OwnF 101 4 lcell w w.heap.size none 0 0 (linksR n xs 0)) := Lib.hid (OwnF.nil_ _ _ _ _ _)
  have HB0 : Hid (Below w.heap.size w w) := Lib.hid (Below.refl _ _)
  go_enter Try.func115, Try.ntmps115
  go_wp2
  go_loopw [3, 4] (fun v i wr => ∃ k : Nat, k ≤ K ∧ i = .int .i64 (24 + 12 * (k : Int)) ∧ ∃ E d, v = .slice E k d ∧ Hid (OwnF 101 4 lcell wr w.heap.size E k d (linksR n xs k)) ∧ Hid (Below w.heap.size w wr)) (fun _ i _ => 1000 - (intOf i).toNat)
  case atStart => exact ⟨0, Nat.zero_le _, rfl, none, 0, rfl, HO0, HB0⟩
  case round =>
    obtain ⟨k, hk, rfl, E, d, rfl, HO, HB⟩ := hrel
    by_cases hlt : k < K
    · have hlt' : 24 + 12 * (k : Int) + 12 ≤ n := by omega
      go_wp2_with fail
      refine (wordAt_any A n c xs _ _ _ (HA.out.below HB.out) HBY.out (by omega) hnc).mono ?_
      obtain ⟨z0, hz0⟩ : ∃ z, rval n xs (24 + 12 * (k : Int) + 8) 1 = z := ⟨_, rfl⟩
      rw [hz0]
      rintro e w1 ⟨rfl, hb⟩
      have HB1 := Lib.hid (below_step HB.out hb)
      have HO1 := Lib.hid (HO.out.below hb)
      have HZ0 := Lib.hid hz0
      clear hb HB HO hz0
      go_wp2_with fail
      refine (wordAt_any A n c xs _ _ _ (HA.out.below HB1.out) HBY.out (by omega) hnc).mono ?_
      obtain ⟨z1, hz1⟩ : ∃ z, rval n xs (24 + 12 * (k : Int)) 4 = z := ⟨_, rfl⟩
      rw [hz1]
      rintro e w2 ⟨rfl, hb⟩
      have HB2 := Lib.hid (below_step HB1.out hb)
      have HO2 := Lib.hid (HO1.out.below hb)
      have HZ1 := Lib.hid hz1
      clear hb HB1 HO1 hz1
      go_wp2_with fail
      refine (wordAt_any A n c xs _ _ _ (HA.out.below HB2.out) HBY.out (by omega) hnc).mono ?_
      obtain ⟨z2, hz2⟩ : ∃ z, rval n xs (24 + 12 * (k : Int) + 4) 4 = z := ⟨_, rfl⟩
      rw [hz2]
      rintro e w3 ⟨rfl, hb⟩
      have HB3 := Lib.hid (below_step HB2.out hb)
      have HO3 := Lib.hid (HO2.out.below hb)
      have HZ2 := Lib.hid hz2
      clear hb HB2 HO2 hz2
      go_wp2_with fail
      refine (wordAt_any A n c xs _ _ _ (HA.out.below HB3.out) HBY.out (by omega) hnc).mono ?_
      obtain ⟨z3, hz3⟩ : ∃ z, rval n xs (24 + 12 * (k : Int) + 10) 2 = z := ⟨_, rfl⟩
      rw [hz3]
      rintro e w4 ⟨rfl, hb⟩
      have hup : Below w4.heap.size w4 (w4.alloc (.cells #[.int .i64 z0, .int .i64 z1, .int .i64 z2, .int .i64 z3] 101)) := (Below.refl _ _).alloc (Nat.le_refl _) _
      have HB4 := Lib.hid (below_step (below_step HB3.out hb) hup)
      have HO4 := Lib.hid ((HO3.out.below hb).below hup)
      have HE : Hid (InF 4 lcell (w4.alloc (.cells #[.int .i64 z0, .int .i64 z1, .int .i64 z2, .int .i64 z3] 101)) (some ⟨w4.heap.size, 0, none⟩) 1 [⟨z0, z1, z2, z3⟩]) := Lib.hid ((Box.made w4 101 _).inF ([⟨z0, z1, z2, z3⟩] : List Lnk) rfl)
      have HZ3 := Lib.hid hz3
      clear hb HB3 HO3 hz3 hup
      go_wp2_with (at_builtin; refine wpList_appF lcell_len lcell_one Try.underlying26 linkInfo rfl (by decide) (by decide) rfl (.tmp 12) (.tmp 29) rfl rfl HO4.out rfl (by omega) HE.out (by omega) HB4.out.size ?_; intro A' c' w5 ho hg)
      go_roundw
      case rel =>
        refine ⟨k + 1, by omega, by go_num, A', c', rfl, Lib.hid ?_, Lib.hid (HB4.out.grown hg HB4.out.size (fun r hr => (HO4.out.block r hr).1))⟩
        rw [linksR_snoc]
        unfold linkR
        rw [HZ0.out, HZ1.out, HZ2.out, HZ3.out]
        exact ho
      case measure => simp [intOf]; omega
    · obtain rfl : k = K := by omega
      have hlt' : ¬ (24 + 12 * (k : Int) + 12 ≤ n) := by omega
      go_wp2
      go_ret
      exact ⟨E, d, rfl, HO.out, HB.out⟩

theorem intInfo : (Try.prog.info? 2).map (fun i => (i.zero, i.size, i.bytes)) = some (some (.int .i64 0), 1, 8) := by kernel_rfl

set_option maxRecDepth 100000 in
set_option maxHeartbeats 1600000 in
theorem readRouters_any (A : Option Addr) (n c : Nat) (xs : List Int) (w : World) (ha : BIn w A n xs) (hb : Bytes xs) (hn : n ≤ 400) (hnc : n ≤ c) :
    Calls Try.prog 116 #[.slice A n c] w fun e w' => ∃ E d, e = .returned (.slice E ((n - 24) / 4) d) ∧ OwnF 2 1 icell w' w.heap.size E ((n - 24) / 4) d (routersR n xs ((n - 24) / 4)) ∧ Below w.heap.size w w' := by
  have HA := Lib.hid ha
  have HBY := Lib.hid hb
  clear ha hb
  obtain ⟨K, hK⟩ : ∃ K, (n - 24) / 4 = K := ⟨_, rfl⟩
  rw [hK]
  have hK1 : 4 * K ≤ n - 24 := by omega
  have hK2 : n - 24 < 4 * K + 4 := by omega
  clear hK
  have HO0 : Hid (OwnF 2 1 icell w w.heap.size none 0 0 (routersR n xs 0)) := Lib.hid (OwnF.nil_ _ _ _ _ _)
  have HB0 : Hid (Below w.heap.size w w) := Lib.hid (Below.refl _ _)
  go_enter Try.func116, Try.ntmps116
  go_wp2
  go_loopw [3, 4] (fun v i wr => ∃ k : Nat, k ≤ K ∧ i = .int .i64 (24 + 4 * (k : Int)) ∧ ∃ E d, v = .slice E k d ∧ Hid (OwnF 2 1 icell wr w.heap.size E k d (routersR n xs k)) ∧ Hid (Below w.heap.size w wr)) (fun _ i _ => 1000 - (intOf i).toNat)
  case atStart => exact ⟨0, Nat.zero_le _, rfl, none, 0, rfl, HO0, HB0⟩
  case round =>
    obtain ⟨k, hk, rfl, E, d, rfl, HO, HB⟩ := hrel
    by_cases hlt : k < K
    · have hlt' : 24 + 4 * (k : Int) + 4 ≤ n := by omega
      go_wp2_with fail
      refine (wordAt_any A n c xs _ _ _ (HA.out.below HB.out) HBY.out (by omega) hnc).mono ?_
      obtain ⟨z0, hz0⟩ : ∃ z, rval n xs (24 + 4 * (k : Int)) 4 = z := ⟨_, rfl⟩
      rw [hz0]
      rintro e w4 ⟨rfl, hb⟩
      have hup : Below w4.heap.size w4 (w4.alloc (.cells #[.int .i64 z0] 2)) := (Below.refl _ _).alloc (Nat.le_refl _) _
      have HB4 := Lib.hid (below_step (below_step HB.out hb) hup)
      have HO4 := Lib.hid ((HO.out.below hb).below hup)
      have HE : Hid (InF 1 icell (w4.alloc (.cells #[.int .i64 z0] 2)) (some ⟨w4.heap.size, 0, none⟩) 1 [z0]) := Lib.hid ((Box.made w4 2 _).inF ([z0] : List Int) rfl)
      have HZ0 := Lib.hid hz0
      clear hb HB HO hz0 hup
      go_wp2_with (at_builtin; refine wpList_appF icell_len icell_one Try.underlying27 intInfo rfl (by decide) (by decide) rfl (.tmp 12) (.tmp 16) rfl rfl HO4.out rfl (by omega) HE.out (by omega) HB4.out.size ?_; intro A' c' w5 ho hg)
      go_roundw
      case rel =>
        refine ⟨k + 1, by omega, by go_num, A', c', rfl, Lib.hid ?_, Lib.hid (HB4.out.grown hg HB4.out.size (fun r hr => (HO4.out.block r hr).1))⟩
        rw [routersR_snoc, HZ0.out]
        exact ho
      case measure => simp [intOf]; omega
    · obtain rfl : k = K := by omega
      have hlt' : ¬ (24 + 4 * (k : Int) + 4 ≤ n) := by omega
      go_wp2
      go_ret
      exact ⟨E, d, rfl, HO.out, HB.out⟩

end Go.Proofs.Ytamclkjofojhmaa
