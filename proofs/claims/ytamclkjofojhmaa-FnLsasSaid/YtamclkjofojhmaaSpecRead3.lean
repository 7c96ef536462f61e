/-
  What the model's l2Read reads: a router's links. No statement is proved here.
-/
import Derived.Test.YtamclkjofojhmaaSpecRead2
import Derived.Deep.RegionLaw
namespace Go.Proofs.Ytamclkjofojhmaa
open Go.RowKit
set_option linter.unusedVariables false



set_option maxRecDepth 100000 in
set_option maxHeartbeats 32000000 in
theorem l2Read_1 (l : LsaM) (g : Nat) (A : Option Addr) (n c K : Nat) (zs : List Int) (w : World) (hx : Box w g 29 (lsaCells l none none 0 0 0 0)) (ha : BIn w A n zs) (hb : Bytes zs) (hn : 4 ≤ n) (hn4 : n ≤ 400) (ht : l.typ = 1) (hK : n = 4 + 12 * K) (hcnt : rval n zs 2 2 = (K : Int)) (hne : ∀ r, A.map (·.block) = some r → r ≠ g) :
    Calls Try.prog 122 #[.pointer (some ⟨g, 0, none⟩), .slice A n c] w fun e w' => ∃ E d, e = .returned (.bool true) ∧ Box w' g 29 (lsaCells l E none K d 0 0) ∧ OwnF 101 4 lcell w' w.heap.size E K d (linksZ n zs K) ∧ w.grownBy w' (some g) := by
  have h0 : ¬ (n : Int) < 4 := by omega
  have HX := Lib.hid hx
  have HA := Lib.hid ha
  have HBY := Lib.hid hb
  have HNE := Lib.hid hne
  have lx := hx.lt
  have x2 := hx.look 2
  rw [show (lsaCells l none none 0 0 0 0)[2]? = some (.int .i64 l.typ) from rfl, ht] at x2
  have hk' : ((n : Int) != 4 + 12 * (K : Int)) = false := by rw [hK]; simp
  have hK3 : K ≤ 33 := by omega
  have hK1 : 4 + 12 * K ≤ n := by omega
  have hK2 : n ≤ 4 + 12 * K := by omega
  clear hK
  have HZ0 := Lib.hid hcnt
  have HG0 : Hid (w.grownBy w (some g)) := Lib.hid (grownBy_of_below (Below.refl _ _) _)
  have HO0 : Hid (OwnF 101 4 lcell w w.heap.size none 0 0 (linksZ n zs 0)) := Lib.hid (OwnF.nil_ _ _ _ _ _)
  clear hx ha hb ht hcnt hne
  go_enter Try.func122, Try.ntmps122
  go_wp2_with fail
  refine (l1ReadI A n c zs 2 2 _ HA.out HBY.out (by omega) (by omega) (by omega) (by omega)).mono ?_
  rw [HZ0.out]
  rintro e w1 ⟨rfl, rfl⟩
  go_wp2
  clear x2
  go_loopw [7] (fun i wr => ∃ k : Nat, k ≤ K ∧ i = .int .i64 k ∧ ∃ E d, Hid (Box wr g 29 (lsaCells l E none k d 0 0)) ∧ Hid (OwnF 101 4 lcell wr w1.heap.size E k d (linksZ n zs k)) ∧ Hid (w1.grownBy wr (some g))) (fun i _ => 1000 - (intOf i).toNat)
  case atStart => exact ⟨0, Nat.zero_le _, rfl, none, 0, HX, HO0, HG0⟩
  case round =>
    obtain ⟨k, hk, rfl, E, d, HX, HO, HG⟩ := hrel
    by_cases hlt : k < K
    · have hlt' : (k : Int) < K := by omega
      have HAr := Lib.hid (HA.out.grown HG.out (fun _ => by
        cases hA : A.map (·.block) with
        | none => exact .inl rfl
        | some r => exact .inr (fun e => HNE.out r hA (by injection e))))
      have hkn : 4 + 12 * k + 12 ≤ n := by omega
      obtain ⟨b, o, rfl, a8⟩ := HAr.out.at_ (k := 4 + 12 * k + 8) (by omega)
      have hz8 := HBY.out.at_ (4 + 12 * k + 8)
      have hr8 := rval_one (a := 4 + 12 * k + 8) HA.out.1 (by omega)
      rw [show ((4 + 12 * k + 8 : Nat) : Int) = 4 + 12 * (k : Int) + 8 by omega] at hr8
      obtain ⟨z0, hz0⟩ : ∃ z, zs.getD (4 + 12 * k + 8) 0 = z := ⟨_, rfl⟩
      rw [hz0] at a8 hz8 hr8
      have HZ0 := Lib.hid hr8
      obtain ⟨z1, hz1⟩ : ∃ z, rval n zs (4 + 12 * (k : Int)) 4 = z := ⟨_, rfl⟩
      have HZ1 := Lib.hid hz1
      obtain ⟨z2, hz2⟩ : ∃ z, rval n zs (4 + 12 * (k : Int) + 4) 4 = z := ⟨_, rfl⟩
      have HZ2 := Lib.hid hz2
      obtain ⟨z3, hz3⟩ : ∃ z, rval n zs (4 + 12 * (k : Int) + 10) 2 = z := ⟨_, rfl⟩
      have HZ3 := Lib.hid hz3
      have y6 : wr.cell? ⟨g, 6, none⟩ = some (.slice E k d) := HX.out.look 6
      have lr := HX.out.lt
      have lb : b < wr.heap.size := World.block_lt_of_cell? wr _ a8
      have h81 : (0 : Int) ≤ 4 + 12 * (k : Int) + 8 := by omega
      have h82 : 4 + 12 * (k : Int) + 8 < (n : Int) := by omega
      have h83 : (4 + 12 * (k : Int) + 8).toNat = 4 + 12 * k + 8 := by omega
      have hw4 : IntKind.i64.wrap (4 + 12 * (k : Int) + 4) = 4 + 12 * (k : Int) + 4 := by simp [IntKind.wrap, IntKind.bits]; omega
      have hw8 : IntKind.i64.wrap (4 + 12 * (k : Int) + 8) = 4 + 12 * (k : Int) + 8 := by simp [IntKind.wrap, IntKind.bits]; omega
      have hw10 : IntKind.i64.wrap (4 + 12 * (k : Int) + 10) = 4 + 12 * (k : Int) + 10 := by simp [IntKind.wrap, IntKind.bits]; omega
      have hw0 : IntKind.i64.wrap z0 = z0 := by simp [IntKind.wrap, IntKind.bits]; omega
      have hsz := HG.out.size
      have HNB : Hid (E.map (·.block) ≠ some g) := Lib.hid (fun e => by have := (HO.out.block g e).1; omega)
      clear hz0 hr8 hz1 hz2 hz3
      go_wp2_with fail
      have HU : Hid (Below wr.heap.size wr (wr.drew.alloc (.cells #[.int .i64 z0, .int .i64 z1, .int .i64 z2, .int .i64 z3] 101))) := Lib.hid (((Below.refl _ _).drew).alloc (by simp) _)
      have HE : Hid (InF 4 lcell (wr.drew.alloc (.cells #[.int .i64 z0, .int .i64 z1, .int .i64 z2, .int .i64 z3] 101)) (some ⟨wr.drew.heap.size, 0, none⟩) 1 [⟨z0, z1, z2, z3⟩]) := Lib.hid ((Box.made wr.drew 101 _).inF ([⟨z0, z1, z2, z3⟩] : List Lnk) rfl)
      go_region_law (first
          | ((show (if Region.wanted (Oper.mk (some 43) _ _ _ _ _) _ = true then _ else _)); go_simp; refine (l1ReadI (some ⟨b, o, none⟩) n c zs (4 + 12 * (k : Int)) 4 wr.drew HAr.out HBY.out (by omega) (by omega) (by omega) (by omega)).mono ?_; rw [HZ1.out]; rintro e u ⟨rfl, rfl⟩)
          | ((show (if Region.wanted (Oper.mk (some 47) _ _ _ _ _) _ = true then _ else _)); go_simp; refine (l1ReadI (some ⟨b, o, none⟩) n c zs (4 + 12 * (k : Int) + 4) 4 wr.drew HAr.out HBY.out (by omega) (by omega) (by omega) (by omega)).mono ?_; rw [HZ2.out]; rintro e u ⟨rfl, rfl⟩)
          | ((show (if Region.wanted (Oper.mk (some 57) _ _ _ _ _) _ = true then _ else _)); go_simp; refine (l1ReadI (some ⟨b, o, none⟩) n c zs (4 + 12 * (k : Int) + 10) 2 wr.drew HAr.out HBY.out (by omega) (by omega) (by omega) (by omega)).mono ?_; rw [HZ3.out]; rintro e u ⟨rfl, rfl⟩)
          | ((show (if Region.wanted (Oper.mk (some 60) _ _ _ _ _) _ = true then _ else _)); (refine step_appF lcell_len lcell_one Try.underlying26 linkInfo rfl (by decide) (by decide) (by rfl) (.tmp 40) (.tmp 59) (by rfl) (B := w1.heap.size) (by rfl) (HO.out.below HU.out) (by rfl) (by omega) HE.out (by omega) (by simp; omega) ?_); intro A' c' u ho hg; have HO' := Lib.hid ho; have HG' := Lib.hid hg; have HX' := Lib.hid ((HX.out.below HU.out).grown hg HNB.out); have y6 := HX'.out.look 6; have f6 := HX'.out.free 6; clear ho hg))
      all_goals
        clear y6 f6
        have hxo := HX'.out.put 6 (.slice A' (k + 1) c')
        have hgo := setCell_grown u ⟨g, 6, none⟩ (.slice A' (k + 1) c')
        have hnb : A'.map (·.block) = none ∨ A'.map (·.block) ≠ some g := by
          cases hA : A'.map (·.block) with
          | none => exact .inl rfl
          | some r => exact .inr (fun e => by injection e with e; have := (HO'.out.block r hA).1; omega)
        have hoo := HO'.out.grown hgo hnb
        obtain ⟨U, hU⟩ : ∃ U : World, U = u.setCell ⟨g, 6, none⟩ (.slice A' (k + 1) c') := ⟨_, rfl⟩
        rw [← hU] at hxo hgo hoo ⊢
        clear hU
        have HX2 : Hid (Box U g 29 (lsaCells l A' none (k + 1) c' 0 0)) := Lib.hid (by simpa using hxo)
        have HG2 : Hid (w1.grownBy U (some g)) := Lib.hid (grown_trans (grown_then (grown_then HG.out (grownBy_of_below HU.out none) (fun _ e => by cases e)) HG'.out (fun r hr => (HO.out.block r hr).1)) hgo)
        have HO2 := Lib.hid hoo
        clear hxo hgo hoo hnb HX' HG' HO'
        go_wp2
        go_roundw
        case rel =>
          refine ⟨k + 1, by omega, by go_num, A', c', HX2, Lib.hid ?_, HG2⟩
          rw [linksZ_snoc]
          unfold linkZ
          rw [HZ0.out, HZ1.out, HZ2.out, HZ3.out]
          exact HO2.out
        case measure => simp [intOf]; omega
    · obtain rfl : k = K := by omega
      have hlt' : ¬ ((k : Int) < k) := by omega
      go_wp2
      go_ret
      exact ⟨rfl, E, d, HX.out, HO.out, HG.out⟩

end Go.Proofs.Ytamclkjofojhmaa
