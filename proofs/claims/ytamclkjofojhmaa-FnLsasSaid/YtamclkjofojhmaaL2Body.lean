/-
  The model's l2Body. No statement is proved here.
-/
import Derived.Test.YtamclkjofojhmaaEnc
import Derived.Test.YtamclkjofojhmaaStep
namespace Go.Proofs.Ytamclkjofojhmaa
open Go.RowKit
set_option linter.unusedVariables false

theorem l1Pack_2 (m : Int) (w : World) (h0 : 0 ≤ m) (hm : m < 281474976710656) :
    Calls Try.prog 112 #[.int .i64 m, .int .i64 2] w fun e w' => ∃ A c, e = .returned (.slice A 2 c) ∧ Own w' w.heap.size A 2 c (packN m 2) ∧ Below w.heap.size w w' := l1Pack_any m 2 w (by omega) h0 hm
theorem l1Pack_3 (m : Int) (w : World) (h0 : 0 ≤ m) (hm : m < 281474976710656) :
    Calls Try.prog 112 #[.int .i64 m, .int .i64 3] w fun e w' => ∃ A c, e = .returned (.slice A 3 c) ∧ Own w' w.heap.size A 3 c (packN m 3) ∧ Below w.heap.size w w' := l1Pack_any m 3 w (by omega) h0 hm
theorem l1Pack_4 (m : Int) (w : World) (h0 : 0 ≤ m) (hm : m < 281474976710656) :
    Calls Try.prog 112 #[.int .i64 m, .int .i64 4] w fun e w' => ∃ A c, e = .returned (.slice A 4 c) ∧ Own w' w.heap.size A 4 c (packN m 4) ∧ Below w.heap.size w w' := l1Pack_any m 4 w (by omega) h0 hm

set_option maxRecDepth 100000 in
set_option maxHeartbeats 6400000 in
theorem l2Body_3 (l : LsaM) (q : Bool) (lo hi : Nat) (A B : Option Addr) (n c m d g : Nat) (w : World) (hx : Box w g 29 (lsaCells l A B n c m d)) (hl : LsaAt q lo hi w A n B m l) (hs : Sound l) (ht : l.typ = 3) :
    Calls Try.prog 111 #[.pointer (some ⟨g, 0, none⟩)] w fun e w' => ∃ E k, e = .returned (.slice E (bodyN l).length k) ∧ Own w' w.heap.size E (bodyN l).length k (bodyN l) ∧ Below w.heap.size w w' := by
  have HX := Lib.hid hx
  have x2 := hx.look 2
  rw [show (lsaCells l A B n c m d)[2]? = some (.int .i64 l.typ) from rfl, ht] at x2
  have hlen := bodyN_len_3 ht
  rw [hlen]
  have HZ : Hid (bodyN l = packN l.mask 4 ++ [0] ++ packN l.cost 3) := Lib.hid (by rw [bodyN, bodyW, if_neg (by omega), if_neg (by omega)]; simp [packAll, sWords]; rfl)
  have hm0 := hs.mask
  have hc0 := hs.cost
  have lx := hx.lt
  clear hx hl hs ht hlen
  have SB : Hid (∀ W, Hid (Below w.heap.size w W) → (fun W => W.cell? ⟨g, 8, none⟩ = some (.int .i64 l.mask) ∧ W.cell? ⟨g, 9, none⟩ = some (.int .i64 l.cost)) W) := Lib.hid (fun W h => ⟨(HX.out.below h.out).look 8, (HX.out.below h.out).look 9⟩)
  go_enter Try.func111, Try.ntmps111
  go_wp2_with fail
  clear x2 lx
  obtain ⟨V, hV⟩ : ∃ V : World, V = w.alloc (.cells #[] 5) := ⟨_, rfl⟩
  have HB : Hid (Below w.heap.size w V.drew) := by rw [hV]; exact (up1 _ _).drew
  rw [← hV]
  clear hV
  go_region_held3 (fun W => W.cell? ⟨g, 8, none⟩ = some (.int .i64 l.mask) ∧ W.cell? ⟨g, 9, none⟩ = some (.int .i64 l.cost)) (first | exact SB.out _ HB | exact SB.out _ (Lib.hid (below_step HB.out (up1 _ _))))
    (first
      | (go_at_call 112; ((with_reducible refine (l1Pack_4 l.mask _ (by omega) (by omega)).mono ?_); rintro e u1 ⟨P1, c1, rfl, hp, hb⟩; (first | (have HD := Lib.hid (hp.apart HP2.out.lts)) | (have HD := Lib.hid (hp.apart (HP2.out.below (up1 _ _)).lts)) | skip); (first | (have HP1 := Lib.hid (hp.mono HB.out.size)) | (have HP1 := Lib.hid (hp.mono (below_step HB.out (up1 _ _)).size))); (first | (have HP2 := Lib.hid (HP2.out.below hb)) | (have HP2 := Lib.hid ((HP2.out.below (up1 _ _)).below hb)) | skip); (first | (have HLIT := Lib.hid (HLIT.out.below hb)) | (have HLIT := Lib.hid ((bin_lit1 _ _).below hb)) | (have HLIT := Lib.hid ((bin_lit1d _ _).below hb)) | skip); (first | (have HB := Lib.hid (below_step HB.out hb)) | (have HB := Lib.hid (below_step (below_step HB.out (up1 _ _)) hb)) | (have HB := Lib.hid (below_step (below_step HB.out (up1d _ _)) hb))); clear hp hb))
      | (go_at_call 112; ((with_reducible refine (l1Pack_3 l.cost _ (by omega) (by omega)).mono ?_); rintro e u2 ⟨P2, c2, rfl, hp, hb⟩; (first | (have HD := Lib.hid (hp.apart' HP1.out.lts)) | (have HD := Lib.hid (hp.apart' (HP1.out.below (up1 _ _)).lts)) | skip); (first | (have HP2 := Lib.hid (hp.mono HB.out.size)) | (have HP2 := Lib.hid (hp.mono (below_step HB.out (up1 _ _)).size))); (first | (have HP1 := Lib.hid (HP1.out.below hb)) | (have HP1 := Lib.hid ((HP1.out.below (up1 _ _)).below hb)) | skip); (first | (have HO := Lib.hid (HO.out.below hb)) | (have HO := Lib.hid ((HO.out.below (up1 _ _)).below hb)) | skip); (first | (have HLIT := Lib.hid (HLIT.out.below hb)) | (have HLIT := Lib.hid ((bin_lit1 _ _).below hb)) | (have HLIT := Lib.hid ((bin_lit1d _ _).below hb)) | skip); (first | (have HB := Lib.hid (below_step HB.out hb)) | (have HB := Lib.hid (below_step (below_step HB.out (up1 _ _)) hb)) | (have HB := Lib.hid (below_step (below_step HB.out (up1d _ _)) hb))); clear hp hb))
      | ((refine step_app (by rfl) (.tmp 17) (.tmp 18) (by rfl) (by rfl) (B := w.heap.size) (by first | exact HP1.out | exact HP1.out.below (up1 _ _) | exact HP1.out.below (up1d _ _)) (by rfl) (by first | omega | (simp; done)) (by first | exact HLIT.out | exact bin_lit1 _ _ | exact bin_lit1d _ _) (by first | omega | (simp; omega)) (by first | exact HB.out.size | exact (below_step HB.out (up1 _ _)).size) ?_); intro Aa ka ua ho hg; (first | (have HP2 := Lib.hid (HP2.out.grown hg HD.out)) | (have HP2 := Lib.hid ((HP2.out.below (up1 _ _)).grown hg HD.out)) | skip); (first | (have HB := Lib.hid (HB.out.grown hg HB.out.size (fun r hr => (HP1.out.block r hr).1))) | (have HB := Lib.hid ((below_step HB.out (up1 _ _)).grown hg (below_step HB.out (up1 _ _)).size (fun r hr => (HP1.out.block r hr).1)))); have HO := Lib.hid ho; clear ho hg)
      | ((refine step_app (by rfl) (.tmp 19) (.tmp 24) (by rfl) (by rfl) (B := w.heap.size) (by first | exact HO.out | exact HO.out.below (up1 _ _) | exact HO.out.below (up1d _ _)) (by rfl) (by first | omega | (simp; done)) (by first | exact HP2.out.bin) (by first | omega | (simp; omega)) (by first | exact HB.out.size | exact (below_step HB.out (up1 _ _)).size) ?_); intro Ab kb ub ho hg; (first | (have HB := Lib.hid (HB.out.grown hg HB.out.size (fun r hr => (HO.out.block r hr).1))) | (have HB := Lib.hid ((below_step HB.out (up1 _ _)).grown hg (below_step HB.out (up1 _ _)).size (fun r hr => (HO.out.block r hr).1)))); have HR := Lib.hid ho; clear ho hg))
  all_goals
    go_wp2
    go_ret
    refine ⟨_, _, rfl, ?_, HB.out⟩
    rw [HZ.out]
    exact HR.out

theorem packN02 : packN 0 2 = [0, 0] := by decide +kernel
theorem idIn_bd {y : Int} (h : idIn y = true) : 0 ≤ y ∧ y < 281474976710656 := by have := allIn_one h; omega

set_option maxRecDepth 100000 in
set_option maxHeartbeats 6400000 in
theorem l2Body_2 (l : LsaM) (q : Bool) (lo hi : Nat) (A B : Option Addr) (n c m d g : Nat) (w : World) (hx : Box w g 29 (lsaCells l A B n c m d)) (hl : LsaAt q lo hi w A n B m l) (hs : Sound l) (ht : l.typ = 2) :
    Calls Try.prog 111 #[.pointer (some ⟨g, 0, none⟩)] w fun e w' => ∃ E k, e = .returned (.slice E (bodyN l).length k) ∧ Own w' w.heap.size E (bodyN l).length k (bodyN l) ∧ Below w.heap.size w w' := by
  have HX := Lib.hid hx
  have x2 := hx.look 2
  have x8 := hx.look 8
  rw [show (lsaCells l A B n c m d)[2]? = some (.int .i64 l.typ) from rfl, ht] at x2
  have hlen := bodyN_len_2 ht
  rw [hlen]
  have hq := hl.in_.routers.1
  rw [hq]
  have HZ : Hid (bodyN l = packN l.mask 4 ++ l.routers.flatMap fun r => packN r 4) := Lib.hid (by
    have e : ∀ ys : List Int, packAll (ys.map fun r => (r, 4)) = ys.flatMap fun r => packN r 4 := by
      intro ys
      induction ys with
      | nil => rfl
      | cons y t ih => rw [List.map_cons, List.flatMap_cons, ← ih]; rfl
    rw [bodyN, bodyW, if_neg (by omega), if_pos ht, nWords, packAll_app, e]
    simp [packAll])
  have HM : Hid (m ≤ 8) := Lib.hid (by rw [← hq]; exact hs.routers)
  have HQ := Lib.hid hq
  have HR : Hid (∀ r ∈ l.routers, idIn r = true) := Lib.hid hs.router
  have HL := Lib.hid hl
  have hm0 := hs.mask
  have lx := hx.lt
  clear hx hl hs ht hlen hq
  go_enter Try.func111, Try.ntmps111
  go_wp2_with fail
  clear x2 x8 lx
  obtain ⟨V, hV⟩ : ∃ V : World, V = w.alloc (.cells #[] 5) := ⟨_, rfl⟩
  have HB : Hid (Below w.heap.size w V) := by rw [hV]; exact up1 _ _
  rw [← hV]
  clear hV
  refine (l1Pack_4 l.mask _ (by omega) (by omega)).mono ?_
  rintro e w1 ⟨P, pc, rfl, hp, hb⟩
  have HO : Hid (Own w1 w.heap.size P (4 + 4 * 0) pc (packN l.mask 4 ++ (l.routers.take 0).flatMap fun r => packN r 4)) := Lib.hid (by simpa using hp.mono HB.out.size)
  have HB1 := Lib.hid (below_step HB.out hb)
  clear hp hb HB
  go_wp2
  go_loopw [3, 6] (fun v i wr => ∃ k : Nat, k ≤ m ∧ i = .int .i64 k ∧ ∃ E d, v = .slice E (4 + 4 * k) d ∧ Hid (Own wr w.heap.size E (4 + 4 * k) d (packN l.mask 4 ++ (l.routers.take k).flatMap fun r => packN r 4)) ∧ Hid (Below w.heap.size w wr)) (fun _ i _ => m - (intOf i).toNat)
  case atStart => exact ⟨0, Nat.zero_le _, rfl, P, pc, rfl, HO, HB1⟩
  case round =>
    obtain ⟨k, hk, rfl, E, d, rfl, HO, HB⟩ := hrel
    have x7 := (HX.out.below HB.out).look 7
    by_cases hlt : k < m
    · obtain ⟨b, o, rfl, a0⟩ := Rep.int_at ((HL.out.in_.routers).below HB.out HL.out.le) hlt
      have hlt' : (k : Int) < m := by omega
      have hkl : k < l.routers.length := by rw [HQ.out]; exact hlt
      obtain ⟨y, hy⟩ : ∃ y, l.routers.getD k 0 = y := ⟨_, rfl⟩
      rw [hy] at a0
      have hyk : l.routers[k] = y := by simpa [List.getD, hkl] using hy
      have hyb := idIn_bd (HR.out y (by rw [← hyk]; exact List.getElem_mem hkl))
      have HT : Hid ((l.routers.take (k + 1)).flatMap (fun r => packN r 4) = (l.routers.take k).flatMap (fun r => packN r 4) ++ packN y 4) := Lib.hid (by
        rw [List.take_succ_eq_append_getElem hkl, hyk, List.flatMap_append]; simp)
      have HM' := HM.out
      clear hy hyk hkl
      go_wp2_with fail
      refine (l1Pack_4 y _ hyb.1 hyb.2).mono ?_
      rintro e w2 ⟨P2, pc2, rfl, hp, hb⟩
      have HO2 := Lib.hid (HO.out.below hb)
      have HP2 := Lib.hid hp.bin
      have HB2 := Lib.hid (below_step HB.out hb)
      clear hp hb x7 a0
      go_wp2_with (at_builtin; refine wpList_app rfl (.tmp 94) (.tmp 102) rfl rfl HO2.out rfl (by omega) HP2.out (by omega) HB2.out.size ?_; intro A' c' w3 ho hg)
      go_roundw
      case rel =>
        refine ⟨k + 1, by omega, by go_num, A', c', rfl, Lib.hid ?_, Lib.hid (HB2.out.grown hg HB2.out.size (fun r hr => (HO2.out.block r hr).1))⟩
        rw [HT.out, ← List.append_assoc]; exact ho
      case measure => simp [intOf]; omega
    · go_wp2
      go_ret
      obtain rfl : k = m := by omega
      have e : l.routers.take k = l.routers := List.take_of_length_le (by rw [HQ.out]; omega)
      have ho := HO.out
      rw [e, ← HZ.out] at ho
      exact ⟨E, d, rfl, ho, HB.out⟩

set_option maxRecDepth 100000 in
set_option maxHeartbeats 6400000 in
theorem l2Body_1 (l : LsaM) (q : Bool) (lo hi : Nat) (A B : Option Addr) (n c m d g : Nat) (w : World) (hx : Box w g 29 (lsaCells l A B n c m d)) (hl : LsaAt q lo hi w A n B m l) (hs : Sound l) (ht : l.typ = 1) :
    Calls Try.prog 111 #[.pointer (some ⟨g, 0, none⟩)] w fun e w' => ∃ E k, e = .returned (.slice E (bodyN l).length k) ∧ Own w' w.heap.size E (bodyN l).length k (bodyN l) ∧ Below w.heap.size w w' := by
  have HX := Lib.hid hx
  have x2 := hx.look 2
  have x6 := hx.look 6
  rw [show (lsaCells l A B n c m d)[2]? = some (.int .i64 l.typ) from rfl, ht] at x2
  have hlen := bodyN_len_1 ht
  rw [hlen]
  have hq := hl.in_.links.1
  rw [hq]
  have HZ : Hid (bodyN l = packAll [(0, 2), ((n : Int), 2)] ++ l.links.flatMap fun a => packAll (linkWords a)) := Lib.hid (by
    have e : ∀ ys : List Lnk, packAll (ys.flatMap linkWords) = ys.flatMap fun a => packAll (linkWords a) := by
      intro ys
      induction ys with
      | nil => rfl
      | cons y t ih => rw [List.flatMap_cons, List.flatMap_cons, ← ih, packAll_app]
    rw [bodyN, bodyW, if_pos ht, rWords, packAll_app, e, hq])
  have HM : Hid (n ≤ 8) := Lib.hid (by rw [← hq]; exact hs.links)
  have HQ := Lib.hid hq
  have HR : Hid (∀ r ∈ l.links, linkOk r = true) := Lib.hid hs.link
  have HL := Lib.hid hl
  have lx := hx.lt
  have hn8 := HM.out
  clear hx hl hs ht hlen hq
  go_enter Try.func111, Try.ntmps111
  go_wp2_with fail
  clear x2 x6 lx
  obtain ⟨V, hV⟩ : ∃ V : World, V = w.alloc (.cells #[] 5) := ⟨_, rfl⟩
  obtain ⟨V1, hV1⟩ : ∃ V1 : World, V1 = V.alloc (.cells #[.int .u8 0, .int .u8 0] 5) := ⟨_, rfl⟩
  have hsz : V.heap.size = w.heap.size + 1 := by rw [hV]; simp
  have HB : Hid (Below w.heap.size w V1) := by rw [hV1]; exact below_step (by rw [hV]; exact up1 _ _) (up1 _ _)
  have HO0 : Hid (Own V1 w.heap.size (some ⟨w.heap.size + 1, 0, none⟩) 2 2 [0, 0]) := by rw [hV1, ← hsz]; exact own_lit2 V 0 0 (by omega)
  rw [← hV, ← hV1]
  clear hV hV1 hsz
  refine (l1Pack_2 (n : Int) _ (by omega) (by omega)).mono ?_
  rintro e w1 ⟨P, pc, rfl, hp, hb⟩
  have HO := Lib.hid (HO0.out.below hb)
  have HP := Lib.hid hp.bin
  have HB1 := Lib.hid (below_step HB.out hb)
  clear hp hb HB HO0
  go_wp2_with (at_builtin; refine wpList_app rfl (.tmp 28) (.tmp 34) rfl rfl HO.out rfl (by omega) HP.out (by omega) HB1.out.size ?_; intro A' c' w2 ho hg)
  have HO2 : Hid (Own w2 w.heap.size A' (4 + 12 * 0) c' (packAll [(0, 2), ((n : Int), 2)] ++ (l.links.take 0).flatMap fun a => packAll (linkWords a))) := Lib.hid (by simpa [packAll, packN02] using ho)
  have HB2 := Lib.hid (HB1.out.grown hg HB1.out.size (fun r hr => (HO.out.block r hr).1))
  clear ho hg HO HP HB1
  go_loopw [3, 4] (fun v i wr => ∃ k : Nat, k ≤ n ∧ i = .int .i64 k ∧ ∃ E d, v = .slice E (4 + 12 * k) d ∧ Hid (Own wr w.heap.size E (4 + 12 * k) d (packAll [(0, 2), ((n : Int), 2)] ++ (l.links.take k).flatMap fun a => packAll (linkWords a))) ∧ Hid (Below w.heap.size w wr)) (fun _ i _ => n - (intOf i).toNat)
  case atStart => exact ⟨0, Nat.zero_le _, rfl, A', c', rfl, HO2, HB2⟩
  case round =>
    obtain ⟨k, hk, rfl, E, d, rfl, HO, HB⟩ := hrel
    have x6 := (HX.out.below HB.out).look 6
    by_cases hlt : k < n
    · obtain ⟨b, o, a, rfl, hya, a0, a1, a2, a3⟩ := Rep.link_at HL.out.in_.links hlt
      have hlt' : (k : Int) < n := by omega
      have hkl : k < l.links.length := by rw [HQ.out]; exact hlt
      have hak : l.links[k] = a := by rw [List.getElem?_eq_getElem hkl] at hya; injection hya
      obtain ⟨b1, b2, b3, b4⟩ := linkOk_bounds (HR.out a (by rw [← hak]; exact List.getElem_mem hkl))
      have HT : Hid ((l.links.take (k + 1)).flatMap (fun a => packAll (linkWords a)) = (l.links.take k).flatMap (fun a => packAll (linkWords a)) ++ (((packN a.to_ 4 ++ packN a.own 4) ++ [a.kind, 0]) ++ packN a.cost 2)) := Lib.hid (by
        rw [List.take_succ_eq_append_getElem hkl, hak, List.flatMap_append]
        have hk1 : packN a.kind 1 = [a.kind] := by simp [packN]; omega
        have h01 : packN 0 1 = [0] := by simp [packN]
        simp [packAll, linkWords, hk1, h01])
      clear hya hak hkl
      obtain ⟨z0, z1, z2, z3⟩ := a
      simp only [] at a0 a1 a2 a3 b1 b2 b3 b4 HT
      have hkw : IntKind.u8.wrap z0 = z0 := by simp [IntKind.wrap, IntKind.bits]; omega
      have HKW := Lib.hid hkw
      clear hkw
      have hblt : b < w.heap.size := World.block_lt_of_cell? w _ a0
      have SB10 : Hid (∀ W, Hid (Below w.heap.size w W) → (fun W => W.cell? ⟨b, o + k * 4 + 1, none⟩ = some (.int .i64 z1) ∧ W.cell? ⟨b, o + k * 4 + 2, none⟩ = some (.int .i64 z2)) W) := Lib.hid (fun W h => ⟨(h.out.cell (p := ⟨b, _, none⟩) hblt).trans a1, (h.out.cell (p := ⟨b, _, none⟩) hblt).trans a2⟩)
      have SB11 : Hid (∀ W, Hid (Below w.heap.size w W) → (fun W => W.cell? ⟨b, o + k * 4, none⟩ = some (.int .i64 z0) ∧ W.cell? ⟨b, o + k * 4 + 3, none⟩ = some (.int .i64 z3)) W) := Lib.hid (fun W h => ⟨(h.out.cell (p := ⟨b, _, none⟩) hblt).trans a0, (h.out.cell (p := ⟨b, _, none⟩) hblt).trans a3⟩)
      have HB := Lib.hid HB.out.drew
      have HO := Lib.hid HO.out.drew
      have hkn := HM.out
      clear a0 a1 a2 a3 hblt
      go_wp2_with fail
      go_region_held3 (fun W => W.cell? ⟨b, o + k * 4 + 1, none⟩ = some (.int .i64 z1) ∧ W.cell? ⟨b, o + k * 4 + 2, none⟩ = some (.int .i64 z2)) (first | exact SB10.out _ HB | exact SB10.out _ (Lib.hid (below_step HB.out (up1 _ _))))
        (first
          | (go_at_call 112; ((with_reducible refine (l1Pack_4 z1 _ (by omega) (by omega)).mono ?_); rintro e u1 ⟨P1, c1, rfl, hp, hb⟩; (first | (have HP1 := Lib.hid (hp.mono HB.out.size)) | (have HP1 := Lib.hid (hp.mono (below_step HB.out (up1 _ _)).size))); (first | (have HO := Lib.hid (HO.out.below hb)) | (have HO := Lib.hid ((HO.out.below (up1 _ _)).below hb)) | skip); (first | (have HB := Lib.hid (below_step HB.out hb)) | (have HB := Lib.hid (below_step (below_step HB.out (up1 _ _)) hb)) | (have HB := Lib.hid (below_step (below_step HB.out (up1d _ _)) hb))); clear hp hb))
          | (go_at_call 112; ((with_reducible refine (l1Pack_4 z2 _ (by omega) (by omega)).mono ?_); rintro e u2 ⟨P2, c2, rfl, hp, hb⟩; (first | (have HD := Lib.hid (hp.apart' HO.out.lts)) | (have HD := Lib.hid (hp.apart' (HO.out.below (up1 _ _)).lts)) | skip); (first | (have HP2 := Lib.hid (hp.mono HB.out.size)) | (have HP2 := Lib.hid (hp.mono (below_step HB.out (up1 _ _)).size))); (first | (have HO := Lib.hid (HO.out.below hb)) | (have HO := Lib.hid ((HO.out.below (up1 _ _)).below hb)) | skip); (first | (have HO1 := Lib.hid (HO1.out.below hb)) | (have HO1 := Lib.hid ((HO1.out.below (up1 _ _)).below hb)) | skip); (first | (have HP1 := Lib.hid (HP1.out.below hb)) | (have HP1 := Lib.hid ((HP1.out.below (up1 _ _)).below hb)) | skip); (first | (have HB := Lib.hid (below_step HB.out hb)) | (have HB := Lib.hid (below_step (below_step HB.out (up1 _ _)) hb)) | (have HB := Lib.hid (below_step (below_step HB.out (up1d _ _)) hb))); clear hp hb))
          | ((refine step_app (by rfl) (.tmp 51) (.tmp 56) (by rfl) (by rfl) (B := w.heap.size) (by first | exact HO.out | exact HO.out.below (up1 _ _) | exact HO.out.below (up1d _ _)) (by rfl) (by first | omega | (simp; done)) (by first | exact HP1.out.bin) (by first | omega | (simp; omega)) (by first | exact HB.out.size | exact (below_step HB.out (up1 _ _)).size) ?_); intro Aa ka ua ho hg; (first | (have HP2 := Lib.hid (HP2.out.grown hg HD.out)) | (have HP2 := Lib.hid ((HP2.out.below (up1 _ _)).grown hg HD.out)) | skip); (first | (have HB := Lib.hid (HB.out.grown hg HB.out.size (fun r hr => (HO.out.block r hr).1))) | (have HB := Lib.hid ((below_step HB.out (up1 _ _)).grown hg (below_step HB.out (up1 _ _)).size (fun r hr => (HO.out.block r hr).1)))); have HO1 := Lib.hid ho; clear ho hg)
          | ((refine step_app (by rfl) (.tmp 57) (.tmp 62) (by rfl) (by rfl) (B := w.heap.size) (by first | exact HO1.out | exact HO1.out.below (up1 _ _) | exact HO1.out.below (up1d _ _)) (by rfl) (by first | omega | (simp; done)) (by first | exact HP2.out.bin) (by first | omega | (simp; omega)) (by first | exact HB.out.size | exact (below_step HB.out (up1 _ _)).size) ?_); intro Ab kb ub ho hg; (first | (have HB := Lib.hid (HB.out.grown hg HB.out.size (fun r hr => (HO1.out.block r hr).1))) | (have HB := Lib.hid ((below_step HB.out (up1 _ _)).grown hg (below_step HB.out (up1 _ _)).size (fun r hr => (HO1.out.block r hr).1)))); have HO2 := Lib.hid ho; clear ho hg))
      have HB := Lib.hid HB.out.drew
      have HO2 := Lib.hid HO2.out.drew
      go_wp2_with fail
      go_region_held3 (fun W => W.cell? ⟨b, o + k * 4, none⟩ = some (.int .i64 z0) ∧ W.cell? ⟨b, o + k * 4 + 3, none⟩ = some (.int .i64 z3)) (first | exact SB11.out _ HB | exact SB11.out _ (Lib.hid (below_step HB.out (up1 _ _))))
        (first
          | ((refine step_app (by rfl) (.tmp 64) (.tmp 70) (by rfl) (by rfl) (B := w.heap.size) (by first | exact HO2.out | exact HO2.out.below (up1 _ _) | exact HO2.out.below (up1d _ _)) (by rfl) (by first | omega | (simp; done)) (by first | exact bin_lit2 _ _ _ | exact bin_lit2d _ _ _) (by first | omega | (simp; omega)) (by first | exact HB.out.size | exact (below_step HB.out (up1 _ _)).size) ?_); intro Ad kd ud ho hg; (first | (have HP3 := Lib.hid (HP3.out.grown hg HD.out)) | (have HP3 := Lib.hid ((HP3.out.below (up1 _ _)).grown hg HD.out)) | skip); (first | (have HB := Lib.hid (HB.out.grown hg HB.out.size (fun r hr => (HO2.out.block r hr).1))) | (have HB := Lib.hid ((below_step HB.out (up1 _ _)).grown hg (below_step HB.out (up1 _ _)).size (fun r hr => (HO2.out.block r hr).1)))); have HO3 := Lib.hid ho; clear ho hg)
          | (go_at_call 112; ((with_reducible refine (l1Pack_2 z3 _ (by omega) (by omega)).mono ?_); rintro e u3 ⟨P3, c3, rfl, hp, hb⟩; (first | (have HD := Lib.hid (hp.apart' HO2.out.lts)) | (have HD := Lib.hid (hp.apart' (HO2.out.below (up1 _ _)).lts)) | skip); (first | (have HP3 := Lib.hid (hp.mono HB.out.size)) | (have HP3 := Lib.hid (hp.mono (below_step HB.out (up1 _ _)).size))); (first | (have HO2 := Lib.hid (HO2.out.below hb)) | (have HO2 := Lib.hid ((HO2.out.below (up1 _ _)).below hb)) | skip); (first | (have HO3 := Lib.hid (HO3.out.below hb)) | (have HO3 := Lib.hid ((HO3.out.below (up1 _ _)).below hb)) | skip); (first | (have HLIT := Lib.hid (HLIT.out.below hb)) | (have HLIT := Lib.hid ((bin_lit2 _ _ _).below hb)) | (have HLIT := Lib.hid ((bin_lit2d _ _ _).below hb)) | skip); (first | (have HB := Lib.hid (below_step HB.out hb)) | (have HB := Lib.hid (below_step (below_step HB.out (up1 _ _)) hb)) | (have HB := Lib.hid (below_step (below_step HB.out (up1d _ _)) hb))); clear hp hb))
          | ((refine step_app (by rfl) (.tmp 71) (.tmp 76) (by rfl) (by rfl) (B := w.heap.size) (by first | exact HO3.out | exact HO3.out.below (up1 _ _) | exact HO3.out.below (up1d _ _)) (by rfl) (by first | omega | (simp; done)) (by first | exact HP3.out.bin) (by first | omega | (simp; omega)) (by first | exact HB.out.size | exact (below_step HB.out (up1 _ _)).size) ?_); intro Af kf uf ho hg; (first | (have HB := Lib.hid (HB.out.grown hg HB.out.size (fun r hr => (HO3.out.block r hr).1))) | (have HB := Lib.hid ((below_step HB.out (up1 _ _)).grown hg (below_step HB.out (up1 _ _)).size (fun r hr => (HO3.out.block r hr).1)))); have HO4 := Lib.hid ho; clear ho hg))
      have e : 4 + 12 * k + 4 + 4 + 2 + 2 = 4 + 12 * (k + 1) := by omega
      have ho := HO4.out
      rw [e] at ho ⊢
      have HO5 := Lib.hid ho
      clear ho e
      go_wp2
      go_roundw
      case rel =>
        refine ⟨k + 1, by omega, by go_num, Af, kf, rfl, Lib.hid ?_, HB⟩
        have ho := HO5.out
        rw [HT.out]
        simpa only [List.append_assoc, HKW.out] using ho
      case measure => simp [intOf]; omega
    · go_wp2
      go_ret
      obtain rfl : k = n := by omega
      have e : l.links.take k = l.links := List.take_of_length_le (by rw [HQ.out]; omega)
      have ho := HO.out
      rw [e, ← HZ.out] at ho
      exact ⟨E, d, rfl, ho, HB.out⟩

theorem l2Body_any (l : LsaM) (q : Bool) (lo hi : Nat) (A B : Option Addr) (n c m d g : Nat) (w : World) (hx : Box w g 29 (lsaCells l A B n c m d)) (hl : LsaAt q lo hi w A n B m l) (hs : Sound l) :
    Calls Try.prog 111 #[.pointer (some ⟨g, 0, none⟩)] w fun e w' => ∃ E k, e = .returned (.slice E (bodyN l).length k) ∧ Own w' w.heap.size E (bodyN l).length k (bodyN l) ∧ Below w.heap.size w w' := by
  rcases hs.typ with h | h | h
  · exact l2Body_1 l q lo hi A B n c m d g w hx hl hs h
  · exact l2Body_2 l q lo hi A B n c m d g w hx hl hs h
  · exact l2Body_3 l q lo hi A B n c m d g w hx hl hs h

end Go.Proofs.Ytamclkjofojhmaa
