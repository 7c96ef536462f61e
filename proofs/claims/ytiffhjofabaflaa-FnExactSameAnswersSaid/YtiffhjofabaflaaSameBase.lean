/-
  Both SameBases, and slices.EqualFunc at entries. No statement is proved here.
-/
import Derived.Test.YtiffhjofabaflaaEntSz
import Derived.Test.YtiffhjofabaflaaSameWheel
import Derived.Test.YtiffhjofabaflaaSameLsa
import Derived.Test.YtiffhjofabaflaaSameSpec
namespace Go.Proofs.Ytiffhjofabaflaa
open Go.RowKit
set_option linter.unusedVariables false

def entB (x y : Ent) : Bool := decide (x.at_ = y.at_) && decide (x.l = y.l)
theorem entB_iff (x y : Ent) : entB x y = true ↔ x = y := by
  cases x; cases y
  simp only [entB, Bool.and_eq_true, decide_eq_true_eq, Ent.mk.injEq]
  exact And.comm

set_option maxHeartbeats 1600000 in
theorem sameEntries_any (l k : LsaM) (t s : Int) (q1 q2 : Bool) (l1 h1 l2 h2 : Nat) (A B A2 B2 : Option Addr) (n c m d n2 c2 m2 d2 : Nat) (r : Bool) (w : World) (hl : LsaAt q1 l1 h1 w A n B m l) (hk : LsaAt q2 l2 h2 w A2 n2 B2 m2 k) (hn : n ≤ 1048576) (hm : m ≤ 1048576) (hn2 : n2 ≤ 1048576) (hm2 : m2 ≤ 1048576) (hr : entB ⟨l, t⟩ ⟨k, s⟩ = r) :
    Calls Try.prog 217 #[.agg (entCells l t A B n c m d), .agg (entCells k s A2 B2 n2 c2 m2 d2)] w fun e w' => e = .returned (.bool r) ∧ Below w.heap.size w w' := by
  have hV : Below w.heap.size w ((w.alloc (.cells (entCells l t A B n c m d) 280)).alloc (.cells (entCells k s A2 B2 n2 c2 m2 d2) 280)) := ((Below.refl _ _).alloc (Nat.le_refl _) _).alloc (by simp) _
  have HB := Lib.hid hV
  have HL := Lib.hid (hl.below hV)
  have HK := Lib.hid (hk.below hV)
  clear hV hl hk
  by_cases h : t = s
  · subst h
    have hd : decide (l = k) = r := by rw [← hr]; simp [entB]
    have HD := Lib.hid hd
    clear hr hd
    go_enter Try.func217, Try.ntmps217
    go_wp2_with fail
    refine (sameLsas_any l k q1 q2 l1 h1 l2 h2 A B A2 B2 n c m d n2 c2 m2 d2 _ HL.out.in_ HK.out.in_ HL.out.le HK.out.le hn hm hn2 hm2).mono ?_
    rw [HD.out]
    rintro e w2 ⟨rfl, hb⟩
    have HB2 := Lib.hid (below_step HB.out hb)
    clear hb
    go_wp2
    go_ret
    exact ⟨rfl, HB2.out⟩
  · have HR : Hid (r = false) := Lib.hid (by rw [← hr]; simp [entB, h])
    have h' : (t == s) = false := by simpa using h
    clear hr h
    go_enter Try.func217, Try.ntmps217
    go_wp2
    go_ret
    exact ⟨by rw [HR.out]; rfl, HB.out⟩

/-- A function value that is sameEntries. -/
abbrev sameEntV : Value := .func (.func 217) #[] #[]

set_option maxRecDepth 100000 in
set_option maxHeartbeats 3200000 in
theorem equalFuncE_any (q1 q2 : Bool) (l1 h1 l2x h2 : Nat) (A B : Option Addr) (n m c d : Nat) (ys zs : List Ent) (r : Bool) (w : World) (ha : Rep.ent.Sl q1 l1 h1 w A n ys) (hb : Rep.ent.Sl q2 l2x h2 w B m zs) (hh1 : h1 ≤ w.heap.size) (hh2 : h2 ≤ w.heap.size) (hn : n ≤ 1048576) (hm : m ≤ 1048576) (hy : ∀ y ∈ ys, y.l.links.length ≤ 1048576 ∧ y.l.routers.length ≤ 1048576) (hz : ∀ y ∈ zs, y.l.links.length ≤ 1048576 ∧ y.l.routers.length ≤ 1048576) (hr : r = true ↔ ys = zs) :
    Calls Try.prog 216 #[.slice A n c, .slice B m d, sameEntV] w fun e w' => e = .returned (.bool r) ∧ Below w.heap.size w w' := by
  have hl1 := ha.1
  have hl2 := hb.1
  have HY := Lib.hid hy
  have HZ := Lib.hid hz
  clear hy hz
  by_cases hnm : n = m
  · subst hnm
    go_enter Try.func216, Try.ntmps216
    go_wp2
    go_loopw [17] (fun i wr => ∃ k : Nat, k ≤ n ∧ i = .int .i64 k ∧ Hid (∀ j, j < k → ys[j]? = zs[j]?) ∧ Hid (Below w.heap.size w wr)) (fun i _ => n - (intOf i).toNat)
    case atStart => exact ⟨0, Nat.zero_le _, rfl, fun j hj => absurd hj (by omega), Below.refl _ _⟩
    case round =>
      obtain ⟨k, hk, rfl, HS, HB⟩ := hrel
      by_cases hlt : k < n
      · obtain ⟨b, o, ⟨l, t⟩, E, F, m1, c1, m1', d1, rfl, hya, hyl, a0, a1, a2, a3, a4, a5, a6, a7, a8, a9, a10⟩ := Rep.ent_at (ha.below HB.out hh1) hlt
        obtain ⟨b2, o2, ⟨l2, t2⟩, E2, F2, m2, c2, m2', d2, rfl, hza, hzl, e0, e1, e2, e3, e4, e5, e6, e7, e8, e9, e10⟩ := Rep.ent_at (hb.below HB.out hh2) hlt
        have hlt' : (k : Int) < n := by omega
        have hym := HY.out _ (List.mem_of_getElem? hya)
        have hzm := HZ.out _ (List.mem_of_getElem? hza)
        simp only [] at hym hzm hyl hzl a0 a1 a2 a3 a4 a5 a6 a7 a8 a9 a10 e0 e1 e2 e3 e4 e5 e6 e7 e8 e9 e10
        rw [show l.links.length = m1 from hyl.links.1, show l.routers.length = m1' from hyl.routers.1] at hym
        rw [show l2.links.length = m2 from hzl.links.1, show l2.routers.length = m2' from hzl.routers.1] at hzm
        have HL := Lib.hid (show LsaAt q1 l1 h1 wr E m1 F m1' l from ⟨hyl, Nat.le_trans hh1 HB.out.size⟩)
        have HK := Lib.hid (show LsaAt q2 l2x h2 wr E2 m2 F2 m2' l2 from ⟨hzl, Nat.le_trans hh2 HB.out.size⟩)
        have hbl := World.block_lt_of_cell? wr _ a0
        have hbl2 := World.block_lt_of_cell? wr _ e0
        simp only [] at hbl hbl2
        obtain ⟨r1, hr1⟩ : ∃ r1, entB ⟨l, t⟩ ⟨l2, t2⟩ = r1 := ⟨_, rfl⟩
        have HR1 := Lib.hid hr1
        have HYA := Lib.hid hya
        have HZA := Lib.hid hza
        clear hya hza hyl hzl hr1
        cases r1 with
        | true =>
          have HE : Hid (ys[k]? = zs[k]?) := Lib.hid (by rw [HYA.out, HZA.out, (entB_iff _ _).1 HR1.out])
          go_wp2_with fail
          clear a0 a1 a2 a3 a4 a5 a6 a7 a8 a9 a10 e0 e1 e2 e3 e4 e5 e6 e7 e8 e9 e10 hbl hbl2
          refine Calls.name ?_
          intro U hU
          have hbU : Below wr.heap.size wr U := by rw [hU]; exact ((Below.refl _ _).alloc (Nat.le_refl _) _).alloc (by simp) _
          have HBU := Lib.hid (below_step HB.out hbU)
          have HLU := Lib.hid (HL.out.below hbU)
          have HKU := Lib.hid (HK.out.below hbU)
          clear hU hbU
          refine (sameEntries_any l l2 t t2 q1 q2 l1 h1 l2x h2 E F E2 F2 m1 c1 m1' d1 m2 c2 m2' d2 true _ HLU.out HKU.out hym.1 hym.2 hzm.1 hzm.2 HR1.out).mono ?_
          rintro e w2 ⟨rfl, hb2⟩
          have HB2 := Lib.hid (below_step HBU.out hb2)
          clear hb2
          go_wp2
          go_roundw
          case rel => exact ⟨k + 1, by omega, by go_num, fun j hj => by
            rcases Nat.lt_succ_iff_lt_or_eq.1 hj with h | rfl
            · exact HS.out j h
            · exact HE.out, HB2.out⟩
          case measure => simp [intOf]; omega
        | false =>
          have HR := Lib.hid (bool_of hr (ne_at HYA.out HZA.out (fun e => by have := (entB_iff _ _).2 e; rw [HR1.out] at this; cases this)))
          clear hr
          go_wp2_with fail
          clear a0 a1 a2 a3 a4 a5 a6 a7 a8 a9 a10 e0 e1 e2 e3 e4 e5 e6 e7 e8 e9 e10 hbl hbl2
          refine Calls.name ?_
          intro U hU
          have hbU : Below wr.heap.size wr U := by rw [hU]; exact ((Below.refl _ _).alloc (Nat.le_refl _) _).alloc (by simp) _
          have HBU := Lib.hid (below_step HB.out hbU)
          have HLU := Lib.hid (HL.out.below hbU)
          have HKU := Lib.hid (HK.out.below hbU)
          clear hU hbU
          refine (sameEntries_any l l2 t t2 q1 q2 l1 h1 l2x h2 E F E2 F2 m1 c1 m1' d1 m2 c2 m2' d2 false _ HLU.out HKU.out hym.1 hym.2 hzm.1 hzm.2 HR1.out).mono ?_
          rintro e w2 ⟨rfl, hb2⟩
          have HB2 := Lib.hid (below_step HBU.out hb2)
          clear hb2
          go_wp2
          go_ret
          exact ⟨by rw [HR.out]; rfl, HB2.out⟩
      · have HR := Lib.hid (hr.2 (eq_upto (by omega) (fun j hj => HS.out j (by omega))))
        go_wp2
        go_ret
        exact ⟨by rw [HR.out]; rfl, HB.out⟩
  · have HR := Lib.hid (bool_of hr (fun e => hnm (by rw [← hl1, ← hl2, e])))
    have hne : ((n : Int) == m) = false := by simp; omega
    clear hr
    go_enter Try.func216, Try.ntmps216
    go_wp2
    go_ret
    exact ⟨by rw [HR.out]; rfl, Below.refl _ _⟩

set_option maxHeartbeats 1600000 in
theorem sameBases_any (a b : Int) (q1 q2 : Bool) (l1 h1 l2x h2 : Nat) (A B : Option Addr) (n m c d : Nat) (ys zs : List Ent) (r : Bool) (w : World) (ha : Rep.ent.Sl q1 l1 h1 w A n ys) (hb : Rep.ent.Sl q2 l2x h2 w B m zs) (hh1 : h1 ≤ w.heap.size) (hh2 : h2 ≤ w.heap.size) (hn : n ≤ 1048576) (hm : m ≤ 1048576) (hy : ∀ y ∈ ys, y.l.links.length ≤ 1048576 ∧ y.l.routers.length ≤ 1048576) (hz : ∀ y ∈ zs, y.l.links.length ≤ 1048576 ∧ y.l.routers.length ≤ 1048576) (hr : r = true ↔ a = b ∧ ys = zs) :
    Calls Try.prog 165 #[.agg #[.int .i64 a, .slice A n c], .agg #[.int .i64 b, .slice B m d]] w fun e w' => e = .returned (.bool r) ∧ Below w.heap.size w w' := by
  have hV : Below w.heap.size w ((w.alloc (.cells #[.int .i64 a, .slice A n c] 126)).alloc (.cells #[.int .i64 b, .slice B m d] 126)) := ((Below.refl _ _).alloc (Nat.le_refl _) _).alloc (by simp) _
  have HB := Lib.hid hV
  have HA1 := Rep.Sl.kept (ha.below hV hh1) (Nat.le_trans hh1 hV.size)
  have HA2 := Rep.Sl.kept (hb.below hV hh2) (Nat.le_trans hh2 hV.size)
  have HY := Lib.hid hy
  have HZ := Lib.hid hz
  clear hV ha hb hy hz
  by_cases h : a = b
  · subst h
    have HR := Lib.hid (show r = true ↔ ys = zs by simpa using hr)
    clear hr
    go_enter Try.func165, Try.ntmps165
    go_wp2_with fail
    refine (equalFuncE_any q1 q2 l1 h1 l2x h2 A B n m c d ys zs r _ HA1.sl HA2.sl HA1.le HA2.le hn hm HY.out HZ.out HR.out).mono ?_
    rintro e w2 ⟨rfl, hb⟩
    have HB2 := Lib.hid (below_step HB.out hb)
    clear hb
    go_wp2
    go_ret
    exact ⟨rfl, HB2.out⟩
  · have HR := Lib.hid (bool_of hr (fun e => h e.1))
    have h' : (a == b) = false := by simpa using h
    clear hr h
    go_enter Try.func165, Try.ntmps165
    go_wp2
    go_ret
    exact ⟨by rw [HR.out]; rfl, HB.out⟩

set_option maxRecDepth 100000 in
set_option maxHeartbeats 6400000 in
theorem specSameBases_any (a b : Int) (q1 q2 : Bool) (l1 h1 l2x h2 : Nat) (A B : Option Addr) (n m c d : Nat) (ys zs : List Ent) (r : Bool) (w : World) (ha : Rep.ent.Sl q1 l1 h1 w A n ys) (hb : Rep.ent.Sl q2 l2x h2 w B m zs) (hh1 : h1 ≤ w.heap.size) (hh2 : h2 ≤ w.heap.size) (hn : n ≤ 1048576) (hm : m ≤ 1048576) (hy : ∀ y ∈ ys, y.l.links.length ≤ 1048576 ∧ y.l.routers.length ≤ 1048576) (hz : ∀ y ∈ zs, y.l.links.length ≤ 1048576 ∧ y.l.routers.length ≤ 1048576) (hr : r = true ↔ a = b ∧ ys = zs) :
    Calls Try.prog 159 #[.agg #[.int .i64 a, .slice A n c], .agg #[.int .i64 b, .slice B m d]] w fun e w' => e = .returned (.bool r) ∧ Below w.heap.size w w' := by
  have hl1 := ha.1
  have hl2 := hb.1
  obtain ⟨V, hV⟩ : ∃ V : World, V = ((w.alloc (.cells #[.int .i64 a, .slice A n c] 126)).alloc (.cells #[.int .i64 b, .slice B m d] 126)) := ⟨_, rfl⟩
  have hbV : Below w.heap.size w V := by rw [hV]; exact ((Below.refl _ _).alloc (Nat.le_refl _) _).alloc (by simp) _
  have HB := Lib.hid hbV
  have HX1 := Lib.hid (show Box V w.heap.size 126 #[.int .i64 a, .slice A n c] by rw [hV]; exact (Box.made _ _ _).over _)
  have HX2 := Lib.hid (show Box V (w.heap.size + 1) 126 #[.int .i64 b, .slice B m d] by rw [hV]; exact Box.made_at _ _ _ (by simp))
  have HA1 := Rep.Sl.kept (ha.below hbV hh1) (Nat.le_trans hh1 hbV.size)
  have HA2 := Rep.Sl.kept (hb.below hbV hh2) (Nat.le_trans hh2 hbV.size)
  have HY := Lib.hid hy
  have HZ := Lib.hid hz
  clear hbV ha hb hy hz
  by_cases h : a = b ∧ n = m
  · obtain ⟨rfl, rfl⟩ := h
    have HR := Lib.hid (show r = true ↔ ys = zs by simpa using hr)
    clear hr
    go_enter Try.func159, Try.ntmps159
    go_wp2
    rw [← hV]
    clear hV
    go_loopw [5] (fun i wr => ∃ k : Nat, k ≤ n ∧ i = .int .i64 k ∧ Hid (∀ j, j < k → ys[j]? = zs[j]?) ∧ Hid (Below V.heap.size V wr)) (fun i _ => n - (intOf i).toNat)
    case atStart => exact ⟨0, Nat.zero_le _, rfl, fun j hj => absurd hj (by omega), Below.refl _ _⟩
    case round =>
      obtain ⟨k, hk, rfl, HS, HBW⟩ := hrel
      have HXA := Lib.hid (HX1.out.below HBW.out)
      have HXB := Lib.hid (HX2.out.below HBW.out)
      have x1 := HXA.out.look 1
      have y1 := HXB.out.look 1
      by_cases hlt : k < n
      · obtain ⟨b, o, ⟨l, t⟩, E, F, m1, c1, m1', d1, rfl, hya, hyl, a0, a1, a2, a3, a4, a5, a6, a7, a8, a9, a10⟩ := Rep.ent_at (HA1.below HBW.out).sl hlt
        obtain ⟨b2, o2, ⟨l2, t2⟩, E2, F2, m2, c2, m2', d2, rfl, hza, hzl, e0, e1, e2, e3, e4, e5, e6, e7, e8, e9, e10⟩ := Rep.ent_at (HA2.below HBW.out).sl hlt
        have hlt' : (k : Int) < n := by omega
        have hym := HY.out _ (List.mem_of_getElem? hya)
        have hzm := HZ.out _ (List.mem_of_getElem? hza)
        simp only [] at hym hzm hyl hzl a0 a1 a2 a3 a4 a5 a6 a7 a8 a9 a10 e0 e1 e2 e3 e4 e5 e6 e7 e8 e9 e10
        rw [show l.links.length = m1 from hyl.links.1, show l.routers.length = m1' from hyl.routers.1] at hym
        rw [show l2.links.length = m2 from hzl.links.1, show l2.routers.length = m2' from hzl.routers.1] at hzm
        have HL := (show LsaAt q1 l1 h1 wr E m1 F m1' l from ⟨hyl, (HA1.below HBW.out).le⟩).kept
        have HK := (show LsaAt q2 l2x h2 wr E2 m2 F2 m2' l2 from ⟨hzl, (HA2.below HBW.out).le⟩).kept
        have HYA := Lib.hid hya
        have HZA := Lib.hid hza
        clear hya hza hyl hzl
        by_cases htt : t = t2
        · subst htt
          have SB : Hid (∀ W, Hid (Below wr.heap.size wr W) → (fun W : World => W.cell? ⟨w.heap.size, 1, none⟩ = some (.slice (some ⟨b, o, none⟩) n c) ∧ W.cell? ⟨w.heap.size + 1, 1, none⟩ = some (.slice (some ⟨b2, o2, none⟩) n d) ∧ W.cell? ⟨b, o + k * 11, none⟩ = some (.int .i64 l.age) ∧ W.cell? ⟨b, o + k * 11 + 1, none⟩ = some (.int .i64 l.options) ∧ W.cell? ⟨b, o + k * 11 + 2, none⟩ = some (.int .i64 l.typ) ∧ W.cell? ⟨b, o + k * 11 + 3, none⟩ = some (.int .i64 l.id) ∧ W.cell? ⟨b, o + k * 11 + 4, none⟩ = some (.int .i64 l.adv) ∧ W.cell? ⟨b, o + k * 11 + 5, none⟩ = some (.int .i64 l.seq) ∧ W.cell? ⟨b, o + k * 11 + 6, none⟩ = some (.slice E m1 c1) ∧ W.cell? ⟨b, o + k * 11 + 7, none⟩ = some (.slice F m1' d1) ∧ W.cell? ⟨b, o + k * 11 + 8, none⟩ = some (.int .i64 l.mask) ∧ W.cell? ⟨b, o + k * 11 + 9, none⟩ = some (.int .i64 l.cost) ∧ W.cell? ⟨b, o + k * 11 + 10, none⟩ = some (.int .i64 t) ∧ W.cell? ⟨b2, o2 + k * 11, none⟩ = some (.int .i64 l2.age) ∧ W.cell? ⟨b2, o2 + k * 11 + 1, none⟩ = some (.int .i64 l2.options) ∧ W.cell? ⟨b2, o2 + k * 11 + 2, none⟩ = some (.int .i64 l2.typ) ∧ W.cell? ⟨b2, o2 + k * 11 + 3, none⟩ = some (.int .i64 l2.id) ∧ W.cell? ⟨b2, o2 + k * 11 + 4, none⟩ = some (.int .i64 l2.adv) ∧ W.cell? ⟨b2, o2 + k * 11 + 5, none⟩ = some (.int .i64 l2.seq) ∧ W.cell? ⟨b2, o2 + k * 11 + 6, none⟩ = some (.slice E2 m2 c2) ∧ W.cell? ⟨b2, o2 + k * 11 + 7, none⟩ = some (.slice F2 m2' d2) ∧ W.cell? ⟨b2, o2 + k * 11 + 8, none⟩ = some (.int .i64 l2.mask) ∧ W.cell? ⟨b2, o2 + k * 11 + 9, none⟩ = some (.int .i64 l2.cost) ∧ W.cell? ⟨b2, o2 + k * 11 + 10, none⟩ = some (.int .i64 t)) W) := fun W h => ⟨(HXA.out.below h.out).look 1, (HXB.out.below h.out).look 1, (h.out.cell (World.block_lt_of_cell? wr _ a0)).trans a0, (h.out.cell (World.block_lt_of_cell? wr _ a1)).trans a1, (h.out.cell (World.block_lt_of_cell? wr _ a2)).trans a2, (h.out.cell (World.block_lt_of_cell? wr _ a3)).trans a3, (h.out.cell (World.block_lt_of_cell? wr _ a4)).trans a4, (h.out.cell (World.block_lt_of_cell? wr _ a5)).trans a5, (h.out.cell (World.block_lt_of_cell? wr _ a6)).trans a6, (h.out.cell (World.block_lt_of_cell? wr _ a7)).trans a7, (h.out.cell (World.block_lt_of_cell? wr _ a8)).trans a8, (h.out.cell (World.block_lt_of_cell? wr _ a9)).trans a9, (h.out.cell (World.block_lt_of_cell? wr _ a10)).trans a10, (h.out.cell (World.block_lt_of_cell? wr _ e0)).trans e0, (h.out.cell (World.block_lt_of_cell? wr _ e1)).trans e1, (h.out.cell (World.block_lt_of_cell? wr _ e2)).trans e2, (h.out.cell (World.block_lt_of_cell? wr _ e3)).trans e3, (h.out.cell (World.block_lt_of_cell? wr _ e4)).trans e4, (h.out.cell (World.block_lt_of_cell? wr _ e5)).trans e5, (h.out.cell (World.block_lt_of_cell? wr _ e6)).trans e6, (h.out.cell (World.block_lt_of_cell? wr _ e7)).trans e7, (h.out.cell (World.block_lt_of_cell? wr _ e8)).trans e8, (h.out.cell (World.block_lt_of_cell? wr _ e9)).trans e9, (h.out.cell (World.block_lt_of_cell? wr _ e10)).trans e10⟩
          have V0 : Hid (Below wr.heap.size wr wr.drew) := (Below.refl _ _).drew
          obtain ⟨r1, hr1⟩ : ∃ r1, decide (l = l2) = r1 := ⟨_, rfl⟩
          have HR1 := Lib.hid hr1
          clear hr1
          go_wp2
          clear x1 y1 a0 a1 a2 a3 a4 a5 a6 a7 a8 a9 a10 e0 e1 e2 e3 e4 e5 e6 e7 e8 e9 e10
          go_region_held3 (fun W : World => W.cell? ⟨w.heap.size, 1, none⟩ = some (.slice (some ⟨b, o, none⟩) n c) ∧ W.cell? ⟨w.heap.size + 1, 1, none⟩ = some (.slice (some ⟨b2, o2, none⟩) n d) ∧ W.cell? ⟨b, o + k * 11, none⟩ = some (.int .i64 l.age) ∧ W.cell? ⟨b, o + k * 11 + 1, none⟩ = some (.int .i64 l.options) ∧ W.cell? ⟨b, o + k * 11 + 2, none⟩ = some (.int .i64 l.typ) ∧ W.cell? ⟨b, o + k * 11 + 3, none⟩ = some (.int .i64 l.id) ∧ W.cell? ⟨b, o + k * 11 + 4, none⟩ = some (.int .i64 l.adv) ∧ W.cell? ⟨b, o + k * 11 + 5, none⟩ = some (.int .i64 l.seq) ∧ W.cell? ⟨b, o + k * 11 + 6, none⟩ = some (.slice E m1 c1) ∧ W.cell? ⟨b, o + k * 11 + 7, none⟩ = some (.slice F m1' d1) ∧ W.cell? ⟨b, o + k * 11 + 8, none⟩ = some (.int .i64 l.mask) ∧ W.cell? ⟨b, o + k * 11 + 9, none⟩ = some (.int .i64 l.cost) ∧ W.cell? ⟨b, o + k * 11 + 10, none⟩ = some (.int .i64 t) ∧ W.cell? ⟨b2, o2 + k * 11, none⟩ = some (.int .i64 l2.age) ∧ W.cell? ⟨b2, o2 + k * 11 + 1, none⟩ = some (.int .i64 l2.options) ∧ W.cell? ⟨b2, o2 + k * 11 + 2, none⟩ = some (.int .i64 l2.typ) ∧ W.cell? ⟨b2, o2 + k * 11 + 3, none⟩ = some (.int .i64 l2.id) ∧ W.cell? ⟨b2, o2 + k * 11 + 4, none⟩ = some (.int .i64 l2.adv) ∧ W.cell? ⟨b2, o2 + k * 11 + 5, none⟩ = some (.int .i64 l2.seq) ∧ W.cell? ⟨b2, o2 + k * 11 + 6, none⟩ = some (.slice E2 m2 c2) ∧ W.cell? ⟨b2, o2 + k * 11 + 7, none⟩ = some (.slice F2 m2' d2) ∧ W.cell? ⟨b2, o2 + k * 11 + 8, none⟩ = some (.int .i64 l2.mask) ∧ W.cell? ⟨b2, o2 + k * 11 + 9, none⟩ = some (.int .i64 l2.cost) ∧ W.cell? ⟨b2, o2 + k * 11 + 10, none⟩ = some (.int .i64 t)) (exact SB.out _ (by assumption))
            (first | (go_at_call 158; refine (specSameLsas_any l l2 q1 q2 l1 h1 l2x h2 E F E2 F2 m1 c1 m1' d1 m2 c2 m2' d2 _ (HL.below V0.out).lsa.in_ (HK.below V0.out).lsa.in_ (HL.below V0.out).lsa.le (HK.below V0.out).lsa.le hym.1 hym.2 hzm.1 hzm.2).mono ?_; rw [HR1.out]; rintro e u ⟨rfl, hbu⟩; have U0 := Lib.hid (below_step V0.out hbu); clear hbu))
          have HU := Lib.hid (below_step HBW.out U0.out)
          have HUW := Lib.hid (below_step HB.out HU.out)
          clear SB V0 U0 HBW HXA HXB HL HK
          cases r1 with
          | true =>
            have HE : Hid (ys[k]? = zs[k]?) := Lib.hid (by rw [HYA.out, HZA.out, of_decide_eq_true HR1.out])
            go_wp2
            go_roundw
            case rel => exact ⟨k + 1, by omega, by go_num, fun j hj => by
              rcases Nat.lt_succ_iff_lt_or_eq.1 hj with h | rfl
              · exact HS.out j h
              · exact HE.out, HU.out⟩
            case measure => simp [intOf]; omega
          | false =>
            have HN := Lib.hid (bool_of HR.out (ne_at HYA.out HZA.out (fun e => by injection e with e _; exact of_decide_eq_false HR1.out e)))
            go_wp2
            go_ret
            exact ⟨by rw [HN.out]; rfl, HUW.out⟩
        · have HN := Lib.hid (bool_of HR.out (ne_at HYA.out HZA.out (fun e => by injection e with _ e; exact htt e)))
          have HUW := Lib.hid (below_step HB.out HBW.out)
          have hne : (t == t2) = false := by simpa using htt
          have hne2 : (t != t2) = true := by simpa using htt
          clear htt
          go_wp2
          go_quiet (fail)
          go_wp2
          go_ret
          exact ⟨by rw [HN.out]; rfl, below_drewN HUW.out _⟩
      · have HN := Lib.hid (HR.out.2 (eq_upto (by omega) (fun j hj => HS.out j (by omega))))
        have HUW := Lib.hid (below_step HB.out HBW.out)
        go_wp2
        go_ret
        exact ⟨by rw [HN.out]; rfl, HUW.out⟩
  · have HN := Lib.hid (bool_of hr (fun e => h ⟨e.1, by rw [← hl1, ← hl2, e.2]⟩))
    have c0 := HX1.out.look 0
    have c1 := HX1.out.look 1
    have d0 := HX2.out.look 0
    have d1 := HX2.out.look 1
    clear hr
    by_cases hab : a = b
    · have hee' : ((n : Int) == m) = false := by
        have : ¬ n = m := fun e => h ⟨hab, e⟩
        simp; omega
      subst hab
      clear h
      go_enter Try.func159, Try.ntmps159
      go_wp2
      rw [← hV]
      go_ret
      exact ⟨by rw [HN.out]; rfl, HB.out⟩
    · have hab' : (a == b) = false := by simpa using hab
      clear h hab
      go_enter Try.func159, Try.ntmps159
      go_wp2
      rw [← hV]
      go_ret
      exact ⟨by rw [HN.out]; rfl, HB.out⟩

end Go.Proofs.Ytiffhjofabaflaa
