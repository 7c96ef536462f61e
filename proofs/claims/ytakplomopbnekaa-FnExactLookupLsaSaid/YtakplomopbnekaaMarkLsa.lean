/-
  markLsa, heldInt64S, heldLinkS, heldLsa. No statement is proved here.
-/
import Derived.Test.YtakplomopbnekaaMark
namespace Go.Proofs.Ytakplomopbnekaa
open Go.RowKit
set_option linter.unusedVariables false

section
variable {lo hi l h : Nat} {w w' : World}
theorem Only.size_le (ho : Only lo hi w w') : w.heap.size ≤ w'.heap.size := ho.size
theorem Box.only {g : Nat} {t : TypeId} {cs : Array Value} (hb : Box w g t cs) (ho : Only lo hi w w') (hd : g < lo ∨ hi ≤ g) : Box w' g t cs := (ho.block g hb.lt hd).trans hb
theorem Own.only {B : Nat} {A : Option Addr} {n c : Nat} {zs : List Int} (h : Own w B A n c zs) (ho : Only lo hi w w') (hd : ∀ r, A.map (·.block) = some r → r < lo ∨ hi ≤ r) : Own w' B A n c zs := by
  refine ⟨h.1, ?_⟩
  rcases h.2 with h' | ⟨g, cap, cur, h1, h2, h3, h4⟩
  · exact .inl h'
  · refine .inr ⟨g, cap, cur, h1, h2, ?_, h4⟩
    have hA : A.map (·.block) = some g := by
      simp only [Value.slice.injEq] at h1
      rw [h1.1]; rfl
    have hlt : g < w.heap.size := (h.block g hA).2
    rw [ho.block g hlt (hd g hA)]
    exact h3
theorem LsaIn.only {q : Bool} {A : Option Addr} {n : Nat} {B : Option Addr} {m : Nat} {x : LsaM} (h' : LsaIn q l h w A n B m x) (ho : Only lo hi w w') (hd : h ≤ lo ∨ hi ≤ l) (hs : h ≤ w.heap.size) : LsaIn q l h w' A n B m x := h'.keep (ho.same hd hs)
theorem LsaAt.only {q : Bool} {A : Option Addr} {n : Nat} {B : Option Addr} {m : Nat} {x : LsaM} (h' : LsaAt q l h w A n B m x) (ho : Only lo hi w w') (hd : h ≤ lo ∨ hi ≤ l) : LsaAt q l h w' A n B m x := ⟨h'.in_.only ho hd h'.le, Nat.le_trans h'.le ho.size⟩
end

def mLsa (l : LsaM) (k0 : Int) : LsaM := { l with links := mLinks k0 l.links.length, routers := mInts (k0 + 4 * (l.links.length : Int)) l.routers.length }

set_option maxHeartbeats 800000 in
/-- The slices of an advertisement that a range of blocks holds, apart: one mark leaves the other one's marks. What is told here: that nothing outside of the range is turned. -/
theorem markLsa_only (l : LsaM) (lo hi : Nat) (A B : Option Addr) (n c m d : Nat) (k0 : Int) (w : World) (ha : LsaAt true lo hi w A n B m l) (hn : n ≤ 1048576) (hm : m ≤ 1048576) (h0 : 0 ≤ k0) (h1 : k0 ≤ 1048576) :
    Calls Try.prog 126 #[.agg (lsaCells l A B n c m d), .int .i64 k0] w fun e w' => ∃ k : Int, 0 ≤ k ∧ e = .returned (.int .i64 k) ∧ Only lo hi w w' := by
  obtain ⟨V, hV⟩ : ∃ W : World, W = w.alloc (.cells (lsaCells l A B n c m d) 93) := ⟨_, rfl⟩
  have hbV : Below w.heap.size w V := by rw [hV]; exact (Below.refl _ _).alloc (Nat.le_refl _) _
  have HX := Lib.hid (show Box V w.heap.size 93 (lsaCells l A B n c m d) by rw [hV]; exact Box.made _ _ _)
  have HA := Lib.hid (ha.below hbV)
  have HO := Lib.hid (Only.of_below hbV lo hi)
  have HLE := Lib.hid ha.le
  clear ha hbV
  go_enter Try.func126, Try.ntmps126
  go_wp2_with fail
  rw [← hV]
  clear hV
  refine (markLinkS_any lo hi A n c l.links k0 _ HA.out.in_.links hn h0 (by omega)).mono ?_
  rintro e w1 ⟨rfl, _, ho, hk⟩
  have HX1 := Lib.hid (HX.out.only ho (.inr HLE.out))
  have HO1 := Lib.hid (HO.out.trans ho)
  have HR1 : Hid (0 < m → ∃ b o, B = some ⟨b, o, none⟩ ∧ lo ≤ b ∧ b < hi ∧ Room w1 b o m) := Lib.hid (fun hm0 => by
    obtain ⟨b, o, e, h1, h2, hR⟩ := Rep.int_room HA.out.in_.routers hm0
    exact ⟨b, o, e, h1, h2, hk b o m hR⟩)
  clear ho hk HX HO HA
  have x0 := HX1.out.look 0
  have x4 := HX1.out.look 4
  have x5 := HX1.out.look 5
  have x6 := HX1.out.look 6
  have x7 := HX1.out.look 7
  go_wp2_with fail
  clear x0 x4 x5 x6 x7
  refine (markInt64S_room lo hi B m d _ _ HR1.out hm (by omega) (by omega)).mono ?_
  rintro e w2 ⟨rfl, _, ho⟩
  have HO2 := Lib.hid (HO1.out.trans ho)
  clear ho
  go_wp2
  go_ret
  exact ⟨_, by omega, rfl, HO2.out⟩

end Go.Proofs.Ytakplomopbnekaa
