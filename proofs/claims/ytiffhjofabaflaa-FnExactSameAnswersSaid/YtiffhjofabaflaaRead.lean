/-
  Walks of both ReadWord. No statement is proved here.
-/
import Derived.Test.YtiffhjofabaflaaHelp
import Derived.Test.YtiffhjofabaflaaSum
namespace Go.Proofs.Ytiffhjofabaflaa
open Go.RowKit

/-- The number that bytes tell, the highest one first. -/
def readN (zs : List Int) : Int := zs.foldl (fun n z => n * 256 + z) 0
theorem readN_snoc (zs : List Int) (z : Int) : readN (zs ++ [z]) = readN zs * 256 + z := by simp [readN, List.foldl_append]
theorem readN_bd (zs : List Int) (hb : Bytes zs) (k : Nat) (hk : k ≤ zs.length) (h6 : k ≤ 6) : 0 ≤ readN (zs.take k) ∧ readN (zs.take k) < 256 ^ k := by
  induction k with
  | zero => simp [readN]
  | succ k ih =>
    have ih := ih (by omega) (by omega)
    have hz := hb.at_ k
    rw [take_snoc _ _ (by omega), readN_snoc, Int.pow_succ]
    omega
theorem readN_lt40 (zs : List Int) (hb : Bytes zs) (k : Nat) (hk : k ≤ zs.length) (h6 : k < 6) : 0 ≤ readN (zs.take k) ∧ readN (zs.take k) < 1099511627776 := by
  have h := readN_bd zs hb k hk (by omega)
  have : (256 : Int) ^ k ≤ 1099511627776 := by
    rcases (show k = 0 ∨ k = 1 ∨ k = 2 ∨ k = 3 ∨ k = 4 ∨ k = 5 by omega) with rfl | rfl | rfl | rfl | rfl | rfl <;> decide
  omega

theorem or_byte (r z : Int) (hr0 : 0 ≤ r) (hr1 : r < 1099511627776) (hz0 : 0 ≤ z) (hz1 : z < 256) : bits .or .i64 (r * 256) z = r * 256 + z := by
  obtain ⟨a, rfl⟩ := Int.eq_ofNat_of_zero_le hr0
  obtain ⟨b, rfl⟩ := Int.eq_ofNat_of_zero_le hz0
  unfold bits
  have ea : (BitVec.ofInt IntKind.i64.bits ((a : Int) * 256)).toNat = a * 256 := by
    rw [BitVec.toNat_ofInt]
    show (((a : Int) * 256) % (2 ^ 64 : Nat)).toNat = a * 256
    omega
  have eb : (BitVec.ofInt IntKind.i64.bits (b : Int)).toNat = b := by
    rw [BitVec.toNat_ofInt]
    show ((b : Int) % (2 ^ 64 : Nat)).toNat = b
    omega
  dsimp only
  rw [BitVec.toNat_or, ea, eb]
  have eo : a * 256 ||| b = a * 256 + b := by
    have := Nat.shiftLeft_add_eq_or_of_lt (i := 8) (show b < 2 ^ 8 by omega) a
    rw [Nat.shiftLeft_eq] at this
    exact this.symm
  rw [eo]
  have h1 : ((a * 256 + b : Nat) : Int) % (2 ^ 64 : Int) = (a : Int) * 256 + b := by omega
  show (if (true && decide (((a * 256 + b : Nat) : Int) % (2 ^ 64 : Int) ≥ (2 ^ (64 - 1) : Int))) then ((a * 256 + b : Nat) : Int) % (2 ^ 64 : Int) - (2 ^ 64 : Int) else ((a * 256 + b : Nat) : Int) % (2 ^ 64 : Int)) = _
  rw [h1, if_neg (by simp; omega)]

theorem Bytes.sub {zs : List Int} (h : Bytes zs) (a n : Nat) : Bytes ((zs.drop a).take n) := fun z hz => h z (List.mem_of_mem_drop (List.mem_of_mem_take hz))
theorem sub_len {zs : List Int} {a s : Nat} (h : a + s ≤ zs.length) : ((zs.drop a).take s).length = s := by simp; omega
theorem sub_at {zs : List Int} {a s k : Nat} (hk : k < s) : ((zs.drop a).take s).getD k 0 = zs.getD (a + k) 0 := by simp [List.getD, hk]

/-- What both ReadWord answer. -/
def rOK (n : Nat) (a s : Int) : Prop := 1 ≤ s ∧ s ≤ 6 ∧ 0 ≤ a ∧ a ≤ (n : Int) - s
instance (n : Nat) (a s : Int) : Decidable (rOK n a s) := by unfold rOK; infer_instance
def rcode (n : Nat) (a s : Int) : Int := if rOK n a s then 0 else 3
def rval (n : Nat) (xs : List Int) (a s : Int) : Int := if rOK n a s then readN ((xs.drop a.toNat).take s.toNat) else 0

end Go.Proofs.Ytiffhjofabaflaa
