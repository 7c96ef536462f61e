/-
  Walks of both SameBytes (and of bytes.Equal): two texts made of bytes are alike where the bytes are. No statement is proved here.
-/
import Derived.Test.YtiffhjofabaflaaHelp
import Derived.Laws.BytesArg
import Derived.Shelf.Bytes.SlSmallAll
namespace Go.Proofs.Ytiffhjofabaflaa
open Go.RowKit

theorem bytes_text {w : World} {A : Option Addr} {n c : Nat} {xs : List Int} (ha : BIn w A n xs) :
    (convert 22 9 (.slice A n c)).run Try.prog w = .ok (.string (strOfNums xs)) w := by
  rcases Nat.eq_zero_or_pos n with h0 | h0
  · subst h0
    have : xs = [] := List.eq_nil_of_length_eq_zero ha.1
    subst this
    have := run_convert_bytes_zero (P := Try.prog) w 22 5 Try.underlying22 Try.underlying5 A c 9 Try.underlying9
    exact this
  · obtain ⟨b, o, rfl, hc⟩ := ha.2 h0
    exact run_convert_bytes_arg w 22 5 Try.underlying22 Try.underlying5 b o n c xs ha.1 hc 9 Try.underlying9

theorem strOfNums_inj {xs ys : List Int} (hx : Bytes xs) (hy : Bytes ys) (h : (strOfNums xs).toList = (strOfNums ys).toList) : xs = ys := by
  have h' : (strOfNums xs).data.toList = (strOfNums ys).data.toList := by
    rw [ByteArray.toList_eq, ByteArray.toList_eq] at h; exact h
  rw [strOfNums_data, strOfNums_data] at h'
  have hl : xs.length = ys.length := by simpa using congrArg List.length h'
  refine take_eq_all (n := xs.length) rfl hl.symm fun i hi => ?_
  have hb := hx.at_ i
  have hc := hy.at_ i
  have e := congrArg (fun l => l[i]?) h'
  simp only [List.getElem?_map, List.getElem?_eq_getElem hi, List.getElem?_eq_getElem (show i < ys.length by omega), Option.map_some, Option.some.injEq] at e
  simp only [List.getD, List.getElem?_eq_getElem hi, List.getElem?_eq_getElem (show i < ys.length by omega), Option.getD_some] at hb hc ⊢
  have e1 := congrArg UInt8.toNat e
  simp only [UInt8.toNat_ofNat'] at e1
  omega

theorem same_dec {xs ys : List Int} (hx : Bytes xs) (hy : Bytes ys) : ((strOfNums xs).toList == (strOfNums ys).toList) = decide (xs = ys) := by
  by_cases h : xs = ys
  · subst h; simp
  · rw [decide_eq_false h]
    exact beq_eq_false_iff_ne.2 fun e => h (strOfNums_inj hx hy e)

theorem same_any (A B : Option Addr) (n m c d : Nat) (xs ys : List Int) (w : World) (ha : BIn w A n xs) (hb : BIn w B m ys) (hx : Bytes xs) (hy : Bytes ys) :
    Calls Try.prog 209 #[.slice A n c, .slice B m d] w fun e w' => e = .returned (.bool (decide (xs = ys))) ∧ w' = w := by
  have e1 := bytes_text (c := c) ha
  have e2 := bytes_text (c := d) hb
  clear ha hb
  go_enter Try.func209, Try.ntmps209
  go_wp2
  go_ret
  exact ⟨ret_bool (same_dec hx hy), rfl⟩

end Go.Proofs.Ytiffhjofabaflaa
