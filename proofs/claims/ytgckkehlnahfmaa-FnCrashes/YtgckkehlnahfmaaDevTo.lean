/-
  What the laws' own copies of devices answer: new rows of the same.
-/
import Derived.Test.YtgckkehlnahfmaaProg
import Derived.Test.YtgckkehlnahfmaaRowMath
import Derived.WalkKit
import Derived.WalkLawsBesides
import Derived.OwnWalk
namespace Go.Proofs.Ytgckkehlnahfmaa
open Go.RowKit

theorem infoInt64 : (Try.prog.info? 2).map (fun i => (i.zero, i.size, i.bytes)) = some (some (.int .i64 0), 1, 8) := by kernel_rfl



theorem pairs_step {l : List (Int × Int)} {xs : List Value} {k : Nat} (hlt : k < l.length) (hxl : xs.length = l.length * 2) (h : xs.take (k * 2) = prs (l.take k)) :
    ((xs.set (k * 2) (.int .i64 l[k].1)).set (k * 2 + 1) (.int .i64 l[k].2)).take ((k + 1) * 2) = prs (l.take (k + 1)) := by
  rw [List.take_succ_eq_append_getElem hlt, prs_append, prs_one, ← h]
  have e : (k + 1) * 2 = k * 2 + 1 + 1 := by omega
  rw [e, List.take_succ_eq_append_getElem (by simp; omega), List.take_succ_eq_append_getElem (by simp; omega)]
  rw [List.append_assoc]
  congr 1
  · rw [List.take_set_of_le (by omega), List.take_set_of_le (by omega)]
  · simp

theorem infoCell : (Try.prog.info? 47).map (fun i => (i.zero, i.size, i.bytes)) = some (some (.agg #[.int .i64 0, .int .i64 0]), 2, 16) := by kernel_rfl
end Go.Proofs.Ytgckkehlnahfmaa
