/-
  When two nodes are one.
-/
import Derived.Test.YtdnfadbkpajloaaRowMath
import Derived.Test.YtdnfadbkpajloaaProg
import Derived.WalkKit
import Derived.WalkLawsBesides
import Derived.Laws.StructEq
namespace Go.Proofs.Ytdnfadbkpajloaa
open Go.RowKit
set_option linter.unusedVariables false

theorem bytes_loop (a : ByteArray) : ∀ (n i : Nat) (r : List UInt8), a.size - i = n → ByteArray.toList.loop a i r = r.reverse ++ a.data.toList.drop i
  | 0, i, r, h => by
    rw [ByteArray.toList.loop, if_neg (by omega), List.drop_eq_nil_of_le (by show a.data.toList.length ≤ i; rw [Array.length_toList]; exact Nat.le_of_sub_eq_zero h)]
    simp
  | n + 1, i, r, h => by
    have hi : i < a.size := by omega
    have hi2 : i < a.data.toList.length := by rw [Array.length_toList]; exact hi
    rw [ByteArray.toList.loop, if_pos hi, bytes_loop a n (i + 1) _ (by omega), List.drop_eq_getElem_cons hi2]
    have : a.get! i = a.data.toList[i] := by
      simp [ByteArray.get!, getElem!_pos, hi]
    rw [this]; simp
theorem bytes_toList_inj {a b : ByteArray} (h : a.toList = b.toList) : a = b := by
  have e : ∀ x : ByteArray, x.toList = x.data.toList := fun x => by
    rw [ByteArray.toList, bytes_loop x _ 0 [] rfl]; simp
  rw [e, e] at h
  cases a; cases b
  simp at h
  simpa using h

theorem eqlNode (u : Int) (d : Bool) (p : Int) (nm : ByteArray) (s u' : Int) (d' : Bool) (p' : Int) (nm' : ByteArray) (s' : Int) (w : World) : (Op.equalIn 10000 48 (.agg #[.int .i64 u, .bool d, .int .i64 p, .string nm, .int .i64 s]) (.agg #[.int .i64 u', .bool d', .int .i64 p', .string nm', .int .i64 s'])).run Try.prog w = .ok (u == u' && d == d' && p == p' && decide (nm = nm') && s == s') w := by
  have hS : Try.prog.underlying 48 = some (.struct (Try.prog.fieldsOf 48)) := by kernel_rfl
  have hp : Try.prog.stoodInHeld 48 = false := by kernel_rfl
  have u3 := Try.underlying2
  have a3 := Try.isAgg2
  have z3 := Try.sizeOf2
  have u4 := Try.underlying4
  have a4 := Try.isAgg4
  have z4 := Try.sizeOf4
  have u5 := Try.underlying9
  have a5 := Try.isAgg9
  have z5 := Try.sizeOf9
  rw [show (10000 : Nat) = 9999 + 1 from rfl, run_equalIn_agg w 9999 48 _ _ hS hp]
  simp only [Program.fieldsOf, Try.underlying48]
  go_simp
  by_cases h1 : u = u' <;> by_cases h2 : d = d' <;> by_cases h3 : p = p' <;> by_cases h4 : nm = nm' <;> by_cases h5 : s = s' <;> simp [h1, h2, h3, h4, h5]
  exact fun h => h4 (bytes_toList_inj h)
end Go.Proofs.Ytdnfadbkpajloaa
