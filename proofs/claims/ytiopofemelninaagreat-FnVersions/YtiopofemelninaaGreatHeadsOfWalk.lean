/-
  What the three kinds of content tell as heads (impl).
-/
import Derived.Test.YtiopofemelninaaGreatProg
import Derived.Test.YtiopofemelninaaGreatHeadFaultWalk
import Derived.Test.YtiopofemelninaaGreatRowMath
import Derived.WalkKit
import Derived.WalkLawsBesides
namespace Go.Proofs.YtiopofemelninaaGreat
open Go.RowKit

set_option maxHeartbeats 1000000 in
theorem goneHead_any (u e : Int) (w : World) :
    Calls Tryz.prog 190 #[.agg #[.int .i64 u, .int .i64 e]] w fun r w' => r = .returned (.agg #[.int .i64 3, .int .i64 u, .int .i64 0, .int .i64 e]) ∧ Below w.heap.size w w' := by
  go_enter Tryz.func190, Tryz.ntmps190
  go_wp2
  refine bodyPost_ret (v := .agg #[.int .i64 3, .int .i64 u, .int .i64 0, .int .i64 e]) (by simp [results, Tryz.results190, go_sem]) rfl ⟨rfl, ?_⟩
  repeat (first | exact Below.refl _ _ | refine Below.alloc ?_ (by simp <;> omega) _)

set_option maxHeartbeats 1000000 in
theorem pieceHead_any (u i : Int) (x : Value) (e : Int) (w : World) :
    Calls Tryz.prog 187 #[.agg #[.int .i64 u, .int .i64 i, x, .int .i64 e]] w fun r w' => r = .returned (.agg #[.int .i64 2, .int .i64 u, .int .i64 i, .int .i64 e]) ∧ Below w.heap.size w w' := by
  go_enter Tryz.func187, Tryz.ntmps187
  go_wp2
  refine bodyPost_ret (v := .agg #[.int .i64 2, .int .i64 u, .int .i64 i, .int .i64 e]) (by simp [results, Tryz.results187, go_sem]) rfl ⟨rfl, ?_⟩
  repeat (first | exact Below.refl _ _ | refine Below.alloc ?_ (by simp <;> omega) _)

set_option maxHeartbeats 1000000 in
theorem nodeHead_any (u : Int) (d : Bool) (p : Int) (nm : ByteArray) (s e : Int) (w : World) :
    Calls Tryz.prog 181 #[.agg #[.int .i64 u, .bool d, .int .i64 p, .string nm, .int .i64 s, .int .i64 e]] w fun r w' => r = .returned (.agg #[.int .i64 1, .int .i64 u, .int .i64 0, .int .i64 e]) ∧ Below w.heap.size w w' := by
  go_enter Tryz.func181, Tryz.ntmps181
  go_wp2
  refine bodyPost_ret (v := .agg #[.int .i64 1, .int .i64 u, .int .i64 0, .int .i64 e]) (by simp [results, Tryz.results181, go_sem]) rfl ⟨rfl, ?_⟩
  repeat (first | exact Below.refl _ _ | refine Below.alloc ?_ (by simp <;> omega) _)

set_option maxHeartbeats 1000000 in
theorem goneFault_any (u e : Int) (w : World) :
    Calls Tryz.prog 189 #[.agg #[.int .i64 u, .int .i64 e]] w fun r w' => r = .returned (.int .i64 (headCode 3 u 0 e)) ∧ Below w.heap.size w w' := by
  go_enter Tryz.func189, Tryz.ntmps189
  go_wp2_with fail
  refine (goneHead_any u e _).mono ?_
  rintro r w1 ⟨rfl, hb1⟩
  go_wp2_with fail
  refine (implHeadFault_any 3 u 0 e _).mono ?_
  rintro r w2 ⟨rfl, hb2⟩
  go_wp2_with fail
  go_ret
  refine ⟨rfl, ?_⟩
  exact below_step ((Below.refl _ _).alloc (Nat.le_refl _) _) ((below_step hb1 hb2 hb1.size).mono (by simp)) (by simp)
end Go.Proofs.YtiopofemelninaaGreat
