/-
  What the three kinds of content tell as heads (impl).
-/
import Derived.Test.YtdijmijipgnlgaaProg
import Derived.Test.YtdijmijipgnlgaaHeadFaultWalk
import Derived.Test.YtdijmijipgnlgaaRowMath
import Derived.WalkKit
import Derived.WalkLawsBesides
namespace Go.Proofs.Ytdijmijipgnlgaa
open Go.RowKit

set_option maxHeartbeats 1000000 in
theorem goneHead_any (u e : Int) (w : World) :
    Calls Try.prog 247 #[.agg #[.int .i64 u, .int .i64 e]] w fun r w' => r = .returned (.agg #[.int .i64 3, .int .i64 u, .int .i64 0, .int .i64 e]) ∧ Below w.heap.size w w' := by
  go_enter Try.func247, Try.ntmps247
  go_wp2
  refine bodyPost_ret (v := .agg #[.int .i64 3, .int .i64 u, .int .i64 0, .int .i64 e]) (by simp [results, Try.results247, go_sem]) rfl ⟨rfl, ?_⟩
  repeat (first | exact Below.refl _ _ | refine Below.alloc ?_ (by simp <;> omega) _)

set_option maxHeartbeats 1000000 in
theorem pieceHead_any (u i : Int) (x : Value) (e : Int) (w : World) :
    Calls Try.prog 244 #[.agg #[.int .i64 u, .int .i64 i, x, .int .i64 e]] w fun r w' => r = .returned (.agg #[.int .i64 2, .int .i64 u, .int .i64 i, .int .i64 e]) ∧ Below w.heap.size w w' := by
  go_enter Try.func244, Try.ntmps244
  go_wp2
  refine bodyPost_ret (v := .agg #[.int .i64 2, .int .i64 u, .int .i64 i, .int .i64 e]) (by simp [results, Try.results244, go_sem]) rfl ⟨rfl, ?_⟩
  repeat (first | exact Below.refl _ _ | refine Below.alloc ?_ (by simp <;> omega) _)

set_option maxHeartbeats 1000000 in
theorem nodeHead_any (u : Int) (d : Bool) (p : Int) (nm : ByteArray) (s e : Int) (w : World) :
    Calls Try.prog 238 #[.agg #[.int .i64 u, .bool d, .int .i64 p, .string nm, .int .i64 s, .int .i64 e]] w fun r w' => r = .returned (.agg #[.int .i64 1, .int .i64 u, .int .i64 0, .int .i64 e]) ∧ Below w.heap.size w w' := by
  go_enter Try.func238, Try.ntmps238
  go_wp2
  refine bodyPost_ret (v := .agg #[.int .i64 1, .int .i64 u, .int .i64 0, .int .i64 e]) (by simp [results, Try.results238, go_sem]) rfl ⟨rfl, ?_⟩
  repeat (first | exact Below.refl _ _ | refine Below.alloc ?_ (by simp <;> omega) _)

set_option maxHeartbeats 1000000 in
theorem goneFault_any (u e : Int) (w : World) :
    Calls Try.prog 246 #[.agg #[.int .i64 u, .int .i64 e]] w fun r w' => r = .returned (.int .i64 (headCode 3 u 0 e)) ∧ Below w.heap.size w w' := by
  go_enter Try.func246, Try.ntmps246
  go_wp2_with fail
  refine (goneHead_any u e _).mono ?_
  rintro r w1 ⟨rfl, hb1⟩
  go_wp2_with fail
  refine (implHeadFault_any 3 u 0 e _).mono ?_
  rintro r w2 ⟨rfl, hb2⟩
  go_wp2_with fail
  go_ret
  refine ⟨rfl, ?_⟩
  exact below_step ((Below.refl _ _).alloc (Nat.le_refl _) _) ((below_step hb1 hb2 hb1.size).mono (by simp)) (by simp)
end Go.Proofs.Ytdijmijipgnlgaa
