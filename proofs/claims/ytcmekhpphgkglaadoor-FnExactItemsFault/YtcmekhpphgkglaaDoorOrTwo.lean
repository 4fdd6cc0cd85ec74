/-
  What cmp.Or answers of two numbers; small facts that outlive calls.
-/
import Derived.Test.YtcmekhpphgkglaaDoorProg
import Derived.Test.YtcmekhpphgkglaaDoorRowMath
import Derived.WalkKit
import Derived.WalkLawsBesides
namespace Go.Proofs.YtcmekhpphgkglaaDoor
open Go.RowKit

/-- The first one that is not 0. -/
def orI (x y : Int) : Int := if x = 0 then y else x
theorem ints_two_new (w : World) (x y : Int) (t : TypeId) : IntsAt (w.alloc (.cells #[.int .i64 x, .int .i64 y] t)) (some ⟨w.heap.size, 0, none⟩) [x, y] := by
  have hb : Box (w.alloc (.cells #[.int .i64 x, .int .i64 y] t)) w.heap.size [.int .i64 x, .int .i64 y] t := box_new w [.int .i64 x, .int .i64 y] t
  refine .inr ⟨w.heap.size, 0, rfl, hb.lt, fun i hi => ?_⟩
  rw [Nat.zero_add, hb.cell i]
  match i, hi with
  | 0, _ => rfl
  | 1, _ => rfl

set_option maxHeartbeats 1000000 in
theorem cmpOr2_any (a : Option Addr) (c : Nat) (x y : Int) (w : World) (h : IntsAt w a [x, y]) :
    Calls Tryd.prog 83 #[.slice a 2 c] w fun e w' => e = .returned (.int .i64 (orI x y)) ∧ w' = w := by
  obtain ⟨b, o, rfl, hb, hc⟩ := h.at (k := 0) (by simp)
  have c0 := hc 0 (by simp)
  have c1 := hc 1 (by simp)
  simp only [List.getElem_cons_zero, List.getElem_cons_succ, Nat.add_zero] at c0 c1
  clear hc h
  go_enter Tryd.func83, Tryd.ntmps83
  go_wp2
  go_loop [8] (fun i => ∃ k : Nat, k ≤ 2 ∧ i = .int .i64 k ∧ Hid (1 ≤ k → x = 0) ∧ Hid (2 ≤ k → y = 0)) (fun i => 2 - (intOf i).toNat)
  case atStart => exact ⟨0, by omega, rfl, fun h => by omega, fun h => by omega⟩
  case round =>
    obtain ⟨k, hk, rfl, HX, HY⟩ := hrel
    rcases (show k = 0 ∨ k = 1 ∨ k = 2 by omega) with rfl | rfl | rfl
    · by_cases hx : x = 0
      · have hxb : (x != 0) = false := by simpa using hx
        have H0 := hide hx
        clear hx
        go_wp2
        go_round
        case rel => exact ⟨1, by omega, by go_num, fun _ => unhide H0, fun h => by omega⟩
        case measure => simp [intOf]
      · have hxb : (x != 0) = true := by simpa using hx
        have HR : Hid (orI x y = x) := by simp [Hid, orI, hx]
        clear hx
        go_wp2
        go_ret
        exact ⟨ret_int (unhide HR).symm, rfl⟩
    · have HR : Hid (orI x y = y) := by simp [Hid, orI, unhide HX (by omega)]
      by_cases hy : y = 0
      · have hyb : (y != 0) = false := by simpa using hy
        have H0 := hide hy
        clear hy
        go_wp2
        go_round
        case rel => exact ⟨2, by omega, by go_num, fun _ => unhide HX (by omega), fun _ => unhide H0⟩
        case measure => simp [intOf]
      · have hyb : (y != 0) = true := by simpa using hy
        clear hy
        go_wp2
        go_ret
        exact ⟨ret_int (unhide HR).symm, rfl⟩
    · have HR : Hid (orI x y = 0) := by simp [Hid, orI, unhide HX (by omega), unhide HY (by omega)]
      go_wp2
      go_ret
      exact ⟨ret_int (unhide HR).symm, rfl⟩

theorem below_new (w : World) (o : Obj) : Below w.heap.size w (w.alloc o) := (Below.refl _ _).alloc (Nat.le_refl _) _
theorem keepP2 {W0 w' w1 : World} {b : Nat} {v1 v2 : Value} (h3 : b < W0.heap.size) (hS : Below W0.heap.size W0 w' ∧ w'.cell? ⟨b, 1, none⟩ = some v1 ∧ w'.cell? ⟨b, 2, none⟩ = some v2) (hb : Below w'.heap.size w' w1) :
    Below W0.heap.size W0 w1 ∧ w1.cell? ⟨b, 1, none⟩ = some v1 ∧ w1.cell? ⟨b, 2, none⟩ = some v2 := by
  have hz := hS.1.size
  have k : b < w'.heap.size := by omega
  exact ⟨below_step hS.1 hb hz, (hb.cell (p := ⟨b, 1, none⟩) k).trans hS.2.1, (hb.cell (p := ⟨b, 2, none⟩) k).trans hS.2.2⟩
theorem keepQ6 {W0 w' w1 : World} {b : Nat} {v0 v1 v2 v3 v4 v5 : Value} (h3 : b < W0.heap.size) (hS : Below W0.heap.size W0 w' ∧ w'.cell? ⟨b, 0, none⟩ = some v0 ∧ w'.cell? ⟨b, 1, none⟩ = some v1 ∧ w'.cell? ⟨b, 2, none⟩ = some v2 ∧ w'.cell? ⟨b, 3, none⟩ = some v3 ∧ w'.cell? ⟨b, 4, none⟩ = some v4 ∧ w'.cell? ⟨b, 5, none⟩ = some v5) (hb : Below w'.heap.size w' w1) :
    Below W0.heap.size W0 w1 ∧ w1.cell? ⟨b, 0, none⟩ = some v0 ∧ w1.cell? ⟨b, 1, none⟩ = some v1 ∧ w1.cell? ⟨b, 2, none⟩ = some v2 ∧ w1.cell? ⟨b, 3, none⟩ = some v3 ∧ w1.cell? ⟨b, 4, none⟩ = some v4 ∧ w1.cell? ⟨b, 5, none⟩ = some v5 := by
  have hz := hS.1.size
  have k : b < w'.heap.size := by omega
  exact ⟨below_step hS.1 hb hz, (hb.cell (p := ⟨b, 0, none⟩) k).trans hS.2.1, (hb.cell (p := ⟨b, 1, none⟩) k).trans hS.2.2.1, (hb.cell (p := ⟨b, 2, none⟩) k).trans hS.2.2.2.1, (hb.cell (p := ⟨b, 3, none⟩) k).trans hS.2.2.2.2.1, (hb.cell (p := ⟨b, 4, none⟩) k).trans hS.2.2.2.2.2.1, (hb.cell (p := ⟨b, 5, none⟩) k).trans hS.2.2.2.2.2.2⟩
end Go.Proofs.YtcmekhpphgkglaaDoor
