/-
  What cmp.Or answers of two numbers; what the faults of a node's and a piece's content are.
-/
import Derived.Test.YtiopofemelninaaGreatProg
import Derived.Test.YtiopofemelninaaGreatHeadsOfWalk
import Derived.Test.YtiopofemelninaaGreatNodeWalk
import Derived.Test.YtiopofemelninaaGreatNumsWalk
import Derived.WalkKit
import Derived.WalkLawsBesides
import Derived.Deep.RegionHeld3
namespace Go.Proofs.YtiopofemelninaaGreat
open Go.RowKit

/-- The first one that is not 0. -/
def orI (x y : Int) : Int := if x = 0 then y else x
theorem ints_two_new (w : World) (x y : Int) (t : TypeId) : IntsAt (w.alloc (.cells #[.int .i64 x, .int .i64 y] t)) (some ⟨w.heap.size, 0, none⟩) [x, y] := by
  have hb : Box (w.alloc (.cells #[.int .i64 x, .int .i64 y] t)) w.heap.size [.int .i64 x, .int .i64 y] t := box_new w [.int .i64 x, .int .i64 y] t
  refine .inr ⟨w.heap.size, 0, rfl, hb.lt, fun i hi => ?_⟩
  rw [Nat.zero_add, hb.cell i]
  match i, hi with
  | 0, _ => rfl
  | 1, _ => rfl

set_option maxHeartbeats 1000000 in
theorem cmpOr2_any (a : Option Addr) (c : Nat) (x y : Int) (w : World) (h : IntsAt w a [x, y]) :
    Calls Tryz.prog 182 #[.slice a 2 c] w fun e w' => e = .returned (.int .i64 (orI x y)) ∧ w' = w := by
  obtain ⟨b, o, rfl, hb, hc⟩ := h.at (k := 0) (by simp)
  have c0 := hc 0 (by simp)
  have c1 := hc 1 (by simp)
  simp only [List.getElem_cons_zero, List.getElem_cons_succ, Nat.add_zero] at c0 c1
  clear hc h
  go_enter Tryz.func182, Tryz.ntmps182
  go_wp2
  go_loop [8] (fun i => ∃ k : Nat, k ≤ 2 ∧ i = .int .i64 k ∧ Hid (1 ≤ k → x = 0) ∧ Hid (2 ≤ k → y = 0)) (fun i => 2 - (intOf i).toNat)
  case atStart => exact ⟨0, by omega, rfl, fun h => by omega, fun h => by omega⟩
  case round =>
    obtain ⟨k, hk, rfl, HX, HY⟩ := hrel
    rcases (show k = 0 ∨ k = 1 ∨ k = 2 by omega) with rfl | rfl | rfl
    · by_cases hx : x = 0
      · have hxb : (x != 0) = false := by simpa using hx
        have H0 := hide hx
        clear hx
        go_wp2
        go_round
        case rel => exact ⟨1, by omega, by go_num, fun _ => unhide H0, fun h => by omega⟩
        case measure => simp [intOf]
      · have hxb : (x != 0) = true := by simpa using hx
        have HR : Hid (orI x y = x) := by simp [Hid, orI, hx]
        clear hx
        go_wp2
        go_ret
        exact ⟨ret_int (unhide HR).symm, rfl⟩
    · have HR : Hid (orI x y = y) := by simp [Hid, orI, unhide HX (by omega)]
      by_cases hy : y = 0
      · have hyb : (y != 0) = false := by simpa using hy
        have H0 := hide hy
        clear hy
        go_wp2
        go_round
        case rel => exact ⟨2, by omega, by go_num, fun _ => unhide HX (by omega), fun _ => unhide H0⟩
        case measure => simp [intOf]
      · have hyb : (y != 0) = true := by simpa using hy
        clear hy
        go_wp2
        go_ret
        exact ⟨ret_int (unhide HR).symm, rfl⟩
    · have HR : Hid (orI x y = 0) := by simp [Hid, orI, unhide HX (by omega), unhide HY (by omega)]
      go_wp2
      go_ret
      exact ⟨ret_int (unhide HR).symm, rfl⟩

theorem keepB6 {W0 w' w1 : World} {b : Nat} {v0 v1 v2 v3 v4 v5 : Value} (h3 : b < W0.heap.size) (hS : Below W0.heap.size W0 w' ∧ w'.cell? ⟨b, 0, none⟩ = some v0 ∧ w'.cell? ⟨b, 1, none⟩ = some v1 ∧ w'.cell? ⟨b, 2, none⟩ = some v2 ∧ w'.cell? ⟨b, 3, none⟩ = some v3 ∧ w'.cell? ⟨b, 4, none⟩ = some v4 ∧ w'.cell? ⟨b, 5, none⟩ = some v5) (hb : Below w'.heap.size w' w1) :
    Below W0.heap.size W0 w1 ∧ w1.cell? ⟨b, 0, none⟩ = some v0 ∧ w1.cell? ⟨b, 1, none⟩ = some v1 ∧ w1.cell? ⟨b, 2, none⟩ = some v2 ∧ w1.cell? ⟨b, 3, none⟩ = some v3 ∧ w1.cell? ⟨b, 4, none⟩ = some v4 ∧ w1.cell? ⟨b, 5, none⟩ = some v5 := by
  have hz := hS.1.size
  have k : b < w'.heap.size := by omega
  exact ⟨below_step hS.1 hb hz, (hb.cell (p := ⟨b, 0, none⟩) k).trans hS.2.1, (hb.cell (p := ⟨b, 1, none⟩) k).trans hS.2.2.1, (hb.cell (p := ⟨b, 2, none⟩) k).trans hS.2.2.2.1, (hb.cell (p := ⟨b, 3, none⟩) k).trans hS.2.2.2.2.1, (hb.cell (p := ⟨b, 4, none⟩) k).trans hS.2.2.2.2.2.1, (hb.cell (p := ⟨b, 5, none⟩) k).trans hS.2.2.2.2.2.2⟩
theorem below_new (w : World) (o : Obj) : Below w.heap.size w (w.alloc o) := (Below.refl _ _).alloc (Nat.le_refl _) _

set_option maxHeartbeats 2000000 in
theorem nodeFault_any (u : Int) (d : Bool) (p : Int) (nm : ByteArray) (s e : Int) (w : World) (hs : nm.size ≤ maxLen) :
    Calls Tryz.prog 180 #[.agg #[.int .i64 u, .bool d, .int .i64 p, .string nm, .int .i64 s, .int .i64 e]] w fun r w' => r = .returned (.int .i64 (orI (nodeCode u d p nm.data.toList s) (headCode 1 u 0 e))) ∧ Below w.heap.size w w' := by
  obtain ⟨W, hW, hWz, HB0, HX0⟩ := boxes1 w [.int .i64 u, .bool d, .int .i64 p, .string nm, .int .i64 s, .int .i64 e] 197
  go_enter Tryz.func180, Tryz.ntmps180
  go_wp2_with fail
  rw [← hW]
  have q0 := (unhide HX0).cell 0
  have q1 := (unhide HX0).cell 1
  have q2 := (unhide HX0).cell 2
  have q3 := (unhide HX0).cell 3
  have q4 := (unhide HX0).cell 4
  have q5 := (unhide HX0).cell 5
  simp only [List.getElem?_cons_zero, List.getElem?_cons_succ] at q0 q1 q2 q3 q4 q5
  clear hW
  generalize hbe : w.heap.size = b at *
  have HBE := hide hbe
  clear hbe
  have hbW : b < W.heap.size := by omega
  have hD : (fun w' => Below W.heap.size W w' ∧ w'.cell? ⟨b, 0, none⟩ = some (.int .i64 u) ∧ w'.cell? ⟨b, 1, none⟩ = some (.bool d) ∧ w'.cell? ⟨b, 2, none⟩ = some (.int .i64 p) ∧ w'.cell? ⟨b, 3, none⟩ = some (.string nm) ∧ w'.cell? ⟨b, 4, none⟩ = some (.int .i64 s) ∧ w'.cell? ⟨b, 5, none⟩ = some (.int .i64 e)) W.drew := ⟨(Below.refl _ _).drew, q0, q1, q2, q3, q4, q5⟩
  go_region_held3 (fun w' => Below W.heap.size W w' ∧ w'.cell? ⟨b, 0, none⟩ = some (.int .i64 u) ∧ w'.cell? ⟨b, 1, none⟩ = some (.bool d) ∧ w'.cell? ⟨b, 2, none⟩ = some (.int .i64 p) ∧ w'.cell? ⟨b, 3, none⟩ = some (.string nm) ∧ w'.cell? ⟨b, 4, none⟩ = some (.int .i64 s) ∧ w'.cell? ⟨b, 5, none⟩ = some (.int .i64 e)) (first | exact hD | assumption | exact keepB6 hbW (by assumption) (by assumption) | exact keepB6 hbW (by assumption) (below_new _ _))
    (first
      | (go_at_call 183; refine (implNodeFault_any _ _ _ _ _ _ hs).mono ?_; rintro r w5 ⟨rfl, hb5⟩)
      | (go_at_call 181; refine (nodeHead_any _ _ _ _ _ _ _).mono ?_; rintro r w5 ⟨rfl, hb5⟩)
      | (go_at_call 105; refine (implHeadFault_any _ _ _ _ _).mono ?_; rintro r w5 ⟨rfl, hb5⟩)
      | (go_at_call 182; refine (cmpOr2_any _ _ _ _ _ (ints_two_new _ _ _ _)).mono ?_; rintro r w5 ⟨rfl, rfl⟩))
  rename_i hSF
  have HS := hide hSF.1
  clear hSF hD q0 q1 q2 q3 q4 q5
  go_wp2_with fail
  go_ret
  refine ⟨rfl, ?_⟩
  rw [unhide HBE]
  exact below_step (unhide HB0) (unhide HS) (by omega)

theorem keepB4 {W0 w' w1 : World} {b : Nat} {v0 v1 v2 v3 : Value} (h3 : b < W0.heap.size) (hS : Below W0.heap.size W0 w' ∧ w'.cell? ⟨b, 0, none⟩ = some v0 ∧ w'.cell? ⟨b, 1, none⟩ = some v1 ∧ w'.cell? ⟨b, 2, none⟩ = some v2 ∧ w'.cell? ⟨b, 3, none⟩ = some v3) (hb : Below w'.heap.size w' w1) :
    Below W0.heap.size W0 w1 ∧ w1.cell? ⟨b, 0, none⟩ = some v0 ∧ w1.cell? ⟨b, 1, none⟩ = some v1 ∧ w1.cell? ⟨b, 2, none⟩ = some v2 ∧ w1.cell? ⟨b, 3, none⟩ = some v3 := by
  have hz := hS.1.size
  have k : b < w'.heap.size := by omega
  exact ⟨below_step hS.1 hb hz, (hb.cell (p := ⟨b, 0, none⟩) k).trans hS.2.1, (hb.cell (p := ⟨b, 1, none⟩) k).trans hS.2.2.1, (hb.cell (p := ⟨b, 2, none⟩) k).trans hS.2.2.2.1, (hb.cell (p := ⟨b, 3, none⟩) k).trans hS.2.2.2.2⟩
theorem sleft' {W0 w' : World} {p : Prop} (h : Below W0.heap.size W0 w' ∧ p) : Below W0.heap.size W0 w' := h.1

set_option maxHeartbeats 2000000 in
theorem pieceFault_any (u i : Int) (a : Option Addr) (c : Nat) (l : List Int) (e : Int) (w : World) (h : IntsAt w a l) (hl : l.length ≤ 1048576) :
    Calls Tryz.prog 186 #[.agg #[.int .i64 u, .int .i64 i, .slice a l.length c, .int .i64 e]] w fun r w' => r = .returned (.int .i64 (orI (headCode 2 u i e) (numsCode l))) ∧ Below w.heap.size w w' := by
  obtain ⟨W, hW, hWz, HB0, HX0⟩ := boxes1 w [.int .i64 u, .int .i64 i, .slice a l.length c, .int .i64 e] 199
  have H := hide (h.below (unhide HB0))
  clear h
  go_enter Tryz.func186, Tryz.ntmps186
  go_wp2_with fail
  rw [← hW]
  have q0 := (unhide HX0).cell 0
  have q1 := (unhide HX0).cell 1
  have q2 := (unhide HX0).cell 2
  have q3 := (unhide HX0).cell 3
  simp only [List.getElem?_cons_zero, List.getElem?_cons_succ] at q0 q1 q2 q3
  clear hW
  generalize hbe : w.heap.size = b at *
  have HBE := hide hbe
  clear hbe
  have hbW : b < W.heap.size := by omega
  have hD : (fun w' => Below W.heap.size W w' ∧ w'.cell? ⟨b, 0, none⟩ = some (.int .i64 u) ∧ w'.cell? ⟨b, 1, none⟩ = some (.int .i64 i) ∧ w'.cell? ⟨b, 2, none⟩ = some (.slice a l.length c) ∧ w'.cell? ⟨b, 3, none⟩ = some (.int .i64 e)) W.drew := ⟨(Below.refl _ _).drew, q0, q1, q2, q3⟩
  go_region_held3 (fun w' => Below W.heap.size W w' ∧ w'.cell? ⟨b, 0, none⟩ = some (.int .i64 u) ∧ w'.cell? ⟨b, 1, none⟩ = some (.int .i64 i) ∧ w'.cell? ⟨b, 2, none⟩ = some (.slice a l.length c) ∧ w'.cell? ⟨b, 3, none⟩ = some (.int .i64 e)) (first | exact hD | assumption | exact keepB4 hbW (by assumption) (by assumption) | exact keepB4 hbW (by assumption) (below_new _ _))
    (first
      | (go_at_call 188; refine (implNumbersFault_any _ _ l _ ((unhide H).below (sleft' (by assumption))) hl).mono ?_; rintro r w5 ⟨rfl, rfl⟩)
      | (go_at_call 187; refine (pieceHead_any _ _ _ _ _).mono ?_; rintro r w5 ⟨rfl, hb5⟩)
      | (go_at_call 105; refine (implHeadFault_any _ _ _ _ _).mono ?_; rintro r w5 ⟨rfl, hb5⟩)
      | (go_at_call 182; refine (cmpOr2_any _ _ _ _ _ (ints_two_new _ _ _ _)).mono ?_; rintro r w5 ⟨rfl, rfl⟩))
  rename_i hSF
  have HS := hide hSF.1
  clear hSF hD q0 q1 q2 q3
  go_wp2_with fail
  go_ret
  refine ⟨rfl, ?_⟩
  rw [unhide HBE]
  exact below_step (unhide HB0) (unhide HS) (by omega)
end Go.Proofs.YtiopofemelninaaGreat
