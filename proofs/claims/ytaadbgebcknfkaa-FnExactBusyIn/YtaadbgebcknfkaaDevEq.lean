/-
  What the laws' own comparisons answer at two devices that are the same: true.
-/
import Derived.Test.YtaadbgebcknfkaaProg
import Derived.Test.YtaadbgebcknfkaaOwnDev
import Derived.WalkKit
import Derived.WalkLawsBesides
import Derived.BigQuiet
import Derived.Deep.QuietTactic
import Derived.Deep.RegionHeld3
namespace Go.Proofs.Ytaadbgebcknfkaa
open Go.RowKit

set_option maxHeartbeats 1000000 in
theorem eqInt64S_same (a b : Option Addr) (c d : Nat) (l : List Int) (w : World) (h : IntsAt w a l) (h2 : IntsAt w b l) (hn : l.length ≤ 1048576) :
    Calls Try.prog 67 #[.slice a l.length c, .slice b l.length d] w fun e w' => e = .returned (.bool true) ∧ Below w.heap.size w w' := by
  have hne := int_neq_self (l.length : Int)
  go_enter Try.func67, Try.ntmps67
  go_wp2
  go_loopw [5] (fun i wr => ∃ (k n : Nat), k ≤ l.length ∧ i = .int .i64 k ∧ wr = w.drewN n) (fun i _ => l.length - (intOf i).toNat)
  case atStart => exact ⟨0, 0, Nat.zero_le _, rfl, rfl⟩
  case round =>
    obtain ⟨k, n, hk, rfl, rfl⟩ := hrel
    by_cases hlt : k < l.length
    · obtain ⟨b1, o1, rfl, _, hc1⟩ := h.at hlt
      obtain ⟨b2, o2, rfl, _, hc2⟩ := h2.at hlt
      have hk1 := hc1 k hlt
      have hk2 := hc2 k hlt
      have hlt' : (k : Int) < l.length := by omega
      have hq := int_neq_self l[k]
      clear hc1 hc2 h h2
      go_wp2
      go_quiet (fail)
      go_wp2
      exact ⟨⟨k + 1, _, by omega, by go_num, rfl⟩, by simp [intOf]; omega⟩
    · clear h h2
      go_wp2
      go_ret
      exact ⟨rfl, below_drewN (Below.refl _ _) _⟩
set_option maxHeartbeats 1000000 in
theorem eqCell_same (x y : Int) (w : World) :
    Calls Try.prog 127 #[.agg #[.int .i64 x, .int .i64 y], .agg #[.int .i64 x, .int .i64 y]] w fun e w' => e = .returned (.bool true) ∧ Below w.heap.size w w' := by
  have h1 := int_neq_self x
  have h2 := int_neq_self y
  go_enter Try.func127, Try.ntmps127
  go_wp2
  go_ret
  refine ⟨rfl, ?_⟩
  repeat (first | exact Below.refl _ _ | (with_reducible refine Below.alloc ?_ ?_ _; rotate_left; first | omega | (simp <;> omega)) | (with_reducible refine below_drewN ?_ _) | (with_reducible refine Below.drew ?_))
theorem keepE {W0 w' w1 : World} {b o b2 o2 : Nat} {v v1 v2 v3 : Value} (h3 : b < W0.heap.size) (h4 : b2 < W0.heap.size) (hS : Below W0.heap.size W0 w' ∧ w'.cell? ⟨b, o, none⟩ = some v ∧ w'.cell? ⟨b, o + 1, none⟩ = some v1 ∧ w'.cell? ⟨b2, o2, none⟩ = some v2 ∧ w'.cell? ⟨b2, o2 + 1, none⟩ = some v3) (hb : Below w'.heap.size w' w1) :
    Below W0.heap.size W0 w1 ∧ w1.cell? ⟨b, o, none⟩ = some v ∧ w1.cell? ⟨b, o + 1, none⟩ = some v1 ∧ w1.cell? ⟨b2, o2, none⟩ = some v2 ∧ w1.cell? ⟨b2, o2 + 1, none⟩ = some v3 := by
  obtain ⟨h, c1, c2, c3, c4⟩ := hS
  have hz := h.size
  exact ⟨h.trans (hb.mono h.size), ((bcell hb).1 _ _ (by omega)).trans c1, ((bcell hb).1 _ _ (by omega)).trans c2, ((bcell hb).1 _ _ (by omega)).trans c3, ((bcell hb).1 _ _ (by omega)).trans c4⟩
set_option maxHeartbeats 1000000 in
theorem eqCellS_same (a b : Option Addr) (c d : Nat) (l : List (Int × Int)) (w : World) (h : PairsAt w a l) (h2 : PairsAt w b l) (hn : l.length ≤ 1048576) :
    Calls Try.prog 103 #[.slice a l.length c, .slice b l.length d] w fun e w' => e = .returned (.bool true) ∧ Below w.heap.size w w' := by
  have hne := int_neq_self (l.length : Int)
  go_enter Try.func103, Try.ntmps103
  go_wp2
  go_loopw [5] (fun i wr => ∃ (k : Nat), k ≤ l.length ∧ i = .int .i64 k ∧ Below w.heap.size w wr) (fun i _ => l.length - (intOf i).toNat)
  case atStart => exact ⟨0, Nat.zero_le _, rfl, Below.refl _ _⟩
  case round =>
    obtain ⟨k, hk, rfl, hbw⟩ := hrel
    by_cases hlt : k < l.length
    · obtain ⟨b1, o1, rfl, m1, hc1⟩ := h.at hlt
      obtain ⟨b2, o2, rfl, m2, hc2⟩ := h2.at hlt
      have hwz := hbw.size
      have hk1 := ((bcell hbw).1 b1 (o1 + k * 2) m1).trans (hc1 k hlt).1
      have hj1 := ((bcell hbw).1 b1 (o1 + k * 2 + 1) m1).trans (hc1 k hlt).2
      have hk2 := ((bcell hbw).1 b2 (o2 + k * 2) m2).trans (hc2 k hlt).1
      have hj2 := ((bcell hbw).1 b2 (o2 + k * 2 + 1) m2).trans (hc2 k hlt).2
      have hlt' : (k : Int) < l.length := by omega
      have HB := hide hbw
      clear hc1 hc2 h h2 hbw
      have hD : (fun w' => Below wr.heap.size wr w' ∧ w'.cell? ⟨b1, o1 + k * 2, none⟩ = some (.int .i64 l[k].1) ∧ w'.cell? ⟨b1, o1 + k * 2 + 1, none⟩ = some (.int .i64 l[k].2) ∧ w'.cell? ⟨b2, o2 + k * 2, none⟩ = some (.int .i64 l[k].1) ∧ w'.cell? ⟨b2, o2 + k * 2 + 1, none⟩ = some (.int .i64 l[k].2)) wr.drew := ⟨(Below.refl _ _).drew, hk1, hj1, hk2, hj2⟩
      go_wp2_with fail
      go_region_held3 (fun w' => Below wr.heap.size wr w' ∧ w'.cell? ⟨b1, o1 + k * 2, none⟩ = some (.int .i64 l[k].1) ∧ w'.cell? ⟨b1, o1 + k * 2 + 1, none⟩ = some (.int .i64 l[k].2) ∧ w'.cell? ⟨b2, o2 + k * 2, none⟩ = some (.int .i64 l[k].1) ∧ w'.cell? ⟨b2, o2 + k * 2 + 1, none⟩ = some (.int .i64 l[k].2)) (first | exact hD | exact keepE (by omega) (by omega) (by assumption) (by assumption))
        (first | (go_at_call 127; refine (eqCell_same _ _ _).mono ?_; rintro e w2 ⟨rfl, hb2⟩))
      go_wp2_with fail
      rename_i hSF
      exact ⟨⟨k + 1, by omega, by go_num, (unhide HB).trans (hSF.1.mono hwz)⟩, by simp [intOf]; omega⟩
    · have HB := hide hbw
      clear h h2 hbw
      go_wp2
      go_ret
      exact ⟨rfl, unhide HB⟩
set_option maxHeartbeats 1000000 in
theorem eqDevice_same (a1 a2 a3 b1 b2 b3 : Option Addr) (c1 c2 c3 d1 d2 d3 : Nat) (D : Dev) (w : World) (h : DevAt w a1 a2 a3 D) (h' : DevAt w b1 b2 b3 D) (n1 : D.words.length ≤ 1048576) (n2 : D.flights.length ≤ 1048576) (n3 : D.over.length ≤ 1048576) :
    Calls Try.prog 68 #[.agg #[.slice a1 D.words.length c1, .slice a2 D.flights.length c2, .slice a3 D.over.length c3], .agg #[.slice b1 D.words.length d1, .slice b2 D.flights.length d2, .slice b3 D.over.length d3]] w fun e w' => e = .returned (.bool true) ∧ Below w.heap.size w w' := by
  have H := hide h
  have H' := hide h'
  clear h h'
  go_enter Try.func68, Try.ntmps68
  go_wp2_with fail
  obtain ⟨W, hW, z1, b, x, y⟩ := boxes2 w [.slice a1 D.words.length c1, .slice a2 D.flights.length c2, .slice a3 D.over.length c3] [.slice b1 D.words.length d1, .slice b2 D.flights.length d2, .slice b3 D.over.length d3] 66 66
  rw [← hW]
  clear hW
  refine (eqInt64S_same a1 b1 c1 d1 D.words _ ((unhide H).below (unhide b)).r1 ((unhide H').below (unhide b)).r1 n1).mono ?_
  rintro e w2 ⟨rfl, hb2⟩
  have z2 : W.heap.size ≤ w2.heap.size := hb2.size
  have B2 := hide (below_step (unhide b) hb2 (by omega))
  have x2 := (unhide x).below hb2
  have y2 := (unhide y).below hb2
  have q1 := x2.cell 1
  have q2 := y2.cell 1
  have X2 := hide x2
  have Y2 := hide y2
  simp at q1 q2
  clear hb2 b x y x2 y2
  go_wp2_with fail
  refine (eqCellS_same a2 b2 c2 d2 D.flights _ ((unhide H).below (unhide B2)).r2 ((unhide H').below (unhide B2)).r2 n2).mono ?_
  rintro e w3 ⟨rfl, hb3⟩
  have z3 : w2.heap.size ≤ w3.heap.size := hb3.size
  have B3 := hide (below_step (unhide B2) hb3 (by omega))
  have x3 := (unhide X2).below hb3
  have y3 := (unhide Y2).below hb3
  have q3 := x3.cell 2
  have q4 := y3.cell 2
  simp at q3 q4
  clear hb3 x3 y3 X2 Y2 B2 q1 q2
  go_wp2_with fail
  refine (eqCellS_same a3 b3 c3 d3 D.over _ ((unhide H).below (unhide B3)).r3 ((unhide H').below (unhide B3)).r3 n3).mono ?_
  rintro e w4 ⟨rfl, hb4⟩
  have B4 := hide (below_step (unhide B3) hb4 (by omega))
  clear hb4
  go_wp2_with fail
  go_ret
  exact ⟨rfl, unhide B4⟩
end Go.Proofs.Ytaadbgebcknfkaa
