/-
  What the laws' own comparisons answer at two devices that are the same: true.
-/
import Derived.Test.YtiopofemelninaaDoorProg
import Derived.Test.YtiopofemelninaaDoorOwnDev
import Derived.WalkKit
import Derived.WalkLawsBesides
import Derived.BigQuiet
import Derived.Deep.QuietTactic
import Derived.Deep.RegionHeld3
namespace Go.Proofs.YtiopofemelninaaDoor
open Go.RowKit

set_option maxHeartbeats 1000000 in
theorem eqInt64S_same (a b : Option Addr) (c d : Nat) (l : List Int) (w : World) (h : IntsAt w a l) (h2 : IntsAt w b l) (hn : l.length ≤ 1048576) :
    Calls Tryd.prog 37 #[.slice a l.length c, .slice b l.length d] w fun e w' => e = .returned (.bool true) ∧ Below w.heap.size w w' := by
  have hne := int_neq_self (l.length : Int)
  go_enter Tryd.func37, Tryd.ntmps37
  go_wp2
  go_loopw [5] (fun i wr => ∃ (k n : Nat), k ≤ l.length ∧ i = .int .i64 k ∧ wr = w.drewN n) (fun i _ => l.length - (intOf i).toNat)
  case atStart => exact ⟨0, 0, Nat.zero_le _, rfl, rfl⟩
  case round =>
    obtain ⟨k, n, hk, rfl, rfl⟩ := hrel
    by_cases hlt : k < l.length
    · obtain ⟨b1, o1, rfl, _, hc1⟩ := h.at hlt
      obtain ⟨b2, o2, rfl, _, hc2⟩ := h2.at hlt
      have hk1 := hc1 k hlt
      have hk2 := hc2 k hlt
      have hlt' : (k : Int) < l.length := by omega
      have hq := int_neq_self l[k]
      clear hc1 hc2 h h2
      go_wp2
      go_quiet (fail)
      go_wp2
      exact ⟨⟨k + 1, _, by omega, by go_num, rfl⟩, by simp [intOf]; omega⟩
    · clear h h2
      go_wp2
      go_ret
      exact ⟨rfl, below_drewN (Below.refl _ _) _⟩
theorem keepE {W0 w' w1 : World} {b o b2 o2 : Nat} {v v1 v2 v3 : Value} (h3 : b < W0.heap.size) (h4 : b2 < W0.heap.size) (hS : Below W0.heap.size W0 w' ∧ w'.cell? ⟨b, o, none⟩ = some v ∧ w'.cell? ⟨b, o + 1, none⟩ = some v1 ∧ w'.cell? ⟨b2, o2, none⟩ = some v2 ∧ w'.cell? ⟨b2, o2 + 1, none⟩ = some v3) (hb : Below w'.heap.size w' w1) :
    Below W0.heap.size W0 w1 ∧ w1.cell? ⟨b, o, none⟩ = some v ∧ w1.cell? ⟨b, o + 1, none⟩ = some v1 ∧ w1.cell? ⟨b2, o2, none⟩ = some v2 ∧ w1.cell? ⟨b2, o2 + 1, none⟩ = some v3 := by
  obtain ⟨h, c1, c2, c3, c4⟩ := hS
  have hz := h.size
  exact ⟨h.trans (hb.mono h.size), ((bcell hb).1 _ _ (by omega)).trans c1, ((bcell hb).1 _ _ (by omega)).trans c2, ((bcell hb).1 _ _ (by omega)).trans c3, ((bcell hb).1 _ _ (by omega)).trans c4⟩
end Go.Proofs.YtiopofemelninaaDoor
