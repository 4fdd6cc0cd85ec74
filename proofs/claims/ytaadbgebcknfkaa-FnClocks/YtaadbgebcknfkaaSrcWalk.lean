/-
  What the laws' draws answer: a number below the bound; one of what is offered.
-/
import Derived.Test.YtaadbgebcknfkaaProg
import Derived.Test.YtaadbgebcknfkaaSrcMath
import Derived.WalkKit
import Derived.WalkLawsBesides
import Derived.BigQuiet
import Derived.Deep.QuietTactic
namespace Go.Proofs.Ytaadbgebcknfkaa
open Go.RowKit

set_option maxHeartbeats 2000000 in
theorem l1Next_any (s : Nat) (a : Option Addr) (n c p : Nat) (m : Int) (w : World) (h : SrcAt w 132 s a n c p) (hp : p ≤ 1000000) (hm1 : 1 ≤ m) (hm2 : m ≤ 1000000000000) :
    Calls Try.prog 34 #[.pointer (some ⟨s, 0, none⟩), .int .i64 m] w fun e w' => ∃ v : Int, e = .returned (.int .i64 v) ∧ 0 ≤ v ∧ v < m ∧ ∃ k : Nat, w' = (w.setCell ⟨s, 1, none⟩ (.int .i64 ((p : Int) + 1))).drewN k := by
  obtain ⟨h1, hn, h2⟩ := h
  have s0 : w.cell? ⟨s, 0, none⟩ = some (.slice a n c) := by simp [World.cell?, h1]
  have s1 : w.cell? ⟨s, 1, none⟩ = some (.int .i64 p) := by simp [World.cell?, h1]
  have sf : w.frozen? ⟨s, 1, none⟩ = false := by simp [World.frozen?, h1]
  have hlt : s < w.heap.size := (Array.getElem?_eq_some_iff.1 h1).1
  have hm0 : (m == 0) = false := by simp; omega
  have hm3 : ¬ m < 1 := by omega
  clear h1
  by_cases hn0 : n = 0
  · subst hn0
    clear h2
    have r1 : 0 ≤ (p : Int) * 7 % m := Int.emod_nonneg _ (by omega)
    have r2 : (p : Int) * 7 % m < m := Int.emod_lt_of_pos _ (by omega)
    go_enter Try.func34, Try.ntmps34
    go_wp2
    go_ret
    exact ⟨_, rfl, r1, r2, 0, rfl⟩
  rcases h2 with h2 | ⟨b, o, rfl, hb, hc⟩
  · exact absurd h2 hn0
  have hn1 : (1 : Int) ≤ n := by omega
  have hnz : ((n : Int) == 0) = false := by simp; omega
  have idx : ∀ q : Int, 0 ≤ q → 0 ≤ q % (n : Int) ∧ q % (n : Int) < n ∧ 0 ≤ q / (n : Int) ∧ q / (n : Int) ≤ q ∧ ∃ z : Int, 0 ≤ z ∧ z ≤ 255 ∧ ∀ u, (w.setCell ⟨s, 1, none⟩ u).cell? ⟨b, o + (q % (n : Int)).toNat, none⟩ = some (.int .u8 z) := by
    intro q hq
    have e1 : 0 ≤ q % (n : Int) := Int.emod_nonneg _ (by omega)
    have e2 : q % (n : Int) < n := Int.emod_lt_of_pos _ (by omega)
    have e3 : 0 ≤ q / (n : Int) := Int.ediv_nonneg hq (by omega)
    have e4 : q / (n : Int) ≤ q := Int.ediv_le_self _ hq
    obtain ⟨z, z0, z1, hz⟩ := hc (q % (n : Int)).toNat (by omega)
    exact ⟨e1, e2, e3, e4, z, z0, z1, fun u => (World.cell?_of_block (a := ⟨b, o + (q % (n : Int)).toNat, none⟩) (Below.heap_setCell w _ _ b (by show b ≠ s; omega))).trans hz⟩
  obtain ⟨i0, i1, i2, i3, z, z0, z1, hz⟩ := idx p (by omega)
  obtain ⟨j0, j1, _, _, y, y0, y1, hy⟩ := idx (p + 1) (by omega)
  obtain ⟨k0, k1, _, _, x, x0, x1, hx⟩ := idx (p + 2) (by omega)
  have q3 : (p : Int) / (n : Int) ≤ 1000000 := by omega
  have em : ∀ t : Int, 0 ≤ t → 0 ≤ t % m ∧ t % m < m := fun t _ => ⟨Int.emod_nonneg _ (by omega), Int.emod_lt_of_pos _ (by omega)⟩
  have EM := hide em
  have t1 : (p : Int).tmod (n : Int) = (p : Int) % (n : Int) := Int.tmod_eq_emod_of_nonneg (by omega)
  have t2 : ((p : Int) + 1).tmod (n : Int) = ((p : Int) + 1) % (n : Int) := Int.tmod_eq_emod_of_nonneg (by omega)
  have t3 : ((p : Int) + 2).tmod (n : Int) = ((p : Int) + 2) % (n : Int) := Int.tmod_eq_emod_of_nonneg (by omega)
  have d1 : (p : Int).tdiv (n : Int) = (p : Int) / (n : Int) := Int.tdiv_eq_ediv_of_nonneg (by omega)
  have wz : IntKind.i64.wrap z = z := by rw [IntKind.wrap_i64]; omega
  have wy : IntKind.i64.wrap y = y := by rw [IntKind.wrap_i64]; omega
  have wx : IntKind.i64.wrap x = x := by rw [IntKind.wrap_i64]; omega
  have wd : IntKind.i64.wrap ((p : Int) / (n : Int)) = ((p : Int) / (n : Int)) := by rw [IntKind.wrap_i64]; omega
  have wm : IntKind.i64.wrap ((p : Int) / (n : Int) * 37) = ((p : Int) / (n : Int) * 37) := by rw [IntKind.wrap_i64]; omega
  have wv : IntKind.i64.wrap (z + (p : Int) / (n : Int) * 37) = (z + (p : Int) / (n : Int) * 37) := by rw [IntKind.wrap_i64]; omega
  have wa : IntKind.i64.wrap ((z + (p : Int) / (n : Int) * 37) * 251) = ((z + (p : Int) / (n : Int) * 37) * 251) := by rw [IntKind.wrap_i64]; omega
  have wb : IntKind.i64.wrap (y * 13) = (y * 13) := by rw [IntKind.wrap_i64]; omega
  have wc : IntKind.i64.wrap ((z + (p : Int) / (n : Int) * 37) * 251 + y * 13) = ((z + (p : Int) / (n : Int) * 37) * 251 + y * 13) := by rw [IntKind.wrap_i64]; omega
  have we : IntKind.i64.wrap ((z + (p : Int) / (n : Int) * 37) * 251 + y * 13 + (p : Int)) = ((z + (p : Int) / (n : Int) * 37) * 251 + y * 13 + (p : Int)) := by rw [IntKind.wrap_i64]; omega
  have wf : IntKind.i64.wrap (((z + (p : Int) / (n : Int) * 37) * 251 + y * 13 + (p : Int)) * 257) = (((z + (p : Int) / (n : Int) * 37) * 251 + y * 13 + (p : Int)) * 257) := by rw [IntKind.wrap_i64]; omega
  have wg : IntKind.i64.wrap (((z + (p : Int) / (n : Int) * 37) * 251 + y * 13 + (p : Int)) * 257 + x) = (((z + (p : Int) / (n : Int) * 37) * 251 + y * 13 + (p : Int)) * 257 + x) := by rw [IntKind.wrap_i64]; omega
  have wp1 : IntKind.i64.wrap ((p : Int) + 1) = ((p : Int) + 1) := by rw [IntKind.wrap_i64]; omega
  have wp2 : IntKind.i64.wrap ((p : Int) + 2) = ((p : Int) + 2) := by rw [IntKind.wrap_i64]; omega
  have wr1 : IntKind.i64.wrap ((p : Int) % (n : Int)) = ((p : Int) % (n : Int)) := by rw [IntKind.wrap_i64]; omega
  have wr2 : IntKind.i64.wrap (((p : Int) + 1) % (n : Int)) = (((p : Int) + 1) % (n : Int)) := by rw [IntKind.wrap_i64]; omega
  have wr3 : IntKind.i64.wrap (((p : Int) + 2) % (n : Int)) = (((p : Int) + 2) % (n : Int)) := by rw [IntKind.wrap_i64]; omega
  clear idx hc em i3
  by_cases h200 : 200 < m
  · by_cases h6 : 60000 < m
    · go_enter Try.func34, Try.ntmps34
      go_wp2
      go_quiet (fail)
      go_wp2
      go_quiet (fail)
      go_wp2
      go_quiet (fail)
      go_wp2
      go_ret
      exact ⟨_, rfl, (unhide EM _ (by omega)).1, (unhide EM _ (by omega)).2, _, rfl⟩
    · go_enter Try.func34, Try.ntmps34
      go_wp2
      go_quiet (fail)
      go_wp2
      go_quiet (fail)
      go_wp2
      go_ret
      exact ⟨_, rfl, (unhide EM _ (by omega)).1, (unhide EM _ (by omega)).2, _, rfl⟩
  · have h6 : ¬ 60000 < m := by omega
    go_enter Try.func34, Try.ntmps34
    go_wp2
    go_quiet (fail)
    go_wp2
    go_ret
    exact ⟨_, rfl, (unhide EM _ (by omega)).1, (unhide EM _ (by omega)).2, _, rfl⟩
end Go.Proofs.Ytaadbgebcknfkaa
