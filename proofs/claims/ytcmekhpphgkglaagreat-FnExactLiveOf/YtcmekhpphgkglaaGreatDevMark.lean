/-
  What the laws' own marks on devices answer: numbers are laid into its rows, one behind the other, and read back.
-/
import Derived.Test.YtcmekhpphgkglaaGreatProg
import Derived.Test.YtcmekhpphgkglaaGreatOwnDev
import Derived.WalkKit
import Derived.WalkLawsBesides
import Derived.OwnWalk
namespace Go.Proofs.YtcmekhpphgkglaaGreat
open Go.RowKit

def numsFrom (m : Int) (n : Nat) : List Int := (List.range n).map fun (j : Nat) => m + (j : Int)
def pairsFrom (m : Int) (n : Nat) : List (Int × Int) := (List.range n).map fun (j : Nat) => (m + 2 * (j : Int), m + 2 * (j : Int) + 1)
theorem numsFrom_length (m : Int) (n : Nat) : (numsFrom m n).length = n := by simp [numsFrom]
theorem pairsFrom_length (m : Int) (n : Nat) : (pairsFrom m n).length = n := by simp [pairsFrom]
theorem numsFrom_at (m : Int) (n j : Nat) (h : j < n) : (numsFrom m n)[j]'(by rw [numsFrom_length]; exact h) = m + (j : Int) := by simp [numsFrom]
theorem pairsFrom_at (m : Int) (n j : Nat) (h : j < n) : (pairsFrom m n)[j]'(by rw [pairsFrom_length]; exact h) = (m + 2 * (j : Int), m + 2 * (j : Int) + 1) := by simp [pairsFrom]
theorem numsFrom_succ (m : Int) (n : Nat) : numsFrom m (n + 1) = numsFrom m n ++ [m + (n : Int)] := by simp [numsFrom, List.range_succ]
theorem pairsFrom_succ (m : Int) (n : Nat) : pairsFrom m (n + 1) = pairsFrom m n ++ [(m + 2 * (n : Int), m + 2 * (n : Int) + 1)] := by simp [pairsFrom, List.range_succ]

theorem take_step {ys : List Value} {k : Nat} {v : Value} {l : List Value} (h : ys.take k = l) (hk : k < ys.length) : (ys.set k v).take (k + 1) = l ++ [v] := by
  rw [List.take_succ_eq_append_getElem (by simp; omega), List.take_set_of_le (by omega), h]
  simp

set_option maxHeartbeats 1000000 in
theorem markInt64S_any (v : Value) (n base : Nat) (xs : List Value) (m : Int) (w : World) (how : w.ownsRow base 2 1 v n xs) (hn : n ≤ 1048576) (h0 : 1 ≤ m) (h1 : m ≤ 10000000) :
    Calls Tryz.prog 19 #[v, .int .i64 m] w fun e w' => e = .returned (.int .i64 (m + n)) ∧ w'.ownsRow base 2 1 v n (nums (numsFrom m n)) ∧ Out (fun q => v.ownBlock = some q) w w' := by
  obtain ⟨a, c, rfl, hv⟩ : ∃ a c, v = .slice a n c ∧ (n = 0 ∨ ∃ g, a = some ⟨g, 0, none⟩) := by
    rcases how.2 with ⟨rfl, rfl⟩ | ⟨g, cap, cur, rfl, _⟩
    · exact ⟨none, 0, rfl, .inl rfl⟩
    · exact ⟨_, cap, rfl, .inr ⟨g, rfl⟩⟩
  have hxl : xs.length = n := by have := how.1; omega
  go_enter Tryz.func19, Tryz.ntmps19
  go_wp2
  go_loopw [1, 5] (fun t i wr => ∃ (k : Nat) (ys : List Value), k ≤ n ∧ i = .int .i64 k ∧ t = .int .i64 (m + k) ∧ ys.length = n ∧ Hid (wr.ownsRow base 2 1 (.slice a n c) n ys) ∧ Hid (Out (fun q => (Value.slice a n c).ownBlock = some q) w wr) ∧ Hid (ys.take k = nums (numsFrom m k))) (fun _ i _ => n - (intOf i).toNat)
  case atStart => exact ⟨0, xs, Nat.zero_le _, rfl, by simp, hxl, how, Out.refl _ _, by simp [Hid, numsFrom, nums]⟩
  case round =>
    obtain ⟨k, ys, hk, rfl, rfl, hyl, HO, HU, HY⟩ := hrel
    clear how
    by_cases hlt : k < n
    · obtain ⟨g, rfl⟩ : ∃ g, a = some ⟨g, 0, none⟩ := by
        rcases hv with h | h
        · omega
        · exact h
      have hck := (unhide HO).cellAt k (by omega)
      rw [List.getElem?_eq_getElem (by omega)] at hck
      have hfz := (unhide HO).frozenAt k
      have HO2 := hide ((unhide HO).stored k (.int .i64 (m + (k : Int)))).1
      have HU2 := hide ((unhide HU).setCell (p := ⟨g, k, none⟩) (.inl rfl) (.int .i64 (m + (k : Int))))
      have HY2 : Hid ((ys.set k (.int .i64 (m + (k : Int)))).take (k + 1) = nums (numsFrom m (k + 1))) := by
        rw [Hid, numsFrom_succ, nums_append]
        exact take_step (unhide HY) (by omega)
      clear hv
      go_wp2
      go_roundw
      case rel => exact ⟨k + 1, _, by omega, by go_num, by go_num, by simpa using hyl, HO2, HU2, HY2⟩
      case measure => simp [intOf]; omega
    · have hke : k = n := by omega
      subst hke
      have hys : ys = nums (numsFrom m k) := by
        have := unhide HY
        rwa [List.take_of_length_le (by omega)] at this
      have HYS := hide hys
      clear hys hv
      go_wp2
      go_ret
      exact ⟨rfl, by rw [← unhide HYS]; exact unhide HO, unhide HU⟩
set_option maxHeartbeats 1000000 in
theorem heldInt64S_any (a : Option Addr) (c n : Nat) (m : Int) (w : World) (h : IntsAt w a (numsFrom m n)) (hn : n ≤ 1048576) (h0 : 1 ≤ m) (h1 : m ≤ 10000000) :
    Calls Tryz.prog 44 #[.slice a n c, .int .i64 m] w fun e w' => e = .returned (.int .i64 (m + n)) ∧ w' = w := by
  go_enter Tryz.func44, Tryz.ntmps44
  go_wp2
  go_loop [1, 5] (fun t i => ∃ k : Nat, k ≤ n ∧ i = .int .i64 k ∧ t = .int .i64 (m + k)) (fun _ i => n - (intOf i).toNat)
  case atStart => exact ⟨0, Nat.zero_le _, rfl, by simp⟩
  case round =>
    obtain ⟨k, hk, rfl, rfl⟩ := hrel
    by_cases hlt : k < n
    · obtain ⟨b, o, rfl, hb, hc⟩ := h.at (k := k) (by rw [numsFrom_length]; exact hlt)
      have hck := hc k (by rw [numsFrom_length]; exact hlt)
      rw [numsFrom_at m n k hlt] at hck
      have hq := int_neq_self (m + (k : Int))
      clear hc h
      go_wp2
      go_round
      case rel => exact ⟨k + 1, by omega, by go_num, by go_num⟩
      case measure => simp [intOf]; omega
    · have hke : k = n := by omega
      subst hke
      clear h
      go_wp2
      go_ret
      exact ⟨rfl, rfl⟩

/-- The device with its marks. -/
def markedDev (D : Dev) (m : Int) : Dev := ⟨numsFrom m D.words.length, pairsFrom (m + D.words.length) D.flights.length, pairsFrom (m + D.words.length + 2 * D.flights.length) D.over.length⟩
def markedTo (D : Dev) (m : Int) : Int := m + D.words.length + 2 * D.flights.length + 2 * D.over.length

end Go.Proofs.YtcmekhpphgkglaaGreat
