/-
  What the laws' own marks on devices answer: numbers are laid into its rows, one behind the other, and read back.
-/
import Derived.Test.YtaadbgebcknfkaaProg
import Derived.Test.YtaadbgebcknfkaaOwnDev
import Derived.WalkKit
import Derived.WalkLawsBesides
import Derived.OwnWalk
namespace Go.Proofs.Ytaadbgebcknfkaa
open Go.RowKit

def numsFrom (m : Int) (n : Nat) : List Int := (List.range n).map fun (j : Nat) => m + (j : Int)
def pairsFrom (m : Int) (n : Nat) : List (Int × Int) := (List.range n).map fun (j : Nat) => (m + 2 * (j : Int), m + 2 * (j : Int) + 1)
theorem numsFrom_length (m : Int) (n : Nat) : (numsFrom m n).length = n := by simp [numsFrom]
theorem pairsFrom_length (m : Int) (n : Nat) : (pairsFrom m n).length = n := by simp [pairsFrom]
theorem numsFrom_at (m : Int) (n j : Nat) (h : j < n) : (numsFrom m n)[j]'(by rw [numsFrom_length]; exact h) = m + (j : Int) := by simp [numsFrom]
theorem pairsFrom_at (m : Int) (n j : Nat) (h : j < n) : (pairsFrom m n)[j]'(by rw [pairsFrom_length]; exact h) = (m + 2 * (j : Int), m + 2 * (j : Int) + 1) := by simp [pairsFrom]
theorem numsFrom_succ (m : Int) (n : Nat) : numsFrom m (n + 1) = numsFrom m n ++ [m + (n : Int)] := by simp [numsFrom, List.range_succ]
theorem pairsFrom_succ (m : Int) (n : Nat) : pairsFrom m (n + 1) = pairsFrom m n ++ [(m + 2 * (n : Int), m + 2 * (n : Int) + 1)] := by simp [pairsFrom, List.range_succ]

theorem take_step {ys : List Value} {k : Nat} {v : Value} {l : List Value} (h : ys.take k = l) (hk : k < ys.length) : (ys.set k v).take (k + 1) = l ++ [v] := by
  rw [List.take_succ_eq_append_getElem (by simp; omega), List.take_set_of_le (by omega), h]
  simp

set_option maxHeartbeats 1000000 in
theorem markInt64S_any (v : Value) (n base : Nat) (xs : List Value) (m : Int) (w : World) (how : w.ownsRow base 2 1 v n xs) (hn : n ≤ 1048576) (h0 : 1 ≤ m) (h1 : m ≤ 10000000) :
    Calls Try.prog 75 #[v, .int .i64 m] w fun e w' => e = .returned (.int .i64 (m + n)) ∧ w'.ownsRow base 2 1 v n (nums (numsFrom m n)) ∧ Out (fun q => v.ownBlock = some q) w w' := by
  obtain ⟨a, c, rfl, hv⟩ : ∃ a c, v = .slice a n c ∧ (n = 0 ∨ ∃ g, a = some ⟨g, 0, none⟩) := by
    rcases how.2 with ⟨rfl, rfl⟩ | ⟨g, cap, cur, rfl, _⟩
    · exact ⟨none, 0, rfl, .inl rfl⟩
    · exact ⟨_, cap, rfl, .inr ⟨g, rfl⟩⟩
  have hxl : xs.length = n := by have := how.1; omega
  go_enter Try.func75, Try.ntmps75
  go_wp2
  go_loopw [1, 5] (fun t i wr => ∃ (k : Nat) (ys : List Value), k ≤ n ∧ i = .int .i64 k ∧ t = .int .i64 (m + k) ∧ ys.length = n ∧ Hid (wr.ownsRow base 2 1 (.slice a n c) n ys) ∧ Hid (Out (fun q => (Value.slice a n c).ownBlock = some q) w wr) ∧ Hid (ys.take k = nums (numsFrom m k))) (fun _ i _ => n - (intOf i).toNat)
  case atStart => exact ⟨0, xs, Nat.zero_le _, rfl, by simp, hxl, how, Out.refl _ _, by simp [Hid, numsFrom, nums]⟩
  case round =>
    obtain ⟨k, ys, hk, rfl, rfl, hyl, HO, HU, HY⟩ := hrel
    clear how
    by_cases hlt : k < n
    · obtain ⟨g, rfl⟩ : ∃ g, a = some ⟨g, 0, none⟩ := by
        rcases hv with h | h
        · omega
        · exact h
      have hck := (unhide HO).cellAt k (by omega)
      rw [List.getElem?_eq_getElem (by omega)] at hck
      have hfz := (unhide HO).frozenAt k
      have HO2 := hide ((unhide HO).stored k (.int .i64 (m + (k : Int)))).1
      have HU2 := hide ((unhide HU).setCell (p := ⟨g, k, none⟩) (.inl rfl) (.int .i64 (m + (k : Int))))
      have HY2 : Hid ((ys.set k (.int .i64 (m + (k : Int)))).take (k + 1) = nums (numsFrom m (k + 1))) := by
        rw [Hid, numsFrom_succ, nums_append]
        exact take_step (unhide HY) (by omega)
      clear hv
      go_wp2
      go_roundw
      case rel => exact ⟨k + 1, _, by omega, by go_num, by go_num, by simpa using hyl, HO2, HU2, HY2⟩
      case measure => simp [intOf]; omega
    · have hke : k = n := by omega
      subst hke
      have hys : ys = nums (numsFrom m k) := by
        have := unhide HY
        rwa [List.take_of_length_le (by omega)] at this
      have HYS := hide hys
      clear hys hv
      go_wp2
      go_ret
      exact ⟨rfl, by rw [← unhide HYS]; exact unhide HO, unhide HU⟩
set_option maxHeartbeats 1000000 in
theorem markCellS_any (v : Value) (n base : Nat) (xs : List Value) (m : Int) (w : World) (how : w.ownsRow base 192 2 v n xs) (hn : n ≤ 1048576) (h0 : 1 ≤ m) (h1 : m ≤ 10000000) :
    Calls Try.prog 106 #[v, .int .i64 m] w fun e w' => e = .returned (.int .i64 (m + 2 * n)) ∧ w'.ownsRow base 192 2 v n (prs (pairsFrom m n)) ∧ Out (fun q => v.ownBlock = some q) w w' := by
  obtain ⟨a, c, rfl, hv⟩ : ∃ a c, v = .slice a n c ∧ (n = 0 ∨ ∃ g, a = some ⟨g, 0, none⟩) := by
    rcases how.2 with ⟨rfl, rfl⟩ | ⟨g, cap, cur, rfl, _⟩
    · exact ⟨none, 0, rfl, .inl rfl⟩
    · exact ⟨_, cap, rfl, .inr ⟨g, rfl⟩⟩
  have hxl : xs.length = n * 2 := how.1
  go_enter Try.func106, Try.ntmps106
  go_wp2
  go_loopw [1, 5] (fun t i wr => ∃ (k : Nat) (ys : List Value), k ≤ n ∧ i = .int .i64 k ∧ t = .int .i64 (m + 2 * k) ∧ ys.length = n * 2 ∧ Hid (wr.ownsRow base 192 2 (.slice a n c) n ys) ∧ Hid (Out (fun q => (Value.slice a n c).ownBlock = some q) w wr) ∧ Hid (ys.take (k * 2) = prs (pairsFrom m k))) (fun _ i _ => n - (intOf i).toNat)
  case atStart => exact ⟨0, xs, Nat.zero_le _, rfl, by simp, hxl, how, Out.refl _ _, by simp [Hid, pairsFrom, prs]⟩
  case round =>
    obtain ⟨k, ys, hk, rfl, rfl, hyl, HO, HU, HY⟩ := hrel
    clear how
    by_cases hlt : k < n
    · obtain ⟨g, rfl⟩ : ∃ g, a = some ⟨g, 0, none⟩ := by
        rcases hv with h | h
        · omega
        · exact h
      have hck := (unhide HO).cellAt (k * 2) (by omega)
      have hcj := (unhide HO).cellAt (k * 2 + 1) (by omega)
      rw [List.getElem?_eq_getElem (by omega)] at hck hcj
      have hfz := (unhide HO).frozenAt (k * 2)
      have hfj := (unhide HO).frozenAt (k * 2 + 1)
      have HO2 := hide (((unhide HO).stored (k * 2) (.int .i64 (m + 2 * (k : Int)))).1.stored (k * 2 + 1) (.int .i64 (m + 2 * (k : Int) + 1))).1
      have HU2 := hide (((unhide HU).setCell (p := ⟨g, k * 2, none⟩) (.inl rfl) (.int .i64 (m + 2 * (k : Int)))).setCell (p := ⟨g, k * 2 + 1, none⟩) (.inl rfl) (.int .i64 (m + 2 * (k : Int) + 1)))
      have HY2 : Hid (((ys.set (k * 2) (.int .i64 (m + 2 * (k : Int)))).set (k * 2 + 1) (.int .i64 (m + 2 * (k : Int) + 1))).take ((k + 1) * 2) = prs (pairsFrom m (k + 1))) := by
        have h1 := take_step (v := .int .i64 (m + 2 * (k : Int))) (unhide HY) (by omega)
        have h2 := take_step (v := .int .i64 (m + 2 * (k : Int) + 1)) h1 (by simp; omega)
        rw [Hid, pairsFrom_succ, prs_append, prs_one, show (k + 1) * 2 = k * 2 + 1 + 1 by omega, h2]
        simp
      have hyl2 : ((ys.set (k * 2) (.int .i64 (m + 2 * (k : Int)))).set (k * 2 + 1) (.int .i64 (m + 2 * (k : Int) + 1))).length = n * 2 := by simpa using hyl
      clear hv
      go_wp2
      go_roundw
      case rel => exact ⟨k + 1, _, by omega, by go_num, by go_num, hyl2, HO2, HU2, HY2⟩
      case measure => simp [intOf]; omega
    · have hke : k = n := by omega
      subst hke
      have hys : ys = prs (pairsFrom m k) := by
        have := unhide HY
        rwa [List.take_of_length_le (by omega)] at this
      have HYS := hide hys
      clear hys hv
      go_wp2
      go_ret
      exact ⟨rfl, by rw [← unhide HYS]; exact unhide HO, unhide HU⟩
set_option maxHeartbeats 1000000 in
theorem heldInt64S_any (a : Option Addr) (c n : Nat) (m : Int) (w : World) (h : IntsAt w a (numsFrom m n)) (hn : n ≤ 1048576) (h0 : 1 ≤ m) (h1 : m ≤ 10000000) :
    Calls Try.prog 77 #[.slice a n c, .int .i64 m] w fun e w' => e = .returned (.int .i64 (m + n)) ∧ w' = w := by
  go_enter Try.func77, Try.ntmps77
  go_wp2
  go_loop [1, 5] (fun t i => ∃ k : Nat, k ≤ n ∧ i = .int .i64 k ∧ t = .int .i64 (m + k)) (fun _ i => n - (intOf i).toNat)
  case atStart => exact ⟨0, Nat.zero_le _, rfl, by simp⟩
  case round =>
    obtain ⟨k, hk, rfl, rfl⟩ := hrel
    by_cases hlt : k < n
    · obtain ⟨b, o, rfl, hb, hc⟩ := h.at (k := k) (by rw [numsFrom_length]; exact hlt)
      have hck := hc k (by rw [numsFrom_length]; exact hlt)
      rw [numsFrom_at m n k hlt] at hck
      have hq := int_neq_self (m + (k : Int))
      clear hc h
      go_wp2
      go_round
      case rel => exact ⟨k + 1, by omega, by go_num, by go_num⟩
      case measure => simp [intOf]; omega
    · have hke : k = n := by omega
      subst hke
      clear h
      go_wp2
      go_ret
      exact ⟨rfl, rfl⟩

/-- The device with its marks. -/
def markedDev (D : Dev) (m : Int) : Dev := ⟨numsFrom m D.words.length, pairsFrom (m + D.words.length) D.flights.length, pairsFrom (m + D.words.length + 2 * D.flights.length) D.over.length⟩
def markedTo (D : Dev) (m : Int) : Int := m + D.words.length + 2 * D.flights.length + 2 * D.over.length

set_option maxHeartbeats 1000000 in
theorem markDevice_any (v1 v2 v3 : Value) (base : Nat) (D : Dev) (m : Int) (w : World) (h : OwnDev w base v1 v2 v3 D) (n1 : D.words.length ≤ 1048576) (n2 : D.flights.length ≤ 1048576) (n3 : D.over.length ≤ 1048576) (h0 : 1 ≤ m) (h1 : m ≤ 10) :
    Calls Try.prog 72 #[.agg #[v1, v2, v3], .int .i64 m] w fun e w' => e = .returned (.int .i64 (markedTo D m)) ∧ OwnDev w' base v1 v2 v3 (markedDev D m) ∧ Out (Own1 v1 v2 v3) w w' := by
  have H := hide h
  obtain ⟨a1, c1, a2, c2, a3, c3, e1, e2, e3, -⟩ := h.form
  subst e1 e2 e3
  clear h
  go_enter Try.func72, Try.ntmps72
  go_wp2_with fail
  obtain ⟨W, hW, z1, b, x⟩ := boxes1 w [.slice a1 D.words.length c1, .slice a2 D.flights.length c2, .slice a3 D.over.length c3] 66
  rw [← hW]
  clear hW
  have H1 := hide ((unhide H).below (unhide b))
  have U1 : Hid (Out (Own1 (.slice a1 D.words.length c1) (.slice a2 D.flights.length c2) (.slice a3 D.over.length c3)) w W) := Out.ofBelow (unhide b)
  have hlt : ∀ q, Own1 (.slice a1 D.words.length c1) (.slice a2 D.flights.length c2) (.slice a3 D.over.length c3) q → q < w.heap.size := fun q hq => ((unhide H).lt hq).2
  have HL := hide hlt
  clear H b hlt
  refine (markInt64S_any _ _ base _ m _ (unhide H1).o1 n1 h0 (by omega)).mono ?_
  rintro e w2 ⟨rfl, p2, o2⟩
  have P2 := hide p2
  have Q2 := hide (o2.own (unhide H1).o2 (fun q hq h => (unhide H1).n12 q h hq))
  have R2 := hide (o2.own (unhide H1).o3 (fun q hq h => (unhide H1).n13 q h hq))
  have U2 := hide ((unhide U1).trans o2 (fun q _ h => .inl h))
  have z2 : W.heap.size ≤ w2.heap.size := o2.size
  have X2 := hide ((unhide x).out o2 (fun h => by have := unhide HL _ (.inl h); omega))
  have q1 := (unhide X2).cell 1
  simp at q1
  clear p2 o2 x U1
  go_wp2_with fail
  refine (markCellS_any _ _ base _ (m + D.words.length) _ (unhide Q2) n2 (by omega) (by omega)).mono ?_
  rintro e w3 ⟨rfl, p3, o3⟩
  have Q3 := hide p3
  have P3 := hide (o3.own (unhide P2) (fun q hq h => (unhide H1).n12 q hq h))
  have R3 := hide (o3.own (unhide R2) (fun q hq h => (unhide H1).n23 q h hq))
  have U3 := hide ((unhide U2).trans o3 (fun q _ h => .inr (.inl h)))
  have z3 : w2.heap.size ≤ w3.heap.size := o3.size
  have X3 := hide ((unhide X2).out o3 (fun h => by have := unhide HL _ (.inr (.inl h)); omega))
  have q2 := (unhide X3).cell 2
  simp at q2
  clear p3 o3 U2 P2 Q2 R2 X2 q1
  go_wp2_with fail
  refine (markCellS_any _ _ base _ (m + D.words.length + 2 * D.flights.length) _ (unhide R3) n3 (by omega) (by omega)).mono ?_
  rintro e w4 ⟨rfl, p4, o4⟩
  have R4 := hide p4
  have P4 := hide (o4.own (unhide P3) (fun q hq h => (unhide H1).n13 q hq h))
  have Q4 := hide (o4.own (unhide Q3) (fun q hq h => (unhide H1).n23 q hq h))
  have U4 := hide ((unhide U3).trans o4 (fun q _ h => .inr (.inr h)))
  clear p4 o4 U3 P3 Q3 R3 X3 q2
  go_wp2_with fail
  go_ret
  refine ⟨rfl, ⟨?_, ?_, ?_, (unhide H1).n12, (unhide H1).n13, (unhide H1).n23⟩, unhide U4⟩
  · have := unhide P4; simpa [markedDev, numsFrom_length] using this
  · have := unhide Q4; simpa [markedDev, pairsFrom_length] using this
  · have := unhide R4; simpa [markedDev, pairsFrom_length] using this
end Go.Proofs.Ytaadbgebcknfkaa
