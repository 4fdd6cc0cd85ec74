/-
  What a number of a word is, and when a word is the decimals of a number (no Go in sight).
-/
import Derived.Test.YtiopofemelninaaDoorDigWalk
import Derived.Lib.ParseIntB
namespace Go.Proofs.YtiopofemelninaaDoor
open Go.RowKit
set_option linter.unusedVariables false

def numAcc (acc : Nat) : List UInt8 → Option Nat
  | [] => some acc
  | c :: r => if 48 ≤ c.toNat ∧ c.toNat ≤ 57 then numAcc (acc * 10 + (c.toNat - 48)) r else none
def numOf (l : List UInt8) : Option Nat := if 1 ≤ l.length ∧ l.length ≤ 6 ∧ ¬ (l[0]? = some 48 ∧ 1 < l.length) then numAcc 0 l else none
theorem numAcc_append : ∀ (m r : List UInt8) (acc : Nat), numAcc acc (m ++ r) = (numAcc acc m).bind fun v => numAcc v r
  | [], r, acc => rfl
  | c :: m, r, acc => by
    show (if _ then numAcc _ (m ++ r) else none) = Option.bind (if _ then _ else none) _
    split
    · exact numAcc_append m r _
    · rfl
theorem numAcc_bound : ∀ (l : List UInt8) (acc n : Nat), numAcc acc l = some n → acc ≤ n ∧ n + 1 ≤ (acc + 1) * 10 ^ l.length
  | [], acc, n, h => by
    cases h
    simp
  | c :: r, acc, n, h => by
    rw [numAcc] at h
    split at h
    · rename_i hc
      obtain ⟨h1, h2⟩ := numAcc_bound r _ n h
      refine ⟨by omega, Nat.le_trans h2 ?_⟩
      rw [List.length_cons, Nat.pow_succ, Nat.mul_comm (10 ^ r.length) 10, ← Nat.mul_assoc]
      exact Nat.mul_le_mul_right _ (by omega)
    · cases h
theorem digB_nat {d : Nat} (h : d < 10) : (digB d).toNat = 48 + d := by
  have := u8_dig' h
  omega
theorem digB_inv {c : UInt8} (h1 : 48 ≤ c.toNat) : digB (c.toNat - 48) = c := by
  unfold digB
  rw [show 48 + (c.toNat - 48) = c.toNat by omega]
  exact UInt8.ofNat_toNat
theorem numAcc_dig (n : Nat) : numAcc 0 (Lib.decDigits n) = some n := by
  induction n using Nat.strongRecOn with
  | ind n ih =>
    by_cases h : n < 10
    · rw [dig_one h]
      show (if 48 ≤ (digB n).toNat ∧ (digB n).toNat ≤ 57 then some (0 * 10 + ((digB n).toNat - 48)) else none) = _
      rw [digB_nat h, if_pos (by omega)]
      congr 1
      omega
    · rw [dig_more h, numAcc_append, ih (n / 10) (by omega)]
      show (if 48 ≤ (digB (n % 10)).toNat ∧ (digB (n % 10)).toNat ≤ 57 then some (n / 10 * 10 + ((digB (n % 10)).toNat - 48)) else none) = _
      rw [digB_nat (by omega), if_pos (by omega)]
      congr 1
      omega
theorem dig_ne (n : Nat) : Lib.decDigits n ≠ [] := by
  by_cases h : n < 10
  · rw [dig_one h]; simp
  · rw [dig_more h]; simp
theorem dig_head (n : Nat) : 1 ≤ n → (Lib.decDigits n)[0]? ≠ some 48 := by
  induction n using Nat.strongRecOn with
  | ind n ih =>
    intro h1
    by_cases h : n < 10
    · rw [dig_one h]
      intro e
      have e2 : digB n = 48 := by simpa using e
      have := digB_nat h
      rw [e2] at this
      have h48 : (48 : UInt8).toNat = 48 := rfl
      omega
    · rw [dig_more h, List.getElem?_append_left (List.length_pos_iff.2 (dig_ne _))]
      exact ih (n / 10) (by omega) (by omega)
theorem dig_short : ∀ (k n : Nat), n < 10 ^ (k + 1) → (Lib.decDigits n).length ≤ k + 1
  | 0, n, h => by
    rw [dig_one (by simpa using h)]
    simp
  | k + 1, n, h => by
    by_cases h10 : n < 10
    · rw [dig_one h10]; simp
    · rw [dig_more h10, List.length_append, List.length_singleton]
      have := dig_short k (n / 10) (by rw [Nat.pow_succ] at h; omega)
      omega
theorem acc_dig0 : ∀ (k : Nat) (l : List UInt8), l.length = k → ∀ n, l ≠ [] → numAcc 0 l = some n → (l[0]? ≠ some 48 ∨ l.length = 1) → Lib.decDigits n = l ∧ (l[0]? ≠ some 48 → 1 ≤ n) := by
  intro k
  induction k with
  | zero => intro l hk n h; exact absurd (List.length_eq_zero_iff.1 hk) h
  | succ k ih0 =>
    intro l hk n hl0 hn hz
    obtain ⟨m, c, rfl⟩ : ∃ m c, l = m ++ [c] := ⟨l.dropLast, l.getLast hl0, (List.dropLast_concat_getLast hl0).symm⟩
    have ih := ih0 m (by rw [List.length_append, List.length_singleton] at hk; omega)
    rw [numAcc_append] at hn
    cases hm : numAcc 0 m with
    | none => rw [hm] at hn; cases hn
    | some v =>
      rw [hm] at hn
      have hn2 : (if 48 ≤ c.toNat ∧ c.toNat ≤ 57 then some (v * 10 + (c.toNat - 48)) else none) = some n := hn
      split at hn2
      · rename_i hc
        injection hn2 with hn3
        by_cases h0 : m = []
        · subst h0
          cases hm
          have e : n = c.toNat - 48 := by omega
          have hd := digB_inv hc.1
          refine ⟨by rw [dig_one (by omega), e, hd]; rfl, fun hne => ?_⟩
          refine Nat.one_le_iff_ne_zero.2 (fun h0 => hne ?_)
          have : c.toNat = 48 := by omega
          show some c = some 48
          rw [show c = 48 from UInt8.toNat_inj.1 this]
        · have hl : 0 < m.length := List.length_pos_iff.2 h0
          have hz1 : (m ++ [c])[0]? = m[0]? := List.getElem?_append_left hl
          have hz2 : m[0]? ≠ some 48 := by
            rcases hz with h | h
            · rwa [hz1] at h
            · rw [List.length_append, List.length_singleton] at h; omega
          obtain ⟨h1, h2⟩ := ih v h0 hm (.inl hz2)
          have hv := h2 hz2
          refine ⟨?_, fun _ => by omega⟩
          rw [dig_more (by omega), show n / 10 = v by omega, show n % 10 = c.toNat - 48 by omega, h1, digB_inv hc.1]
      · cases hn2
theorem acc_dig (l : List UInt8) : ∀ n, l ≠ [] → numAcc 0 l = some n → (l[0]? ≠ some 48 ∨ l.length = 1) → Lib.decDigits n = l ∧ (l[0]? ≠ some 48 → 1 ≤ n) := acc_dig0 l.length l rfl
theorem num_iff (l : List UInt8) (n : Nat) : numOf l = some n ↔ n ≤ 999999 ∧ Lib.decDigits n = l := by
  constructor
  · intro h
    unfold numOf at h
    split at h
    · rename_i hc
      have hb := (numAcc_bound l 0 n h).2
      have hp : 10 ^ l.length ≤ 10 ^ 6 := Nat.pow_le_pow_right (by omega) hc.2.1
      have hz : l[0]? ≠ some 48 ∨ l.length = 1 := by
        by_cases h1 : l[0]? = some 48
        · right
          have := hc.2.2
          have h2 : ¬ 1 < l.length := fun h2 => this ⟨h1, h2⟩
          omega
        · exact .inl h1
      exact ⟨by omega, (acc_dig l n (List.length_pos_iff.1 (by omega)) h hz).1⟩
    · cases h
  · rintro ⟨h1, rfl⟩
    have hl := dig_short 5 n (by omega)
    have hp := List.length_pos_iff.2 (dig_ne n)
    have hne : ¬ ((Lib.decDigits n)[0]? = some 48 ∧ 1 < (Lib.decDigits n).length) := by
      rintro ⟨h2, h3⟩
      by_cases h10 : 1 ≤ n
      · exact dig_head n h10 h2
      · have : n = 0 := by omega
        rw [this, dig_one (by omega)] at h3
        simp at h3
    rw [numOf, if_pos ⟨by omega, by omega, hne⟩]
    exact numAcc_dig n
theorem acc_parse : ∀ (l : List UInt8) (acc n : Nat), numAcc acc l = some n → n ≤ 999999 → Lib.parseUintM (2 ^ 64 - 1) acc l = .ok n
  | [], acc, n, h, _ => by cases h; rfl
  | c :: r, acc, n, h, hn => by
    rw [numAcc] at h
    split at h
    · rename_i hc
      have hb := (numAcc_bound r _ n h).1
      rw [Lib.parseUintM, if_pos hc, if_neg (by omega), if_neg (by omega)]
      exact acc_parse r _ n h hn
    · cases h
theorem num_parse {l : List UInt8} {n : Nat} (h : numOf l = some n) : Lib.parseIntB 64 l = .ok (n : Int) := by
  have hn := ((num_iff l n).1 h).1
  unfold numOf at h
  split at h
  · rename_i hc
    cases l with
    | nil => simp at hc
    | cons c r =>
      have hp := acc_parse (c :: r) 0 n h hn
      have hd : 48 ≤ c.toNat ∧ c.toNat ≤ 57 := by
        rw [numAcc] at h
        split at h
        · assumption
        · cases h
      unfold Lib.parseIntB
      simp only
      rw [if_neg (by omega), Lib.parseUintB, if_neg (by simp), hp]
      simp only
      rw [if_neg (by omega), if_neg (by omega), if_neg (by omega)]
  · cases h
end Go.Proofs.YtiopofemelninaaDoor
