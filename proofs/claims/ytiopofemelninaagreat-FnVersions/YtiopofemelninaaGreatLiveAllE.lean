/-
  Several texts in one: OwnDev, DevEq, DevMark, ResWalk, BlkResWalk, StrsMath, MarkWalk, VMarkWalk, VHeldWalk, VResWalk, IntResWalk.
-/
import Derived.Test.YtiopofemelninaaGreatRowMath
import Derived.Test.YtiopofemelninaaGreatDevMath
import Derived.Test.YtiopofemelninaaGreatProg
import Derived.WalkKit
import Derived.WalkLawsBesides
import Derived.BigQuiet
import Derived.Deep.QuietTactic
import Derived.Deep.RegionHeld3
import Derived.OwnWalk
import Derived.Test.YtiopofemelninaaGreatDevTo
import Derived.Test.YtiopofemelninaaGreatReadMath
import Derived.Test.YtiopofemelninaaGreatWideBox
import Derived.Test.YtiopofemelninaaGreatBase
import Derived.ProofKit
import Derived.Laws.IdiomStrings
import Derived.Test.YtiopofemelninaaGreatLiveAllD
import Derived.Test.YtiopofemelninaaGreatAppRow
/-
  A device whose rows are nobody else's; one that can be read.
-/
namespace Go.Proofs.YtiopofemelninaaGreat
open Go.RowKit

end Go.Proofs.YtiopofemelninaaGreat
/-
  What the laws' own comparisons answer at two devices that are the same: true.
-/
namespace Go.Proofs.YtiopofemelninaaGreat
open Go.RowKit

set_option maxHeartbeats 1000000 in
theorem eqInt64S_same (a b : Option Addr) (c d : Nat) (l : List Int) (w : World) (h : IntsAt w a l) (h2 : IntsAt w b l) (hn : l.length ≤ 1048576) :
    Calls Tryz.prog 20 #[.slice a l.length c, .slice b l.length d] w fun e w' => e = .returned (.bool true) ∧ Below w.heap.size w w' := by
  have hne := int_neq_self (l.length : Int)
  go_enter Tryz.func20, Tryz.ntmps20
  go_wp2
  go_loopw [5] (fun i wr => ∃ (k n : Nat), k ≤ l.length ∧ i = .int .i64 k ∧ wr = w.drewN n) (fun i _ => l.length - (intOf i).toNat)
  case atStart => exact ⟨0, 0, Nat.zero_le _, rfl, rfl⟩
  case round =>
    obtain ⟨k, n, hk, rfl, rfl⟩ := hrel
    by_cases hlt : k < l.length
    · obtain ⟨b1, o1, rfl, _, hc1⟩ := h.at hlt
      obtain ⟨b2, o2, rfl, _, hc2⟩ := h2.at hlt
      have hk1 := hc1 k hlt
      have hk2 := hc2 k hlt
      have hlt' : (k : Int) < l.length := by omega
      have hq := int_neq_self l[k]
      clear hc1 hc2 h h2
      go_wp2
      go_quiet (fail)
      go_wp2
      exact ⟨⟨k + 1, _, by omega, by go_num, rfl⟩, by simp [intOf]; omega⟩
    · clear h h2
      go_wp2
      go_ret
      exact ⟨rfl, below_drewN (Below.refl _ _) _⟩
theorem keepE {W0 w' w1 : World} {b o b2 o2 : Nat} {v v1 v2 v3 : Value} (h3 : b < W0.heap.size) (h4 : b2 < W0.heap.size) (hS : Below W0.heap.size W0 w' ∧ w'.cell? ⟨b, o, none⟩ = some v ∧ w'.cell? ⟨b, o + 1, none⟩ = some v1 ∧ w'.cell? ⟨b2, o2, none⟩ = some v2 ∧ w'.cell? ⟨b2, o2 + 1, none⟩ = some v3) (hb : Below w'.heap.size w' w1) :
    Below W0.heap.size W0 w1 ∧ w1.cell? ⟨b, o, none⟩ = some v ∧ w1.cell? ⟨b, o + 1, none⟩ = some v1 ∧ w1.cell? ⟨b2, o2, none⟩ = some v2 ∧ w1.cell? ⟨b2, o2 + 1, none⟩ = some v3 := by
  obtain ⟨h, c1, c2, c3, c4⟩ := hS
  have hz := h.size
  exact ⟨h.trans (hb.mono h.size), ((bcell hb).1 _ _ (by omega)).trans c1, ((bcell hb).1 _ _ (by omega)).trans c2, ((bcell hb).1 _ _ (by omega)).trans c3, ((bcell hb).1 _ _ (by omega)).trans c4⟩
end Go.Proofs.YtiopofemelninaaGreat
/-
  What the laws' own marks on devices answer: numbers are laid into its rows, one behind the other, and read back.
-/
namespace Go.Proofs.YtiopofemelninaaGreat
open Go.RowKit

def numsFrom (m : Int) (n : Nat) : List Int := (List.range n).map fun (j : Nat) => m + (j : Int)
def pairsFrom (m : Int) (n : Nat) : List (Int × Int) := (List.range n).map fun (j : Nat) => (m + 2 * (j : Int), m + 2 * (j : Int) + 1)
theorem numsFrom_length (m : Int) (n : Nat) : (numsFrom m n).length = n := by simp [numsFrom]
theorem pairsFrom_length (m : Int) (n : Nat) : (pairsFrom m n).length = n := by simp [pairsFrom]
theorem numsFrom_at (m : Int) (n j : Nat) (h : j < n) : (numsFrom m n)[j]'(by rw [numsFrom_length]; exact h) = m + (j : Int) := by simp [numsFrom]
theorem pairsFrom_at (m : Int) (n j : Nat) (h : j < n) : (pairsFrom m n)[j]'(by rw [pairsFrom_length]; exact h) = (m + 2 * (j : Int), m + 2 * (j : Int) + 1) := by simp [pairsFrom]
theorem numsFrom_succ (m : Int) (n : Nat) : numsFrom m (n + 1) = numsFrom m n ++ [m + (n : Int)] := by simp [numsFrom, List.range_succ]
theorem pairsFrom_succ (m : Int) (n : Nat) : pairsFrom m (n + 1) = pairsFrom m n ++ [(m + 2 * (n : Int), m + 2 * (n : Int) + 1)] := by simp [pairsFrom, List.range_succ]

theorem take_step {ys : List Value} {k : Nat} {v : Value} {l : List Value} (h : ys.take k = l) (hk : k < ys.length) : (ys.set k v).take (k + 1) = l ++ [v] := by
  rw [List.take_succ_eq_append_getElem (by simp; omega), List.take_set_of_le (by omega), h]
  simp

set_option maxHeartbeats 1000000 in
theorem markInt64S_any (v : Value) (n base : Nat) (xs : List Value) (m : Int) (w : World) (how : w.ownsRow base 2 1 v n xs) (hn : n ≤ 1048576) (h0 : 1 ≤ m) (h1 : m ≤ 10000000) :
    Calls Tryz.prog 21 #[v, .int .i64 m] w fun e w' => e = .returned (.int .i64 (m + n)) ∧ w'.ownsRow base 2 1 v n (nums (numsFrom m n)) ∧ Out (fun q => v.ownBlock = some q) w w' := by
  obtain ⟨a, c, rfl, hv⟩ : ∃ a c, v = .slice a n c ∧ (n = 0 ∨ ∃ g, a = some ⟨g, 0, none⟩) := by
    rcases how.2 with ⟨rfl, rfl⟩ | ⟨g, cap, cur, rfl, _⟩
    · exact ⟨none, 0, rfl, .inl rfl⟩
    · exact ⟨_, cap, rfl, .inr ⟨g, rfl⟩⟩
  have hxl : xs.length = n := by have := how.1; omega
  go_enter Tryz.func21, Tryz.ntmps21
  go_wp2
  go_loopw [1, 5] (fun t i wr => ∃ (k : Nat) (ys : List Value), k ≤ n ∧ i = .int .i64 k ∧ t = .int .i64 (m + k) ∧ ys.length = n ∧ Hid (wr.ownsRow base 2 1 (.slice a n c) n ys) ∧ Hid (Out (fun q => (Value.slice a n c).ownBlock = some q) w wr) ∧ Hid (ys.take k = nums (numsFrom m k))) (fun _ i _ => n - (intOf i).toNat)
  case atStart => exact ⟨0, xs, Nat.zero_le _, rfl, by simp, hxl, how, Out.refl _ _, by simp [Hid, numsFrom, nums]⟩
  case round =>
    obtain ⟨k, ys, hk, rfl, rfl, hyl, HO, HU, HY⟩ := hrel
    clear how
    by_cases hlt : k < n
    · obtain ⟨g, rfl⟩ : ∃ g, a = some ⟨g, 0, none⟩ := by
        rcases hv with h | h
        · omega
        · exact h
      have hck := (unhide HO).cellAt k (by omega)
      rw [List.getElem?_eq_getElem (by omega)] at hck
      have hfz := (unhide HO).frozenAt k
      have HO2 := hide ((unhide HO).stored k (.int .i64 (m + (k : Int)))).1
      have HU2 := hide ((unhide HU).setCell (p := ⟨g, k, none⟩) (.inl rfl) (.int .i64 (m + (k : Int))))
      have HY2 : Hid ((ys.set k (.int .i64 (m + (k : Int)))).take (k + 1) = nums (numsFrom m (k + 1))) := by
        rw [Hid, numsFrom_succ, nums_append]
        exact take_step (unhide HY) (by omega)
      clear hv
      go_wp2
      go_roundw
      case rel => exact ⟨k + 1, _, by omega, by go_num, by go_num, by simpa using hyl, HO2, HU2, HY2⟩
      case measure => simp [intOf]; omega
    · have hke : k = n := by omega
      subst hke
      have hys : ys = nums (numsFrom m k) := by
        have := unhide HY
        rwa [List.take_of_length_le (by omega)] at this
      have HYS := hide hys
      clear hys hv
      go_wp2
      go_ret
      exact ⟨rfl, by rw [← unhide HYS]; exact unhide HO, unhide HU⟩
set_option maxHeartbeats 1000000 in
theorem heldInt64S_any (a : Option Addr) (c n : Nat) (m : Int) (w : World) (h : IntsAt w a (numsFrom m n)) (hn : n ≤ 1048576) (h0 : 1 ≤ m) (h1 : m ≤ 10000000) :
    Calls Tryz.prog 74 #[.slice a n c, .int .i64 m] w fun e w' => e = .returned (.int .i64 (m + n)) ∧ w' = w := by
  go_enter Tryz.func74, Tryz.ntmps74
  go_wp2
  go_loop [1, 5] (fun t i => ∃ k : Nat, k ≤ n ∧ i = .int .i64 k ∧ t = .int .i64 (m + k)) (fun _ i => n - (intOf i).toNat)
  case atStart => exact ⟨0, Nat.zero_le _, rfl, by simp⟩
  case round =>
    obtain ⟨k, hk, rfl, rfl⟩ := hrel
    by_cases hlt : k < n
    · obtain ⟨b, o, rfl, hb, hc⟩ := h.at (k := k) (by rw [numsFrom_length]; exact hlt)
      have hck := hc k (by rw [numsFrom_length]; exact hlt)
      rw [numsFrom_at m n k hlt] at hck
      have hq := int_neq_self (m + (k : Int))
      clear hc h
      go_wp2
      go_round
      case rel => exact ⟨k + 1, by omega, by go_num, by go_num⟩
      case measure => simp [intOf]; omega
    · have hke : k = n := by omega
      subst hke
      clear h
      go_wp2
      go_ret
      exact ⟨rfl, rfl⟩

/-- The device with its marks. -/
def markedDev (D : Dev) (m : Int) : Dev := ⟨numsFrom m D.words.length, pairsFrom (m + D.words.length) D.flights.length, pairsFrom (m + D.words.length + 2 * D.flights.length) D.over.length⟩
def markedTo (D : Dev) (m : Int) : Int := m + D.words.length + 2 * D.flights.length + 2 * D.over.length

end Go.Proofs.YtiopofemelninaaGreat
/-
  What the laws' own looks at words in an answer tell.
-/
namespace Go.Proofs.YtiopofemelninaaGreat
open Go.RowKit

theorem toInt64S_ex (a : Option Addr) (c : Nat) (l : List Int) (w : World) (h : IntsAt w a l) (hn : l.length ≤ 1048576) :
    Calls Tryz.prog 17 #[.slice a l.length c] w fun e w' => (∃ g, e = .returned (.slice (some ⟨g, 0, none⟩) l.length l.length) ∧ w'.ownsRow w.heap.size 2 1 (.slice (some ⟨g, 0, none⟩) l.length l.length) l.length (nums l)) ∧ Below w.heap.size w w' :=
  (toInt64S_any a c l w h hn).mono fun _ _ ⟨h1, h2, h3⟩ => ⟨⟨_, h1, h2⟩, h3⟩
end Go.Proofs.YtiopofemelninaaGreat
/-
  What the laws' own looks at blocks in an answer tell.
-/
namespace Go.Proofs.YtiopofemelninaaGreat
open Go.RowKit
set_option linter.unusedVariables false

end Go.Proofs.YtiopofemelninaaGreat
/-
  A slice of strings as the walks see it (no Go in sight).
-/
namespace Go.Proofs.YtiopofemelninaaGreat
open Go.RowKit

/-- The strings l lie at a (nothing is asked where there are none). -/
def StrsAt (w : World) (a : Option Addr) (l : List ByteArray) : Prop :=
  l = [] ∨ ∃ b o, a = some ⟨b, o, none⟩ ∧ b < w.heap.size ∧ ∀ i (h : i < l.length), w.cell? ⟨b, o + i, none⟩ = some (.string l[i])

theorem StrsAt.at {w : World} {a : Option Addr} {l : List ByteArray} (h : StrsAt w a l) {k : Nat} (hk : k < l.length) :
    ∃ b o, a = some ⟨b, o, none⟩ ∧ b < w.heap.size ∧ ∀ i (h : i < l.length), w.cell? ⟨b, o + i, none⟩ = some (.string l[i]) := by
  rcases h with rfl | h
  · simp at hk
  · exact h

theorem StrsAt.below {w w' : World} {a : Option Addr} {l : List ByteArray} (h : StrsAt w a l) (hb : Below w.heap.size w w') : StrsAt w' a l := by
  rcases h with rfl | ⟨b, o, rfl, hlt, hc⟩
  · exact .inl rfl
  · refine .inr ⟨b, o, rfl, Nat.lt_of_lt_of_le hlt hb.size, fun i hi => ?_⟩
    rw [hb.cell (p := ⟨b, o + i, none⟩) hlt]
    exact hc i hi

/-- What a walk is told of a slice of strings that came in: it is nil; or it leads to a row of 'cap' strings 'ss' (the first 'len' are its elements). -/
def IsStrs (w : World) (a : Option Addr) (len cap : Nat) (ss : List ByteArray) : Prop :=
  (a = none ∧ len = 0 ∧ cap = 0 ∧ ss = []) ∨
  ∃ x, a = some x ∧ len ≤ cap ∧ cap ≤ maxLen ∧ ss.length = cap ∧ (∀ i, i < ss.length → w.cell? (x.add i) = some (.string (ss.getD i ByteArray.empty))) ∧ ∀ s ∈ ss, s.size ≤ maxLen

theorem lt_of_cell {w : World} {x : Addr} {v : Value} (h : w.cell? x = some v) : x.block < w.heap.size := by
  unfold World.cell? at h
  by_cases hl : x.block < w.heap.size
  · exact hl
  · rw [Array.getElem?_eq_none (by omega)] at h
    simp at h

theorem IsStrs.at {w : World} {a : Option Addr} {len cap : Nat} {ss : List ByteArray} (h : IsStrs w a len cap ss) :
    ∃ l : List ByteArray, l.length = len ∧ StrsAt w a l ∧ (∀ s ∈ l, s.size ≤ maxLen) ∧ l.length ≤ maxLen ∧ len ≤ cap := by
  rcases h with ⟨rfl, rfl, rfl, rfl⟩ | ⟨x, rfl, hl, hm, hz, hc, hs⟩
  · exact ⟨[], rfl, .inl rfl, by simp, by simp, Nat.le_refl _⟩
  · have hlen : (ss.take len).length = len := by rw [List.length_take]; omega
    refine ⟨ss.take len, hlen, ?_, fun s hm' => hs s (List.mem_of_mem_take hm'), by rw [hlen]; exact Nat.le_trans hl hm, hl⟩
    by_cases h0 : len = 0
    · left
      subst h0
      simp
    · right
      have c0 := hc 0 (by omega)
      obtain ⟨b, off, spot⟩ := x
      have hspot : spot = none := by simpa [Addr.add] using World.cell?_spot c0
      subst hspot
      refine ⟨b, off, rfl, lt_of_cell (x := ⟨b, off, none⟩) (by simpa [Addr.add] using c0), fun i hi => ?_⟩
      have hi' : i < ss.length := by omega
      have := hc i hi'
      rw [Go.WideShapes.add_plain] at this
      rw [this]
      simp [List.getD_eq_getElem?_getD, List.getElem?_eq_getElem hi']

end Go.Proofs.YtiopofemelninaaGreat
/-
  What the laws' own marks answer: a text for each number; they are laid into a slice of strings, and read back.
-/
namespace Go.Proofs.YtiopofemelninaaGreat
open Go.RowKit

def digitB (n : Int) : UInt8 := UInt8.ofNat (48 + n % 10).toNat
/-- The digits of a number, ahead of out. -/
def mtL : Nat → Int → List UInt8 → List UInt8
  | 0, _, out => out
  | f + 1, m, out => if m ≤ 0 then out else mtL f (m / 10) (digitB m :: out)
/-- The mark of a number. -/
def markB (m : Int) : ByteArray := ⟨(109 :: mtL 12 m []).toArray⟩

theorem digitB_toNat (n : Int) : ((digitB n).toNat : Int) = 48 + n % 10 := by
  unfold digitB
  rw [UInt8.toNat_ofNat_of_lt' (by show _ < 256; omega)]
  omega
theorem mtL_end {f : Nat} {m : Int} {out : List UInt8} (h : m ≤ 0) : mtL f m out = out := by
  cases f with
  | zero => rfl
  | succ f => simp [mtL, h]
theorem mtL_step {f : Nat} {m : Int} {out : List UInt8} (h : 0 < m) : mtL (f + 1) m out = mtL f (m / 10) (digitB m :: out) := by
  rw [mtL, if_neg (by omega)]
theorem push_byte (b : UInt8) (out : List UInt8) : (⟨#[b]⟩ ++ ⟨out.toArray⟩ : ByteArray) = ⟨(b :: out).toArray⟩ := by
  rw [ByteArray.mk_append_mk]; simp

set_option maxHeartbeats 1000000 in
theorem markText_any (m : Int) (w : World) (h0 : 1 ≤ m) (h1 : m ≤ 1000000000) :
    Calls Tryz.prog 73 #[.int .i64 m] w fun e w' => e = .returned (.string (markB m)) ∧ Below w.heap.size w w' := by
  have h0' : ¬ m ≤ 0 := by omega
  go_enter Tryz.func73, Tryz.ntmps73
  go_wp2
  go_loopw [0, 3] (fun v o wr => ∃ (f : Nat) (n : Int) (out : List UInt8), v = .int .i64 n ∧ o = .string ⟨out.toArray⟩ ∧ 0 ≤ n ∧ n ≤ 1000000000 ∧ Hid (n < 10 ^ f) ∧ out.length + f = 12 ∧ Below w.heap.size w wr ∧ Hid (mtL f n out = mtL 12 m [])) (fun v _ _ => (intOf v).toNat)
  case atStart => exact ⟨12, m, [], rfl, rfl, by omega, h1, (by show m < 1000000000000; omega), rfl, Below.refl _ _, rfl⟩
  case round =>
    obtain ⟨f, n, out, rfl, rfl, n0, n1, HP, hf, hbw, HM⟩ := hrel
    by_cases hn : 0 < n
    · obtain ⟨f, rfl⟩ : ∃ g, f = g + 1 := by
        cases f with
        | zero => have := unhide HP; simp at this; omega
        | succ f => exact ⟨f, rfl⟩
      have HP2 : Hid (n / 10 < 10 ^ f) := by
        have := unhide HP
        rw [Int.pow_succ] at this
        show n / 10 < 10 ^ f
        omega
      have HM2 := hide ((mtL_step (f := f) (out := out) hn).symm.trans (unhide HM))
      have hcv : (convert 22 9 (.slice (some ⟨wr.heap.size, 0, none⟩) 1 1)).run Tryz.prog (wr.alloc (.cells #[.int .u8 (48 + n % 10)] 5)) = .ok (.string ⟨#[digitB n]⟩) (wr.alloc (.cells #[.int .u8 (48 + n % 10)] 5)) := by
        have hx := run_convert_bytes_back (P := Tryz.prog) (wr.alloc (.cells #[.int .u8 (48 + n % 10)] 5)) 22 9 5 ⟨wr.heap.size, 0, none⟩ 1 [digitB n] Tryz.underlying22 Tryz.underlying5 Tryz.underlying9 (fun j hj => by
          obtain rfl : j = 0 := by simpa using hj
          simp only [List.getElem_cons_zero]
          rw [digitB_toNat]
          simp [Addr.add, go_sem])
        exact hx
      have HB := hide hbw
      clear hbw
      go_wp2
      exact ⟨⟨f, n / 10, digitB n :: out, rfl, by rw [push_byte], by omega, by omega, HP2, by simp; omega, (unhide HB).alloc (unhide HB).size _, unhide HM2⟩, by simp [intOf]; omega⟩
    · have hr : mtL 12 m [] = out := by rw [← unhide HM]; exact mtL_end (by omega)
      have hr2 : markB m = ⟨(109 :: out).toArray⟩ := by rw [markB, hr]
      have HR := hide hr2
      have HB := hide hbw
      clear hr hr2 hbw
      go_wp2
      go_ret
      refine ⟨?_, unhide HB⟩
      rw [unhide HR, ← push_byte]
      rfl

theorem ownsRow_stay {w w' : World} {base : Nat} {e : TypeId} {v : Value} {n : Nat} {xs : List Value} (h : w.ownsRow base e 1 v n xs) (hk : ∀ k, k < w.heap.size → w'.heap[k]? = w.heap[k]?) : w'.ownsRow base e 1 v n xs := by
  refine ⟨h.1, ?_⟩
  rcases h.2 with h2 | ⟨g, cap, cur, a, b, c, d⟩
  · exact .inl h2
  · exact .inr ⟨g, cap, cur, a, b, (hk g (Array.getElem?_eq_some_iff.1 c).1).trans c, d⟩

/-- No block that was there turned, but the one at a. -/
def Besides (a : Option Addr) (w w' : World) : Prop := ∀ q, q < w.heap.size → (∀ x, a = some x → q ≠ x.block) → w'.heap[q]? = w.heap[q]?
theorem Besides.trans {a : Option Addr} {w w1 w2 : World} (h : Besides a w w1) (hz : w.heap.size ≤ w1.heap.size) (k : Besides a w1 w2) : Besides a w w2 :=
  fun q hq hx => (k q (by omega) hx).trans (h q hq hx)
theorem Besides.ofBelow {a : Option Addr} {w w1 : World} (h : Below w.heap.size w w1) : Besides a w w1 := fun q hq _ => h.block q hq

/-- The marks of n numbers from m on. -/
def marks (m : Int) (n : Nat) : List ByteArray := (List.range n).map fun (j : Nat) => markB (m + (j : Int))
theorem marks_length (m : Int) (n : Nat) : (marks m n).length = n := by simp [marks]
theorem marks_at (m : Int) (n j : Nat) (h : j < n) : (marks m n)[j]'(by rw [marks_length]; exact h) = markB (m + (j : Int)) := by simp [marks]


theorem keepM {W0 w' w1 : World} {b o : Nat} {v : Value} (h3 : b < W0.heap.size) (hS : Below W0.heap.size W0 w' ∧ w'.cell? ⟨b, o, none⟩ = some v) (hb : Below w'.heap.size w' w1) : Below W0.heap.size W0 w1 ∧ w1.cell? ⟨b, o, none⟩ = some v := by
  obtain ⟨h, c⟩ := hS
  have hz := h.size
  exact ⟨h.trans (hb.mono h.size), ((bcell hb).1 _ _ (by omega)).trans c⟩

end Go.Proofs.YtiopofemelninaaGreat
/-
  What the laws' own looks and marks of lists of versions do.
-/
namespace Go.Proofs.YtiopofemelninaaGreat
open Go.RowKit
set_option linter.unusedVariables false

/-- A version that was marked from M on. -/
def markVer (M : Int) (x : VerA) : VerA := ⟨M, ⟨⟨M + 1, M + 2, M + 3, M + 4, M + 5, (M + 6) % 3 == 0, M + 7, markB (M + 8), M + 9, numsFrom (M + 10) x.x.b.nl.length⟩, x.x.a, x.x.c⟩⟩
def vMarks : Int → List VerA → List VerA
  | _, [] => []
  | M, x :: L => markVer M x :: vMarks (M + 10 + x.x.b.nl.length) L
def vTo : Int → List VerA → Int
  | M, [] => M
  | M, x :: L => vTo (M + 10 + x.x.b.nl.length) L
theorem vMarks_length : ∀ (M : Int) (L : List VerA), (vMarks M L).length = L.length
  | _, [] => rfl
  | M, x :: L => by rw [vMarks, List.length_cons, vMarks_length, List.length_cons]
theorem vTo_snoc : ∀ (M : Int) (L : List VerA) (x : VerA), vTo M (L ++ [x]) = vTo M L + 10 + x.x.b.nl.length
  | _, [], _ => rfl
  | M, y :: L, x => by rw [List.cons_append, vTo, vTo, vTo_snoc]
theorem vMarks_snoc : ∀ (M : Int) (L : List VerA) (x : VerA), vMarks M (L ++ [x]) = vMarks M L ++ [markVer (vTo M L) x]
  | _, [], _ => rfl
  | M, y :: L, x => by rw [List.cons_append, vMarks, vMarks, vTo, vMarks_snoc]; rfl
theorem vTo_take {M : Int} {L : List VerA} {k : Nat} (hk : k < L.length) : vTo M (L.take (k + 1)) = vTo M (L.take k) + 10 + L[k].x.b.nl.length := by
  rw [List.take_succ_eq_append_getElem hk, vTo_snoc]
theorem vMarks_take {M : Int} {L : List VerA} {k : Nat} (hk : k < L.length) : vMarks M (L.take (k + 1)) = vMarks M (L.take k) ++ [markVer (vTo M (L.take k)) L[k]] := by
  rw [List.take_succ_eq_append_getElem hk, vMarks_snoc]
theorem vMarks_at {L : List VerA} : ∀ {M : Int} {k : Nat} (hk : k < L.length), (vMarks M L)[k]'(by rw [vMarks_length]; exact hk) = markVer (vTo M (L.take k)) L[k] := by
  induction L with
  | nil => intro M k hk; simp at hk
  | cons x L ih =>
    intro M k hk
    cases k with
    | zero => rfl
    | succ k => simp only [vMarks, List.getElem_cons_succ, List.take_succ_cons, vTo]; exact ih (by simpa using hk)
theorem markVer_nv (M : Int) (x : VerA) : (markVer M x).nv = x.nv := by simp [markVer, VerA.nv, numsFrom_length]
/-- Small lists: so the marks stay small. -/
theorem vTo_bounds : ∀ (M : Int) (L : List VerA) (n : Nat), (∀ x ∈ L, x.x.b.nl.length ≤ n) → M ≤ vTo M L ∧ vTo M L ≤ M + (10 + n) * L.length
  | M, [], n, _ => by simp [vTo]
  | M, x :: L, n, h => by
    have h1 := vTo_bounds (M + 10 + x.x.b.nl.length) L n (fun y hy => h y (List.mem_cons_of_mem _ hy))
    have h2 := h x List.mem_cons_self
    rw [vTo, List.length_cons]
    have e : ((10 : Int) + n) * ((L.length + 1 : Nat) : Int) = (10 + n) * L.length + (10 + n) := by push_cast; rw [Int.mul_add, Int.mul_one]
    omega
theorem vOwn_marked {w : World} {base : Nat} {v : Value} {L : List VerA} {M : Int} (h0 : ∀ x ∈ L, ∀ q, x.nv.ownBlock = some q → v.ownBlock ≠ some q) (h1 : L.Pairwise (fun x y => ∀ q, x.nv.ownBlock = some q → y.nv.ownBlock ≠ some q))
    (hr : w.ownsRow base 46 11 v L.length (vflat (vMarks M L))) (hn : ∀ i (hi : i < L.length), w.ownsRow base 2 1 L[i].nv L[i].x.b.nl.length (nums (numsFrom (vTo M (L.take i) + 10) L[i].x.b.nl.length))) : VOwn w base v (vMarks M L) := by
  have hl := vMarks_length M L
  refine ⟨by rw [hl]; exact hr, fun x hx => ?_, fun x hx q hq => ?_, ?_⟩
  · obtain ⟨i, hi, rfl⟩ := List.getElem_of_mem hx
    rw [hl] at hi
    rw [vMarks_at hi, markVer_nv]
    have := hn i hi
    show World.ownsRow _ _ _ _ _ (numsFrom (vTo M (L.take i) + 10) L[i].x.b.nl.length).length (nums (numsFrom (vTo M (L.take i) + 10) L[i].x.b.nl.length))
    rw [numsFrom_length]
    exact this
  · obtain ⟨i, hi, rfl⟩ := List.getElem_of_mem hx
    rw [hl] at hi
    rw [vMarks_at hi, markVer_nv] at hq
    exact h0 _ (List.getElem_mem hi) q hq
  · rw [List.pairwise_iff_getElem] at h1 ⊢
    intro i j hi hj hij q hq e
    rw [hl] at hi hj
    rw [vMarks_at hi, markVer_nv] at hq
    rw [vMarks_at hj, markVer_nv] at e
    exact h1 i j hi hj hij q hq e
theorem vstep {ys : List Value} {P : List Value} {k n : Nat} {M : Int} {s : Value} (hy : ys.length = n * 11) (hk : k < n) (hP : ys.take (k * 11) = P) (hs : ys[k * 11 + 10]? = some s) :
    (((((((((((ys.set (k * 11) (.int .i64 M)).set (k * 11 + 1) (.int .i64 (M + 1))).set (k * 11 + 2) (.int .i64 (M + 2))).set (k * 11 + 3) (.int .i64 (M + 3))).set (k * 11 + 4) (.int .i64 (M + 4))).set (k * 11 + 5) (.int .i64 (M + 5))).set (k * 11 + 6) (.bool ((M + 6) % 3 == 0))).set (k * 11 + 7) (.int .i64 (M + 7))).set (k * 11 + 8) (.string (markB (M + 8)))).set (k * 11 + 9) (.int .i64 (M + 9)))).take ((k + 1) * 11) = P ++ [.int .i64 M, .int .i64 (M + 1), .int .i64 (M + 2), .int .i64 (M + 3), .int .i64 (M + 4), .int .i64 (M + 5), .bool ((M + 6) % 3 == 0), .int .i64 (M + 7), .string (markB (M + 8)), .int .i64 (M + 9), s] := by
  have hk2 : k * 11 + 10 < n * 11 := by omega
  have h1 := take_step (v := .int .i64 M) hP (by omega)
  have h2 := take_step (v := .int .i64 (M + 1)) h1 (by simp; omega)
  have h3 := take_step (v := .int .i64 (M + 2)) h2 (by simp; omega)
  have h4 := take_step (v := .int .i64 (M + 3)) h3 (by simp; omega)
  have h5 := take_step (v := .int .i64 (M + 4)) h4 (by simp; omega)
  have h6 := take_step (v := .int .i64 (M + 5)) h5 (by simp; omega)
  have h7 := take_step (v := .bool ((M + 6) % 3 == 0)) h6 (by simp; omega)
  have h8 := take_step (v := .int .i64 (M + 7)) h7 (by simp; omega)
  have h9 := take_step (v := .string (markB (M + 8))) h8 (by simp; omega)
  have h10 := take_step (v := .int .i64 (M + 9)) h9 (by simp; omega)
  have hl : (((((((((((ys.set (k * 11) (.int .i64 M)).set (k * 11 + 1) (.int .i64 (M + 1))).set (k * 11 + 2) (.int .i64 (M + 2))).set (k * 11 + 3) (.int .i64 (M + 3))).set (k * 11 + 4) (.int .i64 (M + 4))).set (k * 11 + 5) (.int .i64 (M + 5))).set (k * 11 + 6) (.bool ((M + 6) % 3 == 0))).set (k * 11 + 7) (.int .i64 (M + 7))).set (k * 11 + 8) (.string (markB (M + 8)))).set (k * 11 + 9) (.int .i64 (M + 9)))).length = ys.length := by simp
  rw [show (k + 1) * 11 = k * 11 + 9 + 1 + 1 by omega, List.take_succ_eq_append_getElem (by rw [hl]; omega), h10]
  have hx : (((((((((((ys.set (k * 11) (.int .i64 M)).set (k * 11 + 1) (.int .i64 (M + 1))).set (k * 11 + 2) (.int .i64 (M + 2))).set (k * 11 + 3) (.int .i64 (M + 3))).set (k * 11 + 4) (.int .i64 (M + 4))).set (k * 11 + 5) (.int .i64 (M + 5))).set (k * 11 + 6) (.bool ((M + 6) % 3 == 0))).set (k * 11 + 7) (.int .i64 (M + 7))).set (k * 11 + 8) (.string (markB (M + 8)))).set (k * 11 + 9) (.int .i64 (M + 9))))[k * 11 + 9 + 1]'(by rw [hl]; omega) = s := by
    have : ys[k * 11 + 10] = s := by rw [List.getElem?_eq_getElem (by omega)] at hs; injection hs
    rw [List.getElem_set_ne (by omega), List.getElem_set_ne (by omega), List.getElem_set_ne (by omega), List.getElem_set_ne (by omega), List.getElem_set_ne (by omega), List.getElem_set_ne (by omega), List.getElem_set_ne (by omega), List.getElem_set_ne (by omega), List.getElem_set_ne (by omega), List.getElem_set_ne (by omega)]
    exact this
  rw [hx]
  simp

end Go.Proofs.YtiopofemelninaaGreat
/-
  What the laws' own reads back and looks of lists of versions do.
-/
namespace Go.Proofs.YtiopofemelninaaGreat
open Go.RowKit
set_option linter.unusedVariables false

theorem keepV {W0 w' w1 : World} {b o1 o2 o3 : Nat} {v1 v2 v3 : Value} (h3 : b < W0.heap.size) (hS : Below W0.heap.size W0 w' ∧ w'.cell? ⟨b, o1, none⟩ = some v1 ∧ w'.cell? ⟨b, o2, none⟩ = some v2 ∧ w'.cell? ⟨b, o3, none⟩ = some v3) (hb : Below w'.heap.size w' w1) :
    Below W0.heap.size W0 w1 ∧ w1.cell? ⟨b, o1, none⟩ = some v1 ∧ w1.cell? ⟨b, o2, none⟩ = some v2 ∧ w1.cell? ⟨b, o3, none⟩ = some v3 := by
  obtain ⟨h, c1, c2, c3⟩ := hS
  have hz := h.size
  exact ⟨h.trans (hb.mono h.size), ((bcell hb).1 _ _ (by omega)).trans c1, ((bcell hb).1 _ _ (by omega)).trans c2, ((bcell hb).1 _ _ (by omega)).trans c3⟩
theorem VOwn.ints {w : World} {base : Nat} {v : Value} {L : List VerA} (h : VOwn w base v L) {k : Nat} (hk : k < L.length) : IntsAt w L[k].x.a L[k].x.b.nl := intsAt_own1 (h.nl _ (List.getElem_mem hk))

end Go.Proofs.YtiopofemelninaaGreat
/-
  What the laws' own looks at versions answer of the same ones; answers of versions looked at, marked, read back.
-/
namespace Go.Proofs.YtiopofemelninaaGreat
open Go.RowKit
set_option linter.unusedVariables false

theorem readBlk_nl (l : List Int) : (readBlk l).nl.length ≤ 4 := by
  unfold readBlk
  split
  · split
    · unfold toldBlk
      split
      · simp
      · split
        · simp
        · split <;> simp [Blk.none]
    · simp [Blk.none]
  · simp [Blk.none]
theorem imgRun_nl (clock : Int) : ∀ (n : Nat) (line : Int) (ws : List Int), ∀ v ∈ (imgRun clock n line ws).2.1, v.2.nl.length ≤ 4
  | 0, _, _, v, h => by simp [imgRun] at h
  | n + 1, line, ws, v, h => by
    have ih := imgRun_nl clock n (line + 1) (ws.drop 8)
    unfold imgRun at h
    split at h
    · split at h
      · rcases List.mem_append.1 h with h | h
        · unfold stepVers at h
          split at h
          · cases h
          · split at h
            · rcases List.mem_singleton.1 h with rfl; exact readBlk_nl _
            · rcases List.mem_singleton.1 h with rfl; simp [headBlk]
        · exact ih v h
      · cases h
    · cases h
theorem imgVers_small (ws : List Int) : (imgVers ws).length ≤ 41 ∧ ∀ v ∈ imgVers ws, v.2.nl.length ≤ 4 := by
  unfold imgVers
  split
  · rename_i hc
    obtain ⟨_, _, hs⟩ := clockVal_bounds hc
    have hz : ws.length ≤ 328 := by simp [sizeOk] at hs; omega
    have := (imgRun_len (clockVal ws) (ws.length / 8 - 1) 1 (ws.drop 8)).1
    exact ⟨by omega, imgRun_nl _ _ _ _⟩
  · simp
theorem vers_small {ws : List Int} {L : List VerA} (h : L.map VerA.ver = imgVers ws) : L.length ≤ 100 ∧ ∀ x ∈ L, x.x.b.nl.length ≤ 100 := by
  have hs := imgVers_small ws
  rw [← h] at hs
  refine ⟨by have := hs.1; simp at this; omega, fun x hx => ?_⟩
  have := hs.2 x.ver (List.mem_map_of_mem hx)
  exact Nat.le_trans this (by decide)

theorem keepV22 {W0 w' w1 : World} {b b2 o0 o1 o2 o3 o4 o5 o6 o7 o8 o9 o10 p0 p1 p2 p3 p4 p5 p6 p7 p8 p9 p10 : Nat} {v0 v1 v2 v3 v4 v5 v6 v7 v8 v9 v10 u0 u1 u2 u3 u4 u5 u6 u7 u8 u9 u10 : Value} (h3 : b < W0.heap.size) (h4 : b2 < W0.heap.size) (hS : Below W0.heap.size W0 w' ∧ w'.cell? ⟨b, o0, none⟩ = some v0 ∧ w'.cell? ⟨b, o1, none⟩ = some v1 ∧ w'.cell? ⟨b, o2, none⟩ = some v2 ∧ w'.cell? ⟨b, o3, none⟩ = some v3 ∧ w'.cell? ⟨b, o4, none⟩ = some v4 ∧ w'.cell? ⟨b, o5, none⟩ = some v5 ∧ w'.cell? ⟨b, o6, none⟩ = some v6 ∧ w'.cell? ⟨b, o7, none⟩ = some v7 ∧ w'.cell? ⟨b, o8, none⟩ = some v8 ∧ w'.cell? ⟨b, o9, none⟩ = some v9 ∧ w'.cell? ⟨b, o10, none⟩ = some v10 ∧ w'.cell? ⟨b2, p0, none⟩ = some u0 ∧ w'.cell? ⟨b2, p1, none⟩ = some u1 ∧ w'.cell? ⟨b2, p2, none⟩ = some u2 ∧ w'.cell? ⟨b2, p3, none⟩ = some u3 ∧ w'.cell? ⟨b2, p4, none⟩ = some u4 ∧ w'.cell? ⟨b2, p5, none⟩ = some u5 ∧ w'.cell? ⟨b2, p6, none⟩ = some u6 ∧ w'.cell? ⟨b2, p7, none⟩ = some u7 ∧ w'.cell? ⟨b2, p8, none⟩ = some u8 ∧ w'.cell? ⟨b2, p9, none⟩ = some u9 ∧ w'.cell? ⟨b2, p10, none⟩ = some u10) (hb : Below w'.heap.size w' w1) :
    Below W0.heap.size W0 w1 ∧ w1.cell? ⟨b, o0, none⟩ = some v0 ∧ w1.cell? ⟨b, o1, none⟩ = some v1 ∧ w1.cell? ⟨b, o2, none⟩ = some v2 ∧ w1.cell? ⟨b, o3, none⟩ = some v3 ∧ w1.cell? ⟨b, o4, none⟩ = some v4 ∧ w1.cell? ⟨b, o5, none⟩ = some v5 ∧ w1.cell? ⟨b, o6, none⟩ = some v6 ∧ w1.cell? ⟨b, o7, none⟩ = some v7 ∧ w1.cell? ⟨b, o8, none⟩ = some v8 ∧ w1.cell? ⟨b, o9, none⟩ = some v9 ∧ w1.cell? ⟨b, o10, none⟩ = some v10 ∧ w1.cell? ⟨b2, p0, none⟩ = some u0 ∧ w1.cell? ⟨b2, p1, none⟩ = some u1 ∧ w1.cell? ⟨b2, p2, none⟩ = some u2 ∧ w1.cell? ⟨b2, p3, none⟩ = some u3 ∧ w1.cell? ⟨b2, p4, none⟩ = some u4 ∧ w1.cell? ⟨b2, p5, none⟩ = some u5 ∧ w1.cell? ⟨b2, p6, none⟩ = some u6 ∧ w1.cell? ⟨b2, p7, none⟩ = some u7 ∧ w1.cell? ⟨b2, p8, none⟩ = some u8 ∧ w1.cell? ⟨b2, p9, none⟩ = some u9 ∧ w1.cell? ⟨b2, p10, none⟩ = some u10 := by
  obtain ⟨h, c0, c1, c2, c3, c4, c5, c6, c7, c8, c9, c10, d0, d1, d2, d3, d4, d5, d6, d7, d8, d9, d10⟩ := hS
  have hz := h.size
  exact ⟨h.trans (hb.mono h.size), ((bcell hb).1 _ _ (by omega)).trans c0, ((bcell hb).1 _ _ (by omega)).trans c1, ((bcell hb).1 _ _ (by omega)).trans c2, ((bcell hb).1 _ _ (by omega)).trans c3, ((bcell hb).1 _ _ (by omega)).trans c4, ((bcell hb).1 _ _ (by omega)).trans c5, ((bcell hb).1 _ _ (by omega)).trans c6, ((bcell hb).1 _ _ (by omega)).trans c7, ((bcell hb).1 _ _ (by omega)).trans c8, ((bcell hb).1 _ _ (by omega)).trans c9, ((bcell hb).1 _ _ (by omega)).trans c10, ((bcell hb).1 _ _ (by omega)).trans d0, ((bcell hb).1 _ _ (by omega)).trans d1, ((bcell hb).1 _ _ (by omega)).trans d2, ((bcell hb).1 _ _ (by omega)).trans d3, ((bcell hb).1 _ _ (by omega)).trans d4, ((bcell hb).1 _ _ (by omega)).trans d5, ((bcell hb).1 _ _ (by omega)).trans d6, ((bcell hb).1 _ _ (by omega)).trans d7, ((bcell hb).1 _ _ (by omega)).trans d8, ((bcell hb).1 _ _ (by omega)).trans d9, ((bcell hb).1 _ _ (by omega)).trans d10⟩
end Go.Proofs.YtiopofemelninaaGreat
/-
  What the laws' own looks and marks of an answer of numbers do.
-/
namespace Go.Proofs.YtiopofemelninaaGreat
open Go.RowKit
set_option linter.unusedVariables false

end Go.Proofs.YtiopofemelninaaGreat
