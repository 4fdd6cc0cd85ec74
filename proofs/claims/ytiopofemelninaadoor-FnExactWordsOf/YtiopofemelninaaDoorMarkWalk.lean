/-
  What the laws' own marks answer: a text for each number; they are laid into a slice of strings, and read back.
-/
import Derived.Test.YtiopofemelninaaDoorProg
import Derived.Test.YtiopofemelninaaDoorStrsMath
import Derived.WalkKit
import Derived.WalkLawsBesides
import Derived.Laws.IdiomStrings
import Derived.OwnWalk
import Derived.Deep.RegionHeld3
namespace Go.Proofs.YtiopofemelninaaDoor
open Go.RowKit

def digitB (n : Int) : UInt8 := UInt8.ofNat (48 + n % 10).toNat
/-- The digits of a number, ahead of out. -/
def mtL : Nat → Int → List UInt8 → List UInt8
  | 0, _, out => out
  | f + 1, m, out => if m ≤ 0 then out else mtL f (m / 10) (digitB m :: out)
/-- The mark of a number. -/
def markB (m : Int) : ByteArray := ⟨(109 :: mtL 12 m []).toArray⟩

theorem digitB_toNat (n : Int) : ((digitB n).toNat : Int) = 48 + n % 10 := by
  unfold digitB
  rw [UInt8.toNat_ofNat_of_lt' (by show _ < 256; omega)]
  omega
theorem mtL_end {f : Nat} {m : Int} {out : List UInt8} (h : m ≤ 0) : mtL f m out = out := by
  cases f with
  | zero => rfl
  | succ f => simp [mtL, h]
theorem mtL_step {f : Nat} {m : Int} {out : List UInt8} (h : 0 < m) : mtL (f + 1) m out = mtL f (m / 10) (digitB m :: out) := by
  rw [mtL, if_neg (by omega)]
theorem push_byte (b : UInt8) (out : List UInt8) : (⟨#[b]⟩ ++ ⟨out.toArray⟩ : ByteArray) = ⟨(b :: out).toArray⟩ := by
  rw [ByteArray.mk_append_mk]; simp

set_option maxHeartbeats 1000000 in
theorem markText_any (m : Int) (w : World) (h0 : 1 ≤ m) (h1 : m ≤ 1000000000) :
    Calls Tryd.prog 42 #[.int .i64 m] w fun e w' => e = .returned (.string (markB m)) ∧ Below w.heap.size w w' := by
  have h0' : ¬ m ≤ 0 := by omega
  go_enter Tryd.func42, Tryd.ntmps42
  go_wp2
  go_loopw [0, 3] (fun v o wr => ∃ (f : Nat) (n : Int) (out : List UInt8), v = .int .i64 n ∧ o = .string ⟨out.toArray⟩ ∧ 0 ≤ n ∧ n ≤ 1000000000 ∧ Hid (n < 10 ^ f) ∧ out.length + f = 12 ∧ Below w.heap.size w wr ∧ Hid (mtL f n out = mtL 12 m [])) (fun v _ _ => (intOf v).toNat)
  case atStart => exact ⟨12, m, [], rfl, rfl, by omega, h1, (by show m < 1000000000000; omega), rfl, Below.refl _ _, rfl⟩
  case round =>
    obtain ⟨f, n, out, rfl, rfl, n0, n1, HP, hf, hbw, HM⟩ := hrel
    by_cases hn : 0 < n
    · obtain ⟨f, rfl⟩ : ∃ g, f = g + 1 := by
        cases f with
        | zero => have := unhide HP; simp at this; omega
        | succ f => exact ⟨f, rfl⟩
      have HP2 : Hid (n / 10 < 10 ^ f) := by
        have := unhide HP
        rw [Int.pow_succ] at this
        show n / 10 < 10 ^ f
        omega
      have HM2 := hide ((mtL_step (f := f) (out := out) hn).symm.trans (unhide HM))
      have hcv : (convert 77 9 (.slice (some ⟨wr.heap.size, 0, none⟩) 1 1)).run Tryd.prog (wr.alloc (.cells #[.int .u8 (48 + n % 10)] 5)) = .ok (.string ⟨#[digitB n]⟩) (wr.alloc (.cells #[.int .u8 (48 + n % 10)] 5)) := by
        have hx := run_convert_bytes_back (P := Tryd.prog) (wr.alloc (.cells #[.int .u8 (48 + n % 10)] 5)) 77 9 5 ⟨wr.heap.size, 0, none⟩ 1 [digitB n] Tryd.underlying77 Tryd.underlying5 Tryd.underlying9 (fun j hj => by
          obtain rfl : j = 0 := by simpa using hj
          simp only [List.getElem_cons_zero]
          rw [digitB_toNat]
          simp [Addr.add, go_sem])
        exact hx
      have HB := hide hbw
      clear hbw
      go_wp2
      exact ⟨⟨f, n / 10, digitB n :: out, rfl, by rw [push_byte], by omega, by omega, HP2, by simp; omega, (unhide HB).alloc (unhide HB).size _, unhide HM2⟩, by simp [intOf]; omega⟩
    · have hr : mtL 12 m [] = out := by rw [← unhide HM]; exact mtL_end (by omega)
      have hr2 : markB m = ⟨(109 :: out).toArray⟩ := by rw [markB, hr]
      have HR := hide hr2
      have HB := hide hbw
      clear hr hr2 hbw
      go_wp2
      go_ret
      refine ⟨?_, unhide HB⟩
      rw [unhide HR, ← push_byte]
      rfl

theorem ownsRow_stay {w w' : World} {base : Nat} {e : TypeId} {v : Value} {n : Nat} {xs : List Value} (h : w.ownsRow base e 1 v n xs) (hk : ∀ k, k < w.heap.size → w'.heap[k]? = w.heap[k]?) : w'.ownsRow base e 1 v n xs := by
  refine ⟨h.1, ?_⟩
  rcases h.2 with h2 | ⟨g, cap, cur, a, b, c, d⟩
  · exact .inl h2
  · exact .inr ⟨g, cap, cur, a, b, (hk g (Array.getElem?_eq_some_iff.1 c).1).trans c, d⟩

/-- No block that was there turned, but the one at a. -/
def Besides (a : Option Addr) (w w' : World) : Prop := ∀ q, q < w.heap.size → (∀ x, a = some x → q ≠ x.block) → w'.heap[q]? = w.heap[q]?
theorem Besides.trans {a : Option Addr} {w w1 w2 : World} (h : Besides a w w1) (hz : w.heap.size ≤ w1.heap.size) (k : Besides a w1 w2) : Besides a w w2 :=
  fun q hq hx => (k q (by omega) hx).trans (h q hq hx)
theorem Besides.ofBelow {a : Option Addr} {w w1 : World} (h : Below w.heap.size w w1) : Besides a w w1 := fun q hq _ => h.block q hq

/-- The marks of n numbers from m on. -/
def marks (m : Int) (n : Nat) : List ByteArray := (List.range n).map fun (j : Nat) => markB (m + (j : Int))
theorem marks_length (m : Int) (n : Nat) : (marks m n).length = n := by simp [marks]
theorem marks_at (m : Int) (n j : Nat) (h : j < n) : (marks m n)[j]'(by rw [marks_length]; exact h) = markB (m + (j : Int)) := by simp [marks]

set_option maxHeartbeats 1000000 in
theorem markStringS_any (v : Value) (n base : Nat) (xs : List Value) (m : Int) (w : World) (how : w.ownsRow base 9 1 v n xs) (hn : n ≤ 1048577) (h0 : 1 ≤ m) (h1 : m ≤ 10000000) (hbs : base ≤ w.heap.size) :
    Calls Tryd.prog 24 #[v, .int .i64 m] w fun e w' => e = .returned (.int .i64 (m + n)) ∧ w'.ownsRow base 9 1 v n ((marks m n).map Value.string) ∧ Below base w w' ∧ ∀ a n' c, v = .slice a n' c → Besides a w w' := by
  obtain ⟨a, c, rfl, hv⟩ : ∃ a c, v = .slice a n c ∧ (n = 0 ∨ ∃ g, a = some ⟨g, 0, none⟩) := by
    rcases how.2 with ⟨rfl, rfl⟩ | ⟨g, cap, cur, rfl, _⟩
    · exact ⟨none, 0, rfl, .inl rfl⟩
    · exact ⟨_, cap, rfl, .inr ⟨g, rfl⟩⟩
  have hxl : xs.length = n := by have := how.1; omega
  go_enter Tryd.func24, Tryd.ntmps24
  go_wp2
  go_loopw [1, 5] (fun t i wr => ∃ (k : Nat) (ys : List Value), k ≤ n ∧ i = .int .i64 k ∧ t = .int .i64 (m + k) ∧ ys.length = n ∧ wr.ownsRow base 9 1 (.slice a n c) n ys ∧ Below base w wr ∧ Besides a w wr ∧ w.heap.size ≤ wr.heap.size ∧ Hid (∀ j, j < k → ys[j]? = some (.string (markB (m + (j : Int)))))) (fun _ i _ => n - (intOf i).toNat)
  case atStart => exact ⟨0, xs, Nat.zero_le _, rfl, by simp, hxl, how, Below.refl _ _, fun _ _ _ => rfl, Nat.le_refl _, fun j hj => absurd hj (Nat.not_lt_zero j)⟩
  case round =>
    obtain ⟨k, ys, hk, rfl, rfl, hyl, hoy, hbw, hbes, hsz, HY⟩ := hrel
    have HE := hide hbes
    clear hbes
    clear how
    by_cases hlt : k < n
    · obtain ⟨g, rfl⟩ : ∃ g, a = some ⟨g, 0, none⟩ := by
        rcases hv with h | h
        · omega
        · exact h
      have HO := hide hoy
      have HB := hide hbw
      have hbz := hbw.size
      clear hoy hbw hv
      go_wp2_with fail
      refine (markText_any _ _ (by omega) (by omega)).mono ?_
      rintro e w2 ⟨rfl, hb2⟩
      have ho2 := ownsRow_stay (unhide HO) (fun q hq => hb2.block q hq)
      have hck := ho2.cellAt k (by omega)
      rw [List.getElem?_eq_getElem (by omega)] at hck
      have hfz := ho2.frozenAt k
      obtain ⟨hst, -⟩ := ho2.stored k (.string (markB (m + (k : Int))))
      have HST := hide hst
      have hgb : base ≤ g := (ho2.lt g rfl).1
      have HB2 := hide (((unhide HB).trans (hb2.mono (by omega))).setCell (p := ⟨g, k, none⟩) hgb (.string (markB (m + (k : Int)))))
      have HE2 : Hid (Besides (some ⟨g, 0, none⟩) w (w2.setCell ⟨g, k, none⟩ (.string (markB (m + (k : Int)))))) :=
        (unhide HE).trans hsz ((Besides.ofBelow hb2).trans hb2.size (fun q _ hx => Below.heap_setCell _ _ _ q (by have := hx _ rfl; exact this)))
      have hsz2 : w.heap.size ≤ (w2.setCell ⟨g, k, none⟩ (.string (markB (m + (k : Int))))).heap.size := by have := hb2.size; simp [World.setCell]; omega
      have HZ2 := hide hsz2
      clear hsz2
      have HY2 : Hid (∀ j, j < k + 1 → (ys.set k (.string (markB (m + (k : Int)))))[j]? = some (.string (markB (m + (j : Int))))) := by
        intro j hj
        rw [List.getElem?_set]
        by_cases e : k = j
        · subst e
          simp [hyl, hlt]
        · rw [if_neg e]
          exact unhide HY j (by omega)
      clear hst hb2 ho2
      go_wp2_with fail
      go_roundw
      case rel => exact ⟨k + 1, _, by omega, by go_num, by go_num, by simpa using hyl, unhide HST, unhide HB2, unhide HE2, unhide HZ2, HY2⟩
      case measure => simp [intOf]; omega
    · have hke : k = n := by omega
      have hys : ys = (marks m n).map Value.string := by
        apply List.ext_getElem?
        intro j
        by_cases hj : j < n
        · rw [unhide HY j (by omega)]
          rw [List.getElem?_map, List.getElem?_eq_getElem (by rw [marks_length]; exact hj), marks_at m n j hj]
          rfl
        · rw [List.getElem?_eq_none (by omega), List.getElem?_eq_none (by rw [List.length_map, marks_length]; omega)]
      rw [hys] at hoy
      have HO := hide hoy
      have HB := hide hbw
      clear hoy hbw hys hv
      subst hke
      go_wp2
      go_ret
      exact ⟨rfl, unhide HO, unhide HB, fun a' n' c' h => by cases h; exact unhide HE⟩

theorem keepM {W0 w' w1 : World} {b o : Nat} {v : Value} (h3 : b < W0.heap.size) (hS : Below W0.heap.size W0 w' ∧ w'.cell? ⟨b, o, none⟩ = some v) (hb : Below w'.heap.size w' w1) : Below W0.heap.size W0 w1 ∧ w1.cell? ⟨b, o, none⟩ = some v := by
  obtain ⟨h, c⟩ := hS
  have hz := h.size
  exact ⟨h.trans (hb.mono h.size), ((bcell hb).1 _ _ (by omega)).trans c⟩

set_option maxHeartbeats 1000000 in
theorem heldStringS_any (a : Option Addr) (c n : Nat) (m : Int) (w : World) (h : StrsAt w a (marks m n)) (hn : n ≤ 1048577) (h0 : 1 ≤ m) (h1 : m ≤ 10000000) :
    Calls Tryd.prog 25 #[.slice a n c, .int .i64 m] w fun e w' => e = .returned (.int .i64 (m + n)) ∧ Below w.heap.size w w' := by
  go_enter Tryd.func25, Tryd.ntmps25
  go_wp2
  go_loopw [1, 5] (fun t i wr => ∃ k : Nat, k ≤ n ∧ i = .int .i64 k ∧ t = .int .i64 (m + k) ∧ Below w.heap.size w wr) (fun _ i _ => n - (intOf i).toNat)
  case atStart => exact ⟨0, Nat.zero_le _, rfl, by simp, Below.refl _ _⟩
  case round =>
    obtain ⟨k, hk, rfl, rfl, hbw⟩ := hrel
    by_cases hlt : k < n
    · obtain ⟨b, o, rfl, hb, hc⟩ := h.at (k := k) (by rw [marks_length]; exact hlt)
      have hck := hc k (by rw [marks_length]; exact hlt)
      rw [marks_at m n k hlt] at hck
      have hwz := hbw.size
      have hckr : wr.cell? ⟨b, o + k, none⟩ = some (.string (markB (m + (k : Int)))) := by
        rw [hbw.cell (p := ⟨b, o + k, none⟩) hb]; exact hck
      have hlt' : (k : Int) < n := by omega
      have HB := hide hbw
      clear hc h hbw hck
      generalize hmm : markB (m + (k : Int)) = mk at *
      have HMM := hide hmm
      clear hmm
      have hD : (fun w' => Below wr.heap.size wr w' ∧ w'.cell? ⟨b, o + k, none⟩ = some (.string mk)) wr.drew := ⟨(Below.refl _ _).drew, hckr⟩
      go_wp2_with fail
      go_region_held3 (fun w' => Below wr.heap.size wr w' ∧ w'.cell? ⟨b, o + k, none⟩ = some (.string mk)) (first | exact hD | exact keepM (by omega) (by assumption) (by assumption))
        (first | (go_at_call 42; refine (markText_any _ _ (by omega) (by omega)).mono ?_; rintro e w2 ⟨rfl, hb2⟩; rw [unhide HMM]))
      go_wp2_with fail
      rename_i hSF
      exact ⟨⟨k + 1, by omega, by go_num, by go_num, (unhide HB).trans (hSF.1.mono hwz)⟩, by simp [intOf]; omega⟩
    · have hke : k = n := by omega
      subst hke
      have HB := hide hbw
      clear hbw h
      go_wp2
      go_ret
      exact ⟨rfl, unhide HB⟩
end Go.Proofs.YtiopofemelninaaDoor
