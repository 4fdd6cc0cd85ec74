/-
  The laws' own marks, told weakly: rows keep their lengths, and nothing but those rows is written.
-/
import Derived.Test.YtaadbgebcknfkaaProg
import Derived.Test.YtaadbgebcknfkaaRowMath
import Derived.Test.YtaadbgebcknfkaaMarkWalk
import Derived.Test.YtaadbgebcknfkaaWideBox
import Derived.WalkKit
import Derived.WalkLawsBesides
import Derived.OwnWalk
namespace Go.Proofs.Ytaadbgebcknfkaa
open Go.RowKit
set_option linter.unusedVariables false

/-- Every row keeps its length. -/
def Shp (w w' : World) : Prop := ∀ q xs t, Box w q xs t → ∃ ys, Box w' q ys t ∧ ys.length = xs.length
theorem Shp.refl (w : World) : Shp w w := fun q xs t h => ⟨xs, h, rfl⟩
theorem Shp.trans {a b c : World} (h : Shp a b) (k : Shp b c) : Shp a c := fun q xs t hx => by
  obtain ⟨ys, hy, e⟩ := h q xs t hx
  obtain ⟨zs, hz, e2⟩ := k q ys t hy
  exact ⟨zs, hz, e2.trans e⟩
theorem Shp.ofBelow {w w' : World} (h : Below w.heap.size w w') : Shp w w' := fun q xs t hx => ⟨xs, hx.below h, rfl⟩
theorem Shp.setCell {w w' : World} (h : Shp w w') (b i : Nat) (v : Value) : Shp w (w'.setCell ⟨b, i, none⟩ v) := fun q xs t hx => by
  obtain ⟨ys, hy, e⟩ := h q xs t hx
  by_cases hq : q = b
  · subst hq; exact ⟨_, hy.set i v, by simpa using e⟩
  · exact ⟨ys, hy.set_other (p := ⟨b, i, none⟩) hq v, e⟩
/-- A row of at least n cells in the blocks from lo to hi (nothing is asked where n is 0). -/
def RowB (w : World) (t : TypeId) (a : Option Addr) (n lo hi : Nat) : Prop := n = 0 ∨ ∃ g xs, a = some ⟨g, 0, none⟩ ∧ Box w g xs t ∧ n ≤ xs.length ∧ lo ≤ g ∧ g < hi
theorem RowB.shp {w w' : World} {t : TypeId} {a : Option Addr} {n lo hi : Nat} (h : RowB w t a n lo hi) (s : Shp w w') : RowB w' t a n lo hi := by
  rcases h with h | ⟨g, xs, e, hb, hl, h1, h2⟩
  · exact .inl h
  · obtain ⟨ys, hy, e2⟩ := s g xs t hb
    exact .inr ⟨g, ys, e, hy, by omega, h1, h2⟩
theorem RowB.wide {w : World} {t : TypeId} {a : Option Addr} {n lo hi lo' hi' : Nat} (h : RowB w t a n lo hi) (h1 : lo' ≤ lo) (h2 : hi ≤ hi') : RowB w t a n lo' hi' := by
  rcases h with h | ⟨g, xs, e, hb, hl, h3, h4⟩
  · exact .inl h
  · exact .inr ⟨g, xs, e, hb, hl, by omega, by omega⟩
theorem RowB.in {w : World} {t : TypeId} {a : Option Addr} {n lo hi : Nat} (h : RowB w t a n lo hi) {q : Nat} (hn : 0 < n) (hq : a = some ⟨q, 0, none⟩) : lo ≤ q ∧ q < hi := by
  rcases h with h | ⟨g, xs, rfl, hb, hl, h3, h4⟩
  · omega
  · cases hq; exact ⟨h3, h4⟩
/-- A row of our own is one. -/
theorem rowB_own {w : World} {base n c : Nat} {t : TypeId} {s : Nat} {a : Option Addr} {xs : List Value} (h : w.ownsRow base t s (.slice a n c) n xs) : RowB w t a (n * s) base w.heap.size := by
  rcases h.2 with ⟨h1, h0⟩ | ⟨g, cap, cur, h1, h2, h3, h4, h5, h6, h7⟩
  · left; rw [h0]; omega
  · right
    cases h1
    refine ⟨g, cur.toList, rfl, by unfold Box; simpa using h3, ?_, h2, (Array.getElem?_eq_some_iff.1 h3).1⟩
    rw [Array.length_toList, h6]
    exact Nat.mul_le_mul_right _ h4
theorem Box.has {w : World} {b : Nat} {cs : List Value} {t : TypeId} (h : Box w b cs t) {i : Nat} (hi : i < cs.length) : ∃ v, w.cell? ⟨b, i, none⟩ = some v := ⟨cs[i], by rw [h.cell, List.getElem?_eq_getElem hi]⟩
/-- Every row of this type is as it was. -/
def Kept (t : TypeId) (w w' : World) : Prop := ∀ q xs, Box w q xs t → Box w' q xs t
theorem Kept.refl (t : TypeId) (w : World) : Kept t w w := fun _ _ h => h
theorem Kept.trans {t : TypeId} {a b c : World} (h : Kept t a b) (k : Kept t b c) : Kept t a c := fun q xs hx => k q xs (h q xs hx)
theorem Kept.ofBelow {t : TypeId} {w w' : World} (h : Below w.heap.size w w') : Kept t w w' := fun q xs hx => hx.below h
theorem Kept.setCell {t t' : TypeId} {w w' : World} (h : Kept t w w') {g : Nat} {ys : List Value} (hb : Box w' g ys t') (ht : t' ≠ t) (i : Nat) (v : Value) : Kept t w (w'.setCell ⟨g, i, none⟩ v) := fun q xs hx => by
  have h2 := h q xs hx
  refine h2.set_other (p := ⟨g, i, none⟩) ?_ v
  rintro rfl
  unfold Box at h2 hb
  rw [h2] at hb
  simp at hb
  exact ht hb.2.symm
theorem kept_of {t t' : TypeId} {w w' : World} {a : Option Addr} {n s lo hi : Nat} (ho : Out (fun q => 0 < n ∧ a = some ⟨q, 0, none⟩) w w') (hr : RowB w t' a (n * s) lo hi) (hs : 0 < s) (ht : t' ≠ t) : Kept t w w' := fun q xs hx => by
  refine hx.out ho ?_
  rintro ⟨hp, e⟩
  rcases hr with hz | ⟨g', ys, e', hb', -⟩
  · have := Nat.mul_pos hp hs; omega
  · rw [e] at e'; cases e'
    unfold Box at hx hb'
    rw [hx] at hb'
    simp at hb'
    exact ht hb'.2.symm
/-- How far a list of records is marked: its row in the block g keeps the cells of K. -/
structure MSt (w wr : World) (g lo hi : Nat) (t : TypeId) (len : Nat) (K : Nat → Value → Prop) : Prop where
  shp : Shp w wr
  out : Out (fun q => lo ≤ q ∧ q < hi) w wr
  row : ∃ xs, Box wr g xs t ∧ xs.length = len ∧ ∀ i v, K i v → xs[i]? = some v
theorem MSt.start {w : World} {g lo hi : Nat} {t : TypeId} {len : Nat} {K : Nat → Value → Prop} (h : ∃ xs, Box w g xs t ∧ xs.length = len ∧ ∀ i v, K i v → xs[i]? = some v) : MSt w w g lo hi t len K := ⟨Shp.refl _, Out.refl _ _, h⟩
theorem MSt.set {w wr : World} {g lo hi : Nat} {t : TypeId} {len : Nat} {K : Nat → Value → Prop} (h : MSt w wr g lo hi t len K) (h1 : lo ≤ g) (h2 : g < hi) (i : Nat) (v : Value) (hK : ∀ u, ¬ K i u) : MSt w (wr.setCell ⟨g, i, none⟩ v) g lo hi t len K := by
  obtain ⟨xs, hx, hl, hk⟩ := h.row
  refine ⟨h.shp.setCell g i v, h.out.setCell (p := ⟨g, i, none⟩) (.inl ⟨h1, h2⟩) v, _, hx.set i v, by simpa using hl, fun j u hj => ?_⟩
  rw [List.getElem?_set_ne (by rintro rfl; exact hK u hj)]
  exact hk j u hj
theorem MSt.below {w wr w' : World} {g lo hi : Nat} {t : TypeId} {len : Nat} {K : Nat → Value → Prop} (h : MSt w wr g lo hi t len K) (hb : Below wr.heap.size wr w') : MSt w w' g lo hi t len K := by
  obtain ⟨xs, hx, hl, hk⟩ := h.row
  exact ⟨h.shp.trans (Shp.ofBelow hb), h.out.trans (Out.ofBelow (F := fun q => lo ≤ q ∧ q < hi) hb) (fun _ _ h => h), xs, hx.below hb, hl, hk⟩
theorem MSt.mark {w wr w' : World} {g lo hi : Nat} {t : TypeId} {len : Nat} {K : Nat → Value → Prop} (h : MSt w wr g lo hi t len K) {t' : TypeId} {a : Option Addr} {n s : Nat} (hs : Shp wr w') (ho : Out (fun q => 0 < n ∧ a = some ⟨q, 0, none⟩) wr w') (hr : RowB wr t' a (n * s) lo hi) (hsp : 0 < s) (ht : t' ≠ t) : MSt w w' g lo hi t len K := by
  have hpos : 0 < n → 0 < n * s := fun hn => Nat.mul_pos hn hsp
  refine ⟨h.shp.trans hs, h.out.trans ho (fun q _ e => RowB.in hr (hpos e.1) e.2), ?_⟩
  obtain ⟨xs, hx, hl, hk⟩ := h.row
  refine ⟨xs, hx.out ho ?_, hl, hk⟩
  rintro ⟨hp, e⟩
  rcases hr with hz | ⟨g', ys, e', hb', -⟩
  · have := hpos hp; omega
  · rw [e] at e'; cases e'
    unfold Box at hx hb'
    rw [hx] at hb'
    simp at hb'
    exact ht hb'.2.symm
theorem MSt.has {w wr : World} {g lo hi : Nat} {t : TypeId} {len : Nat} {K : Nat → Value → Prop} (h : MSt w wr g lo hi t len K) {i : Nat} (hi' : i < len) : ∃ v, wr.cell? ⟨g, i, none⟩ = some v := by
  obtain ⟨xs, hx, hl, hk⟩ := h.row
  exact hx.has (by omega)
theorem MSt.cell {w wr : World} {g lo hi : Nat} {t : TypeId} {len : Nat} {K : Nat → Value → Prop} (h : MSt w wr g lo hi t len K) {i : Nat} {v : Value} (hk : K i v) : wr.cell? ⟨g, i, none⟩ = some v := by
  obtain ⟨xs, hx, hl, hh⟩ := h.row
  exact (hx.cell i).trans (hh i v hk)
theorem MSt.frozen {w wr : World} {g lo hi : Nat} {t : TypeId} {len : Nat} {K : Nat → Value → Prop} (h : MSt w wr g lo hi t len K) (i : Nat) : wr.frozen? ⟨g, i, none⟩ = false := by
  obtain ⟨xs, hx, hl, hh⟩ := h.row
  exact hx.frozen i
set_option maxHeartbeats 1000000 in
theorem markTextB (m : Int) (w : World) (h0 : 1 ≤ m) (h1 : m ≤ 1000000000000000) :
    Calls Try.prog 107 #[.int .i64 m] w fun e w' => (∃ s, e = .returned (.string s)) ∧ Below w.heap.size w w' := by
  have h0' : ¬ m ≤ 0 := by omega
  go_enter Try.func107, Try.ntmps107
  go_wp2
  go_loopw [0, 3] (fun v o wr => ∃ (f : Nat) (n : Int) (out : List UInt8), v = .int .i64 n ∧ o = .string ⟨out.toArray⟩ ∧ 0 ≤ n ∧ n ≤ 1000000000000000 ∧ Hid (n < 10 ^ f) ∧ out.length + f = 16 ∧ Below w.heap.size w wr) (fun v _ _ => (intOf v).toNat)
  case atStart => exact ⟨16, m, [], rfl, rfl, by omega, h1, (by show m < 10000000000000000; omega), rfl, Below.refl _ _⟩
  case round =>
    obtain ⟨f, n, out, rfl, rfl, n0, n1, HP, hf, hbw⟩ := hrel
    by_cases hn : 0 < n
    · obtain ⟨f, rfl⟩ : ∃ g, f = g + 1 := by
        cases f with
        | zero => have := unhide HP; simp at this; omega
        | succ f => exact ⟨f, rfl⟩
      have HP2 : Hid (n / 10 < 10 ^ f) := by
        have := unhide HP
        rw [Int.pow_succ] at this
        show n / 10 < 10 ^ f
        omega
      have hcv : (convert 22 9 (.slice (some ⟨wr.heap.size, 0, none⟩) 1 1)).run Try.prog (wr.alloc (.cells #[.int .u8 (48 + n % 10)] 5)) = .ok (.string ⟨#[digitB n]⟩) (wr.alloc (.cells #[.int .u8 (48 + n % 10)] 5)) := by
        have hx := run_convert_bytes_back (P := Try.prog) (wr.alloc (.cells #[.int .u8 (48 + n % 10)] 5)) 22 9 5 ⟨wr.heap.size, 0, none⟩ 1 [digitB n] Try.underlying22 Try.underlying5 Try.underlying9 (fun j hj => by
          obtain rfl : j = 0 := by simpa using hj
          simp only [List.getElem_cons_zero]
          rw [digitB_toNat]
          simp [Addr.add, go_sem])
        exact hx
      have HB := hide hbw
      clear hbw
      go_wp2
      exact ⟨⟨f, n / 10, digitB n :: out, rfl, by rw [push_byte], by omega, by omega, HP2, by simp; omega, (unhide HB).alloc (unhide HB).size _⟩, by simp [intOf]; omega⟩
    · have HB := hide hbw
      clear hbw
      go_wp2
      go_ret
      exact ⟨⟨_, rfl⟩, unhide HB⟩
set_option maxHeartbeats 1000000 in
theorem markInt64B (a : Option Addr) (c n : Nat) (m : Int) (w : World) (lo hi : Nat) (h : RowB w 2 a n lo hi) (hn : n ≤ 1048576) (h0 : 1 ≤ m) (h1 : m ≤ 1000000000000000) :
    Calls Try.prog 75 #[.slice a n c, .int .i64 m] w fun e w' => e = .returned (.int .i64 (m + n)) ∧ Shp w w' ∧ Out (fun q => 0 < n ∧ a = some ⟨q, 0, none⟩) w w' := by
  go_enter Try.func75, Try.ntmps75
  go_wp2
  go_loopw [1, 5] (fun t i wr => ∃ (k : Nat), k ≤ n ∧ i = .int .i64 k ∧ t = .int .i64 (m + k) ∧ Hid (Shp w wr) ∧ Hid (Out (fun q => 0 < n ∧ a = some ⟨q, 0, none⟩) w wr)) (fun _ i _ => n - (intOf i).toNat)
  case atStart => exact ⟨0, Nat.zero_le _, rfl, by simp, Shp.refl _, Out.refl _ _⟩
  case round =>
    obtain ⟨k, hk, rfl, rfl, HS, HU⟩ := hrel
    by_cases hlt : k < n
    · obtain ⟨g, xs, rfl, hb, hl, -, -⟩ : ∃ g xs, a = some ⟨g, 0, none⟩ ∧ Box w g xs 2 ∧ n ≤ xs.length ∧ lo ≤ g ∧ g < hi := by
        rcases h with h | h
        · omega
        · exact h
      obtain ⟨ys, hy, hyl⟩ := unhide HS g xs _ hb
      obtain ⟨v0, hck⟩ := hy.has (i := k) (by omega)
      have hfz := hy.frozen k
      have HS2 := hide ((unhide HS).setCell g k (.int .i64 (m + (k : Int))))
      have HU2 := hide ((unhide HU).setCell (p := ⟨g, k, none⟩) (.inl ⟨by omega, rfl⟩) (.int .i64 (m + (k : Int))))
      clear hy hb h hyl
      go_wp2
      go_roundw
      case rel => exact ⟨k + 1, by omega, by go_num, by go_num, HS2, HU2⟩
      case measure => simp [intOf]; omega
    · have hke : k = n := by omega
      subst hke
      clear h
      go_wp2
      go_ret
      exact ⟨rfl, unhide HS, unhide HU⟩
set_option maxHeartbeats 1000000 in
theorem markBoolB (a : Option Addr) (c n : Nat) (m : Int) (w : World) (lo hi : Nat) (h : RowB w 4 a n lo hi) (hn : n ≤ 1048576) (h0 : 1 ≤ m) (h1 : m ≤ 1000000000000000) :
    Calls Try.prog 74 #[.slice a n c, .int .i64 m] w fun e w' => e = .returned (.int .i64 (m + n)) ∧ Shp w w' ∧ Out (fun q => 0 < n ∧ a = some ⟨q, 0, none⟩) w w' := by
  go_enter Try.func74, Try.ntmps74
  go_wp2
  go_loopw [1, 5] (fun t i wr => ∃ (k : Nat), k ≤ n ∧ i = .int .i64 k ∧ t = .int .i64 (m + k) ∧ Hid (Shp w wr) ∧ Hid (Out (fun q => 0 < n ∧ a = some ⟨q, 0, none⟩) w wr)) (fun _ i _ => n - (intOf i).toNat)
  case atStart => exact ⟨0, Nat.zero_le _, rfl, by simp, Shp.refl _, Out.refl _ _⟩
  case round =>
    obtain ⟨k, hk, rfl, rfl, HS, HU⟩ := hrel
    by_cases hlt : k < n
    · obtain ⟨g, xs, rfl, hb, hl, -, -⟩ : ∃ g xs, a = some ⟨g, 0, none⟩ ∧ Box w g xs 4 ∧ n ≤ xs.length ∧ lo ≤ g ∧ g < hi := by
        rcases h with h | h
        · omega
        · exact h
      obtain ⟨ys, hy, hyl⟩ := unhide HS g xs _ hb
      obtain ⟨v0, hck⟩ := hy.has (i := k) (by omega)
      have hfz := hy.frozen k
      have r3 : (m + (k : Int)).tmod 3 = (m + (k : Int)) % 3 := Int.tmod_eq_emod_of_nonneg (by omega)
      have r4 : -9223372036854775808 ≤ (m + (k : Int)) % 3 ∧ (m + (k : Int)) % 3 ≤ 9223372036854775807 := by omega
      have HS2 := hide ((unhide HS).setCell g k (.bool ((m + (k : Int)) % 3 == 0)))
      have HU2 := hide ((unhide HU).setCell (p := ⟨g, k, none⟩) (.inl ⟨by omega, rfl⟩) (.bool ((m + (k : Int)) % 3 == 0)))
      clear hy hb h hyl
      go_wp2
      go_roundw
      case rel => exact ⟨k + 1, by omega, by go_num, by go_num, HS2, HU2⟩
      case measure => simp [intOf]; omega
    · have hke : k = n := by omega
      subst hke
      clear h
      go_wp2
      go_ret
      exact ⟨rfl, unhide HS, unhide HU⟩
set_option maxHeartbeats 1000000 in
theorem markCellB (a : Option Addr) (c n : Nat) (m : Int) (w : World) (lo hi : Nat) (h : RowB w 192 a (n * 2) lo hi) (hn : n ≤ 1048576) (h0 : 1 ≤ m) (h1 : m ≤ 1000000000000000) :
    Calls Try.prog 106 #[.slice a n c, .int .i64 m] w fun e w' => e = .returned (.int .i64 (m + 2 * n)) ∧ Shp w w' ∧ Out (fun q => 0 < n ∧ a = some ⟨q, 0, none⟩) w w' := by
  go_enter Try.func106, Try.ntmps106
  go_wp2
  go_loopw [1, 5] (fun t i wr => ∃ (k : Nat), k ≤ n ∧ i = .int .i64 k ∧ t = .int .i64 (m + 2 * k) ∧ Hid (Shp w wr) ∧ Hid (Out (fun q => 0 < n ∧ a = some ⟨q, 0, none⟩) w wr)) (fun _ i _ => n - (intOf i).toNat)
  case atStart => exact ⟨0, Nat.zero_le _, rfl, by simp, Shp.refl _, Out.refl _ _⟩
  case round =>
    obtain ⟨k, hk, rfl, rfl, HS, HU⟩ := hrel
    by_cases hlt : k < n
    · obtain ⟨g, xs, rfl, hb, hl, -, -⟩ : ∃ g xs, a = some ⟨g, 0, none⟩ ∧ Box w g xs 192 ∧ n * 2 ≤ xs.length ∧ lo ≤ g ∧ g < hi := by
        rcases h with h | h
        · omega
        · exact h
      obtain ⟨ys, hy, hyl⟩ := unhide HS g xs _ hb
      obtain ⟨v0, hck⟩ := hy.has (i := k * 2) (by omega)
      obtain ⟨v1, hcj⟩ := hy.has (i := k * 2 + 1) (by omega)
      have hfz := hy.frozen (k * 2)
      have hfj := hy.frozen (k * 2 + 1)
      have HS2 := hide (((unhide HS).setCell g (k * 2) (.int .i64 (m + 2 * (k : Int)))).setCell g (k * 2 + 1) (.int .i64 (m + 2 * (k : Int) + 1)))
      have HU2 := hide (((unhide HU).setCell (p := ⟨g, k * 2, none⟩) (.inl ⟨by omega, rfl⟩) (.int .i64 (m + 2 * (k : Int)))).setCell (p := ⟨g, k * 2 + 1, none⟩) (.inl ⟨by omega, rfl⟩) (.int .i64 (m + 2 * (k : Int) + 1)))
      clear hy hb h hyl
      go_wp2
      go_roundw
      case rel => exact ⟨k + 1, by omega, by go_num, by go_num, HS2, HU2⟩
      case measure => simp [intOf]; omega
    · have hke : k = n := by omega
      subst hke
      clear h
      go_wp2
      go_ret
      exact ⟨rfl, unhide HS, unhide HU⟩
set_option maxHeartbeats 1000000 in
theorem markStringB (a : Option Addr) (c n : Nat) (m : Int) (w : World) (lo hi : Nat) (h : RowB w 9 a n lo hi) (hn : n ≤ 1048576) (h0 : 1 ≤ m) (h1 : m ≤ 900000000000000) :
    Calls Try.prog 108 #[.slice a n c, .int .i64 m] w fun e w' => e = .returned (.int .i64 (m + n)) ∧ Shp w w' ∧ Out (fun q => 0 < n ∧ a = some ⟨q, 0, none⟩) w w' := by
  go_enter Try.func108, Try.ntmps108
  go_wp2
  go_loopw [1, 5] (fun t i wr => ∃ (k : Nat), k ≤ n ∧ i = .int .i64 k ∧ t = .int .i64 (m + k) ∧ Hid (Shp w wr) ∧ Hid (Out (fun q => 0 < n ∧ a = some ⟨q, 0, none⟩) w wr)) (fun _ i _ => n - (intOf i).toNat)
  case atStart => exact ⟨0, Nat.zero_le _, rfl, by simp, Shp.refl _, Out.refl _ _⟩
  case round =>
    obtain ⟨k, hk, rfl, rfl, HS, HU⟩ := hrel
    by_cases hlt : k < n
    · obtain ⟨g, xs, rfl, hb, hl, -, -⟩ : ∃ g xs, a = some ⟨g, 0, none⟩ ∧ Box w g xs 9 ∧ n ≤ xs.length ∧ lo ≤ g ∧ g < hi := by
        rcases h with h | h
        · omega
        · exact h
      go_wp2_with fail
      refine (markTextB _ _ (by omega) (by omega)).mono ?_
      rintro e w2 ⟨⟨s, rfl⟩, hb2⟩
      have HS1 := hide ((unhide HS).trans (Shp.ofBelow hb2))
      have HU1 := hide ((unhide HU).trans (Out.ofBelow (F := fun q => 0 < n ∧ (some ⟨g, 0, none⟩ : Option Addr) = some ⟨q, 0, none⟩) hb2) (fun _ _ h => h))
      obtain ⟨ys, hy, hyl⟩ := unhide HS1 g xs _ hb
      obtain ⟨v0, hck⟩ := hy.has (i := k) (by omega)
      have hfz := hy.frozen k
      have HS2 := hide ((unhide HS1).setCell g k (.string s))
      have HU2 := hide ((unhide HU1).setCell (p := ⟨g, k, none⟩) (.inl ⟨by omega, rfl⟩) (.string s))
      clear hy hb h hyl hb2 HS HU HS1 HU1
      go_wp2_with fail
      go_roundw
      case rel => exact ⟨k + 1, by omega, by go_num, by go_num, HS2, HU2⟩
      case measure => simp [intOf]; omega
    · have hke : k = n := by omega
      subst hke
      clear h
      go_wp2_with fail
      go_ret
      exact ⟨rfl, unhide HS, unhide HU⟩
end Go.Proofs.Ytaadbgebcknfkaa
