/-
  What the laws' own copies, looks and marks of lists of acts do.
-/
import Derived.Test.YtdijmijipgnlgaaTripMath
import Derived.Test.YtdijmijipgnlgaaDevTo
import Derived.Test.YtdijmijipgnlgaaDevEq
import Derived.Test.YtdijmijipgnlgaaDevMark
import Derived.Deep.RegionHeld3
namespace Go.Proofs.Ytdijmijipgnlgaa
open Go.RowKit
set_option linter.unusedVariables false

set_option maxHeartbeats 1000000 in
theorem toAct_any (x y z : Int) (w : World) :
    Calls Try.prog 143 #[.agg #[.int .i64 x, .int .i64 y, .int .i64 z]] w fun e w' => e = .returned (.agg #[.int .i64 x, .int .i64 y, .int .i64 z]) ∧ Below w.heap.size w w' := by
  go_enter Try.func143, Try.ntmps143
  go_wp2
  refine bodyPost_ret (v := .agg #[.int .i64 x, .int .i64 y, .int .i64 z]) (by simp [results, Try.results143, go_sem]) rfl ⟨rfl, ?_⟩
  repeat (first | exact Below.refl _ _ | (with_reducible refine Below.alloc ?_ ?_ _; rotate_left; first | omega | (simp <;> omega)) | (with_reducible refine Below.setCell ?_ ?_ _; rotate_left; first | omega | (simp <;> omega)))

theorem trips_step {l : List Trip} {xs : List Value} {k : Nat} (hlt : k < l.length) (hxl : xs.length = l.length * 3) (h : xs.take (k * 3) = trs (l.take k)) :
    (((xs.set (k * 3) (.int .i64 l[k].1)).set (k * 3 + 1) (.int .i64 l[k].2.1)).set (k * 3 + 2) (.int .i64 l[k].2.2)).take ((k + 1) * 3) = trs (l.take (k + 1)) := by
  rw [List.take_succ_eq_append_getElem hlt, trs_append, trs_one, ← h]
  have e : (k + 1) * 3 = k * 3 + 1 + 1 + 1 := by omega
  rw [e, List.take_succ_eq_append_getElem (by simp; omega), List.take_succ_eq_append_getElem (by simp; omega), List.take_succ_eq_append_getElem (by simp; omega)]
  rw [List.append_assoc, List.append_assoc]
  congr 1
  · rw [List.take_set_of_le (by omega), List.take_set_of_le (by omega), List.take_set_of_le (by omega)]
  · simp

theorem infoAct : (Try.prog.info? 138).map (fun i => (i.zero, i.size, i.bytes)) = some (some (.agg #[.int .i64 0, .int .i64 0, .int .i64 0]), 3, 24) := by kernel_rfl

set_option maxHeartbeats 1000000 in
theorem toActS_any (a : Option Addr) (c : Nat) (l : List Trip) (w : World) (h : TripsAt w a l) (hn : l.length ≤ 1048576) :
    Calls Try.prog 54 #[.slice a l.length c] w fun e w' => e = .returned (.slice (some ⟨w.heap.size, 0, none⟩) l.length l.length) ∧ w'.ownsRow w.heap.size 138 3 (.slice (some ⟨w.heap.size, 0, none⟩) l.length l.length) l.length (trs l) ∧ Below w.heap.size w w' := by
  obtain ⟨i0, hi, hz0, hz1, hz2⟩ := info_parts infoAct
  go_enter Try.func54, Try.ntmps54
  go_wp2_with (at_make; refine wpList_make_full _ rfl _ _ 48 rfl w.heap.size 138 i0 (.agg #[.int .i64 0, .int .i64 0, .int .i64 0]) 3 Try.underlying48 hi hz0 hz1 .i64 .i64 _ _ l.length rfl rfl rfl rfl (by rw [hz2]; omega) (by unfold maxLen; omega) (Nat.le_refl _) ?_; intro w1 hown hgrow)
  have hxs : (madeCells (Value.agg #[.int .i64 0, .int .i64 0, .int .i64 0]).cells (l.length * 3)).toList.length = l.length * 3 := hown.1
  generalize (madeCells (Value.agg #[.int .i64 0, .int .i64 0, .int .i64 0]).cells (l.length * 3)).toList = xs0 at *
  have hbel : Below w.heap.size w w1 := (Below.refl _ _).grown hgrow (Nat.le_refl _) (fun k hk => by cases hk)
  clear hgrow
  go_loopw [4] (fun i wr => ∃ (k : Nat) (xs : List Value), k ≤ l.length ∧ i = .int .i64 k ∧ xs.length = l.length * 3 ∧ wr.ownsRow w.heap.size 138 3 (.slice (some ⟨w.heap.size, 0, none⟩) l.length l.length) l.length xs ∧ Below w.heap.size w wr ∧ Hid (xs.take (k * 3) = trs (l.take k))) (fun i _ => l.length - (intOf i).toNat)
  case atStart => exact ⟨0, xs0, Nat.zero_le _, rfl, hxs, hown, hbel, by simp [Hid, trs]⟩
  case round =>
    obtain ⟨k, xs, hk, rfl, hxl, how, hbw, HX⟩ := hrel
    clear hbel hown hxs
    by_cases hlt : k < l.length
    · obtain ⟨b, o, rfl, hb, hc⟩ := h.at hlt
      obtain ⟨hc0, hc1, hc2⟩ := hc k hlt
      have hck0 := (hbw.cell (p := ⟨b, o + k * 3, none⟩) hb).trans hc0
      have hck1 := (hbw.cell (p := ⟨b, o + k * 3 + 1, none⟩) hb).trans hc1
      have hck2 := (hbw.cell (p := ⟨b, o + k * 3 + 2, none⟩) hb).trans hc2
      clear hc h hc0 hc1 hc2
      have HB := hide hbw
      have HO := hide how
      have hwz := hbw.size
      clear hbw how
      go_wp2_with fail
      refine (toAct_any _ _ _ _).mono ?_
      rintro e w2 ⟨rfl, hb2⟩
      have ho2 := own_below (unhide HO) hb2
      have hf0 := ho2.frozenAt (k * 3)
      have hf1 := ho2.frozenAt (k * 3 + 1)
      have hf2 := ho2.frozenAt (k * 3 + 2)
      have hd0 := ho2.cellAt (k * 3) (by omega)
      have hd1 := ho2.cellAt (k * 3 + 1) (by omega)
      have hd2 := ho2.cellAt (k * 3 + 2) (by omega)
      rw [List.getElem?_eq_getElem (by omega)] at hd0 hd1 hd2
      have HO2 := hide (((ho2.stored (k * 3) (.int .i64 l[k].1)).1.stored (k * 3 + 1) (.int .i64 l[k].2.1)).1.stored (k * 3 + 2) (.int .i64 l[k].2.2)).1
      have HB2 := hide (((((unhide HB).trans (hb2.mono hwz)).setCell (p := ⟨w.heap.size, k * 3, none⟩) (Nat.le_refl _) (.int .i64 l[k].1)).setCell (p := ⟨w.heap.size, k * 3 + 1, none⟩) (Nat.le_refl _) (.int .i64 l[k].2.1)).setCell (p := ⟨w.heap.size, k * 3 + 2, none⟩) (Nat.le_refl _) (.int .i64 l[k].2.2))
      have HX2 : Hid ((((xs.set (k * 3) (.int .i64 l[k].1)).set (k * 3 + 1) (.int .i64 l[k].2.1)).set (k * 3 + 2) (.int .i64 l[k].2.2)).take ((k + 1) * 3) = trs (l.take (k + 1))) := trips_step hlt hxl (unhide HX)
      have hxl2 : (((xs.set (k * 3) (.int .i64 l[k].1)).set (k * 3 + 1) (.int .i64 l[k].2.1)).set (k * 3 + 2) (.int .i64 l[k].2.2)).length = l.length * 3 := by simpa using hxl
      clear ho2 hb2
      go_wp2_with fail
      go_roundw
      case rel => exact ⟨k + 1, _, by omega, by go_num, hxl2, unhide HO2, unhide HB2, HX2⟩
      case measure => simp [intOf]; omega
    · have HS := hide how
      have HB := hide hbw
      clear how hbw
      go_wp2
      go_ret
      refine ⟨rfl, ?_, unhide HB⟩
      have hxe : xs = trs l := by
        have := unhide HX
        rw [List.take_of_length_le (by omega), List.take_of_length_le (by omega)] at this
        exact this
      rw [← hxe]
      exact unhide HS
set_option maxHeartbeats 1000000 in
theorem eqAct_same (x y z : Int) (w : World) :
    Calls Try.prog 145 #[.agg #[.int .i64 x, .int .i64 y, .int .i64 z], .agg #[.int .i64 x, .int .i64 y, .int .i64 z]] w fun e w' => e = .returned (.bool true) ∧ Below w.heap.size w w' := by
  have h1 := int_neq_self x
  have h2 := int_neq_self y
  have h3 := int_neq_self z
  go_enter Try.func145, Try.ntmps145
  go_wp2
  go_ret
  refine ⟨rfl, ?_⟩
  repeat (first | exact Below.refl _ _ | (with_reducible refine Below.alloc ?_ ?_ _; rotate_left; first | omega | (simp <;> omega)) | (with_reducible refine below_drewN ?_ _) | (with_reducible refine Below.drew ?_))
theorem keepE3 {W0 w' w1 : World} {b o b2 o2 : Nat} {v v1 v2 v3 v4 v5 : Value} (h3 : b < W0.heap.size) (h4 : b2 < W0.heap.size) (hS : Below W0.heap.size W0 w' ∧ w'.cell? ⟨b, o, none⟩ = some v ∧ w'.cell? ⟨b, o + 1, none⟩ = some v1 ∧ w'.cell? ⟨b, o + 2, none⟩ = some v2 ∧ w'.cell? ⟨b2, o2, none⟩ = some v3 ∧ w'.cell? ⟨b2, o2 + 1, none⟩ = some v4 ∧ w'.cell? ⟨b2, o2 + 2, none⟩ = some v5) (hb : Below w'.heap.size w' w1) :
    Below W0.heap.size W0 w1 ∧ w1.cell? ⟨b, o, none⟩ = some v ∧ w1.cell? ⟨b, o + 1, none⟩ = some v1 ∧ w1.cell? ⟨b, o + 2, none⟩ = some v2 ∧ w1.cell? ⟨b2, o2, none⟩ = some v3 ∧ w1.cell? ⟨b2, o2 + 1, none⟩ = some v4 ∧ w1.cell? ⟨b2, o2 + 2, none⟩ = some v5 := by
  obtain ⟨h, c1, c2, c3, c4, c5, c6⟩ := hS
  have hz := h.size
  exact ⟨h.trans (hb.mono h.size), ((bcell hb).1 _ _ (by omega)).trans c1, ((bcell hb).1 _ _ (by omega)).trans c2, ((bcell hb).1 _ _ (by omega)).trans c3, ((bcell hb).1 _ _ (by omega)).trans c4, ((bcell hb).1 _ _ (by omega)).trans c5, ((bcell hb).1 _ _ (by omega)).trans c6⟩
set_option maxHeartbeats 1000000 in
theorem eqActS_same (a b : Option Addr) (c d : Nat) (l : List Trip) (w : World) (h : TripsAt w a l) (h2 : TripsAt w b l) (hn : l.length ≤ 1048576) :
    Calls Try.prog 57 #[.slice a l.length c, .slice b l.length d] w fun e w' => e = .returned (.bool true) ∧ Below w.heap.size w w' := by
  have hne := int_neq_self (l.length : Int)
  go_enter Try.func57, Try.ntmps57
  go_wp2
  go_loopw [5] (fun i wr => ∃ (k : Nat), k ≤ l.length ∧ i = .int .i64 k ∧ Below w.heap.size w wr) (fun i _ => l.length - (intOf i).toNat)
  case atStart => exact ⟨0, Nat.zero_le _, rfl, Below.refl _ _⟩
  case round =>
    obtain ⟨k, hk, rfl, hbw⟩ := hrel
    by_cases hlt : k < l.length
    · obtain ⟨b1, o1, rfl, m1, hc1⟩ := h.at hlt
      obtain ⟨b2, o2, rfl, m2, hc2⟩ := h2.at hlt
      have hwz := hbw.size
      have hk1 := ((bcell hbw).1 b1 (o1 + k * 3) m1).trans (hc1 k hlt).1
      have hj1 := ((bcell hbw).1 b1 (o1 + k * 3 + 1) m1).trans (hc1 k hlt).2.1
      have hi1 := ((bcell hbw).1 b1 (o1 + k * 3 + 2) m1).trans (hc1 k hlt).2.2
      have hk2 := ((bcell hbw).1 b2 (o2 + k * 3) m2).trans (hc2 k hlt).1
      have hj2 := ((bcell hbw).1 b2 (o2 + k * 3 + 1) m2).trans (hc2 k hlt).2.1
      have hi2 := ((bcell hbw).1 b2 (o2 + k * 3 + 2) m2).trans (hc2 k hlt).2.2
      have hlt' : (k : Int) < l.length := by omega
      have HB := hide hbw
      clear hc1 hc2 h h2 hbw
      have hD : (fun w' => Below wr.heap.size wr w' ∧ w'.cell? ⟨b1, o1 + k * 3, none⟩ = some (.int .i64 l[k].1) ∧ w'.cell? ⟨b1, o1 + k * 3 + 1, none⟩ = some (.int .i64 l[k].2.1) ∧ w'.cell? ⟨b1, o1 + k * 3 + 2, none⟩ = some (.int .i64 l[k].2.2) ∧ w'.cell? ⟨b2, o2 + k * 3, none⟩ = some (.int .i64 l[k].1) ∧ w'.cell? ⟨b2, o2 + k * 3 + 1, none⟩ = some (.int .i64 l[k].2.1) ∧ w'.cell? ⟨b2, o2 + k * 3 + 2, none⟩ = some (.int .i64 l[k].2.2)) wr.drew := ⟨(Below.refl _ _).drew, hk1, hj1, hi1, hk2, hj2, hi2⟩
      go_wp2_with fail
      go_region_held3 (fun w' => Below wr.heap.size wr w' ∧ w'.cell? ⟨b1, o1 + k * 3, none⟩ = some (.int .i64 l[k].1) ∧ w'.cell? ⟨b1, o1 + k * 3 + 1, none⟩ = some (.int .i64 l[k].2.1) ∧ w'.cell? ⟨b1, o1 + k * 3 + 2, none⟩ = some (.int .i64 l[k].2.2) ∧ w'.cell? ⟨b2, o2 + k * 3, none⟩ = some (.int .i64 l[k].1) ∧ w'.cell? ⟨b2, o2 + k * 3 + 1, none⟩ = some (.int .i64 l[k].2.1) ∧ w'.cell? ⟨b2, o2 + k * 3 + 2, none⟩ = some (.int .i64 l[k].2.2)) (first | exact hD | exact keepE3 (by omega) (by omega) (by assumption) (by assumption))
        (first | (go_at_call 145; refine (eqAct_same _ _ _ _).mono ?_; rintro e w2 ⟨rfl, hb2⟩))
      go_wp2_with fail
      rename_i hSF
      exact ⟨⟨k + 1, by omega, by go_num, (unhide HB).trans (hSF.1.mono hwz)⟩, by simp [intOf]; omega⟩
    · have HB := hide hbw
      clear h h2 hbw
      go_wp2
      go_ret
      exact ⟨rfl, unhide HB⟩
def tripsFrom (m : Int) : Nat → List Trip
  | 0 => []
  | n + 1 => tripsFrom m n ++ [(m + 3 * (n : Int), m + 3 * (n : Int) + 1, m + 3 * (n : Int) + 2)]
theorem tripsFrom_succ (m : Int) (n : Nat) : tripsFrom m (n + 1) = tripsFrom m n ++ [(m + 3 * (n : Int), m + 3 * (n : Int) + 1, m + 3 * (n : Int) + 2)] := rfl
theorem tripsFrom_length (m : Int) (n : Nat) : (tripsFrom m n).length = n := by
  induction n with
  | zero => rfl
  | succ n ih => rw [tripsFrom_succ, List.length_append, ih]; rfl
theorem tripsFrom_at (m : Int) (n k : Nat) (h : k < n) : (tripsFrom m n)[k]'(by rw [tripsFrom_length]; exact h) = (m + 3 * (k : Int), m + 3 * (k : Int) + 1, m + 3 * (k : Int) + 2) := by
  induction n with
  | zero => omega
  | succ n ih =>
    by_cases e : k = n
    · subst e
      simp only [tripsFrom_succ]
      rw [List.getElem_append_right (by rw [tripsFrom_length]; exact Nat.le_refl _)]
      simp [tripsFrom_length]
    · simp only [tripsFrom_succ]
      rw [List.getElem_append_left (by rw [tripsFrom_length]; omega)]
      exact ih (by omega)
set_option maxHeartbeats 1000000 in
theorem markActS_any (v : Value) (n base : Nat) (xs : List Value) (m : Int) (w : World) (how : w.ownsRow base 138 3 v n xs) (hn : n ≤ 1048576) (h0 : 1 ≤ m) (h1 : m ≤ 10000000) :
    Calls Try.prog 59 #[v, .int .i64 m] w fun e w' => e = .returned (.int .i64 (m + 3 * n)) ∧ w'.ownsRow base 138 3 v n (trs (tripsFrom m n)) ∧ Out (fun q => v.ownBlock = some q) w w' := by
  obtain ⟨a, c, rfl, hv⟩ : ∃ a c, v = .slice a n c ∧ (n = 0 ∨ ∃ g, a = some ⟨g, 0, none⟩) := by
    rcases how.2 with ⟨rfl, rfl⟩ | ⟨g, cap, cur, rfl, _⟩
    · exact ⟨none, 0, rfl, .inl rfl⟩
    · exact ⟨_, cap, rfl, .inr ⟨g, rfl⟩⟩
  have hxl : xs.length = n * 3 := how.1
  go_enter Try.func59, Try.ntmps59
  go_wp2
  go_loopw [1, 5] (fun t i wr => ∃ (k : Nat) (ys : List Value), k ≤ n ∧ i = .int .i64 k ∧ t = .int .i64 (m + 3 * k) ∧ ys.length = n * 3 ∧ Hid (wr.ownsRow base 138 3 (.slice a n c) n ys) ∧ Hid (Out (fun q => (Value.slice a n c).ownBlock = some q) w wr) ∧ Hid (ys.take (k * 3) = trs (tripsFrom m k))) (fun _ i _ => n - (intOf i).toNat)
  case atStart => exact ⟨0, xs, Nat.zero_le _, rfl, by simp, hxl, how, Out.refl _ _, by simp [Hid, tripsFrom, trs]⟩
  case round =>
    obtain ⟨k, ys, hk, rfl, rfl, hyl, HO, HU, HY⟩ := hrel
    clear how
    by_cases hlt : k < n
    · obtain ⟨g, rfl⟩ : ∃ g, a = some ⟨g, 0, none⟩ := by
        rcases hv with h | h
        · omega
        · exact h
      have hck := (unhide HO).cellAt (k * 3) (by omega)
      have hcj := (unhide HO).cellAt (k * 3 + 1) (by omega)
      have hci := (unhide HO).cellAt (k * 3 + 2) (by omega)
      rw [List.getElem?_eq_getElem (by omega)] at hck hcj hci
      have hfz := (unhide HO).frozenAt (k * 3)
      have hfj := (unhide HO).frozenAt (k * 3 + 1)
      have hfi := (unhide HO).frozenAt (k * 3 + 2)
      have HO2 := hide ((((unhide HO).stored (k * 3) (.int .i64 (m + 3 * (k : Int)))).1.stored (k * 3 + 1) (.int .i64 (m + 3 * (k : Int) + 1))).1.stored (k * 3 + 2) (.int .i64 (m + 3 * (k : Int) + 2))).1
      have HU2 := hide ((((unhide HU).setCell (p := ⟨g, k * 3, none⟩) (.inl rfl) (.int .i64 (m + 3 * (k : Int)))).setCell (p := ⟨g, k * 3 + 1, none⟩) (.inl rfl) (.int .i64 (m + 3 * (k : Int) + 1))).setCell (p := ⟨g, k * 3 + 2, none⟩) (.inl rfl) (.int .i64 (m + 3 * (k : Int) + 2)))
      have HY2 : Hid ((((ys.set (k * 3) (.int .i64 (m + 3 * (k : Int)))).set (k * 3 + 1) (.int .i64 (m + 3 * (k : Int) + 1))).set (k * 3 + 2) (.int .i64 (m + 3 * (k : Int) + 2))).take ((k + 1) * 3) = trs (tripsFrom m (k + 1))) := by
        have h1 := take_step (v := .int .i64 (m + 3 * (k : Int))) (unhide HY) (by omega)
        have h2 := take_step (v := .int .i64 (m + 3 * (k : Int) + 1)) h1 (by simp; omega)
        have h3 := take_step (v := .int .i64 (m + 3 * (k : Int) + 2)) h2 (by simp; omega)
        rw [Hid, tripsFrom_succ, trs_append, trs_one, show (k + 1) * 3 = k * 3 + 1 + 1 + 1 by omega, show k * 3 + 2 = k * 3 + 1 + 1 by omega, h3]
        simp
      have hyl2 : (((ys.set (k * 3) (.int .i64 (m + 3 * (k : Int)))).set (k * 3 + 1) (.int .i64 (m + 3 * (k : Int) + 1))).set (k * 3 + 2) (.int .i64 (m + 3 * (k : Int) + 2))).length = n * 3 := by simpa using hyl
      clear hv
      have e2 : m + 3 * (k : Int) + 1 + 1 = m + 3 * (k : Int) + 2 := by omega
      go_wp2
      go_roundw
      case rel => exact ⟨k + 1, _, by omega, by go_num, by go_num, hyl2, HO2, HU2, HY2⟩
      case measure => simp [intOf]; omega
    · have hke : k = n := by omega
      subst hke
      have hys : ys = trs (tripsFrom m k) := by
        have := unhide HY
        rwa [List.take_of_length_le (by omega)] at this
      have HYS := hide hys
      clear hys hv
      go_wp2
      go_ret
      exact ⟨rfl, by rw [← unhide HYS]; exact unhide HO, unhide HU⟩
set_option maxHeartbeats 1000000 in
theorem heldActS_any (a : Option Addr) (c n : Nat) (m : Int) (w : World) (h : TripsAt w a (tripsFrom m n)) (hn : n ≤ 1048576) (h0 : 1 ≤ m) (h1 : m ≤ 10000000) :
    Calls Try.prog 150 #[.slice a n c, .int .i64 m] w fun e w' => e = .returned (.int .i64 (m + 3 * n)) ∧ w' = w := by
  go_enter Try.func150, Try.ntmps150
  go_wp2
  go_loop [1, 5] (fun t i => ∃ k : Nat, k ≤ n ∧ i = .int .i64 k ∧ t = .int .i64 (m + 3 * k)) (fun _ i => n - (intOf i).toNat)
  case atStart => exact ⟨0, Nat.zero_le _, rfl, by simp⟩
  case round =>
    obtain ⟨k, hk, rfl, rfl⟩ := hrel
    by_cases hlt : k < n
    · obtain ⟨b, o, rfl, hb, hc⟩ := h.at (k := k) (by rw [tripsFrom_length]; exact hlt)
      have hck := hc k (by rw [tripsFrom_length]; exact hlt)
      rw [tripsFrom_at m n k hlt] at hck
      obtain ⟨hk0, hk1, hk2⟩ := hck
      simp only at hk0 hk1 hk2
      have hq := int_neq_self (m + 3 * (k : Int))
      have hq1 := int_neq_self (m + 3 * (k : Int) + 1)
      have e2 : m + 3 * (k : Int) + 2 = m + 3 * (k : Int) + 1 + 1 := by omega
      rw [e2] at hk2
      have hq2 := int_neq_self (m + 3 * (k : Int) + 1 + 1)
      clear hc h e2
      go_wp2
      go_round
      case rel => exact ⟨k + 1, by omega, by go_num, by go_num⟩
      case measure => simp [intOf]; omega
    · have hke : k = n := by omega
      subst hke
      clear h
      go_wp2
      go_ret
      exact ⟨rfl, rfl⟩
end Go.Proofs.Ytdijmijipgnlgaa
