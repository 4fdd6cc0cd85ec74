/-
  What the laws' own copies of devices answer: new rows of the same.
-/
import Derived.Test.YtiopofemelninaaDoorProg
import Derived.Test.YtiopofemelninaaDoorRowMath
import Derived.WalkKit
import Derived.WalkLawsBesides
import Derived.OwnWalk
namespace Go.Proofs.YtiopofemelninaaDoor
open Go.RowKit

theorem infoInt64 : (Tryd.prog.info? 2).map (fun i => (i.zero, i.size, i.bytes)) = some (some (.int .i64 0), 1, 8) := by kernel_rfl

set_option maxHeartbeats 1000000 in
theorem toInt64S_any (a : Option Addr) (c : Nat) (l : List Int) (w : World) (h : IntsAt w a l) (hn : l.length ≤ 1048576) :
    Calls Tryd.prog 32 #[.slice a l.length c] w fun e w' => e = .returned (.slice (some ⟨w.heap.size, 0, none⟩) l.length l.length) ∧ w'.ownsRow w.heap.size 2 1 (.slice (some ⟨w.heap.size, 0, none⟩) l.length l.length) l.length (nums l) ∧ Below w.heap.size w w' := by
  obtain ⟨i0, hi, hz0, hz1, hz2⟩ := info_parts infoInt64
  go_enter Tryd.func32, Tryd.ntmps32
  go_wp2_with (at_make; refine wpList_make_full _ rfl _ _ 33 rfl w.heap.size 2 i0 (.int .i64 0) 1 Tryd.underlying33 hi hz0 hz1 .i64 .i64 _ _ l.length rfl rfl rfl rfl (by rw [hz2]; omega) (by unfold maxLen; omega) (Nat.le_refl _) ?_; intro w1 hown hgrow)
  have hxs : (madeCells (Value.int .i64 0).cells (l.length * 1)).toList.length = l.length := by
    have := hown.1
    omega
  generalize (madeCells (Value.int .i64 0).cells (l.length * 1)).toList = xs0 at *
  have hbel : Below w.heap.size w w1 := (Below.refl _ _).grown hgrow (Nat.le_refl _) (fun k hk => by cases hk)
  clear hgrow
  go_loopw [4] (fun i wr => ∃ (k : Nat) (xs : List Value), k ≤ l.length ∧ i = .int .i64 k ∧ xs.length = l.length ∧ wr.ownsRow w.heap.size 2 1 (.slice (some ⟨w.heap.size, 0, none⟩) l.length l.length) l.length xs ∧ Below w.heap.size w wr ∧ Hid (∀ j (h : j < l.length), j < k → xs[j]? = some (.int .i64 l[j]))) (fun i _ => l.length - (intOf i).toNat)
  case atStart => exact ⟨0, xs0, Nat.zero_le _, rfl, hxs, hown, hbel, fun j _ hj => absurd hj (Nat.not_lt_zero j)⟩
  case round =>
    obtain ⟨k, xs, hk, rfl, hxl, how, hbw, HX⟩ := hrel
    clear hbel hown hxs
    by_cases hlt : k < l.length
    · obtain ⟨b, o, rfl, hb, hc⟩ := h.at hlt
      have hck : wr.cell? ⟨b, o + k, none⟩ = some (.int .i64 l[k]) := by
        rw [hbw.cell (p := ⟨b, o + k, none⟩) hb]
        exact hc k hlt
      have hfz := how.frozenAt k
      have hkc := how.cellAt k (by omega)
      rw [List.getElem?_eq_getElem (by omega)] at hkc
      obtain ⟨hst, hgr⟩ := how.stored k (.int .i64 l[k])
      have hbw2 := hbw.setCell (p := ⟨w.heap.size, k, none⟩) (Nat.le_refl _) (.int .i64 l[k])
      have HS := hide hst
      have HB2 := hide hbw2
      have HX2 : Hid (∀ j (h : j < l.length), j < k + 1 → (xs.set k (.int .i64 l[k]))[j]? = some (.int .i64 l[j])) := by
        intro j hj hj1
        rw [List.getElem?_set]
        by_cases e : k = j
        · subst e
          simp [hxl, hlt]
        · rw [if_neg e]
          exact unhide HX j hj (by omega)
      clear hst hgr hbw2 hc h how hbw
      go_wp2
      go_roundw
      case rel => exact ⟨k + 1, xs.set k (.int .i64 l[k]), by omega, by go_num, by simpa using hxl, unhide HS, unhide HB2, HX2⟩
      case measure => simp [intOf]; omega
    · have HS := hide how
      have HB := hide hbw
      clear how hbw
      go_wp2
      go_ret
      refine ⟨rfl, ?_, unhide HB⟩
      have hxe : xs = nums l := by
        apply List.ext_getElem?
        intro j
        by_cases hj : j < l.length
        · rw [unhide HX j hj (by omega), nums_at hj]
        · rw [List.getElem?_eq_none (by omega), List.getElem?_eq_none (by rw [nums_length]; omega)]
      rw [← hxe]
      exact unhide HS


theorem pairs_step {l : List (Int × Int)} {xs : List Value} {k : Nat} (hlt : k < l.length) (hxl : xs.length = l.length * 2) (h : xs.take (k * 2) = prs (l.take k)) :
    ((xs.set (k * 2) (.int .i64 l[k].1)).set (k * 2 + 1) (.int .i64 l[k].2)).take ((k + 1) * 2) = prs (l.take (k + 1)) := by
  rw [List.take_succ_eq_append_getElem hlt, prs_append, prs_one, ← h]
  have e : (k + 1) * 2 = k * 2 + 1 + 1 := by omega
  rw [e, List.take_succ_eq_append_getElem (by simp; omega), List.take_succ_eq_append_getElem (by simp; omega)]
  rw [List.append_assoc]
  congr 1
  · rw [List.take_set_of_le (by omega), List.take_set_of_le (by omega)]
  · simp

end Go.Proofs.YtiopofemelninaaDoor
