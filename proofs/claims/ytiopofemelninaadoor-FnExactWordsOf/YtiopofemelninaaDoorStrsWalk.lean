/-
  What the laws' own helpers on slices of strings answer.
-/
import Derived.Test.YtiopofemelninaaDoorProg
import Derived.Test.YtiopofemelninaaDoorStrsMath
import Derived.WalkKit
import Derived.WalkLawsBesides
import Derived.OwnWalk
import Derived.BigQuiet
import Derived.Deep.QuietTactic
namespace Go.Proofs.YtiopofemelninaaDoor
open Go.RowKit

set_option maxHeartbeats 1000000 in
theorem szStringS_any (a : Option Addr) (c : Nat) (l : List ByteArray) (w : World) (h : StrsAt w a l) (hs : ∀ s ∈ l, s.size ≤ maxLen) (hn : l.length ≤ maxLen) :
    Calls Tryd.prog 29 #[.slice a l.length c, .int .i64 1048576] w fun e w' => (∃ r : Int, e = .returned (.int .i64 r) ∧ (0 ≤ r → l.length ≤ 1048576)) ∧ w' = w := by
  unfold maxLen at hn hs
  by_cases h0 : (1048576 : Int) - l.length < 0
  · go_enter Tryd.func29, Tryd.ntmps29
    go_wp2
    go_ret
    exact ⟨⟨-1, rfl, by omega⟩, rfl⟩
  go_enter Tryd.func29, Tryd.ntmps29
  go_wp2
  go_loop [1, 5] (fun t i => ∃ (k : Nat) (v : Int), k ≤ l.length ∧ i = .int .i64 k ∧ t = .int .i64 v ∧ 0 ≤ v ∧ v ≤ 1048576) (fun _ i => l.length - (intOf i).toNat)
  case atStart => exact ⟨0, _, Nat.zero_le _, rfl, rfl, by omega, by omega⟩
  case round =>
    obtain ⟨k, v, hk, rfl, rfl, v0, v1⟩ := hrel
    by_cases hlt : k < l.length
    · obtain ⟨b, o, rfl, hb, hc⟩ := h.at hlt
      have hck := hc k hlt
      have hsz := hs l[k] (List.getElem_mem hlt)
      clear hc hs h
      generalize l[k] = s at *
      by_cases hv : v - s.size < 0
      · go_wp2
        go_ret
        exact ⟨⟨-1, rfl, by omega⟩, rfl⟩
      · go_wp2
        go_round
        case rel => exact ⟨k + 1, _, by omega, by go_num, rfl, by omega, by omega⟩
        case measure => simp [intOf]; omega
    · go_wp2
      go_ret
      exact ⟨⟨_, rfl, by omega⟩, rfl⟩

theorem infoString : (Tryd.prog.info? 9).map (fun i => (i.zero, i.size, i.bytes)) = some (some (.string ⟨#[]⟩), 1, 16) := by kernel_rfl

set_option maxHeartbeats 1000000 in
theorem toStringS_own (a : Option Addr) (c : Nat) (l : List ByteArray) (w : World) (h : StrsAt w a l) (hn : l.length ≤ 1048576) :
    Calls Tryd.prog 33 #[.slice a l.length c] w fun e w' => e = .returned (.slice (some ⟨w.heap.size, 0, none⟩) l.length l.length) ∧ w'.ownsRow w.heap.size 9 1 (.slice (some ⟨w.heap.size, 0, none⟩) l.length l.length) l.length (l.map Value.string) ∧ Below w.heap.size w w' := by
  obtain ⟨i0, hi, hz0, hz1, hz2⟩ := info_parts infoString
  go_enter Tryd.func33, Tryd.ntmps33
  go_wp2_with (at_make; refine wpList_make_full _ rfl _ _ 22 rfl w.heap.size 9 i0 (.string ⟨#[]⟩) 1 Tryd.underlying22 hi hz0 hz1 .i64 .i64 _ _ l.length rfl rfl rfl rfl (by rw [hz2]; omega) (by unfold maxLen; omega) (Nat.le_refl _) ?_; intro w1 hown hgrow)
  have hxs : (madeCells (Value.string ⟨#[]⟩).cells (l.length * 1)).toList.length = l.length := by
    have := hown.1
    omega
  generalize (madeCells (Value.string ⟨#[]⟩).cells (l.length * 1)).toList = xs0 at *
  have hbel : Below w.heap.size w w1 := (Below.refl _ _).grown hgrow (Nat.le_refl _) (fun k hk => by cases hk)
  clear hgrow
  go_loopw [4] (fun i wr => ∃ (k : Nat) (xs : List Value), k ≤ l.length ∧ i = .int .i64 k ∧ xs.length = l.length ∧ wr.ownsRow w.heap.size 9 1 (.slice (some ⟨w.heap.size, 0, none⟩) l.length l.length) l.length xs ∧ Below w.heap.size w wr ∧ Hid (∀ j (h : j < l.length), j < k → xs[j]? = some (.string l[j]))) (fun i _ => l.length - (intOf i).toNat)
  case atStart => exact ⟨0, xs0, Nat.zero_le _, rfl, hxs, hown, hbel, fun j _ hj => absurd hj (Nat.not_lt_zero j)⟩
  case round =>
    obtain ⟨k, xs, hk, rfl, hxl, how, hbw, HX⟩ := hrel
    clear hbel hown hxs
    by_cases hlt : k < l.length
    · obtain ⟨b, o, rfl, hb, hc⟩ := h.at hlt
      have hck : wr.cell? ⟨b, o + k, none⟩ = some (.string l[k]) := by
        rw [hbw.cell (p := ⟨b, o + k, none⟩) hb]
        exact hc k hlt
      have hfz := how.frozenAt k
      have hkc := how.cellAt k (by omega)
      rw [List.getElem?_eq_getElem (by omega)] at hkc
      obtain ⟨hst, hgr⟩ := how.stored k (.string l[k])
      have hbw2 := hbw.setCell (p := ⟨w.heap.size, k, none⟩) (Nat.le_refl _) (.string l[k])
      have HS := hide hst
      have HB2 := hide hbw2
      have HC := hide hc
      have HX2 : Hid (∀ j (h : j < l.length), j < k + 1 → (xs.set k (.string l[k]))[j]? = some (.string l[j])) := by
        intro j hj hj1
        rw [List.getElem?_set]
        by_cases e : k = j
        · subst e
          simp [hxl, hlt]
        · rw [if_neg e]
          exact unhide HX j hj (by omega)
      clear hst hgr hbw2 hc h how hbw
      go_wp2
      go_roundw
      case rel => exact ⟨k + 1, xs.set k (.string l[k]), by omega, by go_num, by simpa using hxl, unhide HS, unhide HB2, HX2⟩
      case measure => simp [intOf]; omega
    · have HS := hide how
      have HB := hide hbw
      clear how hbw
      go_wp2
      go_ret
      refine ⟨rfl, ?_, unhide HB⟩
      have hw := unhide HS
      have hxe : xs = l.map Value.string := by
        apply List.ext_getElem?
        intro j
        by_cases hj : j < l.length
        · rw [unhide HX j hj (by omega), List.getElem?_map, List.getElem?_eq_getElem hj]; rfl
        · rw [List.getElem?_eq_none (by omega), List.getElem?_eq_none (by rw [List.length_map]; omega)]
      rw [← hxe]
      exact hw
theorem toStringS_any (a : Option Addr) (c : Nat) (l : List ByteArray) (w : World) (h : StrsAt w a l) (hn : l.length ≤ 1048576) :
    Calls Tryd.prog 33 #[.slice a l.length c] w fun e w' => e = .returned (.slice (some ⟨w.heap.size, 0, none⟩) l.length l.length) ∧ StrsAt w' (some ⟨w.heap.size, 0, none⟩) l ∧ Below w.heap.size w w' :=
  (toStringS_own a c l w h hn).mono fun _ w' ⟨h1, h2, h3⟩ => ⟨h1, by
    by_cases hz : l = []
    · exact .inl hz
    · refine .inr ⟨w.heap.size, 0, rfl, (h2.lt _ rfl).2, fun j hj => ?_⟩
      rw [Nat.zero_add, h2.cellAt j (by omega), List.getElem?_map, List.getElem?_eq_getElem hj]
      rfl, h3⟩

set_option maxHeartbeats 1000000 in
theorem eqStringS_same (a b : Option Addr) (c d : Nat) (l : List ByteArray) (w : World) (h : StrsAt w a l) (h2 : StrsAt w b l) (hn : l.length ≤ 1048576) :
    Calls Tryd.prog 23 #[.slice a l.length c, .slice b l.length d] w fun e w' => e = .returned (.bool true) ∧ Below w.heap.size w w' := by
  have hne := int_neq_self (l.length : Int)
  go_enter Tryd.func23, Tryd.ntmps23
  go_wp2
  go_loopw [5] (fun i wr => ∃ (k n : Nat), k ≤ l.length ∧ i = .int .i64 k ∧ wr = w.drewN n) (fun i _ => l.length - (intOf i).toNat)
  case atStart => exact ⟨0, 0, Nat.zero_le _, rfl, rfl⟩
  case round =>
    obtain ⟨k, n, hk, rfl, rfl⟩ := hrel
    by_cases hlt : k < l.length
    · obtain ⟨b1, o1, rfl, _, hc1⟩ := h.at hlt
      obtain ⟨b2, o2, rfl, _, hc2⟩ := h2.at hlt
      have hk1 := hc1 k hlt
      have hk2 := hc2 k hlt
      have hlt' : (k : Int) < l.length := by omega
      clear hc1 hc2 h h2
      go_wp2
      go_quiet (fail)
      go_wp2
      exact ⟨⟨k + 1, _, by omega, by go_num, rfl⟩, by simp [intOf]; omega⟩
    · go_wp2
      go_ret
      exact ⟨rfl, below_drewN (Below.refl _ _) _⟩
end Go.Proofs.YtiopofemelninaaDoor
