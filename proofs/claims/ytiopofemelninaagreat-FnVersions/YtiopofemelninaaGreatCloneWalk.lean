/-
  slices.Clone of numbers that are there: a new row of the same.
-/
import Derived.Test.YtiopofemelninaaGreatDevTo
import Derived.Maps.AppendAt
import Derived.Lib.SliceRun
namespace Go.Proofs.YtiopofemelninaaGreat
open Go.RowKit

theorem nums_oneCell (l : List Int) : ∀ u ∈ nums l, u.oneCell' = true := by
  intro u hu
  obtain ⟨x, -, rfl⟩ := List.mem_map.1 hu
  rfl

theorem nums_cell {w : World} {b o : Nat} {l : List Int} (hc : ∀ i (h : i < l.length), w.cell? ⟨b, o + i, none⟩ = some (.int .i64 l[i])) (hb : b < w.heap.size) {ob : Obj} {j : Nat} {u : Value} (hj : (nums l)[j]? = some u) : (w.alloc ob).cell? ((⟨b, o, none⟩ : Addr).add j) = some u := by
  have hjl : j < l.length := by have := (List.getElem?_eq_some_iff.1 hj).1; rwa [nums_length] at this
  rw [nums_at hjl] at hj
  rw [Go.WideShapes.add_plain, World.cell?_of_block (a := ⟨b, o + j, none⟩) (Below.heap_alloc w ob b hb), hc j hjl]
  exact hj

set_option maxHeartbeats 1000000 in
theorem cloneInts_any (a : Option Addr) (c : Nat) (l : List Int) (w : World) (h : IntsAt w a l) (h0 : 0 < l.length) (hn : l.length ≤ 1048576) :
    Calls Tryz.prog 130 #[.slice a l.length c] w fun e w' => (∃ v, e = .returned v ∧ w'.ownsRow w.heap.size 2 1 v l.length (nums l)) ∧ Below w.heap.size w w' := by
  obtain ⟨b, o, rfl, hb, hc⟩ := h.at h0
  obtain ⟨i0, hi, hz0, hz1, hz2⟩ := info_parts infoInt64
  have HC := hide hc
  clear h hc
  have q22 : ∀ (w : World) (a : Option Addr) (n c n' c' : Nat), (binOp .eql 24 (.slice a n c) (.slice none n' c')).run Tryz.prog w = .ok (.bool a.isNone) w := fun w a n c n' c' => Lib.run_eql_slice_nil w _ _ a n c n' c' Tryz.underlying24
  go_enter Tryz.func130, Tryz.ntmps130
  go_wp2_with (at_builtin; refine wpList_append_own_at _ rfl _ _ 24 rfl w.heap.size 2 i0 (.int .i64 0) 1 8 Tryz.underlying24 hi hz0 hz1 hz2 rfl (by decide) (.slice (some ⟨w.heap.size, 0, none⟩) 0 0) 0 [] rfl (World.ownsRow_made w #[] 0 (Nat.le_refl _) (by unfold maxLen; omega) rfl) ⟨b, o, none⟩ l.length c (nums l) rfl (by rw [nums_length]; omega) (fun j u hj => nums_cell (unhide HC) hb hj) (nums_oneCell l) (by unfold maxLen; omega) (by omega) (by simp) ?_; intro v' w1 hown hgrow hnil hloc)
  have HO := hide hown
  have HG := hide (((Below.refl _ w).alloc (Nat.le_refl _) _).grown hgrow (by simp) (by intro k hk; simp [Value.ownBlock] at hk; omega))
  clear hown hgrow hnil hloc
  go_wp2
  go_ret
  exact ⟨⟨v', rfl, by simpa using unhide HO⟩, unhide HG⟩
end Go.Proofs.YtiopofemelninaaGreat
