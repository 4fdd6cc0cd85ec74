/-
  What spec.l1Ints answers: a copy.
-/
import Derived.Test.YtaadbgebcknfkaaCloneWalk
namespace Go.Proofs.Ytaadbgebcknfkaa
open Go.RowKit

set_option maxHeartbeats 1000000 in
theorem l1Ints_any (a : Option Addr) (c : Nat) (l : List Int) (w : World) (h : IntsAt w a l) (h0 : 0 < l.length) (hn : l.length ≤ 1048576) :
    Calls Try.prog 55 #[.slice a l.length c] w fun e w' => (∃ v, e = .returned v ∧ w'.ownsRow w.heap.size 2 1 v l.length (nums l)) ∧ Below w.heap.size w w' := by
  obtain ⟨b, o, rfl, hb, hc⟩ := h.at h0
  obtain ⟨i0, hi, hz0, hz1, hz2⟩ := info_parts infoInt64
  have HC := hide hc
  clear h hc
  go_enter Try.func55, Try.ntmps55
  go_wp2_with (at_builtin; refine wpList_append_own_at _ rfl _ _ 24 rfl w.heap.size 2 i0 (.int .i64 0) 1 8 Try.underlying24 hi hz0 hz1 hz2 rfl (by decide) (.slice (some ⟨w.heap.size, 0, none⟩) 0 0) 0 [] rfl (World.ownsRow_made w #[] 0 (Nat.le_refl _) (by unfold maxLen; omega) rfl) ⟨b, o, none⟩ l.length c (nums l) rfl (by rw [nums_length]; omega) (fun j u hj => nums_cell (unhide HC) hb hj) (nums_oneCell l) (by unfold maxLen; omega) (by omega) (by simp) ?_; intro v' w1 hown hgrow hnil hloc)
  have HO := hide hown
  have HG := hide (((Below.refl _ w).alloc (Nat.le_refl _) _).grown hgrow (by simp) (by intro k hk; simp [Value.ownBlock] at hk; omega))
  clear hown hgrow hnil hloc
  go_wp2
  go_ret
  exact ⟨⟨v', rfl, by simpa using unhide HO⟩, unhide HG⟩
end Go.Proofs.Ytaadbgebcknfkaa
