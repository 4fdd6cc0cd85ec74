/-
  What the laws' own sizes of notes answer.
-/
import Derived.Test.YtiopofemelninaaDoorNoteMath
import Derived.Test.YtiopofemelninaaDoorOpLaws
import Derived.Test.YtiopofemelninaaDoorDevSz
import Derived.WalkKit
namespace Go.Proofs.YtiopofemelninaaDoor
open Go.RowKit
set_option linter.unusedVariables false

set_option maxHeartbeats 1000000 in
theorem szStringS_left (a : Option Addr) (c : Nat) (l : List ByteArray) (left : Int) (w : World) (h0 : 0 ≤ left) (h1 : left ≤ 1048576) (h : StrsAt w a l) (hs : ∀ s ∈ l, s.size ≤ maxLen) (hn : l.length ≤ maxLen) :
    Calls Tryd.prog 29 #[.slice a l.length c, .int .i64 left] w fun e w' => (∃ r : Int, e = .returned (.int .i64 r) ∧ (r < 0 ∨ (0 ≤ r ∧ r ≤ left ∧ (l.length : Int) ≤ left))) ∧ w' = w := by
  unfold maxLen at hn hs
  by_cases hl0 : left - l.length < 0
  · go_enter Tryd.func29, Tryd.ntmps29
    go_wp2
    go_ret
    exact ⟨⟨-1, rfl, .inl (by decide)⟩, rfl⟩
  go_enter Tryd.func29, Tryd.ntmps29
  go_wp2
  go_loop [1, 5] (fun t i => ∃ (k : Nat) (v : Int), k ≤ l.length ∧ i = .int .i64 k ∧ t = .int .i64 v ∧ 0 ≤ v ∧ v ≤ left) (fun _ i => l.length - (intOf i).toNat)
  case atStart => exact ⟨0, _, Nat.zero_le _, rfl, rfl, by omega, by omega⟩
  case round =>
    obtain ⟨k, v, hk, rfl, rfl, v0, v1⟩ := hrel
    by_cases hlt : k < l.length
    · obtain ⟨b, o, rfl, hb, hc⟩ := h.at hlt
      have hck := hc k hlt
      have hsz := hs l[k] (List.getElem_mem hlt)
      clear hc hs h
      generalize l[k] = s at *
      by_cases hv : v - s.size < 0
      · go_wp2
        go_ret
        exact ⟨⟨-1, rfl, .inl (by decide)⟩, rfl⟩
      · go_wp2
        go_round
        case rel => exact ⟨k + 1, _, by omega, by go_num, rfl, by omega, by omega⟩
        case measure => simp [intOf]; omega
    · go_wp2
      go_ret
      exact ⟨⟨_, rfl, .inr ⟨by omega, by omega, by omega⟩⟩, rfl⟩
set_option maxRecDepth 20000 in
set_option maxHeartbeats 2000000 in
theorem szReply_any (rc : Int) (a2 : Option Addr) (n2 c2 : Nat) (a3 : Option Addr) (rs : List ByteArray) (c3 : Nat) (left : Int) (w : World) (h0 : 0 ≤ left) (h1 : left ≤ 1048576) (hn : n2 ≤ maxLen) (h : StrsAt w a3 rs) (hs : ∀ s ∈ rs, s.size ≤ maxLen) (hm : rs.length ≤ maxLen) :
    Calls Tryd.prog 14 #[.agg #[.int .i64 rc, .slice a2 n2 c2, .slice a3 rs.length c3], .int .i64 left] w fun r w' => (∃ x : Int, r = .returned (.int .i64 x) ∧ (x < 0 ∨ (0 ≤ x ∧ x ≤ left ∧ (n2 : Int) ≤ left ∧ (rs.length : Int) ≤ left))) ∧ Below w.heap.size w w' := by
  obtain ⟨W, hW, hWz, HB0, HP0⟩ := boxes1 w [.int .i64 rc, .slice a2 n2 c2, .slice a3 rs.length c3] 35
  have H := hide (h.below (unhide HB0))
  have HS := hide hs
  clear h hs
  go_enter Tryd.func14, Tryd.ntmps14
  go_wp2_with fail
  rw [← hW]
  clear hW
  refine (szInt64S_any a2 n2 c2 left _ h0 h1 hn).mono ?_
  rintro r w2 ⟨⟨y, rfl, hy⟩, rfl⟩
  by_cases hy0 : y < 0
  · clear hy
    go_wp2_with fail
    go_ret
    exact ⟨⟨_, rfl, .inl (by decide)⟩, unhide HB0⟩
  have hy1 : 0 ≤ y ∧ y ≤ left ∧ (n2 : Int) ≤ left := by
    rcases hy with ⟨h, _⟩ | ⟨h, h'⟩
    · omega
    · omega
  obtain ⟨y1, y2, y3⟩ := hy1
  have Y3 := hide y3
  clear hy y3
  have p2 := (unhide HP0).cell 2
  simp only [List.getElem?_cons_zero, List.getElem?_cons_succ] at p2
  go_wp2_with fail
  refine (szStringS_left a3 c3 rs y _ y1 (by omega) (unhide H) (unhide HS) hm).mono ?_
  rintro r w3 ⟨⟨z, rfl, hz⟩, rfl⟩
  by_cases hz0 : z < 0
  · clear hz
    go_wp2_with fail
    go_ret
    exact ⟨⟨_, rfl, .inl (by decide)⟩, unhide HB0⟩
  have hz1 : 0 ≤ z ∧ z ≤ left ∧ (n2 : Int) ≤ left ∧ (rs.length : Int) ≤ left := by
    have := unhide Y3
    rcases hz with h | h
    · omega
    · omega
  have HZ := hide hz1
  clear hz hz1
  go_wp2_with fail
  go_ret
  exact ⟨⟨_, rfl, .inr (unhide HZ)⟩, unhide HB0⟩
end Go.Proofs.YtiopofemelninaaDoor
