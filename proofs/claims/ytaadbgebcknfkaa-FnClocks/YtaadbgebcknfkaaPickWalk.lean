/-
  What the laws' choices answer: one of what is offered.
-/
import Derived.Test.YtaadbgebcknfkaaSrcWalk
namespace Go.Proofs.Ytaadbgebcknfkaa
open Go.RowKit

theorem l1Source_any (a : Option Addr) (n c : Nat) (w : World) :
    Calls Try.prog 30 #[.slice a n c] w fun e w' => e = .returned (.pointer (some ⟨w.heap.size, 0, none⟩)) ∧ w' = w.alloc (.cells #[.slice a n c, .int .i64 0] 132) := by
  go_enter Try.func30, Try.ntmps30
  go_wp2
  go_ret
  exact ⟨rfl, rfl⟩

theorem srcAt_wide {w : World} {a : Option Addr} {n : Nat} (h : CodeAt w a n) (hn : n ≤ 2000000) (c p : Nat) (t : TypeId) :
    SrcAt (w.alloc (.cells #[.slice a n c, .int .i64 p] t)) t w.heap.size a n c p := by
  refine ⟨(MapKept.heap_alloc w _).1, hn, ?_⟩
  rcases h with rfl | ⟨b, o, rfl, hb, hc⟩
  · exact .inl rfl
  · refine .inr ⟨b, o, rfl, hb, fun i hi => ?_⟩
    obtain ⟨z, z0, z1, hz⟩ := hc i hi
    exact ⟨z, z0, z1, (World.cell?_of_block (a := ⟨b, o + i, none⟩) (Below.heap_alloc w _ b hb)).trans hz⟩

theorem srcAt_new {w : World} {a : Option Addr} {n : Nat} (h : CodeAt w a n) (hn : n ≤ 1048576) (c p : Nat) (t : TypeId) :
    SrcAt (w.alloc (.cells #[.slice a n c, .int .i64 p] t)) t w.heap.size a n c p := srcAt_wide h (by omega) c p t

theorem CodeAt.below {w w' : World} {a : Option Addr} {n : Nat} (h : CodeAt w a n) (hb : Below w.heap.size w w') : CodeAt w' a n := by
  rcases h with rfl | ⟨b, o, rfl, hlt, hc⟩
  · exact .inl rfl
  · refine .inr ⟨b, o, rfl, Nat.lt_of_lt_of_le hlt hb.size, fun i hi => ?_⟩
    obtain ⟨z, z0, z1, hz⟩ := hc i hi
    exact ⟨z, z0, z1, (hb.cell (p := ⟨b, o + i, none⟩) hlt).trans hz⟩

/-- A draw, the source one further, nothing else turned. -/
theorem l1Next_src (s : Nat) (a : Option Addr) (n c p : Nat) (m : Int) (w : World) (h : SrcAt w 132 s a n c p) (hp : p ≤ 1000000) (hm1 : 1 ≤ m) (hm2 : m ≤ 1000000000000) :
    Calls Try.prog 34 #[.pointer (some ⟨s, 0, none⟩), .int .i64 m] w fun e w' => (∃ v : Int, e = .returned (.int .i64 v) ∧ 0 ≤ v ∧ v < m) ∧ SrcAt w' 132 s a n c (p + 1) ∧ Only s w w' := by
  refine (l1Next_any s a n c p m w h hp hm1 hm2).mono ?_
  rintro e w' ⟨v, rfl, v0, v1, k, rfl⟩
  have hs := h.step (p + 1) k
  simp only [Int.natCast_add, Int.cast_ofNat_Int] at hs
  exact ⟨⟨v, rfl, v0, v1⟩, hs.1, hs.2⟩

theorem l1Chance_any (s : Nat) (a : Option Addr) (n c p : Nat) (m : Int) (w : World) (h : SrcAt w 132 s a n c p) (hp : p ≤ 1000000) (hm1 : 1 ≤ m) (hm2 : m ≤ 1000000000000) :
    Calls Try.prog 43 #[.pointer (some ⟨s, 0, none⟩), .int .i64 m] w fun e w' => (∃ b : Bool, e = .returned (.bool b)) ∧ SrcAt w' 132 s a n c (p + 1) ∧ Only s w w' := by
  have H := hide h
  clear h
  go_enter Try.func43, Try.ntmps43
  go_wp2_with fail
  refine (l1Next_src s a n c p m _ (unhide H) hp hm1 hm2).mono ?_
  rintro e w1 ⟨⟨v, rfl, v0, v1⟩, hs, ho⟩
  have HS := hide hs
  have HO := hide ho
  clear hs ho
  go_wp2_with fail
  go_ret
  exact ⟨⟨_, rfl⟩, unhide HS, unhide HO⟩

/-- What is offered lies in a block that was just made. -/
theorem offer_new (W : World) (cs : Array Value) (t : TypeId) (k m : Nat) (P : Value → Prop) (hk : W.heap.size = k) (hm : cs.size = m) (hP : ∀ x, x ∈ cs.toList → P x) (i : Nat) (h : i < m) :
    ∃ v, P v ∧ (W.alloc (.cells cs t)).cell? ⟨k, i, none⟩ = some v := by
  subst hk
  subst hm
  have e := (MapKept.heap_alloc W (.cells cs t)).1
  refine ⟨cs[i], hP _ (by simp), ?_⟩
  unfold World.cell?
  rw [e]
  simp [h]

set_option maxHeartbeats 1000000 in
theorem l1Pick_any (s : Nat) (a : Option Addr) (n c p : Nat) (P : Int → Prop) (bl ml cl : Nat) (w : World) (h : SrcAt w 132 s a n c p) (hp : p ≤ 1000000) (hk : 1 ≤ ml) (hk2 : ml ≤ 1000)
    (hl : ∀ i, i < ml → ∃ x : Value, (∃ v : Int, P v ∧ x = .int .i64 v) ∧ w.cell? ⟨bl, i, none⟩ = some x) (hne : bl ≠ s) :
    Calls Try.prog 32 #[.pointer (some ⟨s, 0, none⟩), .slice (some ⟨bl, 0, none⟩) ml cl] w fun e w' => (∃ v : Int, P v ∧ e = .returned (.int .i64 v)) ∧ SrcAt w' 132 s a n c (p + 1) ∧ Only s w w' := by
  have H := hide h
  have HL := hide hl
  clear h hl
  go_enter Try.func32, Try.ntmps32
  go_wp2_with fail
  refine (l1Next_src s a n c p _ _ (unhide H) hp (by omega) (by omega)).mono ?_
  rintro e w1 ⟨⟨v, rfl, v0, v1⟩, hs, ho⟩
  obtain ⟨k, rfl⟩ := Int.eq_ofNat_of_zero_le v0
  have hkl : k < ml := by omega
  obtain ⟨x, ⟨y, hy, rfl⟩, hx⟩ := unhide HL k hkl
  have hck : w1.cell? ⟨bl, k, none⟩ = some (.int .i64 y) := (ho.cell hne k).trans hx
  have HY := hide hy
  have HS := hide hs
  have HO := hide ho
  clear hs ho hy hx
  go_wp2_with fail
  go_ret
  exact ⟨⟨_, unhide HY, rfl⟩, unhide HS, unhide HO⟩

set_option maxHeartbeats 1000000 in
theorem l1Say_any (s : Nat) (a : Option Addr) (n c p : Nat) (P : ByteArray → Prop) (bl ml cl : Nat) (w : World) (h : SrcAt w 132 s a n c p) (hp : p ≤ 1000000) (hk : 1 ≤ ml) (hk2 : ml ≤ 1000)
    (hl : ∀ i, i < ml → ∃ x : Value, (∃ v : ByteArray, P v ∧ x = .string v) ∧ w.cell? ⟨bl, i, none⟩ = some x) (hne : bl ≠ s) :
    Calls Try.prog 109 #[.pointer (some ⟨s, 0, none⟩), .slice (some ⟨bl, 0, none⟩) ml cl] w fun e w' => (∃ v : ByteArray, P v ∧ e = .returned (.string v)) ∧ SrcAt w' 132 s a n c (p + 1) ∧ Only s w w' := by
  have H := hide h
  have HL := hide hl
  clear h hl
  go_enter Try.func109, Try.ntmps109
  go_wp2_with fail
  refine (l1Next_src s a n c p _ _ (unhide H) hp (by omega) (by omega)).mono ?_
  rintro e w1 ⟨⟨v, rfl, v0, v1⟩, hs, ho⟩
  obtain ⟨k, rfl⟩ := Int.eq_ofNat_of_zero_le v0
  have hkl : k < ml := by omega
  obtain ⟨x, ⟨y, hy, rfl⟩, hx⟩ := unhide HL k hkl
  have hck : w1.cell? ⟨bl, k, none⟩ = some (.string y) := (ho.cell hne k).trans hx
  have HY := hide hy
  have HS := hide hs
  have HO := hide ho
  clear hs ho hy hx
  go_wp2_with fail
  go_ret
  exact ⟨⟨_, unhide HY, rfl⟩, unhide HS, unhide HO⟩
end Go.Proofs.Ytaadbgebcknfkaa
