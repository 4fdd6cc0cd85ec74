/-
  Contracts of the device's calls where nothing is wrong, as the laws over code want them.
-/
import Derived.Test.YtgckkehlnahfmaaFncMath
import Derived.Test.YtgckkehlnahfmaaLoadWalk
import Derived.Test.YtgckkehlnahfmaaSFlushWalk
import Derived.Test.YtgckkehlnahfmaaSFenceWalk
import Derived.ProofKit
namespace Go.Proofs.Ytgckkehlnahfmaa
open Go.RowKit
set_option linter.unusedVariables false

theorem chg_ok {D : Dev} {c : Int} (h : chgCode D c = 0) : Good D ∧ c = 0 := by
  unfold chgCode at h
  by_cases hd : devFault D = 0
  · rw [if_pos hd] at h
    exact ⟨good_of hd, h⟩
  · rw [if_neg hd] at h
    exact absurd h hd
theorem chgDev_ok {D D' : Dev} {c : Int} (h : chgCode D c = 0) : chgDev D c D' = D' := by
  obtain ⟨hg, hc⟩ := chg_ok h
  unfold chgDev
  rw [if_pos ⟨devFault_good hg, hc⟩]
theorem chgCode_good {D : Dev} {c : Int} (h : Good D) : chgCode D c = c := by
  unfold chgCode
  rw [if_pos (devFault_good h)]
theorem atOk_lt {n k : Nat} (h : k < n) : atOk n (k : Int) = true := by
  simp [atOk, inB]
  omega
theorem load_is {D : Dev} {k : Nat} {x : Int} (hg : Good D) (hk : k < D.words.length) (hx : load D k = x) : loadCode D k = 0 ∧ loadVal D k = x := by
  unfold loadCode loadVal
  rw [if_pos (devFault_good hg), if_pos (devFault_good hg), if_pos (atOk_lt hk), if_pos (atOk_lt hk)]
  exact ⟨rfl, hx⟩
theorem resIs_at {e : Ending} {base : Nat} {w : World} {code : Int} {D : Dev} (h : ResIs e base w code D) :
    ∃ a1 c1 a2 c2 a3 c3, e = .returned (.agg #[.int .i64 code, .slice a1 D.words.length c1, .slice a2 D.flights.length c2, .slice a3 D.over.length c3]) ∧ DevAt w a1 a2 a3 D := by
  obtain ⟨v1, v2, v3, rfl, ho⟩ := h
  obtain ⟨a1, c1, a2, c2, a3, c3, rfl, rfl, rfl, hr, -⟩ := ho.form
  exact ⟨_, _, _, _, _, _, rfl, hr⟩
/-- A device that can be read, with lists of a bearable length. -/
structure DevRd (w : World) (a1 a2 a3 : Option Addr) (D : Dev) : Prop where
  r : DevAt w a1 a2 a3 D
  n1 : D.words.length ≤ 1048576
  n2 : D.flights.length ≤ 1048576
  n3 : D.over.length ≤ 1048576
theorem DevRd.below {w w' : World} {a1 a2 a3 : Option Addr} {D : Dev} (h : DevRd w a1 a2 a3 D) (hb : Below w.heap.size w w') : DevRd w' a1 a2 a3 D := ⟨h.r.below hb, h.n1, h.n2, h.n3⟩

theorem implLoad_is (a1 a2 a3 : Option Addr) (c1 c2 c3 p q r : Nat) (D : Dev) (k : Nat) (x : Int) (w : World) (h : DevRd w a1 a2 a3 D) (hp : p = D.words.length) (hq : q = D.flights.length) (hr : r = D.over.length) (hg : Good D) (hk : k < D.words.length) (hx : load D k = x) :
    Calls Try.prog 12 #[.agg #[.slice a1 p c1, .slice a2 q c2, .slice a3 r c3], .int .i64 k] w fun e w' => e = .returned (.agg #[.int .i64 0, .int .i64 x]) ∧ Below w.heap.size w w' := by
  subst hp hq hr
  have := implLoadWord_any a1 a2 a3 c1 c2 c3 D k w h.r h.n1 h.n2 h.n3
  obtain ⟨e1, e2⟩ := load_is hg hk hx
  rw [e1, e2] at this
  exact this
/-- A device without fault whose word k is loaded as x. -/
def LoadRd (w : World) (a1 a2 a3 : Option Addr) (p q r k : Nat) (x : Int) : Prop := ∃ D, DevRd w a1 a2 a3 D ∧ p = D.words.length ∧ q = D.flights.length ∧ r = D.over.length ∧ Good D ∧ k < D.words.length ∧ load D k = x
theorem LoadRd.below {w w' : World} {a1 a2 a3 : Option Addr} {p q r k : Nat} {x : Int} (h : LoadRd w a1 a2 a3 p q r k x) (hb : Below w.heap.size w w') : LoadRd w' a1 a2 a3 p q r k x := by
  obtain ⟨D, h, hh⟩ := h
  exact ⟨D, h.below hb, hh⟩
theorem implLoad_rd (a1 a2 a3 : Option Addr) (c1 c2 c3 p q r : Nat) (k : Nat) (x : Int) (w : World) (h : LoadRd w a1 a2 a3 p q r k x) :
    Calls Try.prog 12 #[.agg #[.slice a1 p c1, .slice a2 q c2, .slice a3 r c3], .int .i64 k] w fun e w' => e = .returned (.agg #[.int .i64 0, .int .i64 x]) ∧ Below w.heap.size w w' := by
  obtain ⟨D, h, hp, hq, hr, hg, hk, hx⟩ := h
  exact implLoad_is a1 a2 a3 c1 c2 c3 p q r D k x w h hp hq hr hg hk hx
theorem specLoad_is (a1 a2 a3 : Option Addr) (c1 c2 c3 p q r : Nat) (D : Dev) (k : Nat) (x : Int) (w : World) (h : DevRd w a1 a2 a3 D) (hp : p = D.words.length) (hq : q = D.flights.length) (hr : r = D.over.length) (hg : Good D) (hk : k < D.words.length) (hx : load D k = x) :
    Calls Try.prog 13 #[.agg #[.slice a1 p c1, .slice a2 q c2, .slice a3 r c3], .int .i64 k] w fun e w' => e = .returned (.agg #[.int .i64 0, .int .i64 x]) ∧ Below w.heap.size w w' := by
  subst hp hq hr
  have := specLoadWord_any a1 a2 a3 c1 c2 c3 D k w h.r h.n1 h.n2 h.n3
  obtain ⟨e1, e2⟩ := load_is hg hk hx
  rw [e1, e2] at this
  exact this
theorem implFault_good (a1 a2 a3 : Option Addr) (c1 c2 c3 p q r : Nat) (D : Dev) (w : World) (h : DevRd w a1 a2 a3 D) (hp : p = D.words.length) (hq : q = D.flights.length) (hr : r = D.over.length) (hg : Good D) :
    Calls Try.prog 14 #[.agg #[.slice a1 p c1, .slice a2 q c2, .slice a3 r c3]] w fun e w' => e = .returned (.int .i64 0) ∧ Below w.heap.size w w' := by
  subst hp hq hr
  have := implDeviceFault_any a1 a2 a3 c1 c2 c3 D w h.r h.n1 h.n2 h.n3
  rw [devFault_good hg] at this
  exact this
theorem implFence_good (a1 a2 a3 : Option Addr) (c1 c2 c3 : Nat) (D : Dev) (w : World) (h : DevRd w a1 a2 a3 D) (hg : Good D) :
    Calls Try.prog 20 #[.agg #[.slice a1 D.words.length c1, .slice a2 D.flights.length c2, .slice a3 D.over.length c3]] w fun e w' => (∃ b1 d1 b2 d2 b3 d3, e = .returned (.agg #[.int .i64 0, .slice b1 D.words.length d1, .slice b2 0 d2, .slice b3 D.over.length d3]) ∧ DevRd w' b1 b2 b3 (fenceDev D)) ∧ Below w.heap.size w w' := by
  refine (implFenceDevice_any a1 a2 a3 c1 c2 c3 D w h.r h.n1 h.n2 h.n3).mono ?_
  rintro e w' ⟨hr, hb⟩
  rw [chgCode_good hg, chgDev_ok (chgCode_good hg)] at hr
  obtain ⟨b1, d1, b2, d2, b3, d3, rfl, hd⟩ := resIs_at hr
  have hl : (fenceDev D).words.length = D.words.length := keepAll_len _ _
  rw [hl]
  exact ⟨⟨b1, d1, b2, d2, b3, d3, rfl, hd, by rw [hl]; exact h.n1, Nat.zero_le _, h.n3⟩, hb⟩
theorem specFence_good (a1 a2 a3 : Option Addr) (c1 c2 c3 : Nat) (D : Dev) (w : World) (h : DevRd w a1 a2 a3 D) (hg : Good D) :
    Calls Try.prog 21 #[.agg #[.slice a1 D.words.length c1, .slice a2 D.flights.length c2, .slice a3 D.over.length c3]] w fun e w' => (∃ v1 v2 v3, e = .returned (.agg #[.int .i64 0, v1, v2, v3])) ∧ Below w.heap.size w w' := by
  refine (specFenceDevice_any a1 a2 a3 c1 c2 c3 D w h.r h.n1 h.n2 h.n3).mono ?_
  rintro e w' ⟨⟨b1, d1, b2, d2, b3, d3, rfl, -⟩, hb⟩
  rw [chgCode_good hg]
  exact ⟨⟨_, _, _, rfl⟩, hb⟩
theorem neq_int2 (k u : Int) (w : World) : (binOp .neq 36 (.agg #[.int .i64 k, .int .i64 u]) (.agg #[.int .i64 k, .int .i64 u])).run Try.prog w = .ok (.bool false) w := by
  have hS : Try.prog.underlying 36 = some (.struct (Try.prog.fieldsOf 36)) := by kernel_rfl
  have hp : Try.prog.stoodInHeld 36 = false := by kernel_rfl
  have u3 := Try.underlying2
  have a3 := Try.isAgg2
  have z3 := Try.sizeOf2
  rw [run_neq_struct, show (10000 : Nat) = 9999 + 1 from rfl, run_equalIn_agg w 9999 36 _ _ hS hp]
  simp only [Program.fieldsOf, Try.underlying36]
  go_simp
theorem flush_few {D : Dev} (h1 : D.words.length ≤ 100) (h2 : D.flights.length ≤ 100) (h3 : D.over.length ≤ 100) (line : Int) : (flushDev D line).words.length ≤ 1048576 ∧ (flushDev D line).flights.length ≤ 1048576 ∧ (flushDev D line).over.length ≤ 1048576 := by
  have := flushF_len D.flights D.over line
  have := flushO_len D.over line
  refine ⟨?_, ?_, ?_⟩ <;> simp only [flushDev] <;> omega
end Go.Proofs.Ytgckkehlnahfmaa
