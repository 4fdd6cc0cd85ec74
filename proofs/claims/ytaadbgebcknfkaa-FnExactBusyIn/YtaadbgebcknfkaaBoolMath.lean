/-
  Lists of truths in memory.
-/
import Derived.Test.YtaadbgebcknfkaaRowMath
namespace Go.Proofs.Ytaadbgebcknfkaa
open Go.RowKit
set_option linter.unusedVariables false

def bols (l : List Bool) : List Value := l.map Value.bool
theorem bols_length (l : List Bool) : (bols l).length = l.length := by simp [bols]
theorem bols_at {l : List Bool} {i : Nat} (h : i < l.length) : (bols l)[i]? = some (.bool l[i]) := by simp [bols, h]
def BoolsAt (w : World) (a : Option Addr) (l : List Bool) : Prop :=
  l = [] ∨ ∃ b o, a = some ⟨b, o, none⟩ ∧ b < w.heap.size ∧ ∀ i (h : i < l.length), w.cell? ⟨b, o + i, none⟩ = some (.bool l[i])
theorem BoolsAt.at {w : World} {a : Option Addr} {l : List Bool} (h : BoolsAt w a l) {k : Nat} (hk : k < l.length) :
    ∃ b o, a = some ⟨b, o, none⟩ ∧ b < w.heap.size ∧ ∀ i (h : i < l.length), w.cell? ⟨b, o + i, none⟩ = some (.bool l[i]) := by
  rcases h with rfl | h
  · simp at hk
  · exact h
theorem BoolsAt.keep {w w' : World} {a : Option Addr} {l : List Bool} (h : BoolsAt w a l) (hz : w.heap.size ≤ w'.heap.size) (hk : ∀ x, a = some x → x.block < w.heap.size → w'.heap[x.block]? = w.heap[x.block]?) : BoolsAt w' a l := by
  rcases h with rfl | ⟨b, o, rfl, hlt, hc⟩
  · exact .inl rfl
  · exact .inr ⟨b, o, rfl, by omega, fun i hi => (World.cell?_of_block (a := ⟨b, o + i, none⟩) (hk ⟨b, o, none⟩ rfl hlt)).trans (hc i hi)⟩
theorem BoolsAt.below {w w' : World} {a : Option Addr} {l : List Bool} (h : BoolsAt w a l) (hb : Below w.heap.size w w') : BoolsAt w' a l := h.keep hb.size fun _ _ hx => hb.block _ hx
theorem boolsAt_own {w : World} {base n : Nat} {e : TypeId} {v : Value} {l : List Bool} (h : w.ownsRow base e 1 v n (bols l)) :
    ∃ a c, v = .slice a l.length c ∧ n = l.length ∧ BoolsAt w a l ∧ l.length ≤ c ∧ c ≤ maxLen := by
  have hn : n = l.length := by have := h.1; rw [bols_length] at this; omega
  subst hn
  rcases h.2 with ⟨rfl, h0⟩ | ⟨g, cap, cur, rfl, hg, hh, hn, hc, hs, ht⟩
  · exact ⟨none, 0, by rw [h0], rfl, .inl (List.length_eq_zero_iff.1 h0), by omega, by omega⟩
  · refine ⟨_, cap, rfl, rfl, ?_, hn, hc⟩
    by_cases h0 : l = []
    · exact .inl h0
    · refine .inr ⟨g, 0, rfl, (Array.getElem?_eq_some_iff.1 hh).1, fun i hi => ?_⟩
      rw [Nat.zero_add, h.cellAt i (by omega)]
      exact bols_at hi
theorem boolsAt_own1 {w : World} {base n m c : Nat} {e : TypeId} {a : Option Addr} {l : List Bool} (h : w.ownsRow base e 1 (.slice a m c) n (bols l)) : BoolsAt w a l := by
  obtain ⟨_, _, hv, _, hi, _⟩ := boolsAt_own h
  cases hv
  exact hi
theorem Out.bools {F : Nat → Prop} {w w' : World} (ho : Out F w w') {a : Option Addr} {l : List Bool} (h : BoolsAt w a l) (hF : ∀ x, a = some x → ¬ F x.block) : BoolsAt w' a l := h.keep ho.size fun x hx hl => ho.block _ hl (hF x hx)
end Go.Proofs.Ytaadbgebcknfkaa
