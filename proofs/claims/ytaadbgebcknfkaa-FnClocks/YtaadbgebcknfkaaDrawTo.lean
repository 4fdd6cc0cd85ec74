/-
  The laws' draws: the source, a little further.
-/
import Derived.Test.YtaadbgebcknfkaaDraw3Base
namespace Go.Proofs.Ytaadbgebcknfkaa
open Go.RowKit
set_option linter.unusedVariables false

/-- The source, a little further. -/
def SrcTo (w : World) (s : Nat) (a : Option Addr) (n c P : Nat) : Prop := ∃ p, p ≤ P ∧ SrcAt w 132 s a n c p
theorem SrcTo.below {w w' : World} {s : Nat} {a : Option Addr} {n c P : Nat} (h : SrcTo w s a n c P) (hb : Below w.heap.size w w') : SrcTo w' s a n c P := by
  obtain ⟨p, hp, h⟩ := h
  exact ⟨p, hp, h.below hb⟩
theorem SrcTo.lt {w : World} {s : Nat} {a : Option Addr} {n c P : Nat} (h : SrcTo w s a n c P) : s < w.heap.size := by
  obtain ⟨p, hp, h⟩ := h
  exact h.lt
theorem SrcTo.more {w : World} {s : Nat} {a : Option Addr} {n c P P' : Nat} (h : SrcTo w s a n c P) (hp : P ≤ P') : SrcTo w s a n c P' := by
  obtain ⟨p, hp', h⟩ := h
  exact ⟨p, by omega, h⟩
theorem SrcTo.above {F : Nat → Prop} {w w' : World} {s : Nat} {a : Option Addr} {n c P : Nat} (h : SrcTo w s a n c P) (ho : Out F w w') (hF : ∀ q, F q → s < q) : SrcTo w' s a n c P := by
  obtain ⟨p, hp', h⟩ := h
  exact ⟨p, hp', h.keep fun k hk => ho.block k (by have := h.lt; omega) (fun e => by have := hF k e; omega)⟩

theorem nextTo (s : Nat) (a : Option Addr) (n c P : Nat) (m : Int) (w : World) (h : SrcTo w s a n c P) (hp : P ≤ 1000000) (hm1 : 1 ≤ m) (hm2 : m ≤ 1000000000000) :
    Calls Try.prog 34 #[.pointer (some ⟨s, 0, none⟩), .int .i64 m] w fun e w' => (∃ v : Int, e = .returned (.int .i64 v) ∧ 0 ≤ v ∧ v < m) ∧ SrcTo w' s a n c (P + 1) ∧ Out (fun q => q = s) w w' := by
  obtain ⟨p, hp', h⟩ := h
  exact (next_out s a n c p m w h (by omega) hm1 hm2).mono fun _ _ ⟨h1, h2, h3⟩ => ⟨h1, ⟨p + 1, by omega, h2⟩, h3⟩
theorem chanceTo (s : Nat) (a : Option Addr) (n c P : Nat) (m : Int) (w : World) (h : SrcTo w s a n c P) (hp : P ≤ 1000000) (hm1 : 1 ≤ m) (hm2 : m ≤ 1000000000000) :
    Calls Try.prog 43 #[.pointer (some ⟨s, 0, none⟩), .int .i64 m] w fun e w' => (∃ b : Bool, e = .returned (.bool b)) ∧ SrcTo w' s a n c (P + 1) ∧ Out (fun q => q = s) w w' := by
  obtain ⟨p, hp', h⟩ := h
  exact (chance_out s a n c p m w h (by omega) hm1 hm2).mono fun _ _ ⟨h1, h2, h3⟩ => ⟨h1, ⟨p + 1, by omega, h2⟩, h3⟩
theorem pickTo (s : Nat) (a : Option Addr) (n c P : Nat) (Q : Int → Prop) (cs : Array Value) (t : TypeId) (m : Nat) (w : World) (h : SrcTo w s a n c P) (hp : P ≤ 1000000) (hm : cs.size = m) (h1 : 1 ≤ m) (h2 : m ≤ 1000) (hP : ∀ x, x ∈ cs.toList → ∃ v : Int, Q v ∧ x = .int .i64 v) :
    Calls Try.prog 32 #[.pointer (some ⟨s, 0, none⟩), .slice (some ⟨w.heap.size, 0, none⟩) m m] (w.alloc (.cells cs t)) fun e w' => (∃ v : Int, Q v ∧ e = .returned (.int .i64 v)) ∧ SrcTo w' s a n c (P + 1) ∧ Out (fun q => q = s) w w' := by
  obtain ⟨p, hp', h⟩ := h
  exact (pick_new s a n c p Q cs t m w h (by omega) hm h1 h2 hP).mono fun _ _ ⟨g1, g2, g3⟩ => ⟨g1, ⟨p + 1, by omega, g2⟩, g3⟩
end Go.Proofs.Ytaadbgebcknfkaa
