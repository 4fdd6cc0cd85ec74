/-
  The walk of laws.FnExactPathOf: it returns true, and writes nothing that was there.
-/
import Derived.Test.YtomlllpojpbciafImplPathOfWalk
import Derived.Test.YtomlllpojpbciafStrsWalk
import Derived.Test.YtomlllpojpbciafEqWalk
namespace Go.Proofs.Ytomlllpojpbciaf.fnExactPathOf
open Go.RowKit

theorem poVal_agg (l : List ByteArray) : ∃ (x : Int) (b : ByteArray), poVal l = .agg #[.int .i64 x, .string b] := by
  unfold poVal
  split
  · exact ⟨_, _, rfl⟩
  · split
    · exact ⟨_, _, rfl⟩
    · exact ⟨_, _, rfl⟩

set_option maxHeartbeats 600000 in
theorem walk (a : Option Addr) (len cap : Nat) (ss : List ByteArray) (w : World) (w0 : IsStrs w a len cap ss) :
    Calls Try.prog 6 #[.slice a len cap] w fun r w' => r = .returned (.bool true) ∧ Below w.heap.size w w' := by
  obtain ⟨l, rfl, hl, hs, hn, hlc⟩ := w0.at
  clear w0 hlc
  obtain ⟨x, b, hv⟩ := poVal_agg l
  have HV := hide hv
  have HL := hide hl
  have HS := hide hs
  clear hv hl hs
  go_enter Try.func6, Try.ntmps6
  go_wp2_with fail
  refine (szStringS_any a cap l _ (unhide HL) (unhide HS) hn).mono ?_
  rintro r w1 ⟨⟨v, rfl, hr⟩, rfl⟩
  by_cases hv : v < 0
  · go_wp2_with fail
    go_ret
    exact ⟨rfl, Below.refl _ _⟩
  have hlen : l.length ≤ 1048576 := hr (by omega)
  clear hr
  go_wp2_with fail
  refine (toStringS_any a cap l _ (unhide HL) hlen).mono ?_
  rintro r w2 ⟨rfl, s2, hb2⟩
  have S2 := hide s2
  have G2 := hide hb2
  have hz2 := hb2.size
  clear s2 hb2
  go_wp2_with fail
  refine (specPathOf_any _ _ l _ (unhide S2) (unhide HS) hn).mono ?_
  rintro r w3 ⟨rfl, hb3⟩
  rw [unhide HV]
  have hz3 : w2.heap.size ≤ w3.heap.size := hb3.size
  have G3 := hide (below_step (unhide G2) hb3 hz2)
  clear hb3
  go_wp2_with fail
  have G3' := hide ((unhide G3).alloc (by omega) (.cells #[.int .i64 x, .string b] 28))
  refine (toStringS_any a cap l _ ((unhide HL).below (unhide G3')) hlen).mono ?_
  rintro r w4 ⟨rfl, s4, hb4⟩
  have hz4 : w3.heap.size < w4.heap.size := by have := hb4.size; simp at this; omega
  have G4 := hide (below_step (unhide G3') hb4 (by simp; omega))
  have q4 : ∀ j, w4.cell? ⟨w3.heap.size, j, none⟩ = _ := fun j => (bcell hb4).1 _ j (by simp)
  have e4 : (w3.alloc (.cells #[.int .i64 x, .string b] 28)).heap.size = w3.heap.size + 1 := by simp
  rw [e4] at s4
  have S4 := hide s4
  clear e4
  clear hb4 s4
  go_wp2_with fail
  refine (implPathOf_any _ _ l _ (unhide S4) (unhide HS) hn (Nat.le_refl _)).mono ?_
  rintro r w5 ⟨rfl, hb5⟩
  rw [unhide HV]
  have hz5 : w4.heap.size ≤ w5.heap.size := hb5.size
  have hy5 : w3.heap.size < w5.heap.size := by omega
  have q5 : ∀ j, w5.cell? ⟨w3.heap.size, j, none⟩ = _ := fun j => ((bcell hb5).1 _ j hz4).trans (q4 j)
  have G5 := hide (below_step (unhide G4) hb5 (by have := (unhide G4).size; omega))
  have S5 := hide ((unhide S4).below hb5)
  clear hb5 q4
  go_wp2_with fail
  refine (eqTextResult_same x b _).mono ?_
  rintro r w6 ⟨rfl, hb6⟩
  have hz6 : w5.heap.size < w6.heap.size := by have := hb6.size; simp at this; omega
  have G6 := hide (below_step ((unhide G5).alloc (by omega) _) hb6 (by simp; omega))
  have S6 := hide (((unhide S5).below ((Below.refl _ _).alloc (Nat.le_refl _) _)).below hb6)
  clear hb6
  go_wp2_with fail
  refine (toStringS_any a cap l _ ((unhide HL).below (unhide G6)) hlen).mono ?_
  rintro r w7 ⟨rfl, s7, hb7⟩
  have G7 := hide (below_step (unhide G6) hb7 (by omega))
  have S7 := hide ((unhide S6).below hb7)
  have hz7 : w6.heap.size ≤ w7.heap.size := hb7.size
  have T7 := hide s7
  clear hb7 s7
  go_wp2_with fail
  refine (eqStringS_same _ _ _ _ l _ (unhide S7) (unhide T7) hlen).mono ?_
  rintro r w8 ⟨rfl, hb8⟩
  go_wp2_with fail
  go_ret
  exact ⟨rfl, below_step (unhide G7) hb8 (by omega)⟩
end Go.Proofs.Ytomlllpojpbciaf.fnExactPathOf
