/-
  What the reading of a slice of numbers tells: the numbers, and that each is an int64.
-/
import Derived.Test.YtmkahaddnbhnaaaOpenDev
namespace Go.Proofs.Ytmkahaddnbhnaaa
open Go.RowKit Go.ChangeShapes Go.WideShapes Go.Deep
section
variable {H : Type} {enc : TypeId × Value → H} {P : Program} {w : World} {base : Nat} {spare : Nat → Bool} {held : Bool}

theorem open_ints_wf {t e : TypeId} {fuel : Nat} {v : Value} {y : DataW H × List MemPlace} (ht : P.underlying t = some (.slice e)) (he : P.underlying e = some (.int .i64)) (hc : P.cellsOf e = 1)
    (h : DataW.trod enc P w base spare held fuel t [v] = some y) : ∃ a c l, v = .slice a (List.length l) c ∧ (IntsAt w a l ∧ ∀ x ∈ l, -9223372036854775808 ≤ x ∧ x ≤ 9223372036854775807) ∧ List.length l ≤ c ∧ c ≤ maxLen := by
  obtain ⟨a, c, l, hv, hi, h1, h2⟩ := open_ints_at ht he hc h
  rcases open_ints ht he hc h with ⟨hcs, _⟩ | ⟨x, len, cap, zs, hcs, _, hl, hm, hz, _, hcell, hwz⟩
  · simp only [List.cons.injEq, and_true] at hcs
    rw [hv] at hcs
    injection hcs with _ hl0 _
    have : l = [] := List.eq_nil_of_length_eq_zero hl0
    subst this
    exact ⟨a, c, [], hv, ⟨hi, by simp⟩, h1, h2⟩
  · simp only [List.cons.injEq, and_true] at hcs
    rw [hv] at hcs
    injection hcs with ha hl0 _
    refine ⟨a, c, l, hv, ⟨hi, fun y hy => ?_⟩, h1, h2⟩
    obtain ⟨j, hj, rfl⟩ := List.getElem_of_mem hy
    have hzl : len ≤ zs.length := by rw [hz]; split <;> omega
    have hjz : j < zs.length := by omega
    have c0 := hcell j hjz
    obtain ⟨b, o, hb, _, hcc⟩ := hi.at hj
    rw [ha] at hb
    injection hb with hb
    subst hb
    rw [add_plain, hcc j hj] at c0
    injection c0 with c0
    injection c0 with _ c0
    have hw := hwz (zs.getD j 0) (by rw [List.getD_eq_getElem?_getD, List.getElem?_eq_getElem hjz]; exact List.getElem_mem hjz)
    rw [c0]
    simpa [Lit.wf, IntKind.min, IntKind.max, IntKind.signed, IntKind.bits] using hw
end
end Go.Proofs.Ytmkahaddnbhnaaa
