/-
  A device that is changed by the program: it is opened, changed, and told; what is stored.
-/
import Derived.Test.YtdnfadbkpajloaaListWalk
import Derived.Test.YtdnfadbkpajloaaNewDevWalk
namespace Go.Proofs.Ytdnfadbkpajloaa
open Go.RowKit
set_option linter.unusedVariables false

/-- The open device has become D'; what is new of it lies in new memory. -/
def Chg (m : Nat) (wv fo oo : Value) (fm om : Nat) (w w' : World) (D' : Dev) : Prop := ∃ wv' fo' oo' fm' om', Mem w' m wv' fo' oo' fm' om' D' ∧ ∀ q, MemB m wv' fo' oo' fm' om' q → MemB m wv fo oo fm om q ∨ w.heap.size ≤ q
def chgCode (D : Dev) (code : Int) : Int := if devFault D = 0 then code else devFault D
def chgDev (D : Dev) (code : Int) (D' : Dev) : Dev := if devFault D = 0 ∧ code = 0 then D' else none'

def storeCode (D : Dev) (a v : Int) : Int := if (atOk D.words.length a && wordOk v) = true then 0 else 3
def storeDev (D : Dev) (a v : Int) : Dev := ⟨D.words, D.flights, setC D.over (a, v)⟩

theorem Mem.setOver {w w' : World} {m : Nat} {wv fo oo : Value} {fm om : Nat} {D : Dev} (h : Mem w m wv fo oo fm om D) {oo' : Value} {L : List (Int × Int)} (hx : Box w' m [wv, fo, .map (some fm), oo', .map (some om)] 201) (hC : CM w' oo' om L) (hq : oo'.ownBlock = oo.ownBlock ∨ ∃ q, oo'.ownBlock = some q ∧ w.heap.size ≤ q) (ho : Out (fun q => q = m ∨ CMB oo om q) w w') :
    Chg m wv fo oo fm om w w' ⟨D.words, D.flights, L⟩ := by
  have hnew : ∀ q, CMB oo' om q → CMB oo om q ∨ w.heap.size ≤ q := by
    intro q hqq
    rcases hqq with hqq | rfl
    · rcases hq with hq | ⟨q', hq, hq2⟩
      · exact .inl (.inl (by rw [← hq]; exact hqq))
      · rw [hqq] at hq; injection hq with hq; subst hq; exact .inr hq2
    · exact .inl (.inr rfl)
  refine ⟨wv, fo, oo', fm, om, ⟨hx, ho.own h.words (fun q hq e => ?_), h.fl.out ho (fun q hq e => ?_), hC, h.s1, h.s2, fun e => ?_, h.s4, fun q hq e => ?_, fun q hq e => ?_⟩, ?_⟩
  · rcases e with rfl | e
    · exact h.s1 hq
    · exact h.s5 q hq e
  · rcases e with rfl | e
    · exact h.s2 hq
    · exact h.s6 q hq e
  · rcases hnew m e with e | e
    · exact h.s3 e
    · have := h.box.lt; omega
  · rcases hnew q e with e | e
    · exact h.s5 q hq e
    · have := (h.words.lt q hq).2; omega
  · rcases hnew q e with e | e
    · exact h.s6 q hq e
    · have := h.fl.lt hq; omega
  · intro q hqq
    rcases hqq with rfl | hqq | hqq | hqq
    · exact .inl (.inl rfl)
    · exact .inl (.inr (.inl hqq))
    · exact .inl (.inr (.inr (.inl hqq)))
    · rcases hnew q hqq with e | e
      · exact .inl (.inr (.inr (.inr e)))
      · exact .inr e



theorem Good.small {D : Dev} (h : Good D) : D.words.length ≤ 328 ∧ 16 ≤ D.words.length := by have := h.size; simp [sizeOk] at this; omega

end Go.Proofs.Ytdnfadbkpajloaa
