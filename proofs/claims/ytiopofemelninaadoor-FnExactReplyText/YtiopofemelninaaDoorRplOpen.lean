/-
  What the reading of a reply by value tells.
-/
import Derived.Test.YtiopofemelninaaDoorNoteOpen
namespace Go.Proofs.YtiopofemelninaaDoor
open Go.RowKit Go.ChangeShapes Go.WideShapes Go.Deep
section
variable {H : Type} {enc : TypeId × Value → H} {P : Program} {w : World} {base : Nat} {spare : Nat → Bool} {held : Bool}
theorem open_rpl {r : Reach} {b0 : Nat} {t : TypeId} {f0 f1 f2 : Field} {el es : TypeId} {v : Value} {dd : DataW H} {pp : List MemPlace} (ht : P.underlying t = some (.struct #[f0, f1, f2])) (hone : oneCellFields P #[f0, f1, f2] = true) (hC : P.cellsOf t = 3)
    (i0 : P.underlying f0.type = some (.int .i64)) (uL : P.underlying f1.type = some (.slice el)) (uE : P.underlying el = some (.int .i64)) (cE : P.cellsOf el = 1) (uS : P.underlying f2.type = some (.slice es)) (uT : P.underlying es = some .string) (cT : P.cellsOf es = 1)
    (hv : Value.okWide P w r b0 t v) (h : DataW.Trod enc P w base spare held t v dd pp) : ∃ (rc : Int) (rn : List Int) (rs : List ByteArray) (a2 : Option Addr) (c2 : Nat) (a3 : Option Addr) (c3 : Nat), v = .agg #[.int .i64 rc, .slice a2 rn.length c2, .slice a3 rs.length c3] ∧ IntsAt w a2 rn ∧ rn.length ≤ maxLen ∧ StrsAt w a3 rs ∧ rs.length ≤ maxLen ∧ ∀ s ∈ rs, s.size ≤ maxLen := by
  obtain ⟨cs, rfl, hsz⟩ := okWide_struct ht hv
  obtain ⟨fuel, hf⟩ := h
  obtain ⟨rc, rn, rs, a2, c2, a3, c3, hc, h1, h2, h3, h4, h5⟩ := open_rpl_cells ht hone hC i0 uL uE cE uS uT cT hf
  refine ⟨rc, rn, rs, a2, c2, a3, c3, ?_, h1, h2, h3, h4, h5⟩
  obtain ⟨l⟩ := cs
  simp [Value.cells] at hc
  rw [hc]
end
end Go.Proofs.YtiopofemelninaaDoor
