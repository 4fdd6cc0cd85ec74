/-
  Small words for the walks of the laws over devices.
-/
import Derived.Test.YtdnfadbkpajloaaDevSz
import Derived.Test.YtdnfadbkpajloaaDevTo2
import Derived.Test.YtdnfadbkpajloaaDevEq
import Derived.Test.YtdnfadbkpajloaaDevMark
namespace Go.Proofs.Ytdnfadbkpajloaa
open Go.RowKit
theorem sleft {W0 w' : World} {p : Prop} (h : Below W0.heap.size W0 w' ∧ p) : Below W0.heap.size W0 w' := h.1
theorem keep6 {W0 w' w1 : World} {b b2 : Nat} {v0 v1 v2 v3 v4 v5 : Value} (h3 : b < W0.heap.size) (h4 : b2 < W0.heap.size)
    (hS : Below W0.heap.size W0 w' ∧ w'.cell? ⟨b, 0, none⟩ = some v0 ∧ w'.cell? ⟨b, 1, none⟩ = some v1 ∧ w'.cell? ⟨b, 2, none⟩ = some v2 ∧ w'.cell? ⟨b2, 0, none⟩ = some v3 ∧ w'.cell? ⟨b2, 1, none⟩ = some v4 ∧ w'.cell? ⟨b2, 2, none⟩ = some v5) (hb : Below w'.heap.size w' w1) :
    Below W0.heap.size W0 w1 ∧ w1.cell? ⟨b, 0, none⟩ = some v0 ∧ w1.cell? ⟨b, 1, none⟩ = some v1 ∧ w1.cell? ⟨b, 2, none⟩ = some v2 ∧ w1.cell? ⟨b2, 0, none⟩ = some v3 ∧ w1.cell? ⟨b2, 1, none⟩ = some v4 ∧ w1.cell? ⟨b2, 2, none⟩ = some v5 := by
  obtain ⟨h, c1, c2, c3, c4, c5, c6⟩ := hS
  have hz := h.size
  exact ⟨h.trans (hb.mono h.size), ((bcell hb).1 _ _ (by omega)).trans c1, ((bcell hb).1 _ _ (by omega)).trans c2, ((bcell hb).1 _ _ (by omega)).trans c3, ((bcell hb).1 _ _ (by omega)).trans c4, ((bcell hb).1 _ _ (by omega)).trans c5, ((bcell hb).1 _ _ (by omega)).trans c6⟩
end Go.Proofs.Ytdnfadbkpajloaa
