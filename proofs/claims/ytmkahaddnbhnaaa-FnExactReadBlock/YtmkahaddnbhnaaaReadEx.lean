/-
  What both ReadBlocks answer, field by field.
-/
import Derived.Test.YtmkahaddnbhnaaaIReadWalk
import Derived.Test.YtmkahaddnbhnaaaSReadBlock
namespace Go.Proofs.Ytmkahaddnbhnaaa
open Go.RowKit

theorem readBlk_len (l : List Int) : (readBlk l).nl.length ≤ 1048576 := by
  unfold readBlk
  split
  · split
    · unfold toldBlk
      split
      · simp
      · split
        · simp
        · split <;> simp [Blk.none]
    · simp [Blk.none]
  · simp [Blk.none]
theorem implRead_ex {k u i e nu : Int} {nd : Bool} {np : Int} {nn : ByteArray} {ns : Int} {nl : List Int} (a : Option Addr) (c : Nat) (l : List Int) (hcl : l.length ≤ c) (hl : l.length ≤ 1048576) (w : World) (h : IntsAt w a l) (hB : readBlk l = ⟨k, u, i, e, nu, nd, np, nn, ns, nl⟩) :
    Calls Try.prog 26 #[.slice a l.length c] w fun r w' => (∃ v, r = .returned (.agg #[.int .i64 (readCode l), .int .i64 k, .int .i64 u, .int .i64 i, .int .i64 e, .int .i64 nu, .bool nd, .int .i64 np, .string nn, .int .i64 ns, v]) ∧ w'.ownsRow w.heap.size 2 1 v nl.length (nums nl)) ∧ Below w.heap.size w w' := by
  refine (implReadBlock_any a c l hcl hl w h).mono ?_
  rintro r w1 ⟨⟨v, rfl, ho⟩, hb⟩
  rw [hB] at ho ⊢
  exact ⟨⟨v, rfl, ho⟩, hb⟩
theorem specRead_ex {k u i e nu : Int} {nd : Bool} {np : Int} {nn : ByteArray} {ns : Int} {nl : List Int} (a : Option Addr) (c : Nat) (l : List Int) (hcl : l.length ≤ c) (hl : l.length ≤ 1048576) (hx : ∀ x ∈ l, -9223372036854775808 ≤ x ∧ x ≤ 9223372036854775807) (w : World) (h : IntsAt w a l) (hB : readBlk l = ⟨k, u, i, e, nu, nd, np, nn, ns, nl⟩) :
    Calls Try.prog 30 #[.slice a l.length c] w fun r w' => (∃ v, r = .returned (.agg #[.int .i64 (readCode l), .int .i64 k, .int .i64 u, .int .i64 i, .int .i64 e, .int .i64 nu, .bool nd, .int .i64 np, .string nn, .int .i64 ns, v]) ∧ w'.ownsRow w.heap.size 2 1 v nl.length (nums nl)) ∧ Below w.heap.size w w' := by
  refine (specReadBlock_any a c l hcl hl hx w h).mono ?_
  rintro r w1 ⟨⟨v, rfl, ho⟩, hb⟩
  rw [hB] at ho ⊢
  exact ⟨⟨v, rfl, ho⟩, hb⟩
end Go.Proofs.Ytmkahaddnbhnaaa
