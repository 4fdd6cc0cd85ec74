/-
  A map of numbers, as the walks see it: it tells just what a list of cells tells; what is stored, struck and looked up.
-/
import Derived.Test.YtdnfadbkpajloaaProg
import Derived.Test.YtdnfadbkpajloaaCellMath
import Derived.Test.YtdnfadbkpajloaaRowMath
import Derived.Maps.OwnSet
import Derived.WalkKit
import Derived.WalkLawsBesides
namespace Go.Proofs.Ytdnfadbkpajloaa
open Go.RowKit Go.Maps

theorem lawI : Keyed Try.prog 2 := int_keyed Try.underlying2
theorem zeroI (w : World) : (zeroValue 2).run Try.prog w = .ok (.int .i64 0) w := by kernel_rfl

/-- Block b is a map that tells what L tells. -/
def MapAt (w : World) (b : Nat) (L : List (Int × Int)) : Prop := ∃ D : DataW Unit, w.ownsMap Try.prog 2 (plainElem Try.prog 2) b L.length D ∧ Maps.size D = L.length ∧
  ∀ k : Int, Maps.has D (.int .i64 k) = (look L k).isSome ∧ D.atKey (.int .i64 k) (.lit (.int .i64 0)) = .lit (.int .i64 ((look L k).getD 0))

theorem tight {w : World} {b n : Nat} {D : DataW Unit} (h : w.ownsMap Try.prog 2 (plainElem Try.prog 2) b n D) : w.ownsMap Try.prog 2 (plainElem Try.prog 2) b (Maps.size D) D := by
  obtain ⟨es, clock, hb, F, hs, rfl⟩ := h
  exact ⟨es, clock, hb, F, by simp [Maps.size, length_sorted], rfl⟩

theorem MapAt.lt {w : World} {b : Nat} {L : List (Int × Int)} (h : MapAt w b L) : b < w.heap.size := by
  obtain ⟨D, h1, -⟩ := h
  exact h1.lt
theorem MapAt.stay {w w' : World} {b : Nat} {L : List (Int × Int)} (h : MapAt w b L) (hb : w'.heap[b]? = w.heap[b]?) : MapAt w' b L := by
  obtain ⟨D, ⟨es, clock, h1, r⟩, h2⟩ := h
  exact ⟨D, ⟨es, clock, hb.trans h1, r⟩, h2⟩
theorem MapAt.below {w w' : World} {b : Nat} {L : List (Int × Int)} (h : MapAt w b L) (hb : Below w.heap.size w w') : MapAt w' b L := h.stay (hb.block b h.lt)
theorem MapAt.out {F : Nat → Prop} {w w' : World} {b : Nat} {L : List (Int × Int)} (h : MapAt w b L) (ho : Out F w w') (hF : ¬ F b) : MapAt w' b L := h.stay (ho.block b h.lt hF)
theorem mapAt_made (w : World) : MapAt (w.alloc (.map #[] 0)) w.heap.size [] := by
  refine ⟨.map [], World.ownsMap_made w _ _ _, rfl, fun k => ⟨rfl, ?_⟩⟩
  simp [look, DataW.atKey]

theorem wfI {k : Int} (h0 : -9223372036854775808 ≤ k) (h1 : k ≤ 9223372036854775807) : (Lit.int .i64 k).wf = true := WalkArith.wf_i64 (by omega)

theorem lit_inj {a b : Int} (h : (DataW.lit (.int .i64 a) : DataW Unit) = .lit (.int .i64 b)) : a = b := by cases h; rfl
theorem MapAt.look_ok {w : World} {b : Nat} {L : List (Int × Int)} (h : MapAt w b L) {k : Int} (wk : (Lit.int .i64 k).wf = true) :
    (Instr.lookup 197 (.map (some b)) (.int .i64 k) true).run Try.prog w = .ok (.tuple #[.int .i64 ((look L k).getD 0), .bool (look L k).isSome]) w := by
  obtain ⟨D, h1, -, h2⟩ := h
  obtain ⟨v, ps, hrun, hv⟩ := h1.look_ok lawI Try.underlying197 (zeroI w) (plainElem_int Try.underlying2 (by decide)) (keyOf_int_mk Try.underlying2 wk)
  obtain ⟨c, rfl, hc, -⟩ := plainElem_int_inv Try.underlying2 hv
  rw [hrun, (h2 k).1, lit_inj ((h2 k).2.symm.trans (congrArg Prod.fst hc))]
theorem MapAt.look_in {w : World} {b : Nat} {L : List (Int × Int)} (h : MapAt w b L) {k : Int} (wk : (Lit.int .i64 k).wf = true) :
    (Instr.lookup 197 (.map (some b)) (.int .i64 k) false).run Try.prog w = .ok (.int .i64 ((look L k).getD 0)) w := by
  obtain ⟨D, h1, -, h2⟩ := h
  obtain ⟨c, hrun, hat, -⟩ := h1.lookup_int lawI Try.underlying197 Try.underlying2 (zeroI w) (keyOf_int_mk Try.underlying2 wk)
  rw [hrun, lit_inj ((h2 k).2.symm.trans hat)]

theorem lit_ne {a b : Int} (h : a ≠ b) : (Lit.int .i64 a) ≠ .int .i64 b := fun e => h (by injection e)
theorem keyLit (k : Int) : WideAt.IsKeyLit (.int .i64 k) := by simp [WideAt.IsKeyLit]

theorem MapAt.put {w : World} {b : Nat} {L : List (Int × Int)} (h : MapAt w b L) {k z : Int} (wk : (Lit.int .i64 k).wf = true) (wz : (Lit.int .i64 z).wf = true) (hL : L.length < maxLen) :
    ∃ w', (Instr.mapUpdate 197 (.map (some b)) (.int .i64 k) (.int .i64 z)).run Try.prog w = .ok () w' ∧ MapAt w' b (setC L (k, z)) ∧ Out (fun q => q = b) w w' := by
  obtain ⟨D, h1, hs, h2⟩ := h
  obtain ⟨w', hrun, hown, hturn⟩ := h1.store lawI Try.underlying197 hL (keyOf_int_mk Try.underlying2 wk) (plainElem_int Try.underlying2 wz)
  have hg := hturn.grown
  refine ⟨w', hrun, ⟨D.put (.int .i64 k) (.lit (.int .i64 z)), ?_, ?_, fun j => ?_⟩, ⟨hg.os, hg.tape, hg.output, hg.size, fun q hq hn => hg.block q hq (fun e => hn (by injection e))⟩⟩
  · have ht := tight hown
    rw [size_put (h1.tidy lawI)] at ht
    rw [(h2 k).1, hs] at ht
    by_cases hk : (look L k).isSome = true
    · rw [if_pos hk] at ht
      rw [setC_length_some (c := (k, z)) hk]; exact ht
    · rw [if_neg hk] at ht
      rw [setC_length_none (c := (k, z)) (by simpa using hk)]; exact ht
  · rw [size_put (h1.tidy lawI), (h2 k).1, hs]
    by_cases hk : (look L k).isSome = true
    · rw [if_pos hk, setC_length_some (c := (k, z)) hk]
    · rw [if_neg hk, setC_length_none (c := (k, z)) (by simpa using hk)]
  · rw [look_setC]
    by_cases hj : k = j
    · subst hj
      rw [has_put_same h1.isMap (keyLit k), atKey_put_same h1.isMap (keyLit k)]
      simp
    · rw [has_put_other (lit_ne (fun e => hj e.symm)), atKey_put_other (lit_ne (fun e => hj e.symm)), if_neg hj]
      exact h2 j
theorem MapAt.del {w : World} {b : Nat} {L : List (Int × Int)} (h : MapAt w b L) (hu : (keys L).Nodup) {k : Int} (wk : (Lit.int .i64 k).wf = true) (ty : TypeId) :
    ∃ w', (Builtin.delete_ #[197, 2] ty #[.map (some b), .int .i64 k]).run Try.prog w = .ok (.tuple #[]) w' ∧ MapAt w' b (without L k) ∧ Out (fun q => q = b) w w' := by
  obtain ⟨D, h1, hs, h2⟩ := h
  obtain ⟨w', hrun, hown, hturn⟩ := h1.drop lawI Try.underlying197 (keyOf_int_mk Try.underlying2 wk) ty
  have hg := hturn.grown
  have hsz : Maps.size (D.del (.int .i64 k)) = (without L k).length := by
    have := size_del (k := .int .i64 k) (h1.tidy lawI)
    rw [(h2 k).1, hs] at this
    by_cases hk : (look L k).isSome = true
    · rw [if_pos hk] at this
      have := without_length hu hk
      omega
    · rw [if_neg hk] at this
      rw [without_none (by simpa using hk)]
      omega
  refine ⟨w', hrun, ⟨D.del (.int .i64 k), ?_, hsz, fun j => ?_⟩, ⟨hg.os, hg.tape, hg.output, hg.size, fun q hq hn => hg.block q hq (fun e => hn (by injection e))⟩⟩
  · have ht := tight hown
    rw [hsz] at ht
    exact ht
  · rw [look_without]
    by_cases hj : j = k
    · subst hj
      rw [has_del_same, atKey_del_same]
      simp
    · rw [has_del_other (lit_ne hj), atKey_del_other (lit_ne hj), if_neg hj]
      exact h2 j
end Go.Proofs.Ytdnfadbkpajloaa
