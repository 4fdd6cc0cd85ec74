/-
  The fence, as the program does it: what is in flight is kept.
-/
import Derived.Test.YtdnfadbkpajloaaStoreWalk
import Derived.BigRegion
namespace Go.Proofs.Ytdnfadbkpajloaa
open Go.RowKit
set_option linter.unusedVariables false

def keepAll (ws : List Int) (l : List (Int × Int)) : List Int := l.foldl keepW ws
def fenceDev (D : Dev) : Dev := ⟨keepAll D.words D.flights, [], D.over⟩
theorem keepAll_len (l : List (Int × Int)) : ∀ ws : List Int, (keepAll ws l).length = ws.length := by
  induction l with
  | nil => intro ws; rfl
  | cons c l ih => intro ws; rw [keepAll, List.foldl_cons, ← keepAll, ih]; simp [keepW]
theorem keepAll_take {l : List (Int × Int)} {k : Nat} (hk : k < l.length) (ws : List Int) : keepAll ws (l.take (k + 1)) = (keepAll ws (l.take k)).set l[k].1.toNat l[k].2 := by
  rw [List.take_succ_eq_append_getElem hk, keepAll, List.foldl_append]; rfl
theorem cellOk_at {n : Nat} {l : List (Int × Int)} (h : allCells n l = true) {k : Nat} (hk : k < l.length) : 0 ≤ l[k].1 ∧ l[k].1 < n := by
  rw [allCells, List.all_eq_true] at h
  have h1 := h _ (List.getElem_mem hk)
  rw [cellOk, Bool.and_eq_true] at h1
  have := inB_true.1 h1.1
  omega

theorem outDrew {F : Nat → Prop} {w w' : World} (h : Out F w w') : Hid (Out F w w'.drew) := ⟨h.os, h.tape, h.output, h.size, h.block⟩
theorem Mem.fenced {w w' : World} {m : Nat} {wv fo oo : Value} {fm om : Nat} {D : Dev} (h : Mem w m wv fo oo fm om D) {fm' : Nat} {ws : List Int} (hx : Box w' m [wv, .slice none 0 0, .map (some fm'), oo, .map (some om)] 201) (hw : w'.ownsRow 0 2 1 wv ws.length (nums ws)) (hC : CM w' (.slice none 0 0) fm' []) (hq : w.heap.size ≤ fm') (ho : Out (fun q => q = m ∨ wv.ownBlock = some q) w w') :
    Chg m wv fo oo fm om w w' ⟨ws, [], D.over⟩ := by
  have hnew : ∀ q, CMB (.slice none 0 0) fm' q → w.heap.size ≤ q := by
    intro q hqq
    rcases hqq with hqq | rfl
    · simp [Value.ownBlock] at hqq
    · exact hq
  refine ⟨wv, .slice none 0 0, oo, fm', om, ⟨hx, hw, hC, h.ov.out ho (fun q hq e => ?_), h.s1, fun e => ?_, h.s3, fun q hq e => ?_, h.s5, fun q hq e => ?_⟩, ?_⟩
  · rcases e with rfl | e
    · exact h.s3 hq
    · exact h.s5 q e hq
  · have := hnew m e; have := h.box.lt; omega
  · have := hnew q e; have := (h.words.lt q hq).2; omega
  · have := hnew q hq; have := h.ov.lt e; omega
  · intro q hqq
    rcases hqq with rfl | hqq | hqq | hqq
    · exact .inl (.inl rfl)
    · exact .inl (.inr (.inl hqq))
    · exact .inr (hnew q hqq)
    · exact .inl (.inr (.inr (.inr hqq)))



end Go.Proofs.Ytdnfadbkpajloaa
