/-
  A line is flushed, as the program does it.
-/
import Derived.Test.YtdnfadbkpajloaaEvictWalk
namespace Go.Proofs.Ytdnfadbkpajloaa
open Go.RowKit
set_option linter.unusedVariables false

def flushCode (D : Dev) (line : Int) : Int := if sizeOkL D.words.length line = true then 0 else 3
def flushDev (D : Dev) (line : Int) : Dev := ⟨D.words, flushF D.flights D.over line, flushO D.over line⟩

theorem flushF_take {l : List (Int × Int)} {k : Nat} (hk : k < l.length) (F : List (Int × Int)) (line : Int) : flushF F (l.take (k + 1)) line = if inLine line l[k] = true then setC (flushF F (l.take k) line) (l[k].1, l[k].2) else flushF F (l.take k) line := by
  rw [List.take_succ_eq_append_getElem hk, flushF, List.filter_append]
  by_cases h : inLine line l[k] = true
  · simp [h, List.foldl_append, flushF]
  · simp [h, flushF]
theorem flushO_take {l : List (Int × Int)} {k : Nat} (hk : k < l.length) (line : Int) : flushO (l.take (k + 1)) line = flushO (l.take k) line ++ (if inLine line l[k] = true then [] else [l[k]]) := by
  rw [List.take_succ_eq_append_getElem hk, flushO, List.filter_append]
  by_cases h : inLine line l[k] = true
  · simp [h, flushO]
  · simp [h, flushO]
/-- What is over while the first k were asked. -/
def overK (l : List (Int × Int)) (line : Int) (k : Nat) : List (Int × Int) := flushO (l.take k) line ++ l.drop k
theorem overK_stay {l : List (Int × Int)} {k : Nat} (hk : k < l.length) {line : Int} (h : inLine line l[k] = false) : overK l line (k + 1) = overK l line k := by
  rw [overK, overK, flushO_take hk, h, List.drop_eq_getElem_cons hk]
  simp
theorem overK_drop {l : List (Int × Int)} (hu : (keys l).Nodup) {k : Nat} (hk : k < l.length) {line : Int} (h : inLine line l[k] = true) : without (overK l line k) l[k].1 = overK l line (k + 1) := by
  have hne : ∀ j (hj : j < l.length), j ≠ k → l[j].1 ≠ l[k].1 := by
    intro j hj hjk e
    have hkl : (keys l).length = l.length := by simp [keys]
    have e1 : ∀ i (hi : i < l.length), (keys l)[i]'(by rw [hkl]; exact hi) = l[i].1 := fun i hi => by simp [keys]
    rcases Nat.lt_or_gt_of_ne hjk with h | h
    · exact (List.pairwise_iff_getElem.1 hu) j k (by rw [hkl]; exact hj) (by rw [hkl]; exact hk) h (by rw [e1 j hj, e1 k hk]; exact e)
    · exact (List.pairwise_iff_getElem.1 hu) k j (by rw [hkl]; exact hk) (by rw [hkl]; exact hj) h (by rw [e1 j hj, e1 k hk]; exact e.symm)
  rw [overK, overK, flushO_take hk, h, if_pos rfl, List.append_nil, List.drop_eq_getElem_cons hk, without, List.filter_append, List.filter_cons_of_neg (by simp)]
  congr 1
  · rw [List.filter_eq_self]
    intro c hc
    obtain ⟨j, hj, rfl⟩ := List.getElem_of_mem (List.mem_filter.1 hc).1
    have hj' : j < k := by rw [List.length_take] at hj; omega
    have := hne j (by omega) (by omega)
    simpa using this
  · rw [List.filter_eq_self]
    intro c hc
    obtain ⟨j, hj, rfl⟩ := List.getElem_of_mem hc
    rw [List.length_drop] at hj
    have := hne (k + 1 + j) (by omega) (by omega)
    simpa using this
theorem inLine_eq {line A V : Int} (h : 0 ≤ A) : (A.tdiv 8 == line) = inLine line (A, V) := by
  rw [inLine, Int.tdiv_eq_ediv_of_nonneg h]


theorem Mem.putFl {w w' : World} {m : Nat} {wv fo fo' oo : Value} {fm om : Nat} {D : Dev} {L : List (Int × Int)} (h : Mem w m wv fo oo fm om D) (hx : Box w' m [wv, fo', .map (some fm), oo, .map (some om)] 201) (hC : CM w' fo' fm L) (hq : fo'.ownBlock = fo.ownBlock ∨ ∃ q, fo'.ownBlock = some q ∧ w.heap.size ≤ q) (ho : Out (fun q => q = m ∨ CMB fo fm q) w w') :
    Mem w' m wv fo' oo fm om ⟨D.words, L, D.over⟩ := by
  have hB : ∀ q, CMB fo' fm q → CMB fo fm q ∨ w.heap.size ≤ q := fun q h => by
    rcases h with h | h
    · rcases hq with hq | ⟨q', hq, h2⟩
      · exact .inl (.inl (by rw [← hq]; exact h))
      · rw [h] at hq; injection hq with hq; subst hq; exact .inr h2
    · exact .inl (.inr h)
  refine ⟨hx, ho.own h.words (fun q hq e => ?_), hC, h.ov.out ho (fun q hq e => ?_), h.s1, fun e => ?_, h.s3, fun q h1 e => ?_, h.s5, fun q e h2 => ?_⟩
  · rcases e with e | e
    · exact h.s1 (by rw [hq, e])
    · exact h.s4 q hq e
  · rcases e with e | e
    · exact h.s3 (by rw [← e]; exact hq)
    · exact h.s6 q e hq
  · rcases hB _ e with e | e
    · exact h.s2 e
    · have := h.box.lt; omega
  · rcases hB _ e with e | e
    · exact h.s4 q h1 e
    · have := (h.words.lt q h1).2; omega
  · rcases hB _ e with e | e
    · exact h.s6 q e h2
    · have := h.ov.lt h2; omega

theorem flushF_len (F l : List (Int × Int)) (line : Int) : (flushF F l line).length ≤ F.length + l.length := by
  unfold flushF
  have h1 : ∀ (l F : List (Int × Int)), (l.foldl setC F).length ≤ F.length + l.length := by
    intro l
    induction l with
    | nil => intro F; simp
    | cons c l ih =>
      intro F
      have := ih (setC F c)
      have h2 : (setC F c).length ≤ F.length + 1 := by
        cases hk : (look F c.1).isSome
        · rw [setC_length_none (c := c) (by simpa using hk)]; exact Nat.le_refl _
        · rw [setC_length_some (c := c) hk]; omega
      simp only [List.foldl_cons, List.length_cons]
      omega
  have := h1 (l.filter (inLine line)) F
  have := List.length_filter_le (inLine line) l
  omega
theorem flush_old {m : Nat} {wv fo fo' oo : Value} {fm om z : Nat} (hF : fo'.ownBlock = fo.ownBlock ∨ ∃ q, fo'.ownBlock = some q ∧ z ≤ q) (q : Nat) (hq : q < z) (e : q = m ∨ CMB fo' fm q) : MemB m wv fo oo fm om q := by
  rcases e with e | e | e
  · exact .inl e
  · rcases hF with h | ⟨q', h, h2⟩
    · exact .inr (.inr (.inl (.inl (by rw [← h]; exact e))))
    · rw [e] at h; injection h with h; omega
  · exact .inr (.inr (.inl (.inr e)))
theorem flush_sep {m : Nat} {wv fo fo' oo v : Value} {fm om z0 z1 : Nat} (hL : ∀ q, v.ownBlock = some q → z0 ≤ q ∧ q < z1) (hM : ∀ q, MemB m wv fo oo fm om q → q < z0) (hF : fo'.ownBlock = fo.ownBlock ∨ ∃ q, fo'.ownBlock = some q ∧ z1 ≤ q) (q : Nat) (hq : v.ownBlock = some q) (e : q = m ∨ CMB fo' fm q) : False := by
  have h1 := hL q hq
  have h2 := hM q (flush_old hF q h1.2 e)
  omega

theorem flush_old2 {m : Nat} {wv fo oo oo' : Value} {fm om : Nat} (hO : oo'.ownBlock = oo.ownBlock) (q : Nat) (e : q = m ∨ CMB oo' om q) : MemB m wv fo oo fm om q := by
  rcases e with e | e | e
  · exact .inl e
  · exact .inr (.inr (.inr (.inl (by rw [← hO]; exact e))))
  · exact .inr (.inr (.inr (.inr e)))
theorem flush_sep2 {m : Nat} {wv fo oo oo' v : Value} {fm om z0 z1 : Nat} (hL : ∀ q, v.ownBlock = some q → z0 ≤ q ∧ q < z1) (hM : ∀ q, MemB m wv fo oo fm om q → q < z0) (hO : oo'.ownBlock = oo.ownBlock) (q : Nat) (hq : v.ownBlock = some q) (e : q = m ∨ CMB oo' om q) : False := by
  have h1 := hL q hq
  have h2 := hM q (flush_old2 hO q e)
  omega

theorem flushO_len (l : List (Int × Int)) (a : Int) : (flushO l a).length ≤ l.length := List.length_filter_le _ _

end Go.Proofs.Ytdnfadbkpajloaa
