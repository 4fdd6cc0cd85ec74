/-
  Lists of cells (no Go in sight): a cell set, struck, found.
-/
import Derived.Test.YtdnfadbkpajloaaDevMath
namespace Go.Proofs.Ytdnfadbkpajloaa

theorem look_setC (l : List (Int × Int)) (c : Int × Int) (k : Int) : look (setC l c) k = if c.1 = k then some c.2 else look l k := by
  induction l with
  | nil => simp [setC, look]
  | cons d l ih =>
    rw [setC]
    by_cases h : d.1 = c.1
    · rw [if_pos h, look, look]
      by_cases hk : c.1 = k
      · simp [hk]
      · simp [hk, h]
    · rw [if_neg h, look, ih, look]
      by_cases hd : d.1 = k
      · rw [if_pos hd, if_pos hd, if_neg (by omega)]
      · rw [if_neg hd, if_neg hd]
theorem keys_setC (l : List (Int × Int)) (c : Int × Int) : keys (setC l c) = if (look l c.1).isSome then keys l else keys l ++ [c.1] := by
  induction l with
  | nil => simp [setC, look, keys]
  | cons d l ih =>
    rw [setC, look]
    by_cases h : d.1 = c.1
    · simp [h, keys]
    · simp only [if_neg h]
      rw [show keys (d :: setC l c) = d.1 :: keys (setC l c) from rfl, ih]
      split <;> simp [keys]
theorem look_none {l : List (Int × Int)} {k : Int} : look l k = none ↔ k ∉ keys l := by
  induction l with
  | nil => simp [look, keys]
  | cons d l ih =>
    rw [look]
    by_cases h : d.1 = k
    · simp [h, keys]
    · rw [if_neg h, ih]; simp [keys]; omega
theorem isSome_look {l : List (Int × Int)} {k : Int} : (look l k).isSome = true ↔ k ∈ keys l := by
  rw [Option.isSome_iff_ne_none, ne_eq, look_none]; simp
theorem setC_none {l : List (Int × Int)} {c : Int × Int} (h : look l c.1 = none) : setC l c = l ++ [c] := by
  induction l with
  | nil => rfl
  | cons d l ih =>
    rw [look] at h
    by_cases hd : d.1 = c.1
    · simp [hd] at h
    · rw [if_neg hd] at h
      rw [setC, if_neg hd, ih h]; rfl
theorem setC_length_some {l : List (Int × Int)} {c : Int × Int} (h : (look l c.1).isSome = true) : (setC l c).length = l.length := by
  have := congrArg List.length (keys_setC l c)
  rw [if_pos h] at this
  simpa [keys] using this
theorem setC_length_none {l : List (Int × Int)} {c : Int × Int} (h : look l c.1 = none) : (setC l c).length = l.length + 1 := by rw [setC_none h]; simp
theorem nodup_setC {l : List (Int × Int)} {c : Int × Int} (h : (keys l).Nodup) : (keys (setC l c)).Nodup := by
  rw [keys_setC]
  split
  · exact h
  · rename_i hn
    have hn' : c.1 ∉ keys l := fun hm => hn (isSome_look.2 hm)
    rw [List.nodup_append]
    exact ⟨h, by simp, fun a ha b hb e => by simp at hb; subst hb; subst e; exact hn' ha⟩
theorem mem_setC {l : List (Int × Int)} {c d : Int × Int} (h : d ∈ setC l c) : d = c ∨ d ∈ l := by
  induction l with
  | nil => simp [setC] at h; exact .inl h
  | cons e l ih =>
    rw [setC] at h
    split at h
    · rcases List.mem_cons.1 h with h | h
      · exact .inl h
      · exact .inr (List.mem_cons_of_mem _ h)
    · rcases List.mem_cons.1 h with h | h
      · exact .inr (by rw [h]; exact List.mem_cons_self)
      · rcases ih h with h | h
        · exact .inl h
        · exact .inr (List.mem_cons_of_mem _ h)

theorem look_without (l : List (Int × Int)) (a k : Int) : look (without l a) k = if k = a then none else look l k := by
  induction l with
  | nil => simp [without, look]
  | cons d l ih =>
    unfold without at ih ⊢
    rw [List.filter_cons]
    by_cases hd : d.1 = a
    · rw [if_neg (by simp [hd]), ih, look]
      by_cases hk : k = a
      · simp [hk]
      · rw [if_neg hk, if_neg hk, if_neg (by omega)]
    · rw [if_pos (by simpa using hd), look, ih, look]
      by_cases hk : k = a
      · rw [if_pos hk, if_neg (by omega)]; simp [hk]
      · rw [if_neg hk, if_neg hk]
theorem keys_without (l : List (Int × Int)) (a : Int) : keys (without l a) = (keys l).filter (fun k => k != a) := by
  unfold keys without
  rw [List.filter_map]; rfl
theorem without_none {l : List (Int × Int)} {a : Int} (h : look l a = none) : without l a = l := by
  unfold without
  rw [List.filter_eq_self]
  intro c hc
  have := look_none.1 h
  simp
  exact fun e => this (by rw [← e]; exact List.mem_map_of_mem hc)
theorem without_length {l : List (Int × Int)} {a : Int} (hu : (keys l).Nodup) (h : (look l a).isSome = true) : (without l a).length + 1 = l.length := by
  induction l with
  | nil => simp [look] at h
  | cons d l ih =>
    have hu' : d.1 ∉ keys l ∧ (keys l).Nodup := by simpa [keys] using hu
    unfold without at ih ⊢
    rw [List.filter_cons]
    by_cases hd : d.1 = a
    · rw [if_neg (by simp [hd])]
      have : look l a = none := look_none.2 (by rw [← hd]; exact hu'.1)
      have := without_none this
      unfold without at this
      rw [this]; rfl
    · rw [if_pos (by simpa using hd)]
      rw [look, if_neg hd] at h
      have := ih hu'.2 h
      simp only [List.length_cons]
      omega
theorem nodup_without {l : List (Int × Int)} {a : Int} (h : (keys l).Nodup) : (keys (without l a)).Nodup := by
  rw [keys_without]; exact h.filter _

/-- Cells whose numbers are small. -/
def Fine (l : List (Int × Int)) : Prop := ∀ c ∈ l, 0 ≤ c.1 ∧ c.1 ≤ 1000 ∧ 0 ≤ c.2 ∧ c.2 ≤ 999999999999999
theorem fine_setC {l : List (Int × Int)} {c : Int × Int} (h : Fine l) (hc : 0 ≤ c.1 ∧ c.1 ≤ 1000 ∧ 0 ≤ c.2 ∧ c.2 ≤ 999999999999999) : Fine (setC l c) := fun d hd => by
  rcases mem_setC hd with e | e
  · rw [e]; exact hc
  · exact h d e
theorem fine_without {l : List (Int × Int)} {a : Int} (h : Fine l) : Fine (without l a) := fun d hd => h d (List.mem_filter.1 hd).1
theorem fine_look {l : List (Int × Int)} {a v : Int} (h : Fine l) (hl : look l a = some v) : 0 ≤ v ∧ v ≤ 999999999999999 := by
  induction l with
  | nil => simp [look] at hl
  | cons d l ih =>
    rw [look] at hl
    split at hl
    · cases hl
      exact (h d List.mem_cons_self).2.2
    · exact ih (fun c hc => h c (List.mem_cons_of_mem _ hc)) hl

end Go.Proofs.Ytdnfadbkpajloaa
