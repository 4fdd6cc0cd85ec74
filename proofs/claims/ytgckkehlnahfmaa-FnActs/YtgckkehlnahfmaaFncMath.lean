/-
  What flush and fence leave of what is loaded (no Go in sight).
-/
import Derived.Test.YtgckkehlnahfmaaDoMath
namespace Go.Proofs.Ytgckkehlnahfmaa
open Go.RowKit

theorem look_filter (l : List (Int × Int)) (p : Int → Bool) (k : Int) : look (l.filter (fun c => p c.1)) k = if p k = true then look l k else none := by
  induction l with
  | nil => simp [look]
  | cons d l ih =>
    by_cases hp : p d.1 = true
    · rw [List.filter_cons_of_pos (by simpa using hp)]
      simp only [look]
      by_cases hk : d.1 = k
      · subst hk; simp [hp]
      · rw [if_neg hk, if_neg hk, ih]
    · rw [List.filter_cons_of_neg (by simpa using hp), ih]
      simp only [look]
      by_cases hk : d.1 = k
      · subst hk; simp [hp]
      · rw [if_neg hk]
theorem look_fold (m : List (Int × Int)) : ∀ (l : List (Int × Int)) (k : Int), (keys m).Nodup → look (m.foldl setC l) k = match look m k with
    | some v => some v
    | none => look l k := by
  induction m with
  | nil => intro l k _; simp [look]
  | cons d m ih =>
    intro l k hu
    have hu' : d.1 ∉ keys m ∧ (keys m).Nodup := by simpa [keys] using hu
    rw [List.foldl_cons, ih _ _ hu'.2, look_setC]
    by_cases hk : d.1 = k
    · subst hk
      rw [look_none.2 hu'.1]
      simp [look]
    · simp only [look, if_neg hk]
theorem keep_get (l : List (Int × Int)) : ∀ (ws : List Int) (k : Nat), (∀ c ∈ l, 0 ≤ c.1 ∧ c.1 < ws.length) → (keys l).Nodup → k < ws.length → (keepAll ws l).getD k 0 = match look l k with
    | some v => v
    | none => ws.getD k 0 := by
  induction l with
  | nil => intro ws k _ _ _; simp [look, keepAll]
  | cons d l ih =>
    intro ws k hb hu hk
    have hu' : d.1 ∉ keys l ∧ (keys l).Nodup := by simpa [keys] using hu
    have hd := hb d (by simp)
    have e : keepAll ws (d :: l) = keepAll (keepW ws d) l := rfl
    rw [e, ih _ _ (fun c hc => by simpa [keepW] using hb c (by simp [hc])) hu'.2 (by simpa [keepW] using hk)]
    by_cases hdk : d.1 = (k : Int)
    · rw [← hdk, look_none.2 hu'.1]
      simp only [look, if_true]
      have : d.1.toNat = k := by omega
      simp [keepW, this, hk]
    · simp only [look, if_neg hdk]
      have : ¬ d.1.toNat = k := by omega
      cases look l k with
      | some v => rfl
      | none => simp [keepW, this]
theorem cells_in {n : Nat} {l : List (Int × Int)} (h : allCells n l = true) : ∀ c ∈ l, 0 ≤ c.1 ∧ c.1 < n := by
  intro c hc
  have := List.all_eq_true.1 h c hc
  simp [cellOk, atOk, inB] at this
  omega
theorem look_flushO (l : List (Int × Int)) (line k : Int) : look (flushO l line) k = if k / 8 = line then none else look l k := by
  have := look_filter l (fun a => !(a / 8 == line)) k
  unfold flushO
  rw [show (fun c : Int × Int => !inLine line c) = fun c => !(c.1 / 8 == line) from rfl, this]
  by_cases h : k / 8 = line <;> simp [h]
theorem look_flushF {D : Dev} (h : Good D) (line k : Int) : look (flushF D.flights D.over line) k = if k / 8 = line then (match look D.over k with | some v => some v | none => look D.flights k) else look D.flights k := by
  unfold flushF
  rw [look_fold _ _ _ (nodup_filter h.uo)]
  have := look_filter D.over (fun a => a / 8 == line) k
  rw [show inLine line = fun c : Int × Int => (c.1 / 8 == line) from rfl, this]
  by_cases hk : k / 8 = line <;> simp [hk]
theorem load_flush {D : Dev} (h : Good D) (line k : Int) : load (flushDev D line) k = load D k := by
  unfold load flushDev
  simp only [look_flushO, look_flushF h]
  by_cases hk : k / 8 = line
  · simp only [if_pos hk]
    cases look D.over k <;> rfl
  · simp only [if_neg hk]
theorem load_fence {D : Dev} (h : Good D) {k : Nat} (hk : k < D.words.length) : load (fenceDev D) k = load D k := by
  unfold load fenceDev
  simp only [look]
  rw [Int.toNat_natCast, keep_get _ _ _ (cells_in h.flights) h.uf hk]
  cases look D.over k <;> cases look D.flights k <;> rfl
theorem kept_flush {D : Dev} (h : Good D) {k : Nat} (hk : k < D.words.length) {line : Int} (hl : (k : Int) / 8 = line) : (fenceDev (flushDev D line)).words.getD k 0 = load D k := by
  have hg := h.flush line
  have hk' : k < (flushDev D line).words.length := hk
  have e : (fenceDev (flushDev D line)).words = keepAll (flushDev D line).words (flushDev D line).flights := rfl
  rw [e, keep_get _ _ _ (cells_in hg.flights) hg.uf hk']
  have e2 : look (flushDev D line).flights k = _ := look_flushF h line k
  rw [e2, if_pos hl]
  unfold load
  cases look D.over k with
  | some v => rfl
  | none => cases look D.flights k <;> rfl
theorem load_store (D : Dev) (a v k : Int) : load (storeDev D a v) k = if k = a then v else load D k := by
  unfold load storeDev
  simp only [look_setC]
  by_cases hk : a = k
  · subst hk; simp
  · rw [if_neg hk, if_neg (fun e => hk e.symm)]
end Go.Proofs.Ytgckkehlnahfmaa
