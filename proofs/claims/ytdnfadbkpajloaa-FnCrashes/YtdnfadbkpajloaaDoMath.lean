/-
  What acts do to a device (no Go in sight): one act, many; what is Good stays so.
-/
import Derived.Test.YtdnfadbkpajloaaFlushWalk
import Derived.Test.YtdnfadbkpajloaaSStoreWalk
import Derived.Test.YtdnfadbkpajloaaTripMath
namespace Go.Proofs.Ytdnfadbkpajloaa
open Go.RowKit
set_option linter.unusedVariables false

def actCode (D : Dev) (x : Trip) : Int :=
  if x.1 = 1 then storeCode D x.2.1 x.2.2
  else if x.1 = 2 ∧ x.2.2 = 0 then flushCode D x.2.1
  else if x.1 = 3 ∧ x.2.1 = 0 ∧ x.2.2 = 0 then 0 else 1
def actDev (D : Dev) (x : Trip) : Dev :=
  if x.1 = 1 then storeDev D x.2.1 x.2.2
  else if x.1 = 2 ∧ x.2.2 = 0 then flushDev D x.2.1
  else fenceDev D
/-- Acts one behind the other: the code, and what there is then. -/
def actsRun : List Trip → Dev → Int × Dev
  | [], D => (0, D)
  | x :: l, D => if actCode D x = 0 then actsRun l (actDev D x) else (actCode D x, D)
def actsCode (D : Dev) (l : List Trip) : Int := if l.length ≤ 500 then (actsRun l D).1 else 2
def actsDev (D : Dev) (l : List Trip) : Dev := (actsRun l D).2

theorem actsRun_cons {x : Trip} {l : List Trip} {D : Dev} (h : actCode D x = 0) : actsRun (x :: l) D = actsRun l (actDev D x) := by rw [actsRun, if_pos h]
theorem actsRun_stop {x : Trip} {l : List Trip} {D : Dev} (h : actCode D x ≠ 0) : actsRun (x :: l) D = (actCode D x, D) := by rw [actsRun, if_neg h]
theorem actsRun_append (l m : List Trip) : ∀ D : Dev, actsRun (l ++ m) D = if (actsRun l D).1 = 0 then actsRun m (actsRun l D).2 else actsRun l D := by
  induction l with
  | nil => intro D; simp [actsRun]
  | cons x l ih =>
    intro D
    rw [List.cons_append]
    by_cases h : actCode D x = 0
    · rw [actsRun_cons h, actsRun_cons h, ih]
    · rw [actsRun_stop h, actsRun_stop h, if_neg h]

theorem cellOk_setC {n : Nat} {l : List (Int × Int)} {c : Int × Int} (h : allCells n l = true) (hc : cellOk n c = true) : allCells n (setC l c) = true := by
  rw [allCells, List.all_eq_true] at h ⊢
  intro d hd
  rcases mem_setC hd with rfl | hd
  · exact hc
  · exact h d hd
theorem allCells_filter {n : Nat} {l : List (Int × Int)} {p : Int × Int → Bool} (h : allCells n l = true) : allCells n (l.filter p) = true := by
  rw [allCells, List.all_eq_true] at h ⊢
  exact fun d hd => h d (List.mem_filter.1 hd).1
theorem nodup_filter {l : List (Int × Int)} {p : Int × Int → Bool} (h : (keys l).Nodup) : (keys (l.filter p)).Nodup := by
  unfold keys at h ⊢
  exact h.sublist (List.Sublist.map _ List.filter_sublist)
theorem fold_setC {n : Nat} (m : List (Int × Int)) : ∀ l : List (Int × Int), allCells n l = true → allCells n m = true → (keys l).Nodup → allCells n (m.foldl setC l) = true ∧ (keys (m.foldl setC l)).Nodup := by
  induction m with
  | nil => intro l h _ hu; exact ⟨h, hu⟩
  | cons c m ih =>
    intro l h hm hu
    rw [allCells, List.all_cons, Bool.and_eq_true] at hm
    exact ih _ (cellOk_setC h hm.1) hm.2 (nodup_setC hu)
theorem allWords_keep {ws : List Int} {c : Int × Int} {n : Nat} (h : allWords ws = true) (hc : cellOk n c = true) : allWords (keepW ws c) = true := by
  rw [allWords, List.all_eq_true] at h ⊢
  rw [cellOk, Bool.and_eq_true] at hc
  intro x hx
  rcases List.mem_or_eq_of_mem_set hx with hx | rfl
  · exact h x hx
  · exact hc.2
theorem allWords_keepAll {n : Nat} (l : List (Int × Int)) : ∀ ws : List Int, allWords ws = true → allCells n l = true → allWords (keepAll ws l) = true := by
  induction l with
  | nil => intro ws h _; exact h
  | cons c l ih =>
    intro ws h hl
    rw [allCells, List.all_cons, Bool.and_eq_true] at hl
    exact ih _ (allWords_keep h hl.1) hl.2

theorem Good.store {D : Dev} (h : Good D) {a v : Int} (hc : storeCode D a v = 0) : Good (storeDev D a v) := by
  unfold storeCode at hc
  split at hc
  · rename_i hok
    exact ⟨h.size, h.words, h.flights, cellOk_setC h.over hok, h.uf, nodup_setC h.uo⟩
  · cases hc
theorem Good.flush {D : Dev} (h : Good D) (line : Int) : Good (flushDev D line) := by
  have := fold_setC (n := D.words.length) (D.over.filter (inLine line)) D.flights h.flights (allCells_filter h.over) h.uf
  exact ⟨h.size, h.words, this.1, allCells_filter h.over, this.2, nodup_filter h.uo⟩
theorem Good.fence {D : Dev} (h : Good D) : Good (fenceDev D) := by
  have hl := keepAll_len D.flights D.words
  refine ⟨?_, allWords_keepAll _ _ h.words h.flights, rfl, ?_, List.nodup_nil, h.uo⟩
  · show sizeOk (keepAll D.words D.flights).length = true
    rw [hl]; exact h.size
  · show allCells (keepAll D.words D.flights).length D.over = true
    rw [hl]; exact h.over
theorem Good.act {D : Dev} (h : Good D) {x : Trip} (hc : actCode D x = 0) : Good (actDev D x) := by
  unfold actCode at hc
  unfold actDev
  split
  · rename_i h1; rw [if_pos h1] at hc; exact h.store hc
  · split
    · exact h.flush _
    · exact h.fence

def cellsN (D : Dev) : Nat := D.flights.length + D.over.length
theorem fold_setC_len (m : List (Int × Int)) : ∀ l : List (Int × Int), (m.foldl setC l).length ≤ l.length + m.length := by
  induction m with
  | nil => intro l; simp
  | cons c m ih =>
    intro l
    have h1 := ih (setC l c)
    have h2 := setC_len l c
    simp only [List.foldl_cons, List.length_cons]
    omega
theorem filter_two (l : List (Int × Int)) (p : Int × Int → Bool) : (l.filter p).length + (l.filter (fun c => !p c)).length = l.length := by
  induction l with
  | nil => rfl
  | cons c l ih =>
    cases hp : p c
    · simp [hp]; omega
    · simp [hp]; omega
theorem cellsN_act (D : Dev) (x : Trip) : cellsN (actDev D x) ≤ cellsN D + 1 := by
  unfold actDev
  split
  · have := setC_len D.over (x.2.1, x.2.2)
    show D.flights.length + (setC D.over (x.2.1, x.2.2)).length ≤ D.flights.length + D.over.length + 1
    omega
  · split
    · have h1 := fold_setC_len (D.over.filter (inLine x.2.1)) D.flights
      have h2 := filter_two D.over (inLine x.2.1)
      show ((D.over.filter (inLine x.2.1)).foldl setC D.flights).length + (D.over.filter (fun c => !inLine x.2.1 c)).length ≤ D.flights.length + D.over.length + 1
      omega
    · show 0 + D.over.length ≤ D.flights.length + D.over.length + 1
      omega
theorem words_act (D : Dev) (x : Trip) : (actDev D x).words.length = D.words.length := by
  unfold actDev
  split
  · rfl
  · split
    · rfl
    · exact keepAll_len _ _
theorem actsRun_len (l : List Trip) : ∀ D : Dev, cellsN (actsRun l D).2 ≤ cellsN D + l.length ∧ (actsRun l D).2.words.length = D.words.length := by
  induction l with
  | nil => intro D; exact ⟨by simp [actsRun], rfl⟩
  | cons x l ih =>
    intro D
    by_cases h : actCode D x = 0
    · rw [actsRun_cons h]
      have h1 := ih (actDev D x)
      have h2 := cellsN_act D x
      have h3 := words_act D x
      simp only [List.length_cons]
      omega
    · rw [actsRun_stop h]
      simp only [List.length_cons]
      exact ⟨by omega, trivial⟩
theorem Good.acts (l : List Trip) : ∀ {D : Dev}, Good D → Good (actsRun l D).2 := by
  induction l with
  | nil => intro D h; exact h
  | cons x l ih =>
    intro D h
    by_cases hc : actCode D x = 0
    · rw [actsRun_cons hc]; exact ih (h.act hc)
    · rw [actsRun_stop hc]; exact h

end Go.Proofs.Ytdnfadbkpajloaa
