/-
  Names and words lead back to each other; a path's names give the path again (no Go in sight).
-/
import Derived.Test.YtomlllpojpbciaaDoorWordNameMath
import Derived.Test.YtomlllpojpbciaaDoorNameWordWalk
import Derived.Test.YtomlllpojpbciaaDoorPathNamesMath
import Derived.Test.YtomlllpojpbciaaDoorPathOfWalk
namespace Go.Proofs.YtomlllpojpbciaaDoor
open Go.RowKit

theorem lastInd {α : Type} {p : List α → Prop} (h0 : p []) (hs : ∀ l b, p l → p (l ++ [b])) (l : List α) : p l := by
  have h : ∀ r : List α, p r.reverse := by
    intro r
    induction r with
    | nil => exact h0
    | cons b r ih => rw [List.reverse_cons]; exact hs _ _ ih
  have := h l.reverse
  rwa [List.reverse_reverse] at this

theorem nameWordL_nonneg (l : List UInt8) : l.all lowB = true → 0 ≤ nameWordL l := by
  refine lastInd (p := fun l => l.all lowB = true → 0 ≤ nameWordL l) ?_ ?_ l
  · intro _; simp [nameWordL]
  · intro l b ih h
    rw [List.all_append, Bool.and_eq_true] at h
    have hb : lowB b = true := by simpa using h.2
    have := lowB_bounds hb
    have := ih h.1
    rw [nameWordL_snoc]
    omega

theorem wn_back (l : List UInt8) : ∀ (f : Nat) (out : List UInt8), l.all lowB = true → l.length + out.length ≤ 6 → out.length + f = 7 → l1wn f (nameWordL l) out = l ++ out := by
  refine lastInd (p := fun l => ∀ (f : Nat) (out : List UInt8), l.all lowB = true → l.length + out.length ≤ 6 → out.length + f = 7 → l1wn f (nameWordL l) out = l ++ out) ?_ ?_ l
  · intro f out _ h1 h2
    obtain ⟨f, rfl⟩ : ∃ g, f = g + 1 := ⟨f - 1, by simp at h1; omega⟩
    rw [l1wn_end (by simp [nameWordL])]
    rfl
  · intro l b ih f out h h1 h2
    rw [List.all_append, Bool.and_eq_true] at h
    have hb : lowB b = true := by simpa using h.2
    have hbb := lowB_bounds hb
    have hp := nameWordL_nonneg l h.1
    rw [List.length_append, List.length_singleton] at h1
    obtain ⟨f, rfl⟩ : ∃ g, f = g + 1 := ⟨f - 1, by omega⟩
    rw [nameWordL_snoc]
    have e1 : (nameWordL l * 27 + ((b.toNat : Int) - 97) + 1) / 27 = nameWordL l := by omega
    have e2 : letterB (nameWordL l * 27 + ((b.toNat : Int) - 97) + 1) = b := by
      apply UInt8.toNat_inj.1
      have := letterB_toNat (nameWordL l * 27 + ((b.toNat : Int) - 97) + 1)
      omega
    rw [l1wn_step (by omega) (by omega) (by omega), e1, e2, ih f (b :: out) h.1 (by simp; omega) (by simp; omega)]
    simp

theorem nw_back : ∀ (f : Nat) (n : Int) (out : List UInt8), 0 ≤ n → out.all lowB = true → out.length ≤ 6 → out.length + f = 7 → l1wn f n out ≠ [] →
    (l1wn f n out).all lowB = true ∧ (l1wn f n out).length ≤ 6 ∧ (l1wn f n out).foldl (fun n b => n * 27 + ((b.toNat : Int) - 97) + 1) 0 = out.foldl (fun n b => n * 27 + ((b.toNat : Int) - 97) + 1) n
  | 0, n, out, _, _, h6, h7, _ => by omega
  | f + 1, n, out, h0, ha, h6, h7, hne => by
    by_cases hn : n ≤ 0
    · obtain rfl : n = 0 := by omega
      rw [l1wn_end (by omega)]
      exact ⟨ha, h6, rfl⟩
    · by_cases hx : n % 27 = 0 ∨ 6 ≤ out.length
      · exact absurd (l1wn_no (by omega) hx) hne
      · have hs := l1wn_step (f := f) (n := n) (out := out) (by omega) (by omega) (by omega)
        rw [hs] at hne ⊢
        have hlt := letterB_toNat n
        have hlow : lowB (letterB n) = true := by
          simp only [lowB, Bool.and_eq_true, decide_eq_true_eq]
          omega
        obtain ⟨r1, r2, r3⟩ := nw_back f (n / 27) (letterB n :: out) (by omega) (by simp [hlow, ha]) (by simp; omega) (by simp; omega) hne
        refine ⟨r1, r2, r3.trans ?_⟩
        rw [List.foldl_cons]
        congr 1
        omega

/-- What NameWord tells: where it tells a word, WordName tells the name. -/
theorem nwVal_facts (s : ByteArray) : ∃ x y : Int, nwVal s.data.toList = .agg #[.int .i64 x, .int .i64 y] ∧ (x == 0) = isNameL s.data.toList ∧ (x = 0 → wnVal y = .agg #[.int .i64 0, .string s]) := by
  refine ⟨_, _, rfl, ?_, ?_⟩
  · cases isNameL s.data.toList <;> rfl
  · intro hx
    have hn : isNameL s.data.toList = true := by
      cases h : isNameL s.data.toList
      · rw [h] at hx; simp at hx
      · rfl
    rw [if_pos hn]
    have hl := isNameL_len hn
    have ha : s.data.toList.all lowB = true := by
      simp only [isNameL, Bool.and_eq_true] at hn
      exact hn.2
    have hb := wn_back s.data.toList 7 [] ha (by simpa using hl.2) rfl
    rw [List.append_nil] at hb
    rw [wnVal, hb, if_neg (by intro e; rw [e] at hl; simp at hl)]

/-- What WordName tells: where it tells a name, NameWord tells the word. -/
theorem wnVal_facts (n : Int) : ∃ (x : Int) (t : ByteArray), wnVal n = .agg #[.int .i64 x, .string t] ∧ t.size ≤ 6 ∧ (x = 0 → nwVal t.data.toList = .agg #[.int .i64 0, .int .i64 n]) := by
  by_cases hn : l1wn 7 n [] = []
  · exact ⟨5, ⟨#[]⟩, by rw [wnVal, if_pos hn], by decide, by intro h; simp at h⟩
  · have h0 : 0 ≤ n := by
      by_cases h : 0 ≤ n
      · exact h
      · exact absurd (l1wn_end (by omega)) hn
    obtain ⟨r1, r2, r3⟩ := nw_back 7 n [] h0 rfl (by simp) rfl hn
    refine ⟨0, ⟨(l1wn 7 n []).toArray⟩, by rw [wnVal, if_neg hn], ?_, fun _ => ?_⟩
    · show (l1wn 7 n []).toArray.size ≤ 6
      simpa using r2
    · have hname : isNameL (l1wn 7 n []) = true := by
        simp only [isNameL, Bool.and_eq_true, decide_eq_true_eq]
        exact ⟨⟨List.length_pos_iff.2 hn, r2⟩, r1⟩
      show nwVal (l1wn 7 n []) = _
      rw [nwVal, if_pos hname, if_pos hname]
      have : nameWordL (l1wn 7 n []) = n := r3
      rw [this]

theorem cutL_join : ∀ (l : List UInt8) (x : List UInt8) (r : List (List UInt8)), cutL l = x :: r → l = x ++ r.flatMap (fun y => 47 :: y)
  | [], x, r, h => by simp [cutL] at h; obtain ⟨rfl, rfl⟩ := h; rfl
  | b :: l, x, r, h => by
    rw [cutL] at h
    split at h
    · rename_i hb
      obtain ⟨rfl, rfl⟩ : [] = x ∧ cutL l = r := by simpa using h
      cases hc : cutL l with
      | nil => exact absurd hc (cutL_ne l)
      | cons y r =>
        have := cutL_join l y r hc
        rw [List.flatMap_cons, List.nil_append, List.cons_append, ← this, hb]
    · cases hc : cutL l with
      | nil => exact absurd hc (cutL_ne l)
      | cons y r' =>
        rw [hc] at h
        obtain ⟨rfl, rfl⟩ : b :: y = x ∧ r' = r := by simpa using h
        have := cutL_join l y r' hc
        rw [List.cons_append, ← this]

theorem pn_back (l : List UInt8) (qs : List ByteArray) (h : pnCode l = 0) (hq : qs.map (·.data.toList) = pnWords l) : poVal qs = .agg #[.int .i64 0, .string ⟨l.toArray⟩] := by
  have hB : pathB qs = (pnWords l).flatMap (fun y => 47 :: y) := by rw [← hq, List.flatMap_map]; rfl
  have hA : allNames qs = (pnWords l).all isNameL := by rw [← hq, map_isName]; rfl
  have hL : qs.length = (pnWords l).length := by rw [← hq, List.length_map]
  unfold pnCode at h
  unfold pnWords at hB hA hL
  cases hp : pathParse l with
  | none => rw [hp] at h; simp at h
  | some r =>
    rw [hp] at h hB hA hL
    simp only at h hB hA hL
    by_cases h4 : 4 < r.length
    · rw [if_pos h4] at h; simp at h
    rw [if_neg h4] at hB hA hL
    rw [pathParse] at hp
    by_cases h1 : l = [47]
    · rw [if_pos h1] at hp
      obtain rfl : r = [] := (Option.some.inj hp).symm
      obtain rfl : qs = [] := List.length_eq_zero_iff.1 hL
      rw [h1]; rfl
    · rw [if_neg h1] at hp
      split at hp
      · rename_i x r' hc
        split at hp
        · rename_i hall
          obtain rfl : x :: r' = r := Option.some.inj hp
          rw [poVal_yes (by omega) (hA.trans hall), pathFull, if_neg (by intro e; rw [e] at hL; simp at hL), hB]
          have := cutL_join l _ _ hc
          rw [List.nil_append] at this
          rw [← this]
        · simp at hp
      · simp at hp

/-- What PathOf tells of the names of a path. -/
theorem pnWords_names (l : List UInt8) (x : List UInt8) (h : x ∈ pnWords l) : x.length ≤ 6 := by
  unfold pnWords at h
  cases hp : pathParse l with
  | none => rw [hp] at h; simp at h
  | some r =>
    rw [hp] at h
    simp only at h
    by_cases h4 : 4 < r.length
    · rw [if_pos h4] at h; simp at h
    rw [if_neg h4] at h
    rw [pathParse] at hp
    split at hp
    · rw [← Option.some.inj hp] at h; simp at h
    · split at hp
      · split at hp
        · rename_i hall
          obtain rfl := Option.some.inj hp
          exact (isNameL_len (List.all_eq_true.1 hall x h)).2
        · simp at hp
      · simp at hp
end Go.Proofs.YtomlllpojpbciaaDoor
