/-
  A text cut at the byte 32 (no Go in sight); that is what strings.Split at that byte gives.
-/
import Derived.Test.YtiopofemelninaaDoorBase
import Derived.Lib.SplitLaws
namespace Go.Proofs.YtiopofemelninaaDoor.Cut32
open Go.RowKit

/-- The pieces between the bytes 32. -/
def cutL : List UInt8 → List (List UInt8)
  | [] => [[]]
  | b :: l => if b = 32 then [] :: cutL l else match cutL l with
    | [] => [[b]]
    | x :: r => (b :: x) :: r

theorem cutL_ne (l : List UInt8) : cutL l ≠ [] := by
  cases l with
  | nil => simp [cutL]
  | cons b l =>
    unfold cutL
    split
    · simp
    · split <;> simp

theorem cutL_none : ∀ (l : List UInt8), 32 ∉ l → cutL l = [l]
  | [], _ => rfl
  | b :: l, h => by
    have hb : b ≠ 32 := fun e => h (by simp [e])
    have hl : 32 ∉ l := fun e => h (by simp [e])
    rw [cutL, if_neg hb, cutL_none l hl]

theorem cutL_hit : ∀ (p q : List UInt8), 32 ∉ p → cutL (p ++ 32 :: q) = p :: cutL q
  | [], q, _ => by simp [cutL]
  | b :: p, q, h => by
    have hb : b ≠ 32 := fun e => h (by simp [e])
    have hl : 32 ∉ p := fun e => h (by simp [e])
    rw [List.cons_append, cutL, if_neg hb, cutL_hit p q hl]

theorem cutL_length (l : List UInt8) : (cutL l).length ≤ l.length + 1 := by
  induction l with
  | nil => simp [cutL]
  | cons b l ih =>
    unfold cutL
    split
    · simp; exact ih
    · split
      · simp
      · rename_i x r e
        rw [e] at ih
        simp at ih ⊢
        omega

theorem cutL_mem_len : ∀ (l x : List UInt8), x ∈ cutL l → x.length ≤ l.length
  | [], x, h => by simp [cutL] at h; simp [h]
  | b :: l, x, h => by
    rw [cutL] at h
    split at h
    · rw [List.mem_cons] at h
      rcases h with rfl | h
      · simp
      · have := cutL_mem_len l x h; simp; omega
    · split at h
      · simp at h; simp [h]
      · rename_i y r e
        rw [List.mem_cons] at h
        rcases h with rfl | h
        · have := cutL_mem_len l y (by rw [e]; simp)
          simp; exact this
        · have := cutL_mem_len l x (by rw [e]; simp [h]); simp; omega

theorem indexByte_none : ∀ (l : List UInt8) (c : UInt8), c ∉ l → Lib.indexByte l c = -1
  | [], _, _ => rfl
  | b :: l, c, h => by
    have hb : (b == c) = false := by simp; intro e; exact h (by simp [e])
    have hl : c ∉ l := fun e => h (by simp [e])
    simp [Lib.indexByte, hb, indexByte_none l c hl]

theorem indexByte_hit : ∀ (p q : List UInt8) (c : UInt8), c ∉ p → Lib.indexByte (p ++ c :: q) c = p.length
  | [], q, c, _ => by simp [Lib.indexByte]
  | b :: p, q, c, h => by
    have hb : (b == c) = false := by simp; intro e; exact h (by simp [e])
    have hl : c ∉ p := fun e => h (by simp [e])
    have := indexByte_hit p q c hl
    simp only [List.cons_append, Lib.indexByte, hb, this]
    simp

theorem splitK_cut : ∀ (n : Nat) (l : List UInt8), l.length ≤ n → Lib.splitK [32] 0 (l.count 32) l = cutL l
  | 0, l, h => by
    have : l = [] := List.length_eq_zero_iff.1 (by omega)
    subst this
    rfl
  | n + 1, l, h => by
    by_cases hm : (32 : UInt8) ∈ l
    · obtain ⟨p, q, rfl, hp⟩ := List.eq_append_cons_of_mem hm
      have hc : (p ++ 32 :: q).count (32 : UInt8) = q.count 32 + 1 := by
        rw [List.count_append, List.count_cons_self, List.count_eq_zero.2 hp]; omega
      rw [hc, Lib.splitK, Lib.index_one, indexByte_hit p q 32 hp, cutL_hit p q hp]
      have h1 : ((p.length : Int) == -1) = false := by simp
      rw [h1]
      simp only [Bool.false_eq_true, if_false, Int.toNat_natCast, Nat.add_zero, List.length_cons, List.length_nil]
      rw [List.take_left, show p.length + (0 + 1) = p.length + 1 from rfl]
      rw [show (p ++ 32 :: q).drop (p.length + 1) = q from by rw [List.drop_append]; simp]
      rw [splitK_cut n q (by simp at h; omega)]
    · rw [List.count_eq_zero.2 hm, Lib.splitK, cutL_none l hm]

theorem splitB_cut (s : ByteArray) : (Lib.splitB ⟨#[32]⟩ 0 (Lib.countB s ⟨#[32]⟩) s).map (·.data.toList) = cutL s.data.toList := by
  rw [Lib.splitB_data]
  have hc : Lib.countB s ⟨#[32]⟩ = s.data.toList.count 32 := by
    rw [← Lib.count_one]
  rw [hc]
  exact splitK_cut _ _ (Nat.le_refl _)


/-- One step of the cut: the piece up to the next 32, or to the end. -/
theorem cutL_step_end (l : List UInt8) (from' : Nat) (hno : 32 ∉ l.drop from') : cutL (l.drop from') = [l.drop from'] := cutL_none _ hno

theorem cutL_step_hit (l : List UInt8) (from' k : Nat) (hf : from' ≤ k) (hk : k < l.length) (h32 : l[k] = 32) (hno : 32 ∉ (l.take k).drop from') :
    cutL (l.drop from') = (l.take k).drop from' :: cutL (l.drop (k + 1)) := by
  have e : l.drop from' = (l.take k).drop from' ++ 32 :: l.drop (k + 1) := by
    have h1 : l = l.take k ++ l.drop k := (List.take_append_drop k l).symm
    have h2 : l.drop k = 32 :: l.drop (k + 1) := by rw [List.drop_eq_getElem_cons hk, h32]
    conv => lhs; rw [h1, h2]
    rw [List.drop_append]
    have : from' - (l.take k).length = 0 := by rw [List.length_take]; omega
    rw [this]
    rfl
  rw [e, cutL_hit _ _ hno]

theorem no32_succ (l : List UInt8) (from' k : Nat) (hf : from' ≤ k) (hk : k < l.length) (h32 : l[k] ≠ 32) (hno : 32 ∉ (l.take k).drop from') : 32 ∉ (l.take (k + 1)).drop from' := by
  rw [List.take_succ_eq_append_getElem hk, List.drop_append]
  have e : from' - (l.take k).length = 0 := by rw [List.length_take]; omega
  rw [e]
  simp only [List.drop_zero, List.mem_append, List.mem_singleton, not_or]
  exact ⟨hno, fun h => h32 h.symm⟩

end Go.Proofs.YtiopofemelninaaDoor.Cut32
