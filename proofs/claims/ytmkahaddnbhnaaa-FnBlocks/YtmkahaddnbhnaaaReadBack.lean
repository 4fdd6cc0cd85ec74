/-
  What is packed is read back (no Go in sight).
-/
import Derived.Test.YtmkahaddnbhnaaaReadMath
import Derived.Laws.StructEq
namespace Go.Proofs.Ytmkahaddnbhnaaa
open Go.RowKit

theorem lastInd {α : Type} {p : List α → Prop} (h0 : p []) (hs : ∀ l b, p l → p (l ++ [b])) (l : List α) : p l := by
  have h : ∀ r : List α, p r.reverse := by
    intro r
    induction r with
    | nil => exact h0
    | cons b r ih => rw [List.reverse_cons]; exact hs _ _ ih
  have := h l.reverse
  rwa [List.reverse_reverse] at this

theorem nameWordL_nonneg (l : List UInt8) : l.all lowB = true → 0 ≤ nameWordL l := by
  refine lastInd (p := fun l => l.all lowB = true → 0 ≤ nameWordL l) ?_ ?_ l
  · intro _; simp [nameWordL]
  · intro l b ih h
    rw [List.all_append, Bool.and_eq_true] at h
    have hb : lowB b = true := by simpa using h.2
    have := lowB_bounds hb
    have := ih h.1
    rw [nameWordL_snoc]
    omega

theorem wn_back (l : List UInt8) : ∀ (f : Nat) (out : List UInt8), l.all lowB = true → l.length + out.length ≤ 6 → out.length + f = 7 → l1wn f (nameWordL l) out = l ++ out := by
  refine lastInd (p := fun l => ∀ (f : Nat) (out : List UInt8), l.all lowB = true → l.length + out.length ≤ 6 → out.length + f = 7 → l1wn f (nameWordL l) out = l ++ out) ?_ ?_ l
  · intro f out _ h1 h2
    obtain ⟨f, rfl⟩ : ∃ g, f = g + 1 := ⟨f - 1, by simp at h1; omega⟩
    rw [l1wn_end (by simp [nameWordL])]
    rfl
  · intro l b ih f out h h1 h2
    rw [List.all_append, Bool.and_eq_true] at h
    have hb : lowB b = true := by simpa using h.2
    have hbb := lowB_bounds hb
    have hp := nameWordL_nonneg l h.1
    rw [List.length_append, List.length_singleton] at h1
    obtain ⟨f, rfl⟩ : ∃ g, f = g + 1 := ⟨f - 1, by omega⟩
    rw [nameWordL_snoc]
    have e1 : (nameWordL l * 27 + ((b.toNat : Int) - 97) + 1) / 27 = nameWordL l := by omega
    have e2 : letterB (nameWordL l * 27 + ((b.toNat : Int) - 97) + 1) = b := by
      apply UInt8.toNat_inj.1
      have := letterB_toNat (nameWordL l * 27 + ((b.toNat : Int) - 97) + 1)
      omega
    rw [l1wn_step (by omega) (by omega) (by omega), e1, e2, ih f (b :: out) h.1 (by simp; omega) (by simp; omega)]
    simp

theorem nmOf_back (nm : ByteArray) (h : isNameL nm.data.toList = true) : nmOf (nameWordL nm.data.toList) = nm := by
  have hl : nm.data.toList.all lowB = true := by
    simp only [isNameL, Bool.and_eq_true] at h
    exact h.2
  have hlen := (isNameL_len h).2
  rw [nmOf, wn_back nm.data.toList 7 [] hl (by simpa using hlen) (by simp)]
  simp

theorem head_back {k u i e : Int} (h : headOk k u i e = true) (_hk : k ≠ 0) : headWordI k u i e % 4 = k ∧ headWordI k u i e / 16 % 1000 = u ∧ headWordI k u i e / 4 % 4 = i ∧ headWordI k u i e / 16000 = e ∧ whOk (headWordI k u i e) = true := by
  obtain ⟨b1, b2, b3, b4, b5, b6, b7, b8⟩ := headOk_bounds h
  have h1 : headWordI k u i e % 4 = k := by unfold headWordI; omega
  have h2 : headWordI k u i e / 16 % 1000 = u := by unfold headWordI; omega
  have h3 : headWordI k u i e / 4 % 4 = i := by unfold headWordI; omega
  have h4 : headWordI k u i e / 16000 = e := by unfold headWordI; omega
  refine ⟨h1, h2, h3, h4, ?_⟩
  rw [whOk, h1, h2, h3, h4, h]
  have : inB (headWordI k u i e) 0 999999999999999 = true := inB_true.2 (by unfold headWordI; omega)
  rw [this]; rfl

theorem read_eq (x0 x1 x2 x3 x4 x5 x6 x7 : Int) (hok : whOk x0 = true) (hk : x0 % 4 ≠ 0) (hc : againCode x0 x1 x2 x3 x4 = 0) (hw : againWords x0 x1 x2 x3 x4 = [x0, x1, x2, x3, x4, x5, x6, x7]) :
    readCode [x0, x1, x2, x3, x4, x5, x6, x7] = 0 ∧ readBlk [x0, x1, x2, x3, x4, x5, x6, x7] = toldBlk x0 x1 x2 x3 x4 := by
  have h0 : readCode [x0, x1, x2, x3, x4, x5, x6, x7] = 0 := by rw [readCode, if_pos hok, if_neg hk, if_pos ⟨hc, hw⟩]
  have hbk : readBlk [x0, x1, x2, x3, x4, x5, x6, x7] = if readCode [x0, x1, x2, x3, x4, x5, x6, x7] = 0 then toldBlk x0 x1 x2 x3 x4 else Blk.none := rfl
  exact ⟨h0, by rw [hbk, if_pos h0]⟩

theorem node_back (u : Int) (d : Bool) (p : Int) (nm : ByteArray) (s e : Int) (h : nodePCode u d p nm.data.toList s e = 0) :
    readCode (nodeWords u d p nm.data.toList s e) = 0 ∧ readBlk (nodeWords u d p nm.data.toList s e) = ⟨1, u, 0, e, u, d, p, nm, s, []⟩ := by
  obtain ⟨hn, hh⟩ := orI_zero h
  obtain ⟨-, hnm⟩ := nodeCode_eq0 hn
  have hd : (nodeKindI d == 1) = d := by cases d <;> rfl
  obtain ⟨h1, h2, h3, h4, h5⟩ := head_back (headCode_ok hh) (by decide)
  have hw : nodeWords u d p nm.data.toList s e = [headWordI 1 u 0 e, nodeKindI d, p, nameWordL nm.data.toList, s, 0, 0, 0] := by rw [nodeWords, if_pos h]
  have hb := nmOf_back nm hnm
  have hr := read_eq (headWordI 1 u 0 e) (nodeKindI d) p (nameWordL nm.data.toList) s 0 0 0 h5 (by rw [h1]; decide)
    (by unfold againCode; rw [if_pos h1, h2, h4, hd, hb]; exact h)
    (by unfold againWords; rw [if_pos h1, h2, h4, hd, hb]; exact hw)
  rw [hw]
  refine ⟨hr.1, hr.2.trans ?_⟩
  unfold toldBlk
  rw [if_pos h1, h2, h4, hd, hb]

theorem data_back (u i : Int) (l : List Int) (e : Int) (h : dataCode u i l e = 0) :
    readCode (dataWords u i l e) = 0 ∧ readBlk (dataWords u i l e) = ⟨2, u, i, e, 0, false, 0, ⟨#[]⟩, 0, l⟩ := by
  obtain ⟨hh, hn⟩ := orI_zero h
  obtain ⟨h4', -⟩ := numsCode_eq0 hn
  match l, h4', h with
  | [n0, n1, n2, n3], _, h =>
    obtain ⟨h1, h2, h3, h4, h5⟩ := head_back (headCode_ok hh) (by decide)
    have hw : dataWords u i [n0, n1, n2, n3] e = [headWordI 2 u i e, n0, n1, n2, n3, 0, 0, 0] := by rw [dataWords, if_pos h]; rfl
    have hne : ¬ headWordI 2 u i e % 4 = 1 := by rw [h1]; decide
    have hr := read_eq (headWordI 2 u i e) n0 n1 n2 n3 0 0 0 h5 (by rw [h1]; decide)
      (by unfold againCode; rw [if_neg hne, if_pos h1, h2, h3, h4]; exact h)
      (by unfold againWords; rw [if_neg hne, if_pos h1, h2, h3, h4]; exact hw)
    rw [hw]
    refine ⟨hr.1, hr.2.trans ?_⟩
    unfold toldBlk
    rw [if_neg hne, if_pos h1, h2, h3, h4]

theorem gone_back (u e : Int) (h : goneCode u e = 0) :
    readCode (goneWords u e) = 0 ∧ readBlk (goneWords u e) = ⟨3, u, 0, e, 0, false, 0, ⟨#[]⟩, 0, []⟩ := by
  obtain ⟨h1, h2, h3, h4, h5⟩ := head_back (headCode_ok (show headCode 3 u 0 e = 0 from h)) (by decide)
  have hw : goneWords u e = [headWordI 3 u 0 e, 0, 0, 0, 0, 0, 0, 0] := by rw [goneWords, if_pos h]
  have hne : ¬ headWordI 3 u 0 e % 4 = 1 := by rw [h1]; decide
  have hne2 : ¬ headWordI 3 u 0 e % 4 = 2 := by rw [h1]; decide
  have hr := read_eq (headWordI 3 u 0 e) 0 0 0 0 0 0 0 h5 (by rw [h1]; decide)
    (by unfold againCode; rw [if_neg hne, if_neg hne2, h2, h4]; exact h)
    (by unfold againWords; rw [if_neg hne, if_neg hne2, h2, h4]; exact hw)
  rw [hw]
  refine ⟨hr.1, hr.2.trans ?_⟩
  unfold toldBlk
  rw [if_neg hne, if_neg hne2, if_pos h1, h2, h4]

theorem neq_head (k u i e : Int) (w : World) : (binOp .neq 41 (.agg #[.int .i64 k, .int .i64 u, .int .i64 i, .int .i64 e]) (.agg #[.int .i64 k, .int .i64 u, .int .i64 i, .int .i64 e])).run Try.prog w = .ok (.bool false) w := by
  have hS : Try.prog.underlying 41 = some (.struct (Try.prog.fieldsOf 41)) := by kernel_rfl
  have hp : Try.prog.stoodInHeld 41 = false := by kernel_rfl
  have u3 := Try.underlying2
  have a3 := Try.isAgg2
  have z3 := Try.sizeOf2
  rw [run_neq_struct, show (10000 : Nat) = 9999 + 1 from rfl, run_equalIn_agg w 9999 41 _ _ hS hp]
  simp only [Program.fieldsOf, Try.underlying41]
  go_simp
theorem neq_node (u : Int) (d : Bool) (p : Int) (nm : ByteArray) (s : Int) (w : World) : (binOp .neq 25 (.agg #[.int .i64 u, .bool d, .int .i64 p, .string nm, .int .i64 s]) (.agg #[.int .i64 u, .bool d, .int .i64 p, .string nm, .int .i64 s])).run Try.prog w = .ok (.bool false) w := by
  have hS : Try.prog.underlying 25 = some (.struct (Try.prog.fieldsOf 25)) := by kernel_rfl
  have hp : Try.prog.stoodInHeld 25 = false := by kernel_rfl
  have u3 := Try.underlying2
  have a3 := Try.isAgg2
  have z3 := Try.sizeOf2
  have u4 := Try.underlying4
  have a4 := Try.isAgg4
  have z4 := Try.sizeOf4
  have u5 := Try.underlying9
  have a5 := Try.isAgg9
  have z5 := Try.sizeOf9
  rw [run_neq_struct, show (10000 : Nat) = 9999 + 1 from rfl, run_equalIn_agg w 9999 25 _ _ hS hp]
  simp only [Program.fieldsOf, Try.underlying25]
  go_simp
theorem eql_head (k u i e : Int) (w : World) : (binOp .eql 41 (.agg #[.int .i64 k, .int .i64 u, .int .i64 i, .int .i64 e]) (.agg #[.int .i64 k, .int .i64 u, .int .i64 i, .int .i64 e])).run Try.prog w = .ok (.bool true) w := by
  have hS : Try.prog.underlying 41 = some (.struct (Try.prog.fieldsOf 41)) := by kernel_rfl
  have hp : Try.prog.stoodInHeld 41 = false := by kernel_rfl
  have u3 := Try.underlying2
  have a3 := Try.isAgg2
  have z3 := Try.sizeOf2
  rw [run_eql_struct, show (10000 : Nat) = 9999 + 1 from rfl, run_equalIn_agg w 9999 41 _ _ hS hp]
  simp only [Program.fieldsOf, Try.underlying41]
  go_simp
end Go.Proofs.Ytmkahaddnbhnaaa
