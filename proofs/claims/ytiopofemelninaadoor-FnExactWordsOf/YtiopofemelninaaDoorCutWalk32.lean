/-
  What spec.l1Cut answers: the pieces between the bytes 32.
-/
import Derived.Test.YtiopofemelninaaDoorProg
import Derived.Test.YtiopofemelninaaDoorCutMath32
import Derived.Test.YtiopofemelninaaDoorStrsMath
import Derived.WalkKit
import Derived.WalkLawsBesides
import Derived.WalkSpells
import Derived.OwnWalk
namespace Go.Proofs.YtiopofemelninaaDoor.Cut32
open Go.RowKit

theorem infoStr : (Tryd.prog.info? 9).map (fun i => (i.zero, i.size, i.bytes)) = some (some (.string ⟨#[]⟩), 1, 16) := by kernel_rfl

/-- Where the cut stands: the pieces that are done, the place from which the next one goes, the place that is looked at. -/
def CutTo (l : List UInt8) (ps : List (List UInt8)) (f k : Nat) : Prop :=
  (k ≤ l.length ∧ f ≤ k ∧ cutL l = ps ++ cutL (l.drop f) ∧ 32 ∉ (l.take k).drop f) ∨ (k = l.length + 1 ∧ ps = cutL l)

theorem cutTo_skip {l : List UInt8} {ps : List (List UInt8)} {f k : Nat} (h : CutTo l ps f k) (hk : k < l.length) (hb : l[k] ≠ 32) : CutTo l ps f (k + 1) := by
  rcases h with ⟨h1, h2, h3, h4⟩ | ⟨h1, _⟩
  · exact .inl ⟨by omega, by omega, h3, no32_succ l f k h2 hk hb h4⟩
  · omega

theorem cutTo_hit {l : List UInt8} {ps : List (List UInt8)} {f k : Nat} (h : CutTo l ps f k) (hk : k < l.length) (hb : l[k] = 32) : CutTo l (ps ++ [(l.take k).drop f]) (k + 1) (k + 1) := by
  rcases h with ⟨h1, h2, h3, h4⟩ | ⟨h1, _⟩
  · refine .inl ⟨by omega, Nat.le_refl _, ?_, ?_⟩
    · rw [h3, cutL_step_hit l f k h2 hk hb h4]; simp
    · rw [List.drop_eq_nil_of_le (by rw [List.length_take]; omega)]; simp
  · omega

theorem cutTo_end {l : List UInt8} {ps : List (List UInt8)} {f k : Nat} (h : CutTo l ps f k) (hk : k = l.length) (q : Nat) : CutTo l (ps ++ [(l.take k).drop f]) q (k + 1) := by
  rcases h with ⟨h1, h2, h3, h4⟩ | ⟨h1, _⟩
  · refine .inr ⟨by omega, ?_⟩
    rw [List.take_of_length_le (by omega)] at h4 ⊢
    rw [h3, cutL_step_end l f h4]
  · omega

theorem extract_data (s : ByteArray) (f k : Nat) : (s.extract f k).data.toList = (s.data.toList.take k).drop f := by
  simp [ByteArray.extract, ByteArray.copySlice, List.drop_take]

set_option maxHeartbeats 1000000 in
theorem l1Cut_any (s : ByteArray) (w : World) (hs : s.size ≤ 1048576) :
    Calls Tryd.prog 38 #[.string s, .int .u8 32] w fun e w' => (∃ (v : Value) (ps : List ByteArray), e = .returned v ∧ ps.map (·.data.toList) = cutL s.data.toList ∧ w'.ownsRow w.heap.size 9 1 v ps.length (ps.map Value.string)) ∧ Below w.heap.size w w' := by
  obtain ⟨i0, hi, hz0, hz1, hz2⟩ := info_parts infoStr
  go_enter Tryd.func38, Tryd.ntmps38
  go_wp2
  have how0 := World.ownsRow_lit (base := w.heap.size) (e := 9) (size := 1) w #[] 0 (Nat.le_refl _) (by unfold maxLen; omega) rfl
  have hbw0 : Below w.heap.size w (w.alloc (.cells #[] 9)) := (Below.refl _ _).alloc (Nat.le_refl _) _
  have hlen := len_data s
  have HL := hide hlen
  clear hlen
  go_loopw [5, 6, 7] (fun v fr i wr => ∃ (ps : List ByteArray) (f k : Nat), i = .int .i64 k ∧ fr = .int .i64 f ∧ f ≤ k ∧ k ≤ s.size + 1 ∧ ps.length ≤ k ∧ wr.ownsRow w.heap.size 9 1 v ps.length (ps.map Value.string) ∧ Below w.heap.size w wr ∧ Hid (CutTo s.data.toList (ps.map (·.data.toList)) f k)) (fun _ _ i _ => s.size + 1 - (intOf i).toNat)
  case atStart => exact ⟨[], 0, 0, rfl, rfl, Nat.le_refl _, by omega, by simp, how0, hbw0, .inl ⟨by omega, Nat.le_refl _, by simp, by simp⟩⟩
  case round =>
    obtain ⟨ps, f, k, rfl, rfl, hfk, hk, hpl, how, hbw, HC⟩ := hrel
    clear how0 hbw0
    have hsz : w.heap.size ≤ wr.heap.size := hbw.size
    by_cases hkn : k ≤ s.size
    · by_cases hke : k = s.size
      · have hke' : ((k : Int) == (s.size : Int)) = true := by simp; omega
        have HC2 := hide (cutTo_end (unhide HC) (by rw [unhide HL]; exact hke) (k + 1))
        have HX := hide (extract_data s f k)
        have HB := hide hbw
        clear hbw hke
        go_wp2_with (at_builtin; refine wpList_append_own _ rfl _ _ 22 rfl w.heap.size 9 i0 (.string ⟨#[]⟩) 1 16 Tryd.underlying22 hi hz0 hz1 hz2 rfl (by decide) _ _ _ rfl (how.alloc _) ⟨wr.heap.size, 0, none⟩ 1 1 [.string (s.extract f k)] rfl rfl (cell_one_new _ _ _) (fun x hx => by simp at hx; subst hx; rfl) (by unfold maxLen; omega) (by omega) (by simp; omega) ?_; intro v' w3 hown' hgrow3 hnil3; have HOWN := hide hown'; have HBN := hide (Below.grown ((unhide HB).alloc hsz _) hgrow3 (by simp; omega) (fun q hq => (how.lt q hq).1)); clear hown' hgrow3 hnil3)
        refine ⟨⟨ps ++ [s.extract f k], k + 1, k + 1, by go_num, by go_num, Nat.le_refl _, by omega, by simp; omega, ?_, ?_, ?_⟩, by simp [intOf]; omega⟩
        · simpa using unhide HOWN
        · exact unhide HBN
        · rw [List.map_append, List.map_cons, List.map_nil, unhide HX]; exact unhide HC2
      · have hke' : ((k : Int) == (s.size : Int)) = false := by simp; omega
        have hlt : k < s.size := by omega
        have hlt' : (k : Int) < s.size := by omega
        by_cases h32 : s.data.toList[k]'(by rw [unhide HL]; exact hlt) = 32
        · have hb47 : ((s[k].toNat : Int) == 32) = true := by
            have : s[k] = 32 := h32
            rw [this]; decide
          have HC2 := hide (cutTo_hit (unhide HC) (by rw [unhide HL]; exact hlt) h32)
          have HX := hide (extract_data s f k)
          have HB := hide hbw
          clear hbw hke h32
          go_wp2_with (at_builtin; refine wpList_append_own _ rfl _ _ 22 rfl w.heap.size 9 i0 (.string ⟨#[]⟩) 1 16 Tryd.underlying22 hi hz0 hz1 hz2 rfl (by decide) _ _ _ rfl (how.alloc _) ⟨wr.heap.size, 0, none⟩ 1 1 [.string (s.extract f k)] rfl rfl (cell_one_new _ _ _) (fun x hx => by simp at hx; subst hx; rfl) (by unfold maxLen; omega) (by omega) (by simp; omega) ?_; intro v' w3 hown' hgrow3 hnil3; have HOWN := hide hown'; have HBN := hide (Below.grown ((unhide HB).alloc hsz _) hgrow3 (by simp; omega) (fun q hq => (how.lt q hq).1)); clear hown' hgrow3 hnil3)
          refine ⟨⟨ps ++ [s.extract f k], k + 1, k + 1, by go_num, by go_num, Nat.le_refl _, by omega, by simp; omega, ?_, ?_, ?_⟩, by simp [intOf]; omega⟩
          · simpa using unhide HOWN
          · exact unhide HBN
          · rw [List.map_append, List.map_cons, List.map_nil, unhide HX]; exact unhide HC2
        · have hb47 : ((s[k].toNat : Int) == 32) = false := by
            simp only [beq_eq_false_iff_ne, ne_eq]
            intro e
            apply h32
            have e2 : s[k].toNat = 32 := by omega
            exact UInt8.toNat_inj.1 e2
          have HC2 := hide (cutTo_skip (unhide HC) (by rw [unhide HL]; exact hlt) h32)
          have HB := hide hbw
          have HO := hide how
          clear hbw hke h32 how
          go_wp2
          exact ⟨⟨ps, f, k + 1, by go_num, rfl, by omega, by omega, by omega, unhide HO, unhide HB, unhide HC2⟩, by simp [intOf]; omega⟩
    · have hend : ps.map (·.data.toList) = cutL s.data.toList := by
        rcases unhide HC with ⟨h1, _⟩ | ⟨_, h2⟩
        · rw [unhide HL] at h1; omega
        · exact h2
      have HE := hide hend
      have HB := hide hbw
      have HO := hide how
      clear hend hbw how
      go_wp2
      go_ret
      exact ⟨⟨_, ps, rfl, unhide HE, unhide HO⟩, unhide HB⟩
end Go.Proofs.YtiopofemelninaaDoor.Cut32
