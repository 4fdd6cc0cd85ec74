/-
  The words of a line: its pieces between blanks that are not empty; what spec.l10Words answers.
-/
import Derived.Test.YtiopofemelninaaDoorCutWalk32
import Derived.Test.YtiopofemelninaaDoorStrsWalk
import Derived.Test.YtiopofemelninaaDoorAppRow
import Derived.Test.YtiopofemelninaaDoorRepTextI
namespace Go.Proofs.YtiopofemelninaaDoor
open Go.RowKit
set_option linter.unusedVariables false

def wordsL (l : List UInt8) : List (List UInt8) := (Cut32.cutL l).filter (fun p => decide (p ≠ []))
def full (ps : List ByteArray) : List ByteArray := ps.filter (fun p => decide (p.data.toList ≠ []))
theorem full_map (ps : List ByteArray) : (full ps).map (·.data.toList) = (ps.map (·.data.toList)).filter (fun p => decide (p ≠ [])) := by
  rw [full, List.filter_map]
  rfl
theorem full_succ {ps : List ByteArray} {k : Nat} (hk : k < ps.length) : full (ps.take (k + 1)) = full (ps.take k) ++ (if (ps[k]).data.toList = [] then [] else [ps[k]]) := by
  rw [full, List.take_succ_eq_append_getElem hk, List.filter_append, ← full]
  congr 1
  by_cases h : (ps[k]).data.toList = []
  · rw [if_pos h, List.filter_cons, if_neg (by rw [decide_eq_true_iff]; exact fun f => f h)]
    rfl
  · rw [if_neg h, List.filter_cons, if_pos (by rw [decide_eq_true_iff]; exact h)]
    rfl
theorem full_len (ps : List ByteArray) : (full ps).length ≤ ps.length := List.length_filter_le _ _
theorem toList_data (x : ByteArray) : x.toList = x.data.toList := by
  unfold ByteArray.toList
  have key : ∀ (n i : Nat) (r : List UInt8), x.size - i = n → ByteArray.toList.loop x i r = r.reverse ++ x.data.toList.drop i := by
    intro n
    induction n with
    | zero =>
      intro i r hi
      unfold ByteArray.toList.loop
      rw [if_neg (by omega), List.drop_of_length_le (by rw [Array.length_toList]; show x.size ≤ i; omega)]
      simp
    | succ n ih =>
      intro i r hi
      unfold ByteArray.toList.loop
      rw [if_pos (by omega), ih (i + 1) _ (by omega)]
      have hlt : i < x.data.toList.length := by rw [Array.length_toList]; show i < x.size; omega
      rw [List.drop_eq_getElem_cons hlt]
      have hg : x.get! i = x.data.toList[i] := by
        show x.data[i]! = _
        rw [getElem!_pos x.data i (by show i < x.size; omega)]
        rfl
      rw [hg]
      simp
  rw [key _ 0 [] rfl]
  simp
set_option maxRecDepth 20000 in
set_option maxHeartbeats 4000000 in
theorem l10Words_any (s : ByteArray) (w : World) (hs : s.size ≤ 3000) :
    Calls Tryd.prog 20 #[.string s] w fun e w' => (∃ (a : Option Addr) (c : Nat) (qs : List ByteArray), e = .returned (.slice a qs.length c) ∧ qs.map (·.data.toList) = wordsL s.data.toList ∧ w'.ownsRow w.heap.size 9 1 (.slice a qs.length c) qs.length (qs.map Value.string)) ∧ Below w.heap.size w w' := by
  obtain ⟨i0, hii, hz0, hz1, hz2⟩ := info_parts infoString
  have O0 : Hid ((w.alloc (.cells #[] 9)).ownsRow w.heap.size 9 1 (.slice (some ⟨w.heap.size, 0, none⟩) 0 0) 0 []) := World.ownsRow_made (base := w.heap.size) (e := 9) (size := 1) w #[] 0 (Nat.le_refl _) (by unfold maxLen; omega) rfl
  have B0 : Hid (Below w.heap.size w (w.alloc (.cells #[] 9))) := (Below.refl _ _).alloc (Nat.le_refl _) _
  obtain ⟨V, hV⟩ : ∃ V, V = w.alloc (.cells #[] 9) := ⟨_, rfl⟩
  have hVz : V.heap.size = w.heap.size + 1 := by rw [hV]; simp
  rw [← hV] at O0 B0
  go_enter Tryd.func20, Tryd.ntmps20
  go_upto_region 2 with fail
  rw [← hV]
  clear hV
  go_wp2_with fail
  refine (Cut32.l1Cut_any s _ (by omega)).mono ?_
  rintro e w1 ⟨⟨v1, ps, rfl, hps, how1⟩, hb1⟩
  obtain ⟨a1, c1, rfl, -, -, -⟩ := strsAt_own how1
  have hzV : V.heap.size ≤ w1.heap.size := hb1.size
  have hpl : ps.length ≤ 3001 := by
    have h1 := Cut32.cutL_length s.data.toList
    have h2 : s.data.toList.length = s.size := by rw [Array.length_toList]; rfl
    rw [← hps, List.length_map] at h1
    omega
  have HPS : Hid ((full ps).map (·.data.toList) = wordsL s.data.toList) := by rw [Hid, full_map, hps]; rfl
  have O1 := hide (own_below (unhide O0) hb1)
  have B1 := hide (below_step (unhide B0) hb1 (by omega))
  have PS1 : Hid (StrsAt w1 a1 ps) := by
    obtain ⟨a', c', e1, h3, -, -⟩ := strsAt_own how1
    cases e1
    exact h3
  have NP : Hid (∀ x, a1 = some x → x.block ≠ w.heap.size ∧ x.block < w1.heap.size) := fun x hx => by
    have h1 := how1.lt x.block (by rw [hx]; rfl)
    omega
  clear hps how1 hb1 O0 B0
  go_wp2_with fail
  go_loopw [3, 5] (fun v i wr => ∃ (k : Nat) (ra : Option Addr) (rc : Nat), k ≤ ps.length ∧ i = .int .i64 k ∧ v = .slice ra (full (ps.take k)).length rc ∧ Hid (wr.ownsRow w.heap.size 9 1 (.slice ra (full (ps.take k)).length rc) (full (ps.take k)).length ((full (ps.take k)).map Value.string)) ∧ Hid (Out (fun q => q = w.heap.size) w1 wr) ∧ Hid (∀ q, (Value.slice ra (full (ps.take k)).length rc).ownBlock = some q → q = w.heap.size ∨ w1.heap.size ≤ q)) (fun _ i _ => ps.length - (intOf i).toNat)
  case atStart => exact ⟨0, _, _, Nat.zero_le _, rfl, rfl, unhide O1, Out.refl _ _, fun q hq => .inl (by injection hq with hq; exact hq.symm)⟩
  case round =>
    obtain ⟨k, ra, rc, hk, rfl, rfl, HO, HU, HL⟩ := hrel
    have zr : w1.heap.size ≤ wr.heap.size := (unhide HU).size
    by_cases hkl : k < ps.length
    · have PSr : StrsAt wr a1 ps := (unhide PS1).keep zr (fun x hx hl => (unhide HU).block _ hl (unhide NP x hx).1)
      obtain ⟨b1, o1, eb, hb1, hc1⟩ := PSr.at hkl
      have hc := hc1 k hkl
      have HF := hide (full_succ hkl)
      have hfl := full_len (ps.take k)
      rw [List.length_take] at hfl
      have k0 : (0 : Int) ≤ (k : Int) := by omega
      have k1 : (k : Int) < ps.length := by omega
      subst eb
      clear hc1 PSr
      generalize ps[k] = p at *
      by_cases hp : p.data.toList = []
      · have hpe : (p.toList == []) = true := by rw [toList_data, hp]; rfl
        have hpe2 : (p.toList == (⟨#[]⟩ : ByteArray).toList) = true := by rw [toList_data, hp, toList_data]; rfl
        have HF2 : Hid (full (ps.take (k + 1)) = full (ps.take k)) := by rw [Hid, unhide HF, if_pos hp, List.append_nil]
        clear HF hp
        go_wp2_with fail
        exact ⟨⟨k + 1, ra, rc, by omega, by go_num, by rw [unhide HF2], by rw [unhide HF2]; exact unhide HO, unhide HU, by rw [unhide HF2]; exact unhide HL⟩, by simp [intOf]; omega⟩
      · have hpe : (p.toList == []) = false := by rw [toList_data, beq_eq_false_iff_ne]; exact hp
        have hpe2 : (p.toList == (⟨#[]⟩ : ByteArray).toList) = false := by rw [toList_data, toList_data, beq_eq_false_iff_ne]; exact hp
        have HF2 : Hid (full (ps.take (k + 1)) = full (ps.take k) ++ [p]) := by rw [Hid, unhide HF, if_neg hp]
        clear HF hp
        generalize full (ps.take k) = K at *
        have hK : K.length + 1 ≤ 100000000 := by omega
        have OA : Hid ((wr.alloc (.cells #[.string p] 9)).ownsRow w.heap.size 9 1 (.slice ra K.length rc) K.length (K.map Value.string)) := own_below (unhide HO) ((Below.refl _ wr).alloc (Nat.le_refl _) _)
        have RA : Hid (RowAt (wr.alloc (.cells #[.string p] 9)) (some ⟨wr.heap.size, 0, none⟩) [.string p]) := rowAt_box (box_new wr [.string p] 9)
        have UA := hide ((unhide HU).alloc (.cells #[.string p] 9))
        have ZA : Hid (w.heap.size ≤ (wr.alloc (.cells #[.string p] 9)).heap.size) := by show _ ≤ _; simp; omega
        go_wp2_with (at_builtin; refine wpList_append_xs _ rfl _ _ 22 rfl w.heap.size 9 i0 _ 1 16 Tryd.underlying22 hii hz0 hz1 hz2 rfl (by decide) (by decide) (.slice ra K.length rc) K.length (K.map Value.string) rfl (unhide OA) _ 1 1 [.string p] rfl rfl (unhide RA) (by simp [Value.oneCell']) hK (unhide ZA) ?_; intro v' w7 hown hgrow hloc; obtain ⟨a3, c3, e3, -⟩ := rowAt_own hown; subst e3; have O7 := hide hown; have HGR := hide hgrow; have HLC := hide hloc; clear hown hgrow hloc)
        have hlen : (full (ps.take (k + 1))).length = K.length + 1 := by rw [unhide HF2]; simp
        have U7 : Hid (Out (fun q => q = w.heap.size) w1 w7) := (unhide UA).trans (Out.ofGrown (unhide HGR)) (fun q hq e => by
          rcases unhide HL q e.symm with h | h
          · exact h
          · omega)
        refine ⟨⟨k + 1, a3, c3, by omega, by go_num, by rw [hlen], ?_, unhide U7, ?_⟩, by simp [intOf]; omega⟩
        · show w7.ownsRow _ _ _ _ _ _
          rw [hlen, unhide HF2]
          have := unhide O7
          simpa using this
        · show ∀ q, _ → _
          intro q hq
          rw [hlen] at hq
          rcases unhide HLC with h | h
          · exact unhide HL q (by rw [← h]; exact hq)
          · rw [hq] at h
            injection h with h
            right
            rw [h]
            simp
            omega
    · have hke : ¬ (k : Int) < ps.length := by omega
      have HT : Hid (ps.take k = ps) := List.take_of_length_le (by omega)
      rw [unhide HT] at HO HL ⊢
      have BF : Hid (Below w.heap.size w wr) := (unhide HU).below (unhide B1) (Nat.le_refl _) (fun q hq e => by omega)
      clear HT
      go_wp2_with fail
      go_ret
      exact ⟨⟨ra, rc, full ps, rfl, unhide HPS, unhide HO⟩, unhide BF⟩
end Go.Proofs.YtiopofemelninaaDoor
