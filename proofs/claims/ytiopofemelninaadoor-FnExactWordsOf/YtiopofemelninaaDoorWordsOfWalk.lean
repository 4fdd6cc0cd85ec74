/-
  What impl.WordsOf and spec.WordsOf answer.
-/
import Derived.Test.YtiopofemelninaaDoorReadWords
import Derived.Test.YtiopofemelninaaDoorAsUnread
import Derived.Test.YtiopofemelninaaDoorWideBox
namespace Go.Proofs.YtiopofemelninaaDoor
open Go.RowKit Go.Shelf
set_option linter.unusedVariables false
def woCode (s : ByteArray) : Int := if 3000 < s.size then 2 else 0
def woWords (s : ByteArray) : List (List UInt8) := if 3000 < s.size then [] else wordsL s.data.toList
theorem woWords_len (s : ByteArray) : (woWords s).length ≤ 3001 := by
  unfold woWords
  split
  · simp
  · have h1 := Cut32.cutL_length s.data.toList
    have h2 : s.data.toList.length = s.size := by rw [Array.length_toList]; rfl
    have h3 : (wordsL s.data.toList).length ≤ (Cut32.cutL s.data.toList).length := List.length_filter_le _ _
    omega
theorem readWords_long (s : ByteArray) (w : World) (hs : 3000 < s.size) :
    Calls Tryd.prog 21 #[.string s] w fun e w' => e = .returned (.tuple #[.slice none 0 0, .iface 67 (.agg #[.int .i64 2])]) ∧ w' = w := by
  have hs' : (3000 : Int) < s.size := by omega
  go_enter Tryd.func21, Tryd.ntmps21
  go_wp2_with fail
  exact bodyPost_ret (v := .tuple #[.slice none 0 0, .iface 67 (.agg #[.int .i64 2])]) (by simp [results, Tryd.results21, go_sem]) rfl ⟨rfl, rfl⟩
set_option maxRecDepth 20000 in
set_option maxHeartbeats 2000000 in
theorem implWordsOf_any (s : ByteArray) (w : World) (hE : EtAt w) :
    Calls Tryd.prog 7 #[.string s] w fun e w' => (∃ (a : Option Addr) (c : Nat) (qs : List ByteArray), e = .returned (.agg #[.int .i64 (woCode s), .slice a qs.length c]) ∧ qs.map (·.data.toList) = woWords s ∧ w'.ownsRow w.heap.size 9 1 (.slice a qs.length c) qs.length (qs.map Value.string)) ∧ Below w.heap.size w w' := by
  obtain ⟨W, hW, hWz, HB0, HX0⟩ := boxes1 w [.int .i64 0, .slice none 0 0] 24
  have HG := hide (hE.below (unhide HB0))
  clear hE
  by_cases h : 3000 < s.size
  · have HC : Hid (woCode s = 2) := if_pos h
    have HD : Hid (woWords s = []) := if_pos h
    have HH := hide h
    clear h
    go_enter Tryd.func7, Tryd.ntmps7
    go_upto_region 1 with fail
    rw [← hW]
    clear hW
    go_wp2_with fail
    refine (readWords_long s _ (unhide HH)).mono ?_
    rintro e w1 ⟨rfl, rfl⟩
    go_wp2_with fail
    refine (codeOf_hit 2 _ (unhide HG)).mono ?_
    rintro e w2 ⟨rfl, hb2⟩
    have HX2 := hide ((unhide HX0).below hb2)
    have B2 := hide (below_step (unhide HB0) hb2 (unhide HB0).size)
    clear hb2 HX0 HB0
    go_wp2_with (first
      | (refine wpList_store_part rfl 24 (.tmp 2) (.tmp 13) rfl w.heap.size 0 _ rfl rfl 24 _ (unhide HX2) (by kernel_rfl) (by simp) (by simp [Value.oneCell']) ?_; intro wZ XZ OZ))
    have XR : Hid (Box wZ w.heap.size [.int .i64 2, .slice none 0 0] 24) := XZ
    have BR : Hid (Below w.heap.size w wZ) := (unhide OZ).below (unhide B2) (Nat.le_refl _) (fun q hq e => by omega)
    refine bodyPost_ret (results_cell_row Tryd.results7 _ wZ w.heap.size 24 _ (0, 0) _ rfl (unhide XR) Tryd.underlying24 rfl (by kernel_rfl)) rfl ⟨⟨none, 0, [], by rw [unhide HC]; rfl, (unhide HD).symm, World.ownsRow_nil _ _ _ _⟩, unhide BR⟩
  · have HC : Hid (woCode s = 0) := if_neg h
    have HD : Hid (woWords s = wordsL s.data.toList) := if_neg h
    have hs : s.size ≤ 3000 := by omega
    clear h
    go_enter Tryd.func7, Tryd.ntmps7
    go_upto_region 1 with fail
    rw [← hW]
    clear hW
    go_wp2_with fail
    refine (readWords_short s _ hs).mono ?_
    rintro e w1 ⟨⟨a, c, qs, rfl, hq, ho⟩, hb1⟩
    have HQ := hide hq
    have HO := hide ho
    have HX1 := hide ((unhide HX0).below hb1)
    have B1 := hide (below_step (unhide HB0) hb1 (by omega))
    clear hb1 HG HX0 HB0 hq ho
    go_wp2_with fail
    refine (codeOf_nil _).mono ?_
    rintro e w2 ⟨rfl, hb2⟩
    have HX2 := hide ((unhide HX1).below hb2)
    have B2 := hide (below_step (unhide B1) hb2 (unhide B1).size)
    have HO2 := hide (own_below (unhide HO) hb2)
    clear hb2 HX1 B1 HO
    go_wp2_with (first
      | (refine wpList_store_part rfl 24 (.tmp 2) (.tmp 13) rfl w.heap.size 0 _ rfl rfl 24 _ (unhide HX2) (by kernel_rfl) (by simp) (by simp [Value.oneCell']) ?_; intro wZ XZ OZ))
    have XR : Hid (Box wZ w.heap.size [.int .i64 0, .slice a qs.length c] 24) := XZ
    have BR : Hid (Below w.heap.size w wZ) := (unhide OZ).below (unhide B2) (Nat.le_refl _) (fun q hq e => by omega)
    refine bodyPost_ret (results_cell_row Tryd.results7 _ wZ w.heap.size 24 _ (0, 0) _ rfl (unhide XR) Tryd.underlying24 rfl (by kernel_rfl)) rfl ⟨⟨a, c, qs, by rw [unhide HC], (unhide HQ).trans (unhide HD).symm, own_base ((unhide OZ).own (unhide HO2) (fun q hq e => by have := ((unhide HO2).lt q hq).1; omega)) (fun q hq => by have := ((unhide HO2).lt q hq).1; omega)⟩, unhide BR⟩
set_option maxRecDepth 20000 in
set_option maxHeartbeats 2000000 in
theorem specWordsOf_any (s : ByteArray) (w : World) :
    Calls Tryd.prog 6 #[.string s] w fun e w' => (∃ (a : Option Addr) (c : Nat) (qs : List ByteArray), e = .returned (.agg #[.int .i64 (woCode s), .slice a qs.length c]) ∧ qs.map (·.data.toList) = woWords s ∧ w'.ownsRow w.heap.size 9 1 (.slice a qs.length c) qs.length (qs.map Value.string)) ∧ Below w.heap.size w w' := by
  obtain ⟨W, hW, hWz, HB0, HX0⟩ := boxes1 w [.int .i64 0, .slice none 0 0] 24
  by_cases h : 3000 < s.size
  · have HC : Hid (woCode s = 2) := if_pos h
    have HD : Hid (woWords s = []) := if_pos h
    have hs' : (3000 : Int) < s.size := by omega
    clear h
    go_enter Tryd.func6, Tryd.ntmps6
    go_upto_region 1 with fail
    rw [← hW]
    clear hW
    go_wp2_with (first
      | (refine wpList_store_part rfl 24 (.tmp 2) (.tmp 6) rfl w.heap.size 0 _ rfl rfl 24 _ (unhide HX0) (by kernel_rfl) (by simp) (by simp [Value.oneCell']) ?_; intro wZ XZ OZ))
    have XR : Hid (Box wZ w.heap.size [.int .i64 2, .slice none 0 0] 24) := XZ
    have BR : Hid (Below w.heap.size w wZ) := (unhide OZ).below (unhide HB0) (Nat.le_refl _) (fun q hq e => by omega)
    refine bodyPost_ret (results_cell_row Tryd.results6 _ wZ w.heap.size 24 _ (0, 0) _ rfl (unhide XR) Tryd.underlying24 rfl (by kernel_rfl)) rfl ⟨⟨none, 0, [], by rw [unhide HC]; rfl, (unhide HD).symm, World.ownsRow_nil _ _ _ _⟩, unhide BR⟩
  · have HC : Hid (woCode s = 0) := if_neg h
    have HD : Hid (woWords s = wordsL s.data.toList) := if_neg h
    have hs : s.size ≤ 3000 := by omega
    have hs' : ¬ (3000 : Int) < s.size := by omega
    clear h
    go_enter Tryd.func6, Tryd.ntmps6
    go_upto_region 1 with fail
    rw [← hW]
    clear hW
    go_wp2_with fail
    refine (l10Words_any s _ hs).mono ?_
    rintro e w1 ⟨⟨a, c, qs, rfl, hq, ho⟩, hb1⟩
    have HQ := hide hq
    have HO := hide ho
    have HX1 := hide ((unhide HX0).below hb1)
    have B1 := hide (below_step (unhide HB0) hb1 (by omega))
    clear hb1 HX0 HB0 hq ho
    go_wp2_with (first
      | (refine wpList_store_part rfl 24 (.tmp 2) (.tmp 9) rfl w.heap.size 0 _ rfl rfl 24 _ (unhide HX1) (by kernel_rfl) (by simp) (by simp [Value.oneCell']) ?_; intro wZ XZ OZ))
    have XR : Hid (Box wZ w.heap.size [.int .i64 0, .slice a qs.length c] 24) := XZ
    have BR : Hid (Below w.heap.size w wZ) := (unhide OZ).below (unhide B1) (Nat.le_refl _) (fun q hq e => by omega)
    refine bodyPost_ret (results_cell_row Tryd.results6 _ wZ w.heap.size 24 _ (0, 0) _ rfl (unhide XR) Tryd.underlying24 rfl (by kernel_rfl)) rfl ⟨⟨a, c, qs, by rw [unhide HC], (unhide HQ).trans (unhide HD).symm, own_base ((unhide OZ).own (unhide HO) (fun q hq e => by have := ((unhide HO).lt q hq).1; omega)) (fun q hq => by have := ((unhide HO).lt q hq).1; omega)⟩, unhide BR⟩
end Go.Proofs.YtiopofemelninaaDoor
