/-
  What the laws' own copy of a reply answers.
-/
import Derived.Test.YtiopofemelninaaDoorStrsWalk
import Derived.Test.YtiopofemelninaaDoorResWalk
import Derived.Test.YtiopofemelninaaDoorWideBox
import Derived.OwnWalk
namespace Go.Proofs.YtiopofemelninaaDoor
open Go.RowKit
set_option linter.unusedVariables false

theorem strs_box {w : World} {g : Nat} {l : List ByteArray} {t : TypeId} (h : Box w g (l.map Value.string) t) : StrsAt w (some ⟨g, 0, none⟩) l :=
  .inr ⟨g, 0, rfl, h.lt, fun i hi => by rw [Nat.zero_add, h.cell, List.getElem?_map, List.getElem?_eq_getElem hi]; rfl⟩
theorem box_rowR {w : World} {base g n : Nat} {xs : List Value} {e : TypeId} {s : Nat} (h : w.ownsRow base e s (.slice (some ⟨g, 0, none⟩) n n) n xs) : Box w g xs e ∧ base ≤ g := by
  rcases h.2 with ⟨h1, _⟩ | ⟨g', cap, cur, h1, h2, h3, h4, h5, h6, h7⟩
  · cases h1
  · cases h1
    have hc : cur = xs.toArray := by
      rw [List.take_of_length_le (by rw [Array.length_toList, h6]; exact Nat.le_refl _)] at h7
      rw [← h7]
    rw [hc] at h3
    exact ⟨h3, h2⟩
theorem toStringS_ex (a : Option Addr) (c : Nat) (l : List ByteArray) (w : World) (h : StrsAt w a l) (hn : l.length ≤ 1048576) :
    Calls Tryd.prog 33 #[.slice a l.length c] w fun e w' => (∃ g, e = .returned (.slice (some ⟨g, 0, none⟩) l.length l.length) ∧ w.heap.size ≤ g ∧ Box w' g (l.map Value.string) 9) ∧ Below w.heap.size w w' :=
  (toStringS_own a c l w h hn).mono fun _ _ ⟨h1, h2, h3⟩ => ⟨⟨_, h1, Nat.le_refl _, (box_rowR h2).1⟩, h3⟩
set_option maxRecDepth 20000 in
set_option maxHeartbeats 2000000 in
theorem toReply_any (rc : Int) (rn : List Int) (rs : List ByteArray) (a2 : Option Addr) (c2 : Nat) (a3 : Option Addr) (c3 : Nat) (w : World) (h : IntsAt w a2 rn) (h3 : StrsAt w a3 rs) (hn : rn.length ≤ 1048576) (hs : rs.length ≤ 1048576) :
    Calls Tryd.prog 16 #[.agg #[.int .i64 rc, .slice a2 rn.length c2, .slice a3 rs.length c3]] w fun r w' => (∃ g2 g3, r = .returned (.agg #[.int .i64 rc, .slice (some ⟨g2, 0, none⟩) rn.length rn.length, .slice (some ⟨g3, 0, none⟩) rs.length rs.length]) ∧ w.heap.size ≤ g2 ∧ w.heap.size ≤ g3 ∧ Box w' g2 (nums rn) 2 ∧ Box w' g3 (rs.map Value.string) 9) ∧ Below w.heap.size w w' := by
  obtain ⟨W, hW, hWz, HB0, HP0, HX0, HY0⟩ := boxes3 w [.int .i64 rc, .slice a2 rn.length c2, .slice a3 rs.length c3] [.int .i64 0, .slice none 0 0, .slice none 0 0] [.int .i64 rc, .slice none 0 0, .slice none 0 0] 35 40 40
  have H := hide (h.below (unhide HB0))
  have H3 := hide h3
  clear h h3
  go_enter Tryd.func16, Tryd.ntmps16
  go_wp2_with fail
  rw [← hW]
  clear hW
  refine (toInt64S_ex a2 c2 rn _ (unhide H) hn).mono ?_
  rintro r w5 ⟨⟨g2, rfl, ho⟩, hb5⟩
  have HP5 := hide ((unhide HP0).below hb5)
  have HX5 := hide ((unhide HX0).below hb5)
  have HY5 := hide ((unhide HY0).below hb5)
  have B5 := hide (below_step (unhide HB0) hb5 (by omega))
  have IN := hide (box_rowR ho).1
  have LN : Hid (w.heap.size + 1 + 1 < g2) := by have := ho.lt g2 rfl; show _ < _; omega
  have z5 : w.heap.size + 1 + 1 < w5.heap.size := by have := hb5.size; omega
  clear hb5 ho HP0 HX0 HY0 HB0 H
  have np1 : w.heap.size ≠ w.heap.size + 1 + 1 := by omega
  have p2 := (unhide HP5).cell 2
  have t1 := (unhide HY5).cell 1
  have f1 := (unhide HY5).frozen 1
  simp only [List.getElem?_cons_zero, List.getElem?_cons_succ] at p2 t1
  go_wp2_with fail
  generalize hU : w5.setCell _ _ = U
  have HXU := hide ((unhide HX5).other' hU (by show w.heap.size + 1 ≠ w.heap.size + 1 + 1; omega))
  have HYU : Hid (Box U (w.heap.size + 1 + 1) [.int .i64 rc, .slice (some ⟨g2, 0, none⟩) rn.length rn.length, .slice none 0 0] 40) := (unhide HY5).set' hU
  have BU := hide (below_set' (unhide B5) hU (by show w.heap.size ≤ w.heap.size + 1 + 1; omega))
  have OU : Hid (Out (fun q => q = w.heap.size + 1 + 1) w5 U) := out_set' (Out.refl _ w5) hU (.inl rfl)
  have INU := hide ((unhide IN).out (unhide OU) (by have := unhide LN; omega))
  have zU : w.heap.size + 1 + 1 < U.heap.size := by have := size_set' hU; omega
  clear hU p2 t1 f1 HP5 HX5 HY5 B5 OU IN z5
  refine (toStringS_ex a3 c3 rs _ ((unhide H3).below (unhide BU)) hs).mono ?_
  rintro r w6 ⟨⟨g3, rfl, hg3, hs3⟩, hb6⟩
  have HX6 := hide ((unhide HXU).below hb6)
  have HY6 := hide ((unhide HYU).below hb6)
  have B6 := hide (below_step (unhide BU) hb6 (by omega))
  have IN6 := hide ((unhide INU).below hb6)
  have SN6 := hide hs3
  have LS : Hid (w.heap.size + 1 + 1 < g3) := by show _ < _; omega
  have z6 : w.heap.size + 1 + 1 < w6.heap.size := by have := hb6.size; omega
  clear hb6 hs3 hg3 HXU HYU BU INU H3
  have t2 := (unhide HY6).cell 2
  have f2 := (unhide HY6).frozen 2
  simp only [List.getElem?_cons_zero, List.getElem?_cons_succ] at t2
  have HYV : Hid (Box (w6.setCell ⟨w.heap.size + 1 + 1, 2, none⟩ (.slice (some ⟨g3, 0, none⟩) rs.length rs.length)) (w.heap.size + 1 + 1) [.int .i64 rc, .slice (some ⟨g2, 0, none⟩) rn.length rn.length, .slice (some ⟨g3, 0, none⟩) rs.length rs.length] 40) := (unhide HY6).set 2 _
  have HXV := hide ((unhide HX6).set_other (p := ⟨w.heap.size + 1 + 1, 2, none⟩) (by show w.heap.size + 1 ≠ w.heap.size + 1 + 1; omega) (.slice (some ⟨g3, 0, none⟩) rs.length rs.length))
  have BV := hide ((unhide B6).setCell (p := ⟨w.heap.size + 1 + 1, 2, none⟩) (by show w.heap.size ≤ w.heap.size + 1 + 1; omega) (.slice (some ⟨g3, 0, none⟩) rs.length rs.length))
  have OV : Hid (Out (fun q => q = w.heap.size + 1 + 1) w6 (w6.setCell ⟨w.heap.size + 1 + 1, 2, none⟩ (.slice (some ⟨g3, 0, none⟩) rs.length rs.length))) := (Out.refl (fun q => q = w.heap.size + 1 + 1) w6).setCell (p := ⟨w.heap.size + 1 + 1, 2, none⟩) (.inl rfl) _
  have INV := hide ((unhide IN6).out (unhide OV) (by have := unhide LN; omega))
  have SNV := hide ((unhide SN6).out (unhide OV) (by have := unhide LS; omega))
  go_wp2_with (first
    | (refine wpList_load_part rfl 40 (.tmp 3) rfl (w.heap.size + 1 + 1) 0 rfl 40 _ [.int .i64 rc, .slice (some ⟨g2, 0, none⟩) rn.length rn.length, .slice (some ⟨g3, 0, none⟩) rs.length rs.length] (unhide HYV) rfl _ Tryd.underlying40 rfl (by kernel_rfl) ?_)
    | (refine wpList_store_part rfl 40 (.tmp 2) (.tmp 15) rfl (w.heap.size + 1) 0 _ rfl rfl 40 _ (unhide HXV) (by kernel_rfl) (by simp) (by simp [Value.oneCell']) ?_; intro wZ XZ OZ))
  have XR : Hid (Box wZ (w.heap.size + 1) [.int .i64 rc, .slice (some ⟨g2, 0, none⟩) rn.length rn.length, .slice (some ⟨g3, 0, none⟩) rs.length rs.length] 40) := XZ
  have BR : Hid (Below w.heap.size w wZ) := (unhide OZ).below (unhide BV) (Nat.le_refl _) (fun q hq e => by omega)
  have INR := hide ((unhide INV).out (unhide OZ) (by have := unhide LN; omega))
  have SNR := hide ((unhide SNV).out (unhide OZ) (by have := unhide LS; omega))
  clear XZ OZ HXV HYV BV INV SNV OV IN6 SN6 t2 f2
  refine bodyPost_ret (results_cell_row Tryd.results16 _ wZ (w.heap.size + 1) 40 _ (0, 0) _ rfl (unhide XR) Tryd.underlying40 rfl (by kernel_rfl)) rfl ⟨⟨g2, g3, rfl, by have := unhide LN; omega, by have := unhide LS; omega, unhide INR, unhide SNR⟩, unhide BR⟩
end Go.Proofs.YtiopofemelninaaDoor
