/-
  What the laws' own copies of notes answer.
-/
import Derived.Test.YtaadbgebcknfkaaNoteMath
import Derived.Test.YtaadbgebcknfkaaOpLaws
import Derived.Test.YtaadbgebcknfkaaStrsWalk
import Derived.Test.YtaadbgebcknfkaaResWalk
import Derived.Test.YtaadbgebcknfkaaWideBox
import Derived.OwnWalk
namespace Go.Proofs.Ytaadbgebcknfkaa
open Go.RowKit
set_option linter.unusedVariables false

theorem strs_box {w : World} {g : Nat} {l : List ByteArray} {t : TypeId} (h : Box w g (l.map Value.string) t) : StrsAt w (some ⟨g, 0, none⟩) l :=
  .inr ⟨g, 0, rfl, h.lt, fun i hi => by rw [Nat.zero_add, h.cell, List.getElem?_map, List.getElem?_eq_getElem hi]; rfl⟩
theorem box_rowR {w : World} {base g n : Nat} {xs : List Value} {e : TypeId} {s : Nat} (h : w.ownsRow base e s (.slice (some ⟨g, 0, none⟩) n n) n xs) : Box w g xs e ∧ base ≤ g := by
  rcases h.2 with ⟨h1, _⟩ | ⟨g', cap, cur, h1, h2, h3, h4, h5, h6, h7⟩
  · cases h1
  · cases h1
    have hc : cur = xs.toArray := by
      rw [List.take_of_length_le (by rw [Array.length_toList, h6]; exact Nat.le_refl _)] at h7
      rw [← h7]
    rw [hc] at h3
    exact ⟨h3, h2⟩
theorem toStringS_ex (a : Option Addr) (c : Nat) (l : List ByteArray) (w : World) (h : StrsAt w a l) (hn : l.length ≤ 1048576) :
    Calls Try.prog 132 #[.slice a l.length c] w fun e w' => (∃ g, e = .returned (.slice (some ⟨g, 0, none⟩) l.length l.length) ∧ w.heap.size ≤ g ∧ Box w' g (l.map Value.string) 9) ∧ Below w.heap.size w w' :=
  (toStringS_own a c l w h hn).mono fun _ _ ⟨h1, h2, h3⟩ => ⟨⟨_, h1, Nat.le_refl _, (box_rowR h2).1⟩, h3⟩
set_option maxRecDepth 20000 in
set_option maxHeartbeats 2000000 in
theorem toReply_any (rc : Int) (rn : List Int) (rs : List ByteArray) (a2 : Option Addr) (c2 : Nat) (a3 : Option Addr) (c3 : Nat) (w : World) (h : IntsAt w a2 rn) (h3 : StrsAt w a3 rs) (hn : rn.length ≤ 1048576) (hs : rs.length ≤ 1048576) :
    Calls Try.prog 126 #[.agg #[.int .i64 rc, .slice a2 rn.length c2, .slice a3 rs.length c3]] w fun r w' => (∃ g2 g3, r = .returned (.agg #[.int .i64 rc, .slice (some ⟨g2, 0, none⟩) rn.length rn.length, .slice (some ⟨g3, 0, none⟩) rs.length rs.length]) ∧ w.heap.size ≤ g2 ∧ w.heap.size ≤ g3 ∧ Box w' g2 (nums rn) 2 ∧ Box w' g3 (rs.map Value.string) 9) ∧ Below w.heap.size w w' := by
  obtain ⟨W, hW, hWz, HB0, HP0, HX0, HY0⟩ := boxes3 w [.int .i64 rc, .slice a2 rn.length c2, .slice a3 rs.length c3] [.int .i64 0, .slice none 0 0, .slice none 0 0] [.int .i64 rc, .slice none 0 0, .slice none 0 0] 161 168 168
  have H := hide (h.below (unhide HB0))
  have H3 := hide h3
  clear h h3
  go_enter Try.func126, Try.ntmps126
  go_wp2_with fail
  rw [← hW]
  clear hW
  refine (toInt64S_ex a2 c2 rn _ (unhide H) hn).mono ?_
  rintro r w5 ⟨⟨g2, rfl, ho⟩, hb5⟩
  have HP5 := hide ((unhide HP0).below hb5)
  have HX5 := hide ((unhide HX0).below hb5)
  have HY5 := hide ((unhide HY0).below hb5)
  have B5 := hide (below_step (unhide HB0) hb5 (by omega))
  have IN := hide (box_rowR ho).1
  have LN : Hid (w.heap.size + 1 + 1 < g2) := by have := ho.lt g2 rfl; show _ < _; omega
  have z5 : w.heap.size + 1 + 1 < w5.heap.size := by have := hb5.size; omega
  clear hb5 ho HP0 HX0 HY0 HB0 H
  have np1 : w.heap.size ≠ w.heap.size + 1 + 1 := by omega
  have p2 := (unhide HP5).cell 2
  have t1 := (unhide HY5).cell 1
  have f1 := (unhide HY5).frozen 1
  simp only [List.getElem?_cons_zero, List.getElem?_cons_succ] at p2 t1
  go_wp2_with fail
  generalize hU : w5.setCell _ _ = U
  have HXU := hide ((unhide HX5).other' hU (by show w.heap.size + 1 ≠ w.heap.size + 1 + 1; omega))
  have HYU : Hid (Box U (w.heap.size + 1 + 1) [.int .i64 rc, .slice (some ⟨g2, 0, none⟩) rn.length rn.length, .slice none 0 0] 168) := (unhide HY5).set' hU
  have BU := hide (below_set' (unhide B5) hU (by show w.heap.size ≤ w.heap.size + 1 + 1; omega))
  have OU : Hid (Out (fun q => q = w.heap.size + 1 + 1) w5 U) := out_set' (Out.refl _ w5) hU (.inl rfl)
  have INU := hide ((unhide IN).out (unhide OU) (by have := unhide LN; omega))
  have zU : w.heap.size + 1 + 1 < U.heap.size := by have := size_set' hU; omega
  clear hU p2 t1 f1 HP5 HX5 HY5 B5 OU IN z5
  refine (toStringS_ex a3 c3 rs _ ((unhide H3).below (unhide BU)) hs).mono ?_
  rintro r w6 ⟨⟨g3, rfl, hg3, hs3⟩, hb6⟩
  have HX6 := hide ((unhide HXU).below hb6)
  have HY6 := hide ((unhide HYU).below hb6)
  have B6 := hide (below_step (unhide BU) hb6 (by omega))
  have IN6 := hide ((unhide INU).below hb6)
  have SN6 := hide hs3
  have LS : Hid (w.heap.size + 1 + 1 < g3) := by show _ < _; omega
  have z6 : w.heap.size + 1 + 1 < w6.heap.size := by have := hb6.size; omega
  clear hb6 hs3 hg3 HXU HYU BU INU H3
  have t2 := (unhide HY6).cell 2
  have f2 := (unhide HY6).frozen 2
  simp only [List.getElem?_cons_zero, List.getElem?_cons_succ] at t2
  have HYV : Hid (Box (w6.setCell ⟨w.heap.size + 1 + 1, 2, none⟩ (.slice (some ⟨g3, 0, none⟩) rs.length rs.length)) (w.heap.size + 1 + 1) [.int .i64 rc, .slice (some ⟨g2, 0, none⟩) rn.length rn.length, .slice (some ⟨g3, 0, none⟩) rs.length rs.length] 168) := (unhide HY6).set 2 _
  have HXV := hide ((unhide HX6).set_other (p := ⟨w.heap.size + 1 + 1, 2, none⟩) (by show w.heap.size + 1 ≠ w.heap.size + 1 + 1; omega) (.slice (some ⟨g3, 0, none⟩) rs.length rs.length))
  have BV := hide ((unhide B6).setCell (p := ⟨w.heap.size + 1 + 1, 2, none⟩) (by show w.heap.size ≤ w.heap.size + 1 + 1; omega) (.slice (some ⟨g3, 0, none⟩) rs.length rs.length))
  have OV : Hid (Out (fun q => q = w.heap.size + 1 + 1) w6 (w6.setCell ⟨w.heap.size + 1 + 1, 2, none⟩ (.slice (some ⟨g3, 0, none⟩) rs.length rs.length))) := (Out.refl (fun q => q = w.heap.size + 1 + 1) w6).setCell (p := ⟨w.heap.size + 1 + 1, 2, none⟩) (.inl rfl) _
  have INV := hide ((unhide IN6).out (unhide OV) (by have := unhide LN; omega))
  have SNV := hide ((unhide SN6).out (unhide OV) (by have := unhide LS; omega))
  go_wp2_with (first
    | (refine wpList_load_part rfl 168 (.tmp 3) rfl (w.heap.size + 1 + 1) 0 rfl 168 _ [.int .i64 rc, .slice (some ⟨g2, 0, none⟩) rn.length rn.length, .slice (some ⟨g3, 0, none⟩) rs.length rs.length] (unhide HYV) rfl _ Try.underlying168 rfl (by kernel_rfl) ?_)
    | (refine wpList_store_part rfl 168 (.tmp 2) (.tmp 15) rfl (w.heap.size + 1) 0 _ rfl rfl 168 _ (unhide HXV) (by kernel_rfl) (by simp) (by simp [Value.oneCell']) ?_; intro wZ XZ OZ))
  have XR : Hid (Box wZ (w.heap.size + 1) [.int .i64 rc, .slice (some ⟨g2, 0, none⟩) rn.length rn.length, .slice (some ⟨g3, 0, none⟩) rs.length rs.length] 168) := XZ
  have BR : Hid (Below w.heap.size w wZ) := (unhide OZ).below (unhide BV) (Nat.le_refl _) (fun q hq e => by omega)
  have INR := hide ((unhide INV).out (unhide OZ) (by have := unhide LN; omega))
  have SNR := hide ((unhide SNV).out (unhide OZ) (by have := unhide LS; omega))
  clear XZ OZ HXV HYV BV INV SNV OV IN6 SN6 t2 f2
  refine bodyPost_ret (results_cell_row Try.results126 _ wZ (w.heap.size + 1) 168 _ (0, 0) _ rfl (unhide XR) Try.underlying168 rfl (by kernel_rfl)) rfl ⟨⟨g2, g3, rfl, by have := unhide LN; omega, by have := unhide LS; omega, unhide INR, unhide SNR⟩, unhide BR⟩
def NteA.past (B : Nat) (x : NteA) : Prop := (∀ ad, x.a1 = some ad → B ≤ ad.block) ∧ (∀ ad, x.a2 = some ad → B ≤ ad.block) ∧ (∀ ad, x.a3 = some ad → B ≤ ad.block)
theorem NteA.side.out {F : Nat → Prop} {w w' : World} {x : NteA} (h : x.side w) (ho : Out F w w') {B : Nat} (hp : x.past B) (hF : ∀ q, F q → q < B) : x.side w' :=
  ⟨ho.ints h.1 (fun ad e f => by have := hp.1 ad e; have := hF _ f; omega), ho.ints h.2.1 (fun ad e f => by have := hp.2.1 ad e; have := hF _ f; omega), ho.strs h.2.2 (fun ad e f => by have := hp.2.2 ad e; have := hF _ f; omega)⟩
/-- The lists of a note in rows of their own. -/
def NteA.boxed (w : World) (B : Nat) (x : NteA) : Prop := (∃ g, x.a1 = some ⟨g, 0, none⟩ ∧ B ≤ g ∧ Box w g (nums x.b.on) 2) ∧ (∃ g, x.a2 = some ⟨g, 0, none⟩ ∧ B ≤ g ∧ Box w g (nums x.b.rn) 2) ∧ (∃ g, x.a3 = some ⟨g, 0, none⟩ ∧ B ≤ g ∧ Box w g (x.b.rs.map Value.string) 9)
theorem boxL_ints {w : World} {g : Nat} {l : List Int} {t : TypeId} (h : Box w g (nums l) t) : IntsAt w (some ⟨g, 0, none⟩) l :=
  .inr ⟨g, 0, rfl, h.lt, fun i hi => by rw [Nat.zero_add, h.cell]; exact nums_at hi⟩
theorem NteA.boxed.side {w : World} {B : Nat} {x : NteA} (h : x.boxed w B) : x.side w := by
  obtain ⟨⟨g1, e1, _, h1⟩, ⟨g2, e2, _, h2⟩, ⟨g3, e3, _, h3⟩⟩ := h
  exact ⟨by rw [e1]; exact boxL_ints h1, by rw [e2]; exact boxL_ints h2, by rw [e3]; exact strs_box h3⟩
theorem NteA.boxed.past {w : World} {B : Nat} {x : NteA} (h : x.boxed w B) : x.past B := by
  obtain ⟨⟨g1, e1, k1, h1⟩, ⟨g2, e2, k2, h2⟩, ⟨g3, e3, k3, h3⟩⟩ := h
  exact ⟨fun ad e => by rw [e1] at e; cases e; exact k1, fun ad e => by rw [e2] at e; cases e; exact k2, fun ad e => by rw [e3] at e; cases e; exact k3⟩
theorem NteA.boxed.below {w w' : World} {B : Nat} {x : NteA} (h : x.boxed w B) (hb : Below w.heap.size w w') : x.boxed w' B := by
  obtain ⟨⟨g1, e1, k1, h1⟩, ⟨g2, e2, k2, h2⟩, ⟨g3, e3, k3, h3⟩⟩ := h
  exact ⟨⟨g1, e1, k1, h1.below hb⟩, ⟨g2, e2, k2, h2.below hb⟩, ⟨g3, e3, k3, h3.below hb⟩⟩
theorem NteA.boxed.out {F : Nat → Prop} {w w' : World} {B : Nat} {x : NteA} (h : x.boxed w B) (ho : Out F w w') (hF : ∀ q, B ≤ q → ¬ F q) : x.boxed w' B := by
  obtain ⟨⟨g1, e1, k1, h1⟩, ⟨g2, e2, k2, h2⟩, ⟨g3, e3, k3, h3⟩⟩ := h
  exact ⟨⟨g1, e1, k1, h1.out ho (hF g1 k1)⟩, ⟨g2, e2, k2, h2.out ho (hF g2 k2)⟩, ⟨g3, e3, k3, h3.out ho (hF g3 k3)⟩⟩
theorem NteA.boxed.mono {w : World} {B B' : Nat} {x : NteA} (h : x.boxed w B) (hB : B' ≤ B) : x.boxed w B' := by
  obtain ⟨⟨g1, e1, k1, h1⟩, ⟨g2, e2, k2, h2⟩, ⟨g3, e3, k3, h3⟩⟩ := h
  exact ⟨⟨g1, e1, by omega, h1⟩, ⟨g2, e2, by omega, h2⟩, ⟨g3, e3, by omega, h3⟩⟩
set_option maxRecDepth 20000 in
set_option maxHeartbeats 4000000 in
theorem toNote_any (x : NteA) (w : World) (h : x.side w) (hm : x.small) :
    Calls Try.prog 102 #[.agg #[.int .i64 x.b.k, .int .i64 x.b.wo, .int .i64 x.b.e, .int .i64 x.b.ok, .string x.b.op, .string x.b.ot, .bool x.b.od, .int .i64 x.b.oi, .slice x.a1 x.b.on.length x.c1, .int .i64 x.b.rc, .slice x.a2 x.b.rn.length x.c2, .slice x.a3 x.b.rs.length x.c3]] w fun r w' => (∃ y : NteA, r = .returned (.agg y.cells.toArray) ∧ y.b = x.b ∧ y.boxed w' w.heap.size) ∧ Below w.heap.size w w' := by
  obtain ⟨⟨k, wo, e, ok, op, ot, od, oi, on, rc, rn, rs⟩, a1, c1, a2, c2, a3, c3⟩ := x
  obtain ⟨m1, m2, m3⟩ := hm
  obtain ⟨h1, h2, h3⟩ := h
  simp only at m1 m2 m3 h1 h2 h3
  obtain ⟨W, hW, hWz, HB0, HP0, HX0, HY0⟩ := boxes3 w [.int .i64 k, .int .i64 wo, .int .i64 e, .int .i64 ok, .string op, .string ot, .bool od, .int .i64 oi, .slice a1 on.length c1, .int .i64 rc, .slice a2 rn.length c2, .slice a3 rs.length c3] [.int .i64 0, .int .i64 0, .int .i64 0, .int .i64 0, .string ⟨#[]⟩, .string ⟨#[]⟩, .bool false, .int .i64 0, .slice none 0 0, .int .i64 0, .slice none 0 0, .slice none 0 0] [.int .i64 k, .int .i64 wo, .int .i64 e, .int .i64 0, .string ⟨#[]⟩, .string ⟨#[]⟩, .bool false, .int .i64 0, .slice none 0 0, .int .i64 0, .slice none 0 0, .slice none 0 0] 163 170 170
  have H1 := hide (h1.below (unhide HB0))
  have H2 := hide h2
  have H3 := hide h3
  clear h1 h2 h3
  go_enter Try.func102, Try.ntmps102
  go_wp2_with fail
  rw [← hW]
  clear hW
  have np1 : w.heap.size ≠ w.heap.size + 1 + 1 := by omega
  refine (toOp_any ok op ot od oi on a1 c1 _ (unhide H1) m1).mono ?_
  rintro r w3 ⟨⟨g1, rfl, ho⟩, hb3⟩
  have HP3 := hide ((unhide HP0).below hb3)
  have HX3 := hide ((unhide HX0).below hb3)
  have HY3 := hide ((unhide HY0).below hb3)
  have B3 := hide (below_step (unhide HB0) hb3 (by omega))
  have I3 := hide (box_rowR ho).1
  have L1 : Hid (w.heap.size + 1 + 1 < g1) := by have := ho.lt g1 rfl; show _ < _; omega
  have z3 : w.heap.size + 1 + 1 < w3.heap.size := by have := hb3.size; omega
  clear hb3 ho HP0 HX0 HY0 HB0 H1
  go_wp2_with (first | (refine wpList_store_part rfl 167 (.tmp 16) (.tmp 15) rfl (w.heap.size + 1 + 1) 3 _ rfl rfl 170 _ (unhide HY3) (by kernel_rfl) (by simp) (by simp [Value.oneCell']) ?_; intro w4 X4 O4; have p9 := ((unhide HP3).out (unhide O4) np1).cell 9; have p10 := ((unhide HP3).out (unhide O4) np1).cell 10; have p11 := ((unhide HP3).out (unhide O4) np1).cell 11; simp only [List.getElem?_cons_zero, List.getElem?_cons_succ] at p9 p10 p11))
  have HX4 := hide ((unhide HX3).out (unhide O4) (by show ¬ w.heap.size + 1 = w.heap.size + 1 + 1; omega))
  have HY4 : Hid (Box w4 (w.heap.size + 1 + 1) [.int .i64 k, .int .i64 wo, .int .i64 e, .int .i64 ok, .string op, .string ot, .bool od, .int .i64 oi, .slice (some ⟨g1, 0, none⟩) on.length on.length, .int .i64 0, .slice none 0 0, .slice none 0 0] 170) := X4
  have B4 := hide ((unhide O4).below (unhide B3) (Nat.le_refl _) (fun q hq e => by omega))
  have I4 := hide ((unhide I3).out (unhide O4) (by have := unhide L1; omega))
  have z4 : w.heap.size + 1 + 1 < w4.heap.size := by have := (unhide O4).size; omega
  clear X4 O4 HP3 HX3 HY3 B3 I3 p9 p10 p11
  refine (toReply_any rc rn rs a2 c2 a3 c3 _ ((unhide H2).below (unhide B4)) ((unhide H3).below (unhide B4)) m2 m3).mono ?_
  rintro r w5 ⟨⟨g2, g3, rfl, hg2, hg3, hi2, hs3⟩, hb5⟩
  have HX5 := hide ((unhide HX4).below hb5)
  have HY5 := hide ((unhide HY4).below hb5)
  have B5 := hide (below_step (unhide B4) hb5 (by omega))
  have I5 := hide ((unhide I4).below hb5)
  have J5 := hide hi2
  have S5 := hide hs3
  have L2 : Hid (w.heap.size + 1 + 1 < g2) := by show _ < _; omega
  have L3 : Hid (w.heap.size + 1 + 1 < g3) := by show _ < _; omega
  have z5 : w.heap.size + 1 + 1 < w5.heap.size := by have := hb5.size; omega
  clear hb5 hi2 hs3 hg2 hg3 HX4 HY4 B4 I4 H2 H3
  go_wp2_with (first
    | (refine wpList_store_part rfl 168 (.tmp 20) (.tmp 19) rfl (w.heap.size + 1 + 1) 9 _ rfl rfl 170 _ (unhide HY5) (by kernel_rfl) (by simp) (by simp [Value.oneCell']) ?_; intro w6 X6 O6; have HY6 : Hid (Box w6 (w.heap.size + 1 + 1) [.int .i64 k, .int .i64 wo, .int .i64 e, .int .i64 ok, .string op, .string ot, .bool od, .int .i64 oi, .slice (some ⟨g1, 0, none⟩) on.length on.length, .int .i64 rc, .slice (some ⟨g2, 0, none⟩) rn.length rn.length, .slice (some ⟨g3, 0, none⟩) rs.length rs.length] 170) := X6; have HX6 := hide ((unhide HX5).out (unhide O6) (by show ¬ w.heap.size + 1 = w.heap.size + 1 + 1; omega)); have B6 := hide ((unhide O6).below (unhide B5) (Nat.le_refl _) (fun q hq e => by omega)); have I6 := hide ((unhide I5).out (unhide O6) (by have := unhide L1; omega)); have J6 := hide ((unhide J5).out (unhide O6) (by have := unhide L2; omega)); have S6 := hide ((unhide S5).out (unhide O6) (by have := unhide L3; omega)); clear X6 O6 HX5 HY5 B5 I5 J5 S5)
    | (refine wpList_load_part rfl 170 (.tmp 3) rfl (w.heap.size + 1 + 1) 0 rfl 170 _ [.int .i64 k, .int .i64 wo, .int .i64 e, .int .i64 ok, .string op, .string ot, .bool od, .int .i64 oi, .slice (some ⟨g1, 0, none⟩) on.length on.length, .int .i64 rc, .slice (some ⟨g2, 0, none⟩) rn.length rn.length, .slice (some ⟨g3, 0, none⟩) rs.length rs.length] (unhide HY6) rfl _ Try.underlying170 rfl (by kernel_rfl) ?_)
    | (refine wpList_store_part rfl 170 (.tmp 2) (.tmp 21) rfl (w.heap.size + 1) 0 _ rfl rfl 170 _ (unhide HX6) (by kernel_rfl) (by simp) (by simp [Value.oneCell']) ?_; intro wZ XZ OZ))
  have XR : Hid (Box wZ (w.heap.size + 1) [.int .i64 k, .int .i64 wo, .int .i64 e, .int .i64 ok, .string op, .string ot, .bool od, .int .i64 oi, .slice (some ⟨g1, 0, none⟩) on.length on.length, .int .i64 rc, .slice (some ⟨g2, 0, none⟩) rn.length rn.length, .slice (some ⟨g3, 0, none⟩) rs.length rs.length] 170) := XZ
  have BR : Hid (Below w.heap.size w wZ) := (unhide OZ).below (unhide B6) (Nat.le_refl _) (fun q hq e => by omega)
  have IR := hide ((unhide I6).out (unhide OZ) (by have := unhide L1; omega))
  have JR := hide ((unhide J6).out (unhide OZ) (by have := unhide L2; omega))
  have SR := hide ((unhide S6).out (unhide OZ) (by have := unhide L3; omega))
  clear XZ OZ HX6 HY6 B6 I6 J6 S6
  refine bodyPost_ret (results_cell_row Try.results102 _ wZ (w.heap.size + 1) 170 _ (0, 0) _ rfl (unhide XR) Try.underlying170 rfl (by kernel_rfl)) rfl ⟨⟨⟨⟨k, wo, e, ok, op, ot, od, oi, on, rc, rn, rs⟩, some ⟨g1, 0, none⟩, on.length, some ⟨g2, 0, none⟩, rn.length, some ⟨g3, 0, none⟩, rs.length⟩, rfl, rfl, ⟨⟨g1, rfl, by have := unhide L1; omega, unhide IR⟩, ⟨g2, rfl, by have := unhide L2; omega, unhide JR⟩, ⟨g3, rfl, by have := unhide L3; omega, unhide SR⟩⟩⟩, unhide BR⟩
def flatNte (L : List NteA) : List Value := L.flatMap NteA.cells
theorem cells_lenNte (x : NteA) : x.cells.length = 12 := rfl
theorem flat_lenNte (L : List NteA) : (flatNte L).length = L.length * 12 := by
  induction L with
  | nil => rfl
  | cons x L ih => simp only [flatNte, List.flatMap_cons, List.length_append, cells_lenNte, List.length_cons] at *; omega
theorem flat_snocNte (L : List NteA) (x : NteA) : flatNte (L ++ [x]) = flatNte L ++ x.cells := by simp [flatNte]
theorem flat_atNte : ∀ (L : List NteA) (i : Nat) (h : i < L.length) (j : Nat) (v : Value), (L[i].cells)[j]? = some v → (flatNte L)[i * 12 + j]? = some v
  | x :: L, 0, _, j, v, hv => by
    have hj : j < x.cells.length := (List.getElem?_eq_some_iff.1 hv).1
    simp only [flatNte, List.flatMap_cons, Nat.zero_mul, Nat.zero_add]
    rw [List.getElem?_append_left hj]; exact hv
  | x :: L, i + 1, h, j, v, hv => by
    have hr := flat_atNte L i (by simpa using h) j v (by simpa using hv)
    simp only [flatNte, List.flatMap_cons]
    rw [List.getElem?_append_right (by rw [cells_lenNte]; omega), cells_lenNte, show (i + 1) * 12 + j - 12 = i * 12 + j by omega]
    exact hr
theorem take_partNte {cs A C : List Value} {n m : Nat} (hA : cs.take n = A) (hn : n ≤ cs.length) (hm : C.length = m) : (cs.take n ++ C ++ cs.drop (n + m)).take (n + m) = A ++ C := by
  have hl : (cs.take n ++ C).length = n + m := by rw [List.length_append, List.length_take, hm]; omega
  rw [List.take_append_of_le_length (by omega), List.take_of_length_le (by omega), hA]
theorem box_Nte {w : World} {g : Nat} {L : List NteA} {t : TypeId} (h : Box w g (flatNte L) t) (hi : ∀ x ∈ L, x.side w ∧ x.small) : NtesAt w (some ⟨g, 0, none⟩) L := by
  refine .inr ⟨g, 0, rfl, h.lt, fun i hl => ⟨fun j v hv => ?_, hi _ (List.getElem_mem hl)⟩⟩
  rw [Nat.zero_add, h.cell]
  exact flat_atNte L i hl j v hv
theorem infoNte : (Try.prog.info? 170).map (fun i => (i.zero, i.size, i.bytes)) = some (some (.agg #[.int .i64 0, .int .i64 0, .int .i64 0, .int .i64 0, .string ⟨#[]⟩, .string ⟨#[]⟩, .bool false, .int .i64 0, .slice none 0 0, .int .i64 0, .slice none 0 0, .slice none 0 0]), 12, 160) := by kernel_rfl
theorem box_rowNNte {w : World} {base g n : Nat} {xs : List Value} {e : TypeId} {s : Nat} (h : w.ownsRow base e s (.slice (some ⟨g, 0, none⟩) n n) n xs) : Box w g xs e ∧ base ≤ g := by
  rcases h.2 with ⟨h1, _⟩ | ⟨g', cap, cur, h1, h2, h3, h4, h5, h6, h7⟩
  · cases h1
  · cases h1
    have hc : cur = xs.toArray := by
      rw [List.take_of_length_le (by rw [Array.length_toList, h6]; exact Nat.le_refl _)] at h7
      rw [← h7]
    rw [hc] at h3
    exact ⟨h3, h2⟩

set_option maxRecDepth 20000 in
set_option maxHeartbeats 4000000 in
theorem toNoteS_box (a : Option Addr) (c : Nat) (L : List NteA) (w : World) (h : NtesAt w a L) (hn : L.length ≤ 1048576) :
    Calls Try.prog 66 #[.slice a L.length c] w fun r w' => (∃ g L', r = .returned (.slice (some ⟨g, 0, none⟩) L.length L.length) ∧ Box w' g (flatNte L') 170 ∧ (∀ y ∈ L', y.boxed w' w.heap.size ∧ y.small) ∧ L'.map NteA.b = L.map NteA.b ∧ w.heap.size ≤ g) ∧ Below w.heap.size w w' := by
  obtain ⟨i0, hi, hz0, hz1, hz2⟩ := info_parts infoNte
  go_enter Try.func66, Try.ntmps66
  go_wp2_with (at_make; refine wpList_make_full _ rfl _ _ 68 rfl w.heap.size 170 i0 _ 12 Try.underlying68 hi hz0 hz1 .i64 .i64 _ _ L.length rfl rfl rfl rfl (by rw [hz2]; omega) (by unfold maxLen; omega) (Nat.le_refl _) ?_; intro w1 hown hgrow)
  have hbel : Below w.heap.size w w1 := (Below.refl _ _).grown hgrow (Nat.le_refl _) (fun k hk => by cases hk)
  obtain ⟨hbox, -⟩ := box_rowNNte hown
  have hlen := hown.1
  generalize (madeCells _ _).toList = cs0 at *
  clear hgrow hown
  go_loopw [4] (fun i wr => ∃ (k : Nat) (cs : List Value) (L' : List NteA), k ≤ L.length ∧ i = .int .i64 k ∧ cs.length = L.length * 12 ∧ L'.length = k ∧ w.heap.size < wr.heap.size ∧ Hid (Box wr w.heap.size cs 170) ∧ Hid (Below w.heap.size w wr) ∧ Hid (cs.take (k * 12) = flatNte L') ∧ Hid (L'.map NteA.b = (L.take k).map NteA.b) ∧ Hid (∀ x ∈ L', x.boxed wr (w.heap.size + 1) ∧ x.small)) (fun i _ => L.length - (intOf i).toNat)
  case atStart => exact ⟨0, cs0, [], Nat.zero_le _, rfl, hlen, rfl, hbox.lt, hbox, hbel, by simp [Hid, flatNte], rfl, by simp [Hid]⟩
  case round =>
    obtain ⟨k, cs, L', hk, rfl, hcl, hl', hzr, HX, HB, HF, HM, HI⟩ := hrel
    clear hbel hbox hlen
    by_cases hlt : k < L.length
    · obtain ⟨b1, o1, rfl, hb1, hc1⟩ := h.at hlt
      have hbw := unhide HB
      have hx := hc1 k hlt
      have hxe : L.take (k + 1) = L.take k ++ [L[k]] := List.take_succ_eq_append_getElem hlt
      generalize L[k] = x at *
      have HXE := hide hxe
      have I1 := hide (hx.2.1.below hbw)
      have SM := hide hx.2.2
      have zb1 : b1 < wr.heap.size := by omega
      have x0 : wr.cell? ⟨b1, o1 + k * 12, none⟩ = some (.int .i64 x.b.k) := (hbw.cell (p := ⟨b1, o1 + k * 12, none⟩) hb1).trans (hx.1 0 _ rfl)
      have x1 : wr.cell? ⟨b1, o1 + k * 12 + 1, none⟩ = some (.int .i64 x.b.wo) := (hbw.cell (p := ⟨b1, o1 + k * 12 + 1, none⟩) hb1).trans (hx.1 1 _ rfl)
      have x2 : wr.cell? ⟨b1, o1 + k * 12 + 2, none⟩ = some (.int .i64 x.b.e) := (hbw.cell (p := ⟨b1, o1 + k * 12 + 2, none⟩) hb1).trans (hx.1 2 _ rfl)
      have x3 : wr.cell? ⟨b1, o1 + k * 12 + 3, none⟩ = some (.int .i64 x.b.ok) := (hbw.cell (p := ⟨b1, o1 + k * 12 + 3, none⟩) hb1).trans (hx.1 3 _ rfl)
      have x4 : wr.cell? ⟨b1, o1 + k * 12 + 4, none⟩ = some (.string x.b.op) := (hbw.cell (p := ⟨b1, o1 + k * 12 + 4, none⟩) hb1).trans (hx.1 4 _ rfl)
      have x5 : wr.cell? ⟨b1, o1 + k * 12 + 5, none⟩ = some (.string x.b.ot) := (hbw.cell (p := ⟨b1, o1 + k * 12 + 5, none⟩) hb1).trans (hx.1 5 _ rfl)
      have x6 : wr.cell? ⟨b1, o1 + k * 12 + 6, none⟩ = some (.bool x.b.od) := (hbw.cell (p := ⟨b1, o1 + k * 12 + 6, none⟩) hb1).trans (hx.1 6 _ rfl)
      have x7 : wr.cell? ⟨b1, o1 + k * 12 + 7, none⟩ = some (.int .i64 x.b.oi) := (hbw.cell (p := ⟨b1, o1 + k * 12 + 7, none⟩) hb1).trans (hx.1 7 _ rfl)
      have x8 : wr.cell? ⟨b1, o1 + k * 12 + 8, none⟩ = some (.slice x.a1 x.b.on.length x.c1) := (hbw.cell (p := ⟨b1, o1 + k * 12 + 8, none⟩) hb1).trans (hx.1 8 _ rfl)
      have x9 : wr.cell? ⟨b1, o1 + k * 12 + 9, none⟩ = some (.int .i64 x.b.rc) := (hbw.cell (p := ⟨b1, o1 + k * 12 + 9, none⟩) hb1).trans (hx.1 9 _ rfl)
      have x10 : wr.cell? ⟨b1, o1 + k * 12 + 10, none⟩ = some (.slice x.a2 x.b.rn.length x.c2) := (hbw.cell (p := ⟨b1, o1 + k * 12 + 10, none⟩) hb1).trans (hx.1 10 _ rfl)
      have x11 : wr.cell? ⟨b1, o1 + k * 12 + 11, none⟩ = some (.slice x.a3 x.b.rs.length x.c3) := (hbw.cell (p := ⟨b1, o1 + k * 12 + 11, none⟩) hb1).trans (hx.1 11 _ rfl)
      clear hc1 hx h hbw hxe
      go_wp2_with fail
      clear x0 x1 x2 x3 x4 x5 x6 x7 x8 x9 x10 x11
      refine (toNote_any x _ (unhide I1) (unhide SM)).mono ?_
      rintro r w2 ⟨⟨y, rfl, hyb, hys⟩, hb2⟩
      have HX2 := hide ((unhide HX).below hb2)
      have B2 := hide (below_step (unhide HB) hb2 (by omega))
      have YB := hide hyb
      have YS : Hid (y.boxed w2 (w.heap.size + 1)) := hys.mono (by omega)
      have YM : Hid y.small := by have := unhide SM; unfold NteA.small at *; rw [Hid, hyb]; exact this
      have z2 : w.heap.size < w2.heap.size := by have := hb2.size; omega
      have HI2 : Hid (∀ x ∈ L', x.boxed w2 (w.heap.size + 1) ∧ x.small) := fun x hx => ⟨(unhide HI x hx).1.below hb2, (unhide HI x hx).2⟩
      clear hyb hys hb2 HX HB HI I1
      go_wp2_with (first | (refine wpList_store_part rfl 170 (.tmp 21) (.tmp 20) rfl w.heap.size (k * 12) _ rfl rfl 170 cs (unhide HX2) (by kernel_rfl) (by show k * 12 + 12 ≤ cs.length; omega) (by simp [NteA.cells, Value.oneCell']) ?_; intro wZ XZ OZ))
      have hcs : (cs.take (k * 12) ++ y.cells ++ cs.drop (k * 12 + 12)).length = L.length * 12 := by
        simp only [List.length_append, List.length_take, List.length_drop, cells_lenNte]
        omega
      have oz := (unhide OZ).size
      refine ⟨⟨k + 1, _, L' ++ [y], by omega, by go_num, hcs, by simp [hl'], by omega, XZ, (unhide OZ).below (unhide B2) (Nat.le_refl _) (fun q hq e => by omega), ?_, ?_, ?_⟩, by simp [intOf]; omega⟩
      · rw [Hid, flat_snocNte, show (k + 1) * 12 = k * 12 + 12 by omega]
        exact take_partNte (unhide HF) (by omega) rfl
      · rw [Hid, unhide HXE, List.map_append, List.map_append, unhide HM]
        simp [unhide YB]
      · intro x hx
        rcases List.mem_append.1 hx with hx | hx
        · obtain ⟨q1, q2⟩ := unhide HI2 x hx
          exact ⟨q1.out (unhide OZ) (fun q hq e => by omega), q2⟩
        · simp only [List.mem_singleton] at hx
          subst hx
          exact ⟨(unhide YS).out (unhide OZ) (fun q hq e => by omega), unhide YM⟩
    · have hk4 : k = L.length := by omega
      subst hk4
      have hcf : cs = flatNte L' := by
        have := unhide HF
        rwa [List.take_of_length_le (by omega)] at this
      have hmm : L'.map NteA.b = L.map NteA.b := by
        have := unhide HM
        rwa [List.take_of_length_le (by omega)] at this
      subst hcf
      have HMM := hide hmm
      clear hmm
      go_wp2_with fail
      go_ret
      exact ⟨⟨_, L', rfl, unhide HX, fun y hy => ⟨(unhide HI y hy).1.mono (by omega), (unhide HI y hy).2⟩, unhide HMM, Nat.le_refl _⟩, unhide HB⟩
theorem toNoteS_past (a : Option Addr) (c : Nat) (L : List NteA) (w : World) (h : NtesAt w a L) (hn : L.length ≤ 1048576) :
    Calls Try.prog 66 #[.slice a L.length c] w fun r w' => (∃ g L', r = .returned (.slice (some ⟨g, 0, none⟩) L.length L.length) ∧ NtesAt w' (some ⟨g, 0, none⟩) L' ∧ L'.map NteA.b = L.map NteA.b ∧ w.heap.size ≤ g ∧ (∀ y ∈ L', y.past w.heap.size)) ∧ Below w.heap.size w w' :=
  (toNoteS_box a c L w h hn).mono fun _ _ ⟨⟨g, L', h1, h2, h3, h4, h5⟩, hb⟩ => ⟨⟨g, L', h1, box_Nte h2 (fun x hx => ⟨(h3 x hx).1.side, (h3 x hx).2⟩), h4, h5, fun y hy => (h3 y hy).1.past⟩, hb⟩
theorem toNoteS_any (a : Option Addr) (c : Nat) (L : List NteA) (w : World) (h : NtesAt w a L) (hn : L.length ≤ 1048576) :
    Calls Try.prog 66 #[.slice a L.length c] w fun r w' => (∃ g L', r = .returned (.slice (some ⟨g, 0, none⟩) L.length L.length) ∧ NtesAt w' (some ⟨g, 0, none⟩) L' ∧ L'.map NteA.b = L.map NteA.b) ∧ Below w.heap.size w w' :=
  (toNoteS_past a c L w h hn).mono fun _ _ ⟨⟨g, L', h1, h2, h3, _, _⟩, hb⟩ => ⟨⟨g, L', h1, h2, h3⟩, hb⟩
end Go.Proofs.Ytaadbgebcknfkaa
