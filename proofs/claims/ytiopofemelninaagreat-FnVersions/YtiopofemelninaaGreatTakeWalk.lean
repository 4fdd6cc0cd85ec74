/-
  What (*image).isSure and (*image).take do.
-/
import Derived.Test.YtiopofemelninaaGreatImgMath
import Derived.Test.YtiopofemelninaaGreatIReadWalk
import Derived.BigQuiet
import Derived.BigRegion
namespace Go.Proofs.YtiopofemelninaaGreat
open Go.RowKit
set_option linter.unusedVariables false

set_option maxHeartbeats 1000000 in
theorem isSure_any (p : Nat) (clock k u i e : Int) (w : World) (hc : w.cell? ⟨p, 0, none⟩ = some (.int .i64 clock)) (h0 : 0 ≤ clock) (h1 : clock ≤ 100000) :
    Calls Tryz.prog 52 #[.pointer (some ⟨p, 0, none⟩), .agg #[.int .i64 k, .int .i64 u, .int .i64 i, .int .i64 e]] w fun r w' => r = .returned (.bool (decide (e ≤ clock - 2))) ∧ Below w.heap.size w w' := by
  have hlt : p < w.heap.size := World.block_lt_of_cell? w _ hc
  go_enter Tryz.func52, Tryz.ntmps52
  go_wp2_with fail
  obtain ⟨W, hW, z1, hb, hx⟩ := boxes1 w [.int .i64 k, .int .i64 u, .int .i64 i, .int .i64 e] 40
  rw [← hW]
  clear hW
  have x3 := (unhide hx).cell 3
  simp at x3
  have hc1 := ((bcell (unhide hb)).1 p 0 hlt).trans hc
  clear hc
  go_quiet (fail)
  all_goals
    go_wp2_with fail
    go_ret
    exact ⟨rfl, below_drewN (unhide hb) _⟩
theorem rowAt_fresh (w : World) (cs : List Value) (t : TypeId) : RowAt (w.alloc (.cells cs.toArray t)) (some ⟨w.heap.size, 0, none⟩) cs := rowAt_box (box_new w cs t)
abbrev Mine (p base : Nat) (q : Nat) : Prop := q = p ∨ base ≤ q
theorem IM.putFree {w w3 U : World} {base p : Nat} {clock line : Int} {vv fv v' : Value} {L : List VerA} {F : List Int} (h : IM w base p clock vv fv L F) (hgrow : w.grownBy w3 fv.ownBlock) (hown : w3.ownsRow base 2 1 v' (F.length + 1) (nums F ++ nums [line])) (hloc : v'.ownBlock = fv.ownBlock ∨ v'.ownBlock = some w.heap.size) (hU : w3.setCell ⟨p, 2, none⟩ v' = U) :
    Hid (IM U base p clock vv v' L (F ++ [line])) ∧ Hid (Out (Mine p base) w U) := by
  have ho := Out.ofGrown hgrow
  have ho2 : Out (fun q => q = p) w3 U := out_set' (Out.refl _ _) hU (.inl rfl)
  have hpf : fv.ownBlock ≠ some p := fun e => by have := (h.free.lt p e).1; have := h.pb; omega
  have hvz : ∀ q, v'.ownBlock = some q → base ≤ q := fun q hq => (hown.lt q hq).1
  refine ⟨⟨?_, ?_, ?_, ?_, h.pb, ?_⟩, ?_⟩
  · exact (h.box.grown hgrow hpf).set' hU
  · exact (h.vers.out ho (fun q hq e => h.sep q e.symm hq)).out ho2 (fun q hq e => by have := (h.vers.lt hq).1; have := h.pb; omega)
  · rw [List.length_append, nums_append]
    exact ho2.own hown (fun q hq e => by have := hvz q hq; have := h.pb; omega)
  · intro q hq hv
    rcases hloc with e | e
    · exact h.sep q (by rw [← e]; exact hq) hv
    · rw [e] at hq; injection hq with hq; have := (h.vers.lt hv).2; omega
  · have := h.bz; have := ho.size; have := ho2.size; omega
  · exact (ho.weak (fun q _ e => .inr (h.free.lt q e.symm).1)).trans ho2 (fun q _ e => .inl e)
theorem IM.putVer {w w3 U : World} {base p : Nat} {clock : Int} {vv fv v' : Value} {L : List VerA} {F : List Int} {x : VerA} (h : IM w base p clock vv fv L F) (hx : w.ownsRow base 2 1 x.nv x.x.b.nl.length (nums x.x.b.nl)) (hnx : ∀ q, x.nv.ownBlock = some q → ¬ IB p vv fv L q)
    (hgrow : w.grownBy w3 vv.ownBlock) (hown : w3.ownsRow base 46 11 v' (L.length + 1) (vflat L ++ x.cells)) (hloc : v'.ownBlock = vv.ownBlock ∨ v'.ownBlock = some w.heap.size) (hU : w3.setCell ⟨p, 1, none⟩ v' = U) :
    Hid (IM U base p clock v' fv (L ++ [x]) F) ∧ Hid (Out (Mine p base) w U) := by
  have ho := Out.ofGrown hgrow
  have ho2 : Out (fun q => q = p) w3 U := out_set' (Out.refl _ _) hU (.inl rfl)
  have hpf : vv.ownBlock ≠ some p := fun e => by have := (h.vers.row.lt p e).1; have := h.pb; omega
  have hV := h.vers.next hx (fun q hq e => hnx q hq (.inr (.inl e))) hgrow hown hloc
  refine ⟨⟨?_, ?_, ?_, ?_, h.pb, ?_⟩, ?_⟩
  · exact (h.box.grown hgrow hpf).set' hU
  · exact hV.out ho2 (fun q hq e => by have := (hV.lt hq).1; have := h.pb; omega)
  · exact ho2.own (ho.own h.free (fun q hq e => h.sep q hq (.inl e.symm))) (fun q hq e => by have := (h.free.lt q hq).1; have := h.pb; omega)
  · intro q hq hv
    have hqz := (h.free.lt q hq).2
    rcases hv with hv | ⟨y, hy, hv⟩
    · rcases hloc with e | e
      · exact h.sep q hq (.inl (by rw [← e]; exact hv))
      · rw [e] at hv; injection hv with hv; omega
    · rcases List.mem_append.1 hy with hy | hy
      · exact h.sep q hq (.inr ⟨y, hy, hv⟩)
      · rcases List.mem_singleton.1 hy with rfl
        exact hnx q hv (.inr (.inr hq))
  · have := h.bz; have := ho.size; have := ho2.size; omega
  · exact (ho.weak (fun q _ e => .inr (h.vers.row.lt q e.symm).1)).trans ho2 (fun q _ e => .inl e)
theorem Out.mine {p base : Nat} {w w1 w2 : World} (hb : Below w.heap.size w w1) (ho : Out (Mine p base) w1 w2) : Out (Mine p base) w w2 := (Out.ofBelow hb).trans ho (fun _ _ h => h)

/-- What take leaves. -/
def Took (p base : Nat) (clock line : Int) (L : List VerA) (F : List Int) (l : List Int) (w' : World) : Prop := ∃ vv' fv' L', IM w' base p clock vv' fv' L' (F ++ stepFree line l) ∧ L'.map VerA.ver = L.map VerA.ver ++ stepVers clock line l

set_option maxRecDepth 20000 in
set_option maxHeartbeats 2000000 in
theorem take_form (p base : Nat) (clock line : Int) (vv fv : Value) (L : List VerA) (F : List Int) (a : Option Addr) (c : Nat) (x0 x1 x2 x3 x4 x5 x6 x7 : Int) (w : World) (h : IM w base p clock vv fv L F) (hi : IntsAt w a [x0, x1, x2, x3, x4, x5, x6, x7]) (hok : whOk x0 = false) :
    Calls Tryz.prog 51 #[.pointer (some ⟨p, 0, none⟩), .int .i64 line, .slice a 8 c] w fun e w' => e = .returned (.int .i64 1) ∧ Below w.heap.size w w' := by
  obtain ⟨b, o, rfl, hb, q0, -⟩ := at8 hi
  have HV : Hid (whVal x0 = .agg #[.int .i64 1, .int .i64 0, .int .i64 0, .int .i64 0, .int .i64 0]) := by rw [Hid, whVal, if_neg (by rw [hok]; decide)]
  clear hi hok
  go_enter Tryz.func51, Tryz.ntmps51
  go_wp2_with fail
  refine (implWordHead_any x0 _).mono ?_
  rintro r w1 ⟨rfl, hb1⟩
  rw [unhide HV]
  have B1 := hide hb1
  clear hb1 q0
  go_wp2_with fail
  go_ret
  exact ⟨rfl, (unhide B1).alloc (unhide B1).size _⟩
set_option maxRecDepth 20000 in
set_option maxHeartbeats 2000000 in
theorem take_free (p base : Nat) (clock line : Int) (vv fv : Value) (L : List VerA) (F : List Int) (a : Option Addr) (c : Nat) (x0 x1 x2 x3 x4 x5 x6 x7 : Int) (w : World) (h : IM w base p clock vv fv L F) (hi : IntsAt w a [x0, x1, x2, x3, x4, x5, x6, x7]) (hok : whOk x0 = true) (hk : x0 % 4 = 0) (hF : F.length ≤ 1000) :
    Calls Tryz.prog 51 #[.pointer (some ⟨p, 0, none⟩), .int .i64 line, .slice a 8 c] w fun e w' => e = .returned (.int .i64 0) ∧ Took p base clock line L F [x0, x1, x2, x3, x4, x5, x6, x7] w' ∧ Out (Mine p base) w w' := by
  obtain ⟨i0, hii, hz0, hz1, hz2⟩ := info_parts infoInt64
  obtain ⟨b, o, rfl, hb, q0, -⟩ := at8 hi
  obtain ⟨fa, fc, ef, -⟩ := rowAt_own h.free
  subst ef
  have HV : Hid (whVal x0 = .agg #[.int .i64 0, .int .i64 0, .int .i64 (x0 / 16 % 1000), .int .i64 (x0 / 4 % 4), .int .i64 (x0 / 16000)]) := by rw [Hid, whVal, if_pos hok, hk]
  have HT : Hid (stepFree line [x0, x1, x2, x3, x4, x5, x6, x7] = [line] ∧ stepVers clock line [x0, x1, x2, x3, x4, x5, x6, x7] = []) := by simp [Hid, stepFree, stepVers, hk]
  have H := hide h
  clear hi hok hk h
  go_enter Tryz.func51, Tryz.ntmps51
  go_wp2_with fail
  refine (implWordHead_any x0 _).mono ?_
  rintro r w1 ⟨rfl, hb1⟩
  rw [unhide HV]
  obtain ⟨W, hW, z1, hbW, hx⟩ := boxes1 w1 [.int .i64 0, .int .i64 0, .int .i64 (x0 / 16 % 1000), .int .i64 (x0 / 4 % 4), .int .i64 (x0 / 16000)] 140
  have BW := hide (below_step hb1 (unhide hbW) hb1.size)
  have HW := hide ((unhide H).below (unhide BW))
  have y2 := (unhide HW).box.cell 2
  have f2 := (unhide HW).box.frozen 2
  simp at y2
  have pz := (unhide HW).box.lt
  have HA := hide ((unhide HW).below ((Below.refl _ W).alloc (Nat.le_refl _) (.cells #[.int .i64 line] 2)))
  have RA : Hid (RowAt (W.alloc (.cells #[.int .i64 line] 2)) (some ⟨w1.heap.size + 1, 0, none⟩) (nums [line])) := by
    have := rowAt_fresh W [.int .i64 line] 2
    rw [show W.heap.size = w1.heap.size + 1 by rw [hW, World.size_alloc]] at this
    exact this
  rw [hW] at y2 f2 HA pz RA
  clear hb1 q0 hbW hx
  go_wp2_with (at_builtin; refine wpList_append_xs _ rfl _ _ 24 rfl base 2 i0 _ 1 8 Tryz.underlying24 hii hz0 hz1 hz2 rfl (by decide) (by decide) (.slice fa F.length fc) F.length (nums F) rfl (unhide HA).free _ 1 1 (nums [line]) rfl rfl (unhide RA) (by simp [nums, Value.oneCell']) (by omega) (unhide HA).bz ?_; intro v' w3 hown hgrow hloc; have X3 := (unhide HA).box.grown hgrow (fun e => by have := ((unhide HA).free.lt p e).1; have := (unhide HA).pb; omega); have y3 := X3.cell 2; have f3 := X3.frozen 2; simp at y3; obtain ⟨a3, c3, e3, -⟩ := rowAt_own hown; subst e3; have HOW := hide hown; have HGR := hide hgrow; have HLO := hide hloc; clear hown hgrow hloc X3 y2 f2)
  clear y3 f3
  generalize hU : w3.setCell _ _ = U
  obtain ⟨IU, OU⟩ := (unhide HA).putFree (line := line) (unhide HGR) (unhide HOW) (unhide HLO) hU
  have TK : Took p base clock line L F [x0, x1, x2, x3, x4, x5, x6, x7] U := ⟨vv, _, L, by rw [(unhide HT).1]; exact unhide IU, by rw [(unhide HT).2, List.append_nil]⟩
  have OT := Out.mine (((unhide BW).trans (by rw [hW]; exact Below.refl _ _)).alloc (by simp; have := (unhide BW).size; rw [hW, World.size_alloc] at this; omega) _) (unhide OU)
  go_ret
  exact ⟨rfl, TK, OT⟩
set_option maxRecDepth 20000 in
set_option maxHeartbeats 4000000 in
theorem take_new (p base : Nat) (clock line : Int) (vv fv : Value) (L : List VerA) (F : List Int) (a : Option Addr) (c : Nat) (x0 x1 x2 x3 x4 x5 x6 x7 : Int) (w : World) (h : IM w base p clock vv fv L F) (hi : IntsAt w a [x0, x1, x2, x3, x4, x5, x6, x7]) (hok : whOk x0 = true) (hk : x0 % 4 ≠ 0) (hs : sureB clock x0 = false) (hL : L.length ≤ 1000) (hc0 : 0 ≤ clock) (hc1 : clock ≤ 100000) :
    Calls Tryz.prog 51 #[.pointer (some ⟨p, 0, none⟩), .int .i64 line, .slice a 8 c] w fun e w' => e = .returned (.int .i64 0) ∧ Took p base clock line L F [x0, x1, x2, x3, x4, x5, x6, x7] w' ∧ Out (Mine p base) w w' := by
  obtain ⟨i0, hii, hz0, hz1, hz2⟩ := info_parts infoVer
  obtain ⟨b, o, rfl, hb, q0, -⟩ := at8 hi
  obtain ⟨va, vc, ev⟩ := h.vers.form
  subst ev
  have hkb : (x0 % 4 == 0) = false := by simpa using hk
  have HV : Hid (whVal x0 = .agg #[.int .i64 0, .int .i64 (x0 % 4), .int .i64 (x0 / 16 % 1000), .int .i64 (x0 / 4 % 4), .int .i64 (x0 / 16000)]) := by rw [Hid, whVal, if_pos hok]
  have HT : Hid (stepFree line [x0, x1, x2, x3, x4, x5, x6, x7] = [] ∧ stepVers clock line [x0, x1, x2, x3, x4, x5, x6, x7] = [(line, headBlk x0)]) := by simp [Hid, stepFree, stepVers, hk, hs]
  have HS : Hid (decide (x0 / 16000 ≤ clock - 2) = false) := hs
  have H := hide h
  clear hi hok hk h hs
  go_enter Tryz.func51, Tryz.ntmps51
  go_wp2_with fail
  refine (implWordHead_any x0 _).mono ?_
  rintro r w1 ⟨rfl, hb1⟩
  rw [unhide HV]
  have z1 := hb1.size
  have B1 := hide hb1
  clear hb1 q0
  go_wp2_with fail
  obtain ⟨W, hW, z2, hbW, hx, hy⟩ := boxes2 w1 [.int .i64 0, .int .i64 (x0 % 4), .int .i64 (x0 / 16 % 1000), .int .i64 (x0 / 4 % 4), .int .i64 (x0 / 16000)] [.int .i64 (x0 % 4), .int .i64 (x0 / 16 % 1000), .int .i64 (x0 / 4 % 4), .int .i64 (x0 / 16000), .int .i64 0, .bool false, .int .i64 0, .string ⟨#[]⟩, .int .i64 0, .slice none 0 0] 140 44
  rw [← hW]
  clear hW
  have BW := hide (below_step (unhide B1) (unhide hbW) z1)
  have HW := hide ((unhide H).below (unhide BW))
  refine (isSure_any p clock _ _ _ _ _ ((unhide HW).box.cell 0) hc0 hc1).mono ?_
  rintro r w2 ⟨rfl, hb2⟩
  rw [unhide HS]
  have z3 := hb2.size
  have B2 := hide (below_step (unhide BW) hb2 (by omega))
  have H2 := hide ((unhide HW).below hb2)
  have Y2 := hide ((unhide hy).below hb2)
  clear hb2 hbW hx hy BW HW B1
  go_wp2_with fail
  have y1 := (unhide H2).box.cell 1
  have f1 := (unhide H2).box.frozen 1
  have u0 := (unhide Y2).cell 0
  have u1 := (unhide Y2).cell 1
  have u2 := (unhide Y2).cell 2
  have u3 := (unhide Y2).cell 3
  have u4 := (unhide Y2).cell 4
  have u5 := (unhide Y2).cell 5
  have u6 := (unhide Y2).cell 6
  have u7 := (unhide Y2).cell 7
  have u8 := (unhide Y2).cell 8
  have u9 := (unhide Y2).cell 9
  simp at y1 u0 u1 u2 u3 u4 u5 u6 u7 u8 u9
  have pz := (unhide H2).box.lt
  have HD : Hid (IM w2.drew base p clock (.slice va L.length vc) fv L F) := (unhide H2).stay (Nat.le_refl _) (fun _ _ _ => rfl)
  have HA := hide ((unhide HD).below ((Below.refl _ w2.drew).alloc (Nat.le_refl _) (.cells #[.int .i64 line, .int .i64 (x0 % 4), .int .i64 (x0 / 16 % 1000), .int .i64 (x0 / 4 % 4), .int .i64 (x0 / 16000), .int .i64 0, .bool false, .int .i64 0, .string ⟨#[]⟩, .int .i64 0, .slice none 0 0] 46)))
  have RA : Hid (RowAt (w2.drew.alloc (.cells #[.int .i64 line, .int .i64 (x0 % 4), .int .i64 (x0 / 16 % 1000), .int .i64 (x0 / 4 % 4), .int .i64 (x0 / 16000), .int .i64 0, .bool false, .int .i64 0, .string ⟨#[]⟩, .int .i64 0, .slice none 0 0] 46)) (some ⟨w2.heap.size, 0, none⟩) (VerA.cells ⟨line, headBlk x0, none, 0⟩)) := rowAt_fresh w2.drew [.int .i64 line, .int .i64 (x0 % 4), .int .i64 (x0 / 16 % 1000), .int .i64 (x0 / 4 % 4), .int .i64 (x0 / 16000), .int .i64 0, .bool false, .int .i64 0, .string ⟨#[]⟩, .int .i64 0, .slice none 0 0] 46
  go_region_law (first | (refine step_append_xs _ rfl _ _ 26 rfl base 46 i0 _ 11 112 Tryz.underlying26 hii hz0 hz1 hz2 rfl (by decide) (by decide) (.slice va L.length vc) L.length (vflat L) rfl (unhide HA).vers.row _ 1 1 (VerA.cells ⟨line, headBlk x0, none, 0⟩) rfl rfl (unhide RA) (VerA.one _) (by omega) (unhide HA).bz ?_; intro v' w3 hown hgrow hloc; have X3 := (unhide HA).box.grown hgrow (fun e => by have := ((unhide HA).vers.row.lt p e).1; have := (unhide HA).pb; omega); have y3 := X3.cell 1; have f3 := X3.frozen 1; simp at y3; obtain ⟨a3, c3, e3, -⟩ := rowAt_own hown; subst e3; have HOW := hide hown; have HGR := hide hgrow; have HLO := hide hloc; clear hown hgrow hloc X3))
  all_goals
    clear y1 f1 u0 u1 u2 u3 u4 u5 u6 u7 u8 u9 y3 f3
    generalize hU : w3.setCell _ _ = U
    obtain ⟨IU, OU⟩ := (unhide HA).putVer (x := ⟨line, headBlk x0, none, 0⟩) (World.ownsRow_nil _ _ _ _) (fun q hq => by simp [VerA.nv, headBlk, Value.ownBlock] at hq) (unhide HGR) (unhide HOW) (unhide HLO) hU
    have TK : Took p base clock line L F [x0, x1, x2, x3, x4, x5, x6, x7] U := ⟨_, fv, L ++ [⟨line, headBlk x0, none, 0⟩], by rw [(unhide HT).1, List.append_nil]; exact unhide IU, by rw [(unhide HT).2, List.map_append]; rfl⟩
    have OT := Out.mine (((unhide B2).drew).alloc (by show w.heap.size ≤ w2.heap.size; omega) _) (unhide OU)
    go_wp2_with fail
    go_ret
    exact ⟨rfl, TK, OT⟩
set_option maxRecDepth 20000 in
set_option maxHeartbeats 4000000 in
theorem take_old (p base : Nat) (clock line : Int) (vv fv : Value) (L : List VerA) (F : List Int) (a : Option Addr) (c : Nat) (hc8 : 8 ≤ c) (x0 x1 x2 x3 x4 x5 x6 x7 : Int) (w : World) (h : IM w base p clock vv fv L F) (hi : IntsAt w a [x0, x1, x2, x3, x4, x5, x6, x7]) (hok : whOk x0 = true) (hk : x0 % 4 ≠ 0) (hs : sureB clock x0 = true) (hL : L.length ≤ 1000) (hc0 : 0 ≤ clock) (hc1 : clock ≤ 100000) :
    Calls Tryz.prog 51 #[.pointer (some ⟨p, 0, none⟩), .int .i64 line, .slice a 8 c] w fun e w' => e = .returned (.int .i64 (readCode [x0, x1, x2, x3, x4, x5, x6, x7])) ∧ (readCode [x0, x1, x2, x3, x4, x5, x6, x7] = 0 → Took p base clock line L F [x0, x1, x2, x3, x4, x5, x6, x7] w') ∧ Out (Mine p base) w w' := by
  obtain ⟨i0, hii, hz0, hz1, hz2⟩ := info_parts infoVer
  have HI := hide hi
  obtain ⟨b, o, rfl, hb, q0, -⟩ := at8 hi
  obtain ⟨va, vc, ev⟩ := h.vers.form
  subst ev
  have hkb : (x0 % 4 == 0) = false := by simpa using hk
  have HV : Hid (whVal x0 = .agg #[.int .i64 0, .int .i64 (x0 % 4), .int .i64 (x0 / 16 % 1000), .int .i64 (x0 / 4 % 4), .int .i64 (x0 / 16000)]) := by rw [Hid, whVal, if_pos hok]
  have HT : Hid (stepFree line [x0, x1, x2, x3, x4, x5, x6, x7] = [] ∧ stepVers clock line [x0, x1, x2, x3, x4, x5, x6, x7] = [(line, readBlk [x0, x1, x2, x3, x4, x5, x6, x7])]) := by simp [Hid, stepFree, stepVers, hk, hs]
  have HS : Hid (decide (x0 / 16000 ≤ clock - 2) = true) := hs
  have H := hide h
  clear hi hok hk h hs
  go_enter Tryz.func51, Tryz.ntmps51
  go_wp2_with fail
  refine (implWordHead_any x0 _).mono ?_
  rintro r w1 ⟨rfl, hb1⟩
  rw [unhide HV]
  have z1 := hb1.size
  have B1 := hide hb1
  clear hb1 q0
  go_wp2_with fail
  obtain ⟨W, hW, z2, hbW, hx, hy⟩ := boxes2 w1 [.int .i64 0, .int .i64 (x0 % 4), .int .i64 (x0 / 16 % 1000), .int .i64 (x0 / 4 % 4), .int .i64 (x0 / 16000)] [.int .i64 (x0 % 4), .int .i64 (x0 / 16 % 1000), .int .i64 (x0 / 4 % 4), .int .i64 (x0 / 16000), .int .i64 0, .bool false, .int .i64 0, .string ⟨#[]⟩, .int .i64 0, .slice none 0 0] 140 44
  rw [← hW]
  clear hW
  have BW := hide (below_step (unhide B1) (unhide hbW) z1)
  have HW := hide ((unhide H).below (unhide BW))
  refine (isSure_any p clock _ _ _ _ _ ((unhide HW).box.cell 0) hc0 hc1).mono ?_
  rintro r w2 ⟨rfl, hb2⟩
  rw [unhide HS]
  have z3 := hb2.size
  have B2 := hide (below_step (unhide BW) hb2 (by omega))
  have H2 := hide ((unhide HW).below hb2)
  have Y2 := hide ((unhide hy).below hb2)
  clear hb2 hbW hx hy BW HW B1
  go_wp2_with fail
  refine (implReadBlock_any (some ⟨b, o, none⟩) c [x0, x1, x2, x3, x4, x5, x6, x7] hc8 (by simp) _ ((unhide HI).below (unhide B2))).mono ?_
  rintro r w3 ⟨⟨nv, rfl, hO⟩, hb3⟩
  generalize hB : readBlk [x0, x1, x2, x3, x4, x5, x6, x7] = B at *
  generalize hcd : readCode [x0, x1, x2, x3, x4, x5, x6, x7] = cd at *
  have HBQ := hide hB
  have HCD := hide hcd
  clear hB hcd
  obtain ⟨na, nc, en, -⟩ := intsAt_own hO
  subst en
  have z4 := hb3.size
  have NL := hide (fun q hq => hO.lt q hq)
  have B3 := hide (below_step (unhide B2) hb3 (by omega))
  have H3 := hide ((unhide H2).below hb3)
  have Y3 := hide ((unhide Y2).below hb3)
  have N3 := hide hO
  have hag : ∀ v, (#[Value.int .i64 cd] ++ blkV B v) = #[.int .i64 cd, .int .i64 B.k, .int .i64 B.u, .int .i64 B.i, .int .i64 B.e, .int .i64 B.nu, .bool B.nd, .int .i64 B.np, .string B.nn, .int .i64 B.ns, v] := fun v => rfl
  rw [hag]
  clear hb3 H2 Y2 B2 hO hag
  by_cases hcz : cd = 0
  case neg =>
    have hczb : (cd != 0) = true := by simpa using hcz
    have HZ := hide hcz
    clear hcz
    go_wp2_with fail
    go_ret
    exact ⟨ret_int (unhide HCD).symm, fun e => absurd ((unhide HCD).symm.trans e) (unhide HZ), Out.ofBelow ((unhide B3).alloc (unhide B3).size _)⟩
  subst hcz
  obtain ⟨W4, hW4, z5, hb4, hx4⟩ := boxes1 w3 [.int .i64 0, .int .i64 B.k, .int .i64 B.u, .int .i64 B.i, .int .i64 B.e, .int .i64 B.nu, .bool B.nd, .int .i64 B.np, .string B.nn, .int .i64 B.ns, .slice na B.nl.length nc] 143
  have B4 := hide (below_step (unhide B3) (unhide hb4) (by omega))
  have H4 := hide ((unhide H3).below (unhide hb4))
  have Y4 := hide ((unhide Y3).below (unhide hb4))
  have N4 := hide (own_below (unhide N3) (unhide hb4))
  have X4 := hx4
  clear hb4 hx4 B3 H3 Y3 N3
  rw [hW4] at X4 Y4 H4 N4
  have pz4 := (unhide H4).box.lt
  go_wp2_with (first
    | (refine wpList_load_part rfl 44 (.tmp 45) rfl w3.heap.size 1 rfl 143 _ [.int .i64 B.k, .int .i64 B.u, .int .i64 B.i, .int .i64 B.e, .int .i64 B.nu, .bool B.nd, .int .i64 B.np, .string B.nn, .int .i64 B.ns, .slice na B.nl.length nc] (unhide X4) rfl _ Tryz.underlying44 rfl (by kernel_rfl) ?_)
    | (refine wpList_store_part rfl 44 (.tmp 8) (.tmp 46) rfl (w1.heap.size + 1) 0 #[.int .i64 B.k, .int .i64 B.u, .int .i64 B.i, .int .i64 B.e, .int .i64 B.nu, .bool B.nd, .int .i64 B.np, .string B.nn, .int .i64 B.ns, .slice na B.nl.length nc] rfl rfl 44 _ (unhide Y4) (by kernel_rfl) (by simp) (by simp [Value.oneCell']) ?_; intro w5 hX5 hO5))
  have z6 := (unhide hO5).size
  have X5 : Hid (Box w5 (w1.heap.size + 1) [.int .i64 B.k, .int .i64 B.u, .int .i64 B.i, .int .i64 B.e, .int .i64 B.nu, .bool B.nd, .int .i64 B.np, .string B.nn, .int .i64 B.ns, .slice na B.nl.length nc] 44) := hX5
  have hIB : ∀ q, IB p (.slice va L.length vc) fv L q → q < w.heap.size := fun q hq => ((unhide H).lt hq).2
  have H5 := hide ((unhide H4).out (unhide hO5) (fun q hq e => by have := hIB q hq; omega))
  have N5 : Hid (w5.ownsRow base 2 1 (.slice na B.nl.length nc) B.nl.length (nums B.nl)) := own_base ((unhide hO5).own (unhide N4) (fun q hq e => by have := (unhide NL q hq).1; omega)) (fun q hq => by have := (unhide NL q hq).1; have := (unhide H).bz; omega)
  have z7 : w.heap.size ≤ w5.heap.size := by have h1 := z6; rw [← hW4] at h1; omega
  have B5 : Hid (Below w.heap.size w w5) := by
    have h1 := unhide hO5
    rw [← hW4] at h1
    exact h1.below (unhide B4) (Nat.le_refl _) (fun q hq e => by omega)
  have HIB := hide hIB
  clear hX5 hO5 H4 N4 Y4 X4 hIB hW4 B4
  have y1 := (unhide H5).box.cell 1
  have f1 := (unhide H5).box.frozen 1
  have u0 := (unhide X5).cell 0
  have u1 := (unhide X5).cell 1
  have u2 := (unhide X5).cell 2
  have u3 := (unhide X5).cell 3
  have u4 := (unhide X5).cell 4
  have u5 := (unhide X5).cell 5
  have u6 := (unhide X5).cell 6
  have u7 := (unhide X5).cell 7
  have u8 := (unhide X5).cell 8
  have u9 := (unhide X5).cell 9
  simp at y1 u0 u1 u2 u3 u4 u5 u6 u7 u8 u9
  have pz := (unhide H5).box.lt
  have HD : Hid (IM w5.drew base p clock (.slice va L.length vc) fv L F) := (unhide H5).stay (Nat.le_refl _) (fun _ _ _ => rfl)
  have HA := hide ((unhide HD).below ((Below.refl _ w5.drew).alloc (Nat.le_refl _) (.cells #[.int .i64 line, .int .i64 B.k, .int .i64 B.u, .int .i64 B.i, .int .i64 B.e, .int .i64 B.nu, .bool B.nd, .int .i64 B.np, .string B.nn, .int .i64 B.ns, .slice na B.nl.length nc] 46)))
  have NA : Hid ((w5.drew.alloc (.cells #[.int .i64 line, .int .i64 B.k, .int .i64 B.u, .int .i64 B.i, .int .i64 B.e, .int .i64 B.nu, .bool B.nd, .int .i64 B.np, .string B.nn, .int .i64 B.ns, .slice na B.nl.length nc] 46)).ownsRow base 2 1 (VerA.nv ⟨line, B, na, nc⟩) B.nl.length (nums B.nl)) := own_below (unhide N5) (((Below.refl _ w5).drew).alloc (Nat.le_refl _) _)
  have RA : Hid (RowAt (w5.drew.alloc (.cells #[.int .i64 line, .int .i64 B.k, .int .i64 B.u, .int .i64 B.i, .int .i64 B.e, .int .i64 B.nu, .bool B.nd, .int .i64 B.np, .string B.nn, .int .i64 B.ns, .slice na B.nl.length nc] 46)) (some ⟨w5.heap.size, 0, none⟩) (VerA.cells ⟨line, B, na, nc⟩)) := rowAt_fresh w5.drew [.int .i64 line, .int .i64 B.k, .int .i64 B.u, .int .i64 B.i, .int .i64 B.e, .int .i64 B.nu, .bool B.nd, .int .i64 B.np, .string B.nn, .int .i64 B.ns, .slice na B.nl.length nc] 46
  go_region_law (first | (refine step_append_xs _ rfl _ _ 26 rfl base 46 i0 _ 11 112 Tryz.underlying26 hii hz0 hz1 hz2 rfl (by decide) (by decide) (.slice va L.length vc) L.length (vflat L) rfl (unhide HA).vers.row _ 1 1 (VerA.cells ⟨line, B, na, nc⟩) rfl rfl (unhide RA) (VerA.one _) (by omega) (unhide HA).bz ?_; intro v' w6 hown hgrow hloc; have X3 := (unhide HA).box.grown hgrow (fun e => by have := ((unhide HA).vers.row.lt p e).1; have := (unhide HA).pb; omega); have y3 := X3.cell 1; have f3 := X3.frozen 1; simp at y3; obtain ⟨a3, c3, e3, -⟩ := rowAt_own hown; subst e3; have HOW := hide hown; have HGR := hide hgrow; have HLO := hide hloc; clear hown hgrow hloc X3))
  all_goals
    clear y1 f1 u0 u1 u2 u3 u4 u5 u6 u7 u8 u9 y3 f3
    generalize hU : w6.setCell _ _ = U
    obtain ⟨IU, OU⟩ := (unhide HA).putVer (x := ⟨line, B, na, nc⟩) (unhide NA) (fun q hq e => by have := (unhide NL q hq).1; have := unhide HIB q e; omega) (unhide HGR) (unhide HOW) (unhide HLO) hU
    have TK : Took p base clock line L F [x0, x1, x2, x3, x4, x5, x6, x7] U := ⟨_, fv, L ++ [⟨line, B, na, nc⟩], by rw [(unhide HT).1, List.append_nil]; exact unhide IU, by rw [(unhide HT).2, List.map_append]; rfl⟩
    have OT := Out.mine (((unhide B5).drew).alloc (by show w.heap.size ≤ w5.heap.size; omega) _) (unhide OU)
    go_wp2_with fail
    go_ret
    exact ⟨ret_int (unhide HCD).symm, fun _ => TK, OT⟩
end Go.Proofs.YtiopofemelninaaGreat
