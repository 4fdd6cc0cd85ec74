/-
  What impl.readWords answers.
-/
import Derived.Test.YtiopofemelninaaDoorSplitSeqWalk
import Derived.Test.YtiopofemelninaaDoorRangeOwn
import Derived.Test.YtiopofemelninaaDoorWordsMath
import Derived.Stop.RegionWithIn
import Derived.Deep.CutRange
namespace Go.Proofs.YtiopofemelninaaDoor
open Go.RowKit Go.Shelf
attribute [local go_sem] Oper.semAt_some
set_option linter.unusedVariables false

theorem clone_any (s : ByteArray) (w : World) (hs : s.size ≤ 1048576) : Calls Tryd.prog 40 #[.string s] w fun e w' => e = .returned (.string s) ∧ Below w.heap.size w w' := by
  go_enter Tryd.func40, Tryd.ntmps40
  go_wp2_with fail
  refine (Tryd.stringslite_Clone s _ (by omega)).mono ?_
  rintro e w1 ⟨rfl, hb⟩
  have HB := hide hb
  clear hb
  go_wp2_with fail
  go_ret
  exact ⟨rfl, unhide HB⟩
theorem splitSeq_any (s : ByteArray) (w : World) : Calls Tryd.prog 39 #[.string s, .string ⟨#[32]⟩] w fun e w' => e = .returned (.func (.func 64) #[] #[.pointer (some ⟨w.heap.size + 1, 0, none⟩), .pointer (some ⟨w.heap.size, 0, none⟩), .pointer (some ⟨w.heap.size + 1 + 1, 0, none⟩)]) ∧ w' = ((w.alloc (.cells #[.string s] 9)).alloc (.cells #[.string ⟨#[32]⟩] 9)).alloc (.cells #[.int .i64 0] 3) := by
  go_enter Tryd.func39, Tryd.ntmps39
  go_wp2_with (go_at_call 52; go_in)
  go_ret
  exact ⟨rfl, rfl⟩
def valsB (pre : List BS) : List ByteArray := pre.map (·.1)
theorem valsB_snoc (pre : List BS) (x : BS) : valsB (pre ++ [x]) = valsB pre ++ [x.1] := by simp [valsB]
theorem valsB_len (pre : List BS) : (valsB pre).length = pre.length := by simp [valsB]
theorem full_snoc (ps : List ByteArray) (x : ByteArray) : full (ps ++ [x]) = full ps ++ (if x.data.toList = [] then [] else [x]) := by
  have h := full_succ (ps := ps ++ [x]) (k := ps.length) (by simp)
  rw [List.take_of_length_le (by simp)] at h
  simpa using h
/-- What lies there between two rounds. -/
structure RW (w W0 : World) (pre : List BS) (W : World) : Prop where
  row : ∃ (ra : Option Addr) (rc : Nat), Box W w.heap.size [.slice ra (full (valsB pre)).length rc] 22 ∧ W.ownsRow W0.heap.size 9 1 (.slice ra (full (valsB pre)).length rc) (full (valsB pre)).length ((full (valsB pre)).map Value.string)
  bel : Below w.heap.size w W
  sz : W0.heap.size ≤ W.heap.size
set_option hygiene false in
macro "w_read" : tactic => `(tactic| (go_simp; refine hK _ _ ?_; clear hK K))
set_option hygiene false in
macro "w_one " n:num : tactic => `(tactic| (refine wpAnyIn_ready (rs := [$n]) (by kernel_rfl) (by simp) ?_; refine AllReadyIn.cons rfl (fun K hK => ?_) AllReadyIn.nil))
set_option hygiene false in
macro "w_call" : tactic => `(tactic| (go_simp; refine ⟨trivial, ?_⟩; refine (CallsIn.inRound l (callsIn_wide.2 (clone_any x.1 _ hxs))).mono ?_; rintro e w5 ⟨rfl, hb5⟩; gi_wp2; have HB5 : Below W.heap.size W w5 := ⟨hb5.os, hb5.tape, hb5.output, hb5.size, hb5.block⟩; clear hb5; have cb5 := (hb.below HB5).cell 0; simp only [List.getElem?_cons_zero] at cb5))
set_option hygiene false in
macro "w_build" : tactic => `(tactic| (go_simp; refine hK _ _ ?_; clear hK K; have HB6 : Below W.heap.size W (w5.alloc (.cells #[.string x.1] 9)) := HB5.alloc HB5.size _; have cb6 := (hb.below HB6).cell 0; simp only [List.getElem?_cons_zero] at cb6))
set_option hygiene false in
macro "w_make" : tactic => `(tactic| (w_one 3; w_build))
set_option hygiene false in
macro "w_tail" : tactic => `(tactic| (
  w_one 4
  refine Eq.mpr (if_pos (c := Region.wanted _ _ = true) ?_) ?_
  · rfl
  unfold Oper.wpIn
  refine ⟨by simp [Oper.about, resolve, Target.leads, Sem.run_pure], ?_⟩
  rw [Oper.semAt_plain _ _ _ (fun c => by simp)]
  obtain ⟨v7, w7, hr7, o7, g7, h7⟩ := run_append_xs (P := Tryd.prog) (w5.alloc (.cells #[.string x.1] 9)) W0.heap.size 22 22 9 i0 _ 1 16 Tryd.underlying22 ii iz0 iz1 iz2 rfl (by decide) (by decide) (.slice ra (full (valsB pre)).length rc) _ _ (own_below ho HB6) (some ⟨w5.heap.size, 0, none⟩) 1 1 [.string x.1] rfl (rowAt_box (box_new w5 [.string x.1] 9)) (by simp [Value.oneCell']) (by omega) (by have := HB6.size; omega)
  have hex : ∀ {o : Oper} {ρ : Operand → Value}, o.op = Op.call { callee := .builtin .append, args := #[.tmp 16, .tmp 19], argTypes := #[22, 22] } → o.type = 22 → ρ (.tmp 16) = .slice ra (full (valsB pre)).length rc → ρ (.tmp 19) = .slice (some ⟨w5.heap.size, 0, none⟩) 1 1 → (execOp ρ o).run Tryd.prog (w5.alloc (.cells #[.string x.1] 9)) = .ok (.value v7) w7 := (by
    intro o ρ h1 h2 h3 h4
    simp [execOp, h1, h2, h3, h4, resolve, invoke, builtin, hr7, Result.andThen])
  rw [hex rfl rfl rfl rfl, Oper.uponIn_value]
  refine hK _ _ ?_
  clear hK K hex hr7
  obtain ⟨k1, k2, ⟨k3, k4⟩, k5, k6⟩ := word_end (by omega) hsz (Nat.le_refl _) hb ho hbel HB6 o7 g7 h7
  have Y7 := (hb.below HB6).grown g7 (fun e => by have := (ho.lt _ e).1; omega)
  have cb7 := Y7.cell 0
  have fb7 := Y7.frozen 0
  simp only [List.getElem?_cons_zero] at cb7
  obtain ⟨a7, c7, e7, -⟩ := rowAt_own o7
  subst e7
  w_one 5
  w_read
  refine wpAnyIn_done (by kernel_rfl) ?_ _
  refine ⟨k1, k2, ⟨a7, c7, ?_, ?_⟩, k5, k6⟩
  · rw [hF, List.length_append]; exact k3
  · rw [hF, List.length_append, List.map_append]; exact k4))
theorem word_end {bm B : Nat} {w W w6 w7 : World} {v v' y : Value} {n : Nat} {xs : List Value} (hbm : bm < B) (hBW : B ≤ W.heap.size) (hw : w.heap.size ≤ bm) (hb : Box W bm [v] 22) (ho : W.ownsRow B 9 1 v n xs) (hbel : Below w.heap.size w W) (hB6 : Below W.heap.size W w6)
    (o7 : w7.ownsRow B 9 1 v' (n + 1) (xs ++ [y])) (g7 : w6.grownBy w7 v.ownBlock) (h7 : v'.ownBlock = v.ownBlock ∨ v'.ownBlock = some w6.heap.size) :
    KeepsFrom B W (w7.setCell ⟨bm, 0, none⟩ v') ∧ KpW bm B W (w7.setCell ⟨bm, 0, none⟩ v') ∧ (Box (w7.setCell ⟨bm, 0, none⟩ v') bm [v'] 22 ∧ (w7.setCell ⟨bm, 0, none⟩ v').ownsRow B 9 1 v' (n + 1) (xs ++ [y])) ∧ Below w.heap.size w (w7.setCell ⟨bm, 0, none⟩ v') ∧ B ≤ (w7.setCell ⟨bm, 0, none⟩ v').heap.size := by
  have hv : ∀ q, v.ownBlock = some q → B ≤ q ∧ ∀ o : Obj, W.heap[q]? = some o → o.isCells = true := fun q hq => by
    rcases ho.2 with ⟨h3, _⟩ | ⟨g, cap, cur, h3, hg, hh, _⟩
    · rw [h3] at hq; cases hq
    · rw [h3] at hq
      cases hq
      refine ⟨hg, fun o h => ?_⟩
      rw [hh] at h
      cases h
      rfl
  have hsz6 := hB6.size
  have hsz7 := g7.size
  have hblk : ∀ q, q < W.heap.size → q ≠ bm → v.ownBlock ≠ some q → (w7.setCell ⟨bm, 0, none⟩ v').heap[q]? = W.heap[q]? := fun q hq hn hne => by
    rw [Below.heap_setCell w7 _ _ q hn, g7.block q (by omega) (fun e => hne e.symm), hB6.block q hq]
  have b7 : Box w7 bm [v] 22 := (hb.below hB6).grown g7 (fun e => by have := (hv _ e).1; omega)
  refine ⟨⟨by rw [World.size_setCell]; omega, fun k o hk hko hc => ?_⟩, fun q hq hn => hblk q (by omega) hn (fun e => by have := (hv _ e).1; omega), ⟨b7.set 0 v', own_stay o7 (fun q hq hl => Below.heap_setCell w7 _ _ q (by have := (o7.lt q hq).1; show q ≠ bm; omega))⟩, ?_, by rw [World.size_setCell]; omega⟩
  · rw [hblk k (Array.getElem?_eq_some_iff.1 hko).1 (by omega) (fun e => by rw [(hv _ e).2 _ hko] at hc; cases hc)]
    exact hko
  · have h1 : Below w.heap.size w w6 := hbel.trans ⟨hB6.os, hB6.tape, hB6.output, hB6.size, fun k hk => hB6.block k (by omega)⟩
    exact (h1.grown g7 (by omega) (fun k e => by have := (hv _ e).1; omega)).setCell (by show w.heap.size ≤ bm; omega) _
set_option maxRecDepth 100000 in
set_option maxHeartbeats 4000000 in
theorem readWords_short (s : ByteArray) (w : World) (hs : s.size ≤ 3000) :
    Calls Tryd.prog 21 #[.string s] w fun e w' => (∃ (a : Option Addr) (c : Nat) (qs : List ByteArray), e = .returned (.tuple #[.slice a qs.length c, .nilIface]) ∧ qs.map (·.data.toList) = wordsL s.data.toList ∧ w'.ownsRow w.heap.size 9 1 (.slice a qs.length c) qs.length (qs.map Value.string)) ∧ Below w.heap.size w w' := by
  have hs' : ¬ (3000 : Int) < s.size := by omega
  refine (callsIn_wide (n := 3)).1 ?_
  refine callsIn_of_wp_marks Tryd.func21 rfl trivial ?_ rfl
  simp only [Tryd.ntmps21, List.size_toArray, List.length_cons, List.length_nil, Nat.reduceAdd, Nat.reduceSub, Array.replicate_succ, Array.replicate_zero, List.push_toArray, List.append_toArray, List.nil_append, List.cons_append]
  gi_wp2
  refine ⟨trivial, ?_⟩
  refine (callsIn_wide.2 (splitSeq_any s _)).mono ?_
  rintro e w' ⟨rfl, rfl⟩
  simp only [World.size_alloc]
  obtain ⟨W0, hW0, hz0, HB0, HX0, HS0, HP0, HV0⟩ := boxes4 w [.slice none 0 0] [.string s] [.string ⟨#[32]⟩] [.int .i64 0] 22 9 9 3
  gi_wp2
  rw [show (((w.alloc (.cells #[.slice none 0 0] 22)).alloc (.cells #[.string s] 9)).alloc (.cells #[.string ⟨#[32]⟩] 9)).alloc (.cells #[.int .i64 0] 3) = W0 from hW0.symm]
  clear hW0
  refine range_own (α := BS) (encs := fun x => #[.string x.1]) (Kp := KpW w.heap.size W0.heap.size) (St := fun A B => ∃ r v, Box A (w.heap.size + 1) [.string r] 9 ∧ B = A.setCell ⟨w.heap.size + 1, 0, none⟩ (.string v)) (S := fun ys => ys.map (fun y => y.1.data.toList) = Cut32.cutL s.data.toList) (N := 3001) rfl (by decide) (gf := 64) (lb := #[.pointer (some ⟨w.heap.size + 1 + 1, 0, none⟩), .pointer (some ⟨w.heap.size + 1, 0, none⟩), .pointer (some ⟨w.heap.size + 1 + 1 + 1, 0, none⟩)]) rfl trivial (enters_of Tryd.func64 (by kernel_rfl) rfl)
    ?seq ?st KpW.trans ?kb (fun _ => rfl) (RW w W0) ?own ?owns ?start (fun x => { tmps := #[.string s, undef, .slice none 0 0, .nilIface, .pointer (some ⟨w.heap.size, 0, none⟩), .string x.1, .string s, .int .i64 s.size, .bool false, undef, undef, .string s, .func (.func 64) #[] #[.pointer (some ⟨w.heap.size + 1 + 1, 0, none⟩), .pointer (some ⟨w.heap.size + 1, 0, none⟩), .pointer (some ⟨w.heap.size + 1 + 1 + 1, 0, none⟩)], .string x.1, undef, undef, undef, undef, undef, undef, undef, undef], defers := [] }) ?assign ?body ?done
  case seq =>
    intro l J W hW hJ hY h0
    exact split1_in 2 (by decide) l (w.heap.size + 1 + 1) (w.heap.size + 1) (w.heap.size + 1 + 1 + 1) W0.heap.size w.heap.size (by omega) (by omega) (by omega) (by omega) (by omega) (by omega) (by omega) (by omega) ⟨s, hs⟩ J (fun pre A r v hj hb => hJ pre _ _ hj ⟨r, v, hb, rfl⟩) hY W ((unhide HP0).below hW) ((unhide HS0).below hW) ((unhide HV0).below hW) h0
  case st =>
    rintro A B q o ⟨r, v, hb, rfl⟩ hq hc
    refine (Below.heap_setCell A _ _ q (fun e => ?_)).trans hq
    rw [show q = w.heap.size + 1 from e, show A.heap[w.heap.size + 1]? = _ from hb] at hq
    cases hq
    cases hc
  case kb =>
    intro W l o o' hl ho _ _ q hq hqn
    exact (grownBy_putObj' W l o').block q (by have := (Array.getElem?_eq_some_iff.1 ho).1; omega) (fun e => by injection e; omega)
  case own =>
    rintro pre A B row ⟨⟨ra, rc, hb, ho⟩, hbel, hsz⟩ hg hr
    refine ⟨⟨ra, rc, hb.grown hg (fun e => by have := (hr _ e).1; omega), own_stay ho (fun q hq hlt => hg.block q hlt (fun e => ?_))⟩, hbel.grown hg hbel.size (fun k e => by have := (hr k e).1; omega), by have := hg.size; omega⟩
    obtain ⟨_, o, h1, h2⟩ := hr q e.symm
    rcases ho.2 with ⟨h3, _⟩ | ⟨g, cap, cur, h3, _, hh, _⟩
    · rw [h3] at hq; cases hq
    · rw [h3] at hq
      cases hq
      rw [hh] at h1
      cases h1
      cases h2
  case owns =>
    rintro pre A B ⟨⟨ra, rc, hb, ho⟩, hbel, hsz⟩ ⟨r, v, hx, rfl⟩
    exact ⟨⟨ra, rc, hb.set_other (p := ⟨w.heap.size + 1, 0, none⟩) (by show w.heap.size ≠ w.heap.size + 1; omega) _, own_stay ho (fun q hq hlt => Below.heap_setCell A _ _ q (by have := (ho.lt q hq).1; show q ≠ w.heap.size + 1; omega))⟩, hbel.setCell (by show w.heap.size ≤ w.heap.size + 1; omega) _, by simpa using hsz⟩
  case start => exact ⟨⟨none, 0, unhide HX0, World.ownsRow_nil _ _ _ _⟩, unhide HB0, Nat.le_refl _⟩
  case assign =>
    intro l x W K hK
    gi_wp2
    exact hK
  case body =>
    rintro l pre x W ⟨⟨ra, rc, hb, ho⟩, hbel, hsz⟩ hlt
    have hF := full_snoc (valsB pre) x.1
    have hKl : (full (valsB pre)).length ≤ 3001 := by
      have h1 := full_len (valsB pre)
      rw [valsB_len] at h1
      omega
    by_cases hx : x.1.data.toList = []
    · have hpe : (x.1.toList == []) = true := by rw [toList_data, hx]; rfl
      rw [if_pos hx, List.append_nil, ← valsB_snoc] at hF
      clear hx
      gi_wp2
      exact ⟨KeepsFrom.refl _ _, KpW.refl _, ⟨ra, rc, by rw [hF]; exact hb, by rw [hF]; exact ho⟩, hbel, hsz⟩
    · have hpe : (x.1.toList == []) = false := by rw [toList_data, beq_eq_false_iff_ne]; exact hx
      rw [if_neg hx, ← valsB_snoc] at hF
      clear hx
      gi_wp2
      obtain ⟨i0, ii, iz0, iz1, iz2⟩ := info_parts Cut32.infoStr
      have cb := hb.cell 0
      simp only [List.getElem?_cons_zero] at cb
      have hmv : ¬ (x.1.size : Int) < 0 := by omega
      have hxs : x.1.size ≤ 1048576 := by have := x.2; omega
      refine wpIn_region_any (by kernel_rfl) ?_
      change wpAnyIn _ _ _ _ _ _ _ _ _ (World.drew _)
      refine wpAnyIn_ready (rs := [0, 1]) (by kernel_rfl) (by simp) ?_
      refine AllReadyIn.cons rfl (fun K hK => ?_) (AllReadyIn.cons rfl (fun K hK => ?_) AllReadyIn.nil)
      · w_read; w_one 1; w_read; w_one 2; w_call; w_make; w_tail
      · w_read
        refine wpAnyIn_ready (rs := [0, 2]) (by kernel_rfl) (by simp) ?_
        refine AllReadyIn.cons rfl (fun K hK => ?_) (AllReadyIn.cons rfl (fun K hK => ?_) AllReadyIn.nil)
        · w_read; w_one 2; w_call; w_make; w_tail
        · w_call
          refine wpAnyIn_ready (rs := [0, 3]) (by kernel_rfl) (by simp) ?_
          refine AllReadyIn.cons rfl (fun K hK => ?_) (AllReadyIn.cons rfl (fun K hK => ?_) AllReadyIn.nil)
          · w_read; w_make; w_tail
          · w_build; w_one 0; w_read; w_tail
  case done =>
    rintro D ys W hD hys ⟨⟨ra, rc, hb, ho⟩, hbel, hsz⟩ hK
    have c0 := hb.cell 0
    simp only [List.getElem?_cons_zero] at c0
    have hq : (full (valsB ys)).map (·.data.toList) = wordsL s.data.toList := by
      rw [full_map, wordsL, ← hys, valsB, List.map_map]
      rfl
    have bK := belowK_b (w := w) (Nat.le_refl _) W D _ (.deferred none) (by omega) hK rfl rfl
    gi_wp2
    refine ⟨by simp, .inl ⟨_, _, rfl, run_takeDeferred hK, ?_⟩⟩
    refine ⟨.tuple #[.slice ra (full (valsB ys)).length rc, .nilIface], by simp [results, Tryd.results21, go_sem], ⟨ra, rc, full (valsB ys), rfl, hq, own_base (own_stay ho (fun q hq hlt => (grownBy_putObj' W D _).block q hlt (fun e => ?_))) (fun q hq => Nat.le_trans (by omega) (ho.lt q hq).1)⟩, hbel.trans bK⟩
    injection e with e
    subst e
    rcases ho.2 with ⟨h3, _⟩ | ⟨g, cap, cur, h3, _, hh, _⟩
    · rw [h3] at hq; cases hq
    · rw [h3] at hq
      cases hq
      rw [hh] at hK
      cases hK
end Go.Proofs.YtiopofemelninaaDoor
