/-
  The laws' draws of devices: acts.
-/
import Derived.Test.YtdnfadbkpajloaaDrawTo
import Derived.Test.YtdnfadbkpajloaaSActsWalk
import Derived.Test.YtdnfadbkpajloaaNewDevWalk
namespace Go.Proofs.Ytdnfadbkpajloaa
open Go.RowKit
set_option linter.unusedVariables false

set_option maxHeartbeats 1000000 in
theorem l2Value_any (s : Nat) (a : Option Addr) (n c P : Nat) (w : World) (h : SrcTo w s a n c P) (hp : P ≤ 1000) :
    Calls Try.prog 216 #[.pointer (some ⟨s, 0, none⟩)] w fun e w' => (∃ v : Int, e = .returned (.int .i64 v) ∧ 0 ≤ v ∧ v ≤ 999999999999999) ∧ SrcTo w' s a n c (P + 2) ∧ Out (fun q => q = s) w w' := by
  have H := hide h
  clear h
  go_enter Try.func216, Try.ntmps216
  go_wp2_with fail
  refine (nextTo s a n c P 60000 _ (unhide H) (by omega) (by omega) (by omega)).mono ?_
  rintro r w1 ⟨⟨x, rfl, hx0, hx1⟩, hs1, ho1⟩
  have H1 := hide hs1
  have O1 := hide ho1
  clear hs1 ho1 H
  go_wp2_with fail
  refine (pickTo s a n c (P + 1) (fun v => 0 ≤ v ∧ v ≤ 999999999999999) _ _ 5 w1 (unhide H1) (by omega) rfl (by omega) (by omega) (by simp; omega)).mono ?_
  rintro r w2 ⟨⟨v, hv, rfl⟩, hs2, ho2⟩
  have H2 := hide hs2
  have O2 := hide ((unhide O1).trans ho2 (fun _ _ e => e))
  have HV := hide hv
  clear hs2 ho2 hv H1 O1
  go_wp2_with fail
  go_ret
  exact ⟨⟨v, rfl, (unhide HV).1, (unhide HV).2⟩, unhide H2, unhide O2⟩
set_option maxHeartbeats 2000000 in
theorem l2DrawAct_any (s : Nat) (a : Option Addr) (n c P : Nat) (nw : Nat) (w : World) (h : SrcTo w s a n c P) (hp : P ≤ 900) (h8 : 8 ≤ nw) (hnw : nw ≤ 1000) :
    Calls Try.prog 191 #[.pointer (some ⟨s, 0, none⟩), .int .i64 (nw : Int)] w fun e w' => (∃ k x v : Int, e = .returned (.agg #[.int .i64 k, .int .i64 x, .int .i64 v])) ∧ SrcTo w' s a n c (P + 4) ∧ Out (fun q => q = s) w w' := by
  have htd : (nw : Int).tdiv 8 = (nw : Int) / 8 := Int.tdiv_eq_ediv_of_nonneg (by omega)
  have hdv : -9223372036854775808 ≤ (nw : Int) / 8 ∧ (nw : Int) / 8 ≤ 9223372036854775807 := by omega
  have H := hide h
  have hsz := h.lt
  clear h
  go_enter Try.func191, Try.ntmps191
  go_wp2_with fail
  obtain ⟨W, hW, z1, hb, hx⟩ := boxes1 w [.int .i64 0, .int .i64 0, .int .i64 0] 250
  rw [← hW]
  clear hW
  refine (nextTo s a n c P 5 _ ((unhide H).below (unhide hb)) (by omega) (by omega) (by omega)).mono ?_
  rintro r w1 ⟨⟨x, rfl, hx0, hx1⟩, hs1, ho1⟩
  have z2 := ho1.size
  have H1 := hide hs1
  have O1 := hide ((Out.ofBelow (F := fun q => q = s) (unhide hb)).trans ho1 (fun _ _ e => e))
  have X1 := hide ((unhide hx).out ho1 (fun e => by omega))
  clear hs1 ho1 H hb hx
  by_cases hk : x ≤ 2
  · have hc : (x == 0) = true ∨ (x == 0) = false ∧ (x == 1) = true ∨ (x == 0) = false ∧ (x == 1) = false ∧ (x == 2) = true := by
      rcases (show x = 0 ∨ x = 1 ∨ x = 2 by omega) with rfl | rfl | rfl <;> simp
    have key : ∀ (Q : Exit → Act → World → Prop), True := fun _ => trivial
    clear key
    rcases hc with b0 | ⟨b0, b1⟩ | ⟨b0, b1, b2⟩
    all_goals
      clear hk hx0 hx1
      go_wp2_with fail
      refine (nextTo s a n c (P + 1) (nw : Int) _ (unhide H1) (by omega) (by omega) (by omega)).mono ?_
      rintro r w2 ⟨⟨y, rfl, hy0, hy1⟩, hs2, ho2⟩
      have z3 := ho2.size
      have H2 := hide hs2
      have O2 := hide ((unhide O1).trans ho2 (fun _ _ e => e))
      have X2 := hide ((unhide X1).out ho2 (fun e => by omega))
      clear hs2 ho2 H1 O1 X1
      go_wp2_with fail
      refine (l2Value_any s a n c (P + 2) _ (unhide H2) (by omega)).mono ?_
      rintro r w3 ⟨⟨v, rfl, hv0, hv1⟩, hs3, ho3⟩
      have H3 := hide hs3
      have O3 := hide ((unhide O2).trans ho3 (fun _ _ e => e))
      have X3 := hide ((unhide X2).out ho3 (fun e => by omega))
      clear hs3 ho3 H2 O2 X2
      have y0 := (unhide X3).cell 0
      have y1 := (unhide X3).cell 1
      have y2 := (unhide X3).cell 2
      have f0 := (unhide X3).frozen 0
      have f1 := (unhide X3).frozen 1
      have f2 := (unhide X3).frozen 2
      simp at y0 y1 y2
      go_wp2_with fail
      clear y0 y1 y2 f0 f1 f2
      generalize hU : ((w3.setCell _ _).setCell _ _).setCell _ _ = U
      obtain ⟨XU, OU⟩ := store3' (unhide X3) hU
      have t0 := (unhide XU).cell 0
      have t1 := (unhide XU).cell 1
      have t2 := (unhide XU).cell 2
      simp at t0 t1 t2
      have OO := (unhide O3).trans (unhide OU) (fun q hq e => by omega)
      have HH := (unhide H3).above (unhide OU) (fun q e => by omega)
      refine bodyPost_ret (v := .agg #[.int .i64 1, .int .i64 y, .int .i64 v]) (by simp [results, Try.results191, go_sem, t0, t1, t2]) rfl ⟨⟨_, _, _, rfl⟩, HH.more (by omega), OO⟩
  · have b0 : (x == 0) = false := by simp; omega
    have b1 : (x == 1) = false := by simp; omega
    have b2 : (x == 2) = false := by simp; omega
    cases b3 : (x == 3)
    · clear hk hx0 hx1
      have y0 := (unhide X1).cell 0
      have y1 := (unhide X1).cell 1
      have y2 := (unhide X1).cell 2
      have f0 := (unhide X1).frozen 0
      have f1 := (unhide X1).frozen 1
      have f2 := (unhide X1).frozen 2
      simp at y0 y1 y2
      go_wp2_with fail
      clear y0 y1 y2 f0 f1 f2
      generalize hU : ((w1.setCell _ _).setCell _ _).setCell _ _ = U
      obtain ⟨XU, OU⟩ := store3' (unhide X1) hU
      have t0 := (unhide XU).cell 0
      have t1 := (unhide XU).cell 1
      have t2 := (unhide XU).cell 2
      simp at t0 t1 t2
      have OO := (unhide O1).trans (unhide OU) (fun q hq e => by omega)
      have HH := (unhide H1).above (unhide OU) (fun q e => by omega)
      refine bodyPost_ret (v := .agg #[.int .i64 3, .int .i64 0, .int .i64 0]) (by simp [results, Try.results191, go_sem, t0, t1, t2]) rfl ⟨⟨_, _, _, rfl⟩, HH.more (by omega), OO⟩
    · clear hk hx0 hx1
      go_wp2_with fail
      refine (nextTo s a n c (P + 1) ((nw : Int) / 8) _ (unhide H1) (by omega) (by omega) (by omega)).mono ?_
      rintro r w2 ⟨⟨y, rfl, hy0, hy1⟩, hs2, ho2⟩
      have z3 := ho2.size
      have H3 := hide hs2
      have O3 := hide ((unhide O1).trans ho2 (fun _ _ e => e))
      have X3 := hide ((unhide X1).out ho2 (fun e => by omega))
      clear hs2 ho2 H1 O1 X1
      have y0 := (unhide X3).cell 0
      have y1 := (unhide X3).cell 1
      have y2 := (unhide X3).cell 2
      have f0 := (unhide X3).frozen 0
      have f1 := (unhide X3).frozen 1
      have f2 := (unhide X3).frozen 2
      simp at y0 y1 y2
      go_wp2_with fail
      clear y0 y1 y2 f0 f1 f2
      generalize hU : ((w2.setCell _ _).setCell _ _).setCell _ _ = U
      obtain ⟨XU, OU⟩ := store3' (unhide X3) hU
      have t0 := (unhide XU).cell 0
      have t1 := (unhide XU).cell 1
      have t2 := (unhide XU).cell 2
      simp at t0 t1 t2
      have OO := (unhide O3).trans (unhide OU) (fun q hq e => by omega)
      have HH := (unhide H3).above (unhide OU) (fun q e => by omega)
      refine bodyPost_ret (v := .agg #[.int .i64 2, .int .i64 y, .int .i64 0]) (by simp [results, Try.results191, go_sem, t0, t1, t2]) rfl ⟨⟨_, _, _, rfl⟩, HH.more (by omega), OO⟩
end Go.Proofs.Ytdnfadbkpajloaa
