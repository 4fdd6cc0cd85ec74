/-
  The laws' draws of devices: one that may be wrong, and a line.
-/
import Derived.Test.YtgckkehlnahfmaaDraw2Bent
namespace Go.Proofs.Ytgckkehlnahfmaa
open Go.RowKit
set_option linter.unusedVariables false

theorem resCT {P : Program} {fn : Func} {p q : Tmp} {ty : TypeId} (h : fn.results = #[.cell p ty, .tmp q]) (tmps : Array Value) (w : World) (g : Nat) (t : TypeId) (cs : Array Value) (fr : Nat × Nat) (d : TypeDesc) (v : Value)
    (hp : tmps.getD p undef = .pointer (some ⟨g, 0, none⟩)) (hq : tmps.getD q undef = v) (hg : w.heap[g]? = some (.cells cs t fr))
    (hu : P.underlying ty = some d) (hd : (match d with | .struct _ | .array _ _ => true | _ => false) = true) (hi : (P.info? ty).map (·.size) = some cs.size) :
    (results fn tmps).run P w = .ok (.tuple #[.agg cs, v]) w := by
  have hp' : tmps[p]?.getD undef = .pointer (some ⟨g, 0, none⟩) := by simpa using hp
  have hq' : tmps[q]?.getD undef = v := by simpa using hq
  simp [results, h, hp', hq', asAddr, run_loadVar_row w g t ty cs fr d hg hu hd hi]
theorem sourceTo {w W : World} {a : Option Addr} {n c p : Nat} (hW : W = w.alloc (.cells #[.slice a n c, .int .i64 p] 92)) (h : CodeAt w a n) (hn : n ≤ 1048576) : SrcTo W w.heap.size a n c p ∧ Below w.heap.size w W := by
  subst hW
  exact ⟨⟨p, Nat.le_refl _, srcAt_new h hn c p _⟩, (Below.refl _ _).alloc (Nat.le_refl _) _⟩

set_option maxRecDepth 20000 in
set_option maxHeartbeats 2000000 in
theorem drawFlushLine_any (a : Option Addr) (n c : Nat) (w : World) (h : CodeAt w a n) (hn : n ≤ 1048576) :
    Calls Try.prog 17 #[.slice a n c] w fun r w' => (∃ a1 c1 a2 c2 a3 c3 D line, r = .returned (.tuple #[.agg #[.slice a1 (List.length (Dev.words D)) c1, .slice a2 (List.length (Dev.flights D)) c2, .slice a3 (List.length (Dev.over D)) c3], .int .i64 line]) ∧ RDev w' w.heap.size w'.heap.size a1 a2 a3 D ∧ Few D) ∧ Below w.heap.size w w' := by
  obtain ⟨W, hW, hWz, HB0, HX0⟩ := boxes1 w [.slice none 0 0, .slice none 0 0, .slice none 0 0] 27
  have H := hide (h.below (unhide HB0))
  clear h
  go_enter Try.func17, Try.ntmps17
  go_wp2_with fail
  rw [← hW]
  clear hW
  refine (l1Source_any a n c _).mono ?_
  rintro r W1 ⟨rfl, hW1⟩
  obtain ⟨hS, hB⟩ := sourceTo hW1 (unhide H) hn
  have z1 := hB.size
  have hslt := hS.lt
  have S1 := hide hS
  have B1 := hide (below_step (unhide HB0) hB (by omega))
  have HX1 := hide ((unhide HX0).below hB)
  clear hS hB hW1 H HB0 HX0
  go_wp2_with fail
  refine (l2Bent_any W.heap.size a n c 0 _ (unhide S1) (by omega)).mono ?_
  rintro r w2 ⟨⟨a1, c1, a2, c2, a3, c3, D, rfl, hR, hF⟩, h2, o2⟩
  have z2 := o2.size
  have S2 := hide h2
  have HX2 := hide ((unhide HX1).out o2 (by show ¬ w.heap.size = W.heap.size; omega))
  have B2 := hide (o2.below (unhide B1) (Nat.le_refl _) (fun q hq e => by omega))
  have R2 := hide hR
  have F2 := hide hF
  clear hR hF h2 o2 S1 HX1 B1
  go_wp2_with fail
  refine (pickTo W.heap.size a n c (0 + 70) (fun _ => True) _ _ 7 w2 (unhide S2) (by omega) rfl (by omega) (by omega) (by simp)).mono ?_
  rintro r w3 ⟨⟨line, -, rfl⟩, h3, o3⟩
  have z3 := o3.size
  have HX3 := hide ((unhide HX2).out o3 (by show ¬ w.heap.size = W.heap.size; omega))
  have B3 := hide (o3.below (unhide B2) (Nat.le_refl _) (fun q hq e => by omega))
  have R3 := hide ((unhide R2).out o3 (fun q h1 h2 e => by omega))
  clear h3 o3 S2 HX2 B2 R2
  have q0 := (unhide HX3).cell 0
  have q1 := (unhide HX3).cell 1
  have q2 := (unhide HX3).cell 2
  have f0 := (unhide HX3).frozen 0
  have f1 := (unhide HX3).frozen 1
  have f2 := (unhide HX3).frozen 2
  simp only [List.getElem?_cons_zero, List.getElem?_cons_succ] at q0 q1 q2
  go_wp2_with fail
  clear q0 q1 q2 f0 f1 f2
  generalize hU : ((w3.setCell _ _).setCell _ _).setCell _ _ = U at *
  obtain ⟨XU, OU⟩ := store3' (unhide HX3) hU
  have zU := (unhide OU).size
  have BU := hide ((unhide OU).below (unhide B3) (Nat.le_refl _) (fun q hq e => by omega))
  have RU := hide (((unhide R3).out (unhide OU) (fun q h1 h2 e => by omega)).wide (lo' := w.heap.size) (hi' := U.heap.size) (by omega) (by omega))
  clear hU OU
  refine bodyPost_ret (resCT Try.results17 _ U w.heap.size 27 _ (0, 0) _ _ rfl rfl (unhide XU) Try.underlying27 rfl (by kernel_rfl)) rfl ⟨⟨_, _, _, _, _, _, D, line, rfl, unhide RU, unhide F2⟩, unhide BU⟩
end Go.Proofs.Ytgckkehlnahfmaa
