/-
  What is thrown becomes a code: openedDevice.
-/
import Derived.Test.YtdnfadbkpajloaaOpenWalk
import Derived.Defers
import Derived.Recover
namespace Go.Proofs.Ytdnfadbkpajloaa
open Go.RowKit

theorem assert_nil (w : World) : (Instr.typeAssert .nilIface 20 209 true).run Try.prog w = .ok (.tuple #[.int .i64 0, .bool false]) w := by kernel_rfl
theorem assert_code (k : Int) (w : World) : (Instr.typeAssert (.iface 209 (.int .i64 k)) 20 209 true).run Try.prog w = .ok (.tuple #[.int .i64 k, .bool true]) w := by kernel_rfl

set_option maxHeartbeats 1000000 in
theorem catch_idle (p q : Addr) (w : World) :
    CallsD Try.prog 150 #[.pointer (some p), .pointer (some q)] .returning w fun e u' w' => e = .returned (.tuple #[]) ∧ u' = .returning ∧ w' = w := by
  have hn := assert_nil
  refine callsD_of_wpS Try.func150 rfl fun c₀ cs hu => ?_
  apply wpS_seq
  apply wpS_region
  simp [wpOpsS, go_sem, recoverD, hu, hn, Try.ntmps150, Exit.thenS]
  apply wpS_seq
  apply wpS_region
  simp [wpOpsS, go_sem, Exit.thenS]
  refine wpS_cond (t := false) (by simp [Act.eval, Array.replicate]) ?_
  simp only [Bool.false_eq_true, if_false]
  refine wpS_of_wp (wp_skip ?_)
  cases c₀
  simp_all [bodyPostS, results, Try.results150]
set_option maxHeartbeats 1000000 in
theorem catch_panicking (p q : Nat) (x y : Value) (k : Int) (w : World) (hp : w.cell? ⟨p, 0, none⟩ = some x) (fp : w.frozen? ⟨p, 0, none⟩ = false) (hq : w.cell? ⟨q, 0, none⟩ = some y) (fq : w.frozen? ⟨q, 0, none⟩ = false) (hpq : q ≠ p) :
    CallsD Try.prog 150 #[.pointer (some ⟨p, 0, none⟩), .pointer (some ⟨q, 0, none⟩)] (.panicking [{ v := .iface 209 (.int .i64 k), recovered := false }]) w fun e u' w' => e = .returned (.tuple #[]) ∧ u' = .panicking [{ v := .iface 209 (.int .i64 k), recovered := true }] ∧ w' = (w.setCell ⟨p, 0, none⟩ (.pointer none)).setCell ⟨q, 0, none⟩ (.int .i64 k) := by
  have hn := assert_code
  refine callsD_of_wpS Try.func150 rfl fun c₀ cs hu => ?_
  apply wpS_seq
  apply wpS_region
  simp [wpOpsS, go_sem, recoverD, hu, hn, Try.ntmps150, Exit.thenS]
  apply wpS_seq
  apply wpS_region
  simp [wpOpsS, go_sem, Exit.thenS]
  refine wpS_cond (t := true) (by simp [Act.eval, Array.replicate]) ?_
  simp only [if_true]
  apply wpS_region
  have hq' : (w.setCell ⟨p, 0, none⟩ (.pointer none)).cell? ⟨q, 0, none⟩ = some y := (World.cell?_of_block (a := ⟨q, 0, none⟩) (Below.heap_setCell w _ _ q hpq)).trans hq
  simp [wpOpsS, go_sem, hp, fp, hq', fq, bodyPostS, results, Try.results150]

set_option maxHeartbeats 2000000 in
theorem openedDevice_any (a1 a2 a3 : Option Addr) (c1 c2 c3 : Nat) (D : Dev) (w : World) (h : DevAt w a1 a2 a3 D) (n1 : D.words.length ≤ 1048576) (n2 : D.flights.length ≤ 1048576) (n3 : D.over.length ≤ 1048576) :
    Calls Try.prog 82 #[.agg #[.slice a1 D.words.length c1, .slice a2 D.flights.length c2, .slice a3 D.over.length c3]] w fun e w' => ((Good D ∧ ∃ m wv fo oo fm om, e = .returned (.tuple #[.pointer (some ⟨m, 0, none⟩), .int .i64 0]) ∧ Mem w' m wv fo oo fm om D ∧ ∀ q, MemB m wv fo oo fm om q → w.heap.size ≤ q) ∨ (devFault D ≠ 0 ∧ e = .returned (.tuple #[.pointer none, .int .i64 (devFault D)]))) ∧ Below w.heap.size w w' := by
  have hmf : ∀ (fn : Fn) (first cap : Array Value) (w : World), (Instr.makeFunc fn first cap).run Try.prog w = .ok (.func fn first cap) w := fun _ _ _ _ => rfl
  have H := hide h
  clear h
  go_enter_defers Try.func82, Try.ntmps82
  go_wp2_with fail
  obtain ⟨W, hW, z1, hb, hx, hp, hq⟩ := boxes3 w [.slice a1 D.words.length c1, .slice a2 D.flights.length c2, .slice a3 D.over.length c3] [.pointer none] [.int .i64 0] 27 117 2
  rw [← hW]
  clear hW
  refine (openDevice_any a1 a2 a3 c1 c2 c3 D _ ((unhide H).below (unhide hb)) n1 n2 n3).mono ?_
  rintro e w2 ⟨hor, hb2⟩
  have z2 : W.heap.size ≤ w2.heap.size := hb2.size
  have B2 := hide (below_step (unhide hb) hb2 (by omega))
  have P2 := hide ((unhide hp).below hb2)
  have Q2 := hide ((unhide hq).below hb2)
  clear hb2 hb hx hp hq H
  rcases hor with ⟨hg, m, wv, fo, oo, fm, om, rfl, hM, hL⟩ | ⟨hf, rfl⟩
  · have HG := hide hg
    have HM := hide hM
    have HL := hide hL
    clear hg hM hL
    have p0 := (unhide P2).cell 0
    have f0 := (unhide P2).frozen 0
    have q0 := (unhide Q2).cell 0
    have g0 := (unhide Q2).frozen 0
    simp at p0 q0
    go_wp2_with fail
    clear p0 f0 q0 g0
    generalize hU1 : w2.setCell _ _ = U1
    have P3 := hide ((unhide P2).set' hU1)
    have Q3 := hide ((unhide Q2).other' hU1 (by dsimp only; omega))
    have B3 := hide (below_set' (unhide B2) hU1 (by dsimp only; omega))
    have M3 := hide ((unhide HM).stay (w' := U1) (fun q hq _ => by rw [← hU1]; exact Below.heap_setCell _ _ _ q (by have := unhide HL q hq; dsimp only; omega)))
    clear hU1 P2 Q2 B2 HM
    generalize hU2 : U1.setCell _ _ = U2
    have P4 := (unhide P3).other' hU2 (by dsimp only; omega)
    have Q4 := (unhide Q3).set' hU2
    have B4 := below_set' (unhide B3) hU2 (by dsimp only; omega)
    have M4 := (unhide M3).stay (w' := U2) (fun q hq _ => by rw [← hU2]; exact Below.heap_setCell _ _ _ q (by have := unhide HL q hq; dsimp only; omega))
    clear hU2 P3 Q3 B3 M3
    refine leaves_cons (f := 150) (args := #[.pointer (some ⟨w.heap.size + 1, 0, none⟩), .pointer (some ⟨w.heap.size + 1 + 1, 0, none⟩)]) (by simp) (by simp [go_sem]) ?_
    refine (catch_idle _ _ _).mono ?_
    rintro e u' w'' ⟨rfl, rfl, rfl⟩
    have t0 := P4.cell 0
    have t1 := Q4.cell 0
    simp at t0 t1
    refine ⟨.tuple #[.pointer (some ⟨m, 0, none⟩), .int .i64 0], by simp [results, Try.results82, go_sem, t0, t1], .inl ⟨unhide HG, m, wv, fo, oo, fm, om, rfl, M4, fun q hq => by have := unhide HL q hq; omega⟩, B4⟩
  · have HF := hide hf
    clear hf
    have p0 := (unhide P2).cell 0
    have f0 := (unhide P2).frozen 0
    have q0 := (unhide Q2).cell 0
    have g0 := (unhide Q2).frozen 0
    simp at p0 q0
    refine leaves_cons (u := .panicking [{ v := .iface 209 (.int .i64 (devFault D)), recovered := false }]) (f := 150) (args := #[.pointer (some ⟨w.heap.size + 1, 0, none⟩), .pointer (some ⟨w.heap.size + 1 + 1, 0, none⟩)]) (by simp) (by simp [go_sem]) ?_
    refine (catch_panicking (w.heap.size + 1) (w.heap.size + 1 + 1) _ _ (devFault D) w2 p0 f0 q0 g0 (by omega)).mono ?_
    rintro e u' w'' ⟨rfl, rfl, hw''⟩
    have P3 := hide ((unhide P2).set' (i := 0) (v := .pointer none) rfl)
    obtain ⟨U1, hU1⟩ : ∃ U1, w2.setCell ⟨w.heap.size + 1, 0, none⟩ (.pointer none) = U1 := ⟨_, rfl⟩
    rw [hU1] at hw'' P3
    have Q3 := (unhide Q2).other' hU1 (by dsimp only; omega)
    have B3 := below_set' (unhide B2) hU1 (by dsimp only; omega)
    have P4 := (unhide P3).other' hw''.symm (by dsimp only; omega)
    have Q4 := Q3.set' hw''.symm
    have B4 := below_set' B3 hw''.symm (by dsimp only; omega)
    clear hw'' hU1 P3 Q3 B3 p0 f0 q0 g0 P2 Q2 B2
    have t0 := P4.cell 0
    have t1 := Q4.cell 0
    simp at t0 t1
    refine ⟨.tuple #[.pointer none, .int .i64 (devFault D)], by simp [results, Try.results82, go_sem, t0, t1], .inr ⟨unhide HF, rfl⟩, B4⟩
end Go.Proofs.Ytdnfadbkpajloaa
