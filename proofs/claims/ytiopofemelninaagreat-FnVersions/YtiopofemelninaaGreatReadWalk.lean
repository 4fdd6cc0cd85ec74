/-
  What impl.ReadBlock's parts answer: the content of words.
-/
import Derived.Test.YtiopofemelninaaGreatReadMath
import Derived.Test.YtiopofemelninaaGreatCloneWalk
import Derived.Test.YtiopofemelninaaGreatEqB
import Derived.Test.YtiopofemelninaaGreatIPackWalk
import Derived.Deep.RegionHeld3
namespace Go.Proofs.YtiopofemelninaaGreat
open Go.RowKit
set_option linter.unusedVariables false

/-- What a cell holds. -/
def cv (w : World) (b i : Nat) : Value := (w.cell? ⟨b, i, none⟩).getD (.bool false)
theorem cv_some {w : World} {b i : Nat} {x : Value} (h : w.cell? ⟨b, i, none⟩ = some x) : w.cell? ⟨b, i, none⟩ = some (cv w b i) := by
  rw [cv, h]; rfl
theorem cv_some' {w : World} {r j i : Nat} {x : Value} (e : (⟨r, j, none⟩ : Addr) = ⟨r, i, none⟩) (h : w.cell? ⟨r, j, none⟩ = some x) : w.cell? ⟨r, j, none⟩ = some (cv w r i) := by
  injection e with _ e
  subst e
  exact cv_some h
def QN (W : World) (r s0 s1 s2 s3 s4 : Nat) (b0 b1 b2 b3 o0 o1 o2 o3 : Nat) (V0 V1 V2 V3 : Value) (w' : World) : Prop := Out (fun q => q = r) W w' ∧ w'.cell? ⟨b0, o0, none⟩ = some (V0) ∧ w'.cell? ⟨b1, o1, none⟩ = some (V1) ∧ w'.cell? ⟨b2, o2, none⟩ = some (V2) ∧ w'.cell? ⟨b3, o3, none⟩ = some (V3) ∧ w'.cell? ⟨r, s0, none⟩ = some (cv w' r (s0)) ∧ w'.cell? ⟨r, s1, none⟩ = some (cv w' r (s1)) ∧ w'.cell? ⟨r, s2, none⟩ = some (cv w' r (s2)) ∧ w'.cell? ⟨r, s3, none⟩ = some (cv w' r (s3)) ∧ w'.cell? ⟨r, s4, none⟩ = some (cv w' r (s4)) ∧ w'.frozen? ⟨r, s0, none⟩ = false ∧ w'.frozen? ⟨r, s1, none⟩ = false ∧ w'.frozen? ⟨r, s2, none⟩ = false ∧ w'.frozen? ⟨r, s3, none⟩ = false ∧ w'.frozen? ⟨r, s4, none⟩ = false ∧ r < w'.heap.size
theorem QN.one {W w' : World} {r b0 b1 b2 b3 o0 o1 o2 o3 s0 s1 s2 s3 s4 : Nat} {V0 V1 V2 V3 : Value} (k0 : b0 < W.heap.size ∧ b0 ≠ r) (k1 : b1 < W.heap.size ∧ b1 ≠ r) (k2 : b2 < W.heap.size ∧ b2 ≠ r) (k3 : b3 < W.heap.size ∧ b3 ≠ r) (h : QN W r s0 s1 s2 s3 s4 b0 b1 b2 b3 o0 o1 o2 o3 V0 V1 V2 V3 w') (j : Nat) (v : Value) : QN W r s0 s1 s2 s3 s4 b0 b1 b2 b3 o0 o1 o2 o3 V0 V1 V2 V3 (w'.setCell ⟨r, j, none⟩ v) := by
  obtain ⟨h, c0, c1, c2, c3, d0, d1, d2, d3, d4, f0, f1, f2, f3, f4, hr⟩ := h
  have hz := h.size
  have hc : ∀ b i, b ≠ r → (w'.setCell ⟨r, j, none⟩ v).cell? ⟨b, i, none⟩ = w'.cell? ⟨b, i, none⟩ := fun b i hn => World.cell?_of_block (a := ⟨b, i, none⟩) (Below.heap_setCell w' ⟨r, j, none⟩ v b hn)
  have hd : ∀ i x, w'.cell? ⟨r, i, none⟩ = some x → (w'.setCell ⟨r, j, none⟩ v).cell? ⟨r, i, none⟩ = some (cv (w'.setCell ⟨r, j, none⟩ v) r i) := fun i x hx => by
    by_cases e : (⟨r, j, none⟩ : Addr) = ⟨r, i, none⟩
    · rw [← e] at hx ⊢
      exact cv_some' e (World.cell?_setCell_same _ _ _ hx)
    · exact cv_some (by rw [World.cell?_setCell_other _ _ _ _ e]; exact hx)
  refine ⟨h.setCell (p := ⟨r, j, none⟩) (.inl rfl) v, (hc _ _ k0.2).trans c0, (hc _ _ k1.2).trans c1, (hc _ _ k2.2).trans c2, (hc _ _ k3.2).trans c3, hd _ _ d0, hd _ _ d1, hd _ _ d2, hd _ _ d3, hd _ _ d4, by rw [World.frozen?_setCell]; exact f0, by rw [World.frozen?_setCell]; exact f1, by rw [World.frozen?_setCell]; exact f2, by rw [World.frozen?_setCell]; exact f3, by rw [World.frozen?_setCell]; exact f4, by simpa [World.setCell] using hr⟩
theorem QN_below {W w' : World} {r b0 b1 b2 b3 o0 o1 o2 o3 s0 s1 s2 s3 s4 : Nat} {V0 V1 V2 V3 : Value} {w1 : World} (k0 : b0 < W.heap.size ∧ b0 ≠ r) (k1 : b1 < W.heap.size ∧ b1 ≠ r) (k2 : b2 < W.heap.size ∧ b2 ≠ r) (k3 : b3 < W.heap.size ∧ b3 ≠ r) (h : Out (fun q => q = r) W w' ∧ w'.cell? ⟨b0, o0, none⟩ = some (V0) ∧ w'.cell? ⟨b1, o1, none⟩ = some (V1) ∧ w'.cell? ⟨b2, o2, none⟩ = some (V2) ∧ w'.cell? ⟨b3, o3, none⟩ = some (V3) ∧ w'.cell? ⟨r, s0, none⟩ = some (cv w' r (s0)) ∧ w'.cell? ⟨r, s1, none⟩ = some (cv w' r (s1)) ∧ w'.cell? ⟨r, s2, none⟩ = some (cv w' r (s2)) ∧ w'.cell? ⟨r, s3, none⟩ = some (cv w' r (s3)) ∧ w'.cell? ⟨r, s4, none⟩ = some (cv w' r (s4)) ∧ w'.frozen? ⟨r, s0, none⟩ = false ∧ w'.frozen? ⟨r, s1, none⟩ = false ∧ w'.frozen? ⟨r, s2, none⟩ = false ∧ w'.frozen? ⟨r, s3, none⟩ = false ∧ w'.frozen? ⟨r, s4, none⟩ = false ∧ r < w'.heap.size) (hb : Below w'.heap.size w' w1) : Out (fun q => q = r) W w1 ∧ w1.cell? ⟨b0, o0, none⟩ = some (V0) ∧ w1.cell? ⟨b1, o1, none⟩ = some (V1) ∧ w1.cell? ⟨b2, o2, none⟩ = some (V2) ∧ w1.cell? ⟨b3, o3, none⟩ = some (V3) ∧ w1.cell? ⟨r, s0, none⟩ = some (cv w1 r (s0)) ∧ w1.cell? ⟨r, s1, none⟩ = some (cv w1 r (s1)) ∧ w1.cell? ⟨r, s2, none⟩ = some (cv w1 r (s2)) ∧ w1.cell? ⟨r, s3, none⟩ = some (cv w1 r (s3)) ∧ w1.cell? ⟨r, s4, none⟩ = some (cv w1 r (s4)) ∧ w1.frozen? ⟨r, s0, none⟩ = false ∧ w1.frozen? ⟨r, s1, none⟩ = false ∧ w1.frozen? ⟨r, s2, none⟩ = false ∧ w1.frozen? ⟨r, s3, none⟩ = false ∧ w1.frozen? ⟨r, s4, none⟩ = false ∧ r < w1.heap.size := by
  obtain ⟨h, c0, c1, c2, c3, d0, d1, d2, d3, d4, f0, f1, f2, f3, f4, hr⟩ := h
  have hz := h.size
  have hbo : ∀ b i, b < w'.heap.size → w1.cell? ⟨b, i, none⟩ = w'.cell? ⟨b, i, none⟩ := fun b i hl => hb.cell (p := ⟨b, i, none⟩) hl
  have hbf : ∀ b i, b < w'.heap.size → w1.frozen? ⟨b, i, none⟩ = w'.frozen? ⟨b, i, none⟩ := fun b i hl => hb.frozen (p := ⟨b, i, none⟩) hl
  refine ⟨h.trans (Out.ofBelow (F := fun q => q = r) hb) (fun _ _ e => e), (hbo _ _ (by have := k0.1; omega)).trans c0, (hbo _ _ (by have := k1.1; omega)).trans c1, (hbo _ _ (by have := k2.1; omega)).trans c2, (hbo _ _ (by have := k3.1; omega)).trans c3, cv_some ((hbo _ _ hr).trans d0), cv_some ((hbo _ _ hr).trans d1), cv_some ((hbo _ _ hr).trans d2), cv_some ((hbo _ _ hr).trans d3), cv_some ((hbo _ _ hr).trans d4), (hbf _ _ hr).trans f0, (hbf _ _ hr).trans f1, (hbf _ _ hr).trans f2, (hbf _ _ hr).trans f3, (hbf _ _ hr).trans f4, by have := hb.size; omega⟩
theorem QN_set {W w' : World} {r b0 b1 b2 b3 o0 o1 o2 o3 s0 s1 s2 s3 s4 : Nat} {V0 V1 V2 V3 : Value} {u0 u1 u2 u3 u4 : Value} (k0 : b0 < W.heap.size ∧ b0 ≠ r) (k1 : b1 < W.heap.size ∧ b1 ≠ r) (k2 : b2 < W.heap.size ∧ b2 ≠ r) (k3 : b3 < W.heap.size ∧ b3 ≠ r) (h : Out (fun q => q = r) W w' ∧ w'.cell? ⟨b0, o0, none⟩ = some (V0) ∧ w'.cell? ⟨b1, o1, none⟩ = some (V1) ∧ w'.cell? ⟨b2, o2, none⟩ = some (V2) ∧ w'.cell? ⟨b3, o3, none⟩ = some (V3) ∧ w'.cell? ⟨r, s0, none⟩ = some (cv w' r (s0)) ∧ w'.cell? ⟨r, s1, none⟩ = some (cv w' r (s1)) ∧ w'.cell? ⟨r, s2, none⟩ = some (cv w' r (s2)) ∧ w'.cell? ⟨r, s3, none⟩ = some (cv w' r (s3)) ∧ w'.cell? ⟨r, s4, none⟩ = some (cv w' r (s4)) ∧ w'.frozen? ⟨r, s0, none⟩ = false ∧ w'.frozen? ⟨r, s1, none⟩ = false ∧ w'.frozen? ⟨r, s2, none⟩ = false ∧ w'.frozen? ⟨r, s3, none⟩ = false ∧ w'.frozen? ⟨r, s4, none⟩ = false ∧ r < w'.heap.size) : Out (fun q => q = r) W (((((w'.setCell ⟨r, s0, none⟩ u0).setCell ⟨r, s1, none⟩ u1).setCell ⟨r, s2, none⟩ u2).setCell ⟨r, s3, none⟩ u3).setCell ⟨r, s4, none⟩ u4) ∧ (((((w'.setCell ⟨r, s0, none⟩ u0).setCell ⟨r, s1, none⟩ u1).setCell ⟨r, s2, none⟩ u2).setCell ⟨r, s3, none⟩ u3).setCell ⟨r, s4, none⟩ u4).cell? ⟨b0, o0, none⟩ = some (V0) ∧ (((((w'.setCell ⟨r, s0, none⟩ u0).setCell ⟨r, s1, none⟩ u1).setCell ⟨r, s2, none⟩ u2).setCell ⟨r, s3, none⟩ u3).setCell ⟨r, s4, none⟩ u4).cell? ⟨b1, o1, none⟩ = some (V1) ∧ (((((w'.setCell ⟨r, s0, none⟩ u0).setCell ⟨r, s1, none⟩ u1).setCell ⟨r, s2, none⟩ u2).setCell ⟨r, s3, none⟩ u3).setCell ⟨r, s4, none⟩ u4).cell? ⟨b2, o2, none⟩ = some (V2) ∧ (((((w'.setCell ⟨r, s0, none⟩ u0).setCell ⟨r, s1, none⟩ u1).setCell ⟨r, s2, none⟩ u2).setCell ⟨r, s3, none⟩ u3).setCell ⟨r, s4, none⟩ u4).cell? ⟨b3, o3, none⟩ = some (V3) ∧ (((((w'.setCell ⟨r, s0, none⟩ u0).setCell ⟨r, s1, none⟩ u1).setCell ⟨r, s2, none⟩ u2).setCell ⟨r, s3, none⟩ u3).setCell ⟨r, s4, none⟩ u4).cell? ⟨r, s0, none⟩ = some (cv ((((((w'.setCell ⟨r, s0, none⟩ u0).setCell ⟨r, s1, none⟩ u1).setCell ⟨r, s2, none⟩ u2).setCell ⟨r, s3, none⟩ u3).setCell ⟨r, s4, none⟩ u4)) r (s0)) ∧ (((((w'.setCell ⟨r, s0, none⟩ u0).setCell ⟨r, s1, none⟩ u1).setCell ⟨r, s2, none⟩ u2).setCell ⟨r, s3, none⟩ u3).setCell ⟨r, s4, none⟩ u4).cell? ⟨r, s1, none⟩ = some (cv ((((((w'.setCell ⟨r, s0, none⟩ u0).setCell ⟨r, s1, none⟩ u1).setCell ⟨r, s2, none⟩ u2).setCell ⟨r, s3, none⟩ u3).setCell ⟨r, s4, none⟩ u4)) r (s1)) ∧ (((((w'.setCell ⟨r, s0, none⟩ u0).setCell ⟨r, s1, none⟩ u1).setCell ⟨r, s2, none⟩ u2).setCell ⟨r, s3, none⟩ u3).setCell ⟨r, s4, none⟩ u4).cell? ⟨r, s2, none⟩ = some (cv ((((((w'.setCell ⟨r, s0, none⟩ u0).setCell ⟨r, s1, none⟩ u1).setCell ⟨r, s2, none⟩ u2).setCell ⟨r, s3, none⟩ u3).setCell ⟨r, s4, none⟩ u4)) r (s2)) ∧ (((((w'.setCell ⟨r, s0, none⟩ u0).setCell ⟨r, s1, none⟩ u1).setCell ⟨r, s2, none⟩ u2).setCell ⟨r, s3, none⟩ u3).setCell ⟨r, s4, none⟩ u4).cell? ⟨r, s3, none⟩ = some (cv ((((((w'.setCell ⟨r, s0, none⟩ u0).setCell ⟨r, s1, none⟩ u1).setCell ⟨r, s2, none⟩ u2).setCell ⟨r, s3, none⟩ u3).setCell ⟨r, s4, none⟩ u4)) r (s3)) ∧ (((((w'.setCell ⟨r, s0, none⟩ u0).setCell ⟨r, s1, none⟩ u1).setCell ⟨r, s2, none⟩ u2).setCell ⟨r, s3, none⟩ u3).setCell ⟨r, s4, none⟩ u4).cell? ⟨r, s4, none⟩ = some (cv ((((((w'.setCell ⟨r, s0, none⟩ u0).setCell ⟨r, s1, none⟩ u1).setCell ⟨r, s2, none⟩ u2).setCell ⟨r, s3, none⟩ u3).setCell ⟨r, s4, none⟩ u4)) r (s4)) ∧ (((((w'.setCell ⟨r, s0, none⟩ u0).setCell ⟨r, s1, none⟩ u1).setCell ⟨r, s2, none⟩ u2).setCell ⟨r, s3, none⟩ u3).setCell ⟨r, s4, none⟩ u4).frozen? ⟨r, s0, none⟩ = false ∧ (((((w'.setCell ⟨r, s0, none⟩ u0).setCell ⟨r, s1, none⟩ u1).setCell ⟨r, s2, none⟩ u2).setCell ⟨r, s3, none⟩ u3).setCell ⟨r, s4, none⟩ u4).frozen? ⟨r, s1, none⟩ = false ∧ (((((w'.setCell ⟨r, s0, none⟩ u0).setCell ⟨r, s1, none⟩ u1).setCell ⟨r, s2, none⟩ u2).setCell ⟨r, s3, none⟩ u3).setCell ⟨r, s4, none⟩ u4).frozen? ⟨r, s2, none⟩ = false ∧ (((((w'.setCell ⟨r, s0, none⟩ u0).setCell ⟨r, s1, none⟩ u1).setCell ⟨r, s2, none⟩ u2).setCell ⟨r, s3, none⟩ u3).setCell ⟨r, s4, none⟩ u4).frozen? ⟨r, s3, none⟩ = false ∧ (((((w'.setCell ⟨r, s0, none⟩ u0).setCell ⟨r, s1, none⟩ u1).setCell ⟨r, s2, none⟩ u2).setCell ⟨r, s3, none⟩ u3).setCell ⟨r, s4, none⟩ u4).frozen? ⟨r, s4, none⟩ = false ∧ r < (((((w'.setCell ⟨r, s0, none⟩ u0).setCell ⟨r, s1, none⟩ u1).setCell ⟨r, s2, none⟩ u2).setCell ⟨r, s3, none⟩ u3).setCell ⟨r, s4, none⟩ u4).heap.size := (QN.one k0 k1 k2 k3 (QN.one k0 k1 k2 k3 (QN.one k0 k1 k2 k3 (QN.one k0 k1 k2 k3 (QN.one k0 k1 k2 k3 h s0 u0) s1 u1) s2 u2) s3 u3) s4 u4)
theorem QN_out {W w' : World} {r b0 b1 b2 b3 o0 o1 o2 o3 s0 s1 s2 s3 s4 : Nat} {V0 V1 V2 V3 : Value} (h : Out (fun q => q = r) W w' ∧ w'.cell? ⟨b0, o0, none⟩ = some (V0) ∧ w'.cell? ⟨b1, o1, none⟩ = some (V1) ∧ w'.cell? ⟨b2, o2, none⟩ = some (V2) ∧ w'.cell? ⟨b3, o3, none⟩ = some (V3) ∧ w'.cell? ⟨r, s0, none⟩ = some (cv w' r (s0)) ∧ w'.cell? ⟨r, s1, none⟩ = some (cv w' r (s1)) ∧ w'.cell? ⟨r, s2, none⟩ = some (cv w' r (s2)) ∧ w'.cell? ⟨r, s3, none⟩ = some (cv w' r (s3)) ∧ w'.cell? ⟨r, s4, none⟩ = some (cv w' r (s4)) ∧ w'.frozen? ⟨r, s0, none⟩ = false ∧ w'.frozen? ⟨r, s1, none⟩ = false ∧ w'.frozen? ⟨r, s2, none⟩ = false ∧ w'.frozen? ⟨r, s3, none⟩ = false ∧ w'.frozen? ⟨r, s4, none⟩ = false ∧ r < w'.heap.size) : Out (fun q => q = r) W w' := h.1

/-- Eight words at a. -/
theorem at8 {w : World} {a : Option Addr} {x0 x1 x2 x3 x4 x5 x6 x7 : Int} (h : IntsAt w a [x0, x1, x2, x3, x4, x5, x6, x7]) : ∃ b o, a = some ⟨b, o, none⟩ ∧ b < w.heap.size ∧ w.cell? ⟨b, o, none⟩ = some (.int .i64 x0) ∧ w.cell? ⟨b, o + 1, none⟩ = some (.int .i64 x1) ∧ w.cell? ⟨b, o + 2, none⟩ = some (.int .i64 x2) ∧ w.cell? ⟨b, o + 3, none⟩ = some (.int .i64 x3) ∧ w.cell? ⟨b, o + 4, none⟩ = some (.int .i64 x4) := by
  obtain ⟨b, o, rfl, hb, hc⟩ := h.at (k := 0) (by simp)
  exact ⟨b, o, rfl, hb, hc 0 (by simp), hc 1 (by simp), hc 2 (by simp), hc 3 (by simp), hc 4 (by simp)⟩

set_option maxRecDepth 20000 in
set_option maxHeartbeats 4000000 in
theorem nodeOf_any (u : Int) (a : Option Addr) (c : Nat) (x0 x1 x2 x3 x4 x5 x6 x7 : Int) (w : World) (h : IntsAt w a [x0, x1, x2, x3, x4, x5, x6, x7]) :
    Calls Tryz.prog 129 #[.int .i64 u, .slice a 8 c] w fun r w' => r = .returned (.agg #[.int .i64 u, .bool (x1 == 1), .int .i64 x2, .string (nmOf x3), .int .i64 x4]) ∧ Below w.heap.size w w' := by
  obtain ⟨b, o, rfl, hb, -, c1, c2, c3, c4⟩ := at8 h
  obtain ⟨W, hW, hWz, HB0, HX0⟩ := boxes1 w [.int .i64 0, .bool false, .int .i64 0, .string ⟨#[]⟩, .int .i64 0] 42
  have hcc := (bcell (unhide HB0)).1
  have HX1 := hide (unhide HX0).drew
  generalize hbe : w.heap.size = r at *
  have HBE := hide hbe
  clear hbe
  have zr : r < W.heap.size := by omega
  have k0 : b < W.heap.size ∧ b ≠ r := ⟨by omega, by omega⟩
  have HS : Hid (Out (fun q => q = r) W W.drew ∧ W.drew.cell? ⟨b, o + 1, none⟩ = some (.int .i64 x1) ∧ W.drew.cell? ⟨b, o + 2, none⟩ = some (.int .i64 x2) ∧ W.drew.cell? ⟨b, o + 3, none⟩ = some (.int .i64 x3) ∧ W.drew.cell? ⟨b, o + 4, none⟩ = some (.int .i64 x4) ∧ W.drew.cell? ⟨r, 0, none⟩ = some (cv W.drew r 0) ∧ W.drew.cell? ⟨r, 1, none⟩ = some (cv W.drew r 1) ∧ W.drew.cell? ⟨r, 2, none⟩ = some (cv W.drew r 2) ∧ W.drew.cell? ⟨r, 3, none⟩ = some (cv W.drew r 3) ∧ W.drew.cell? ⟨r, 4, none⟩ = some (cv W.drew r 4) ∧ W.drew.frozen? ⟨r, 0, none⟩ = false ∧ W.drew.frozen? ⟨r, 1, none⟩ = false ∧ W.drew.frozen? ⟨r, 2, none⟩ = false ∧ W.drew.frozen? ⟨r, 3, none⟩ = false ∧ W.drew.frozen? ⟨r, 4, none⟩ = false ∧ r < W.drew.heap.size) := ⟨⟨rfl, rfl, rfl, Nat.le_refl _, fun _ _ _ => rfl⟩, (hcc _ _ hb).trans c1, (hcc _ _ hb).trans c2, (hcc _ _ hb).trans c3, (hcc _ _ hb).trans c4, cv_some ((unhide HX1).cell 0), cv_some ((unhide HX1).cell 1), cv_some ((unhide HX1).cell 2), cv_some ((unhide HX1).cell 3), cv_some ((unhide HX1).cell 4), (unhide HX1).frozen 0, (unhide HX1).frozen 1, (unhide HX1).frozen 2, (unhide HX1).frozen 3, (unhide HX1).frozen 4, zr⟩
  clear c1 c2 c3 c4 hcc h
  obtain ⟨cd, hcd⟩ := wnVal_text x3
  have HCD := hide hcd
  clear hcd
  have hf : ∀ w : World, (Instr.field 216 (.agg #[.int .i64 cd, .string (nmOf x3)]) 1).run Tryz.prog w = .ok (.string (nmOf x3)) w := fun w => by kernel_rfl
  generalize hxe : (x1 == 1) = xe at *
  have HXE := hide hxe
  go_enter Tryz.func129, Tryz.ntmps129
  go_wp2_with fail
  rw [← hW, unhide HBE]
  clear hW
  go_region_held3 (fun w' => Out (fun q => q = r) W w' ∧ w'.cell? ⟨b, o + 1, none⟩ = some (.int .i64 x1) ∧ w'.cell? ⟨b, o + 2, none⟩ = some (.int .i64 x2) ∧ w'.cell? ⟨b, o + 3, none⟩ = some (.int .i64 x3) ∧ w'.cell? ⟨b, o + 4, none⟩ = some (.int .i64 x4) ∧ w'.cell? ⟨r, 0, none⟩ = some (cv w' r 0) ∧ w'.cell? ⟨r, 1, none⟩ = some (cv w' r 1) ∧ w'.cell? ⟨r, 2, none⟩ = some (cv w' r 2) ∧ w'.cell? ⟨r, 3, none⟩ = some (cv w' r 3) ∧ w'.cell? ⟨r, 4, none⟩ = some (cv w' r 4) ∧ w'.frozen? ⟨r, 0, none⟩ = false ∧ w'.frozen? ⟨r, 1, none⟩ = false ∧ w'.frozen? ⟨r, 2, none⟩ = false ∧ w'.frozen? ⟨r, 3, none⟩ = false ∧ w'.frozen? ⟨r, 4, none⟩ = false ∧ r < w'.heap.size) (first | with_reducible exact unhide HS | with_reducible exact QN_below k0 k0 k0 k0 (by assumption) (by assumption) | with_reducible exact QN_set k0 k0 k0 k0 (by assumption))
    (first
      | (go_at_call 143; refine (implWordName_any _ _).mono ?_; rintro e w5 ⟨rfl, hb5⟩; rw [unhide HCD]))
  rename_i hSF
  have OU := hide (QN_out hSF)
  clear hSF
  have XU := hide ((((((unhide HX1).below hb5).set 0 (.int .i64 u)).set 1 (.bool xe)).set 2 (.int .i64 x2)).set 3 (.string (nmOf x3)) |>.set 4 (.int .i64 x4))
  clear hb5
  generalize hU : ((((w5.setCell _ _).setCell _ _).setCell _ _).setCell _ _).setCell _ _ = U at *
  clear hU
  have t0 := (unhide XU).cell 0
  have t1 := (unhide XU).cell 1
  have t2 := (unhide XU).cell 2
  have t3 := (unhide XU).cell 3
  have t4 := (unhide XU).cell 4
  simp only [List.set_cons_zero, List.set_cons_succ, List.getElem?_cons_zero, List.getElem?_cons_succ] at t0 t1 t2 t3 t4
  go_wp2_with fail
  refine bodyPost_ret (v := .agg #[.int .i64 u, .bool xe, .int .i64 x2, .string (nmOf x3), .int .i64 x4]) (by simp [results, Tryz.results129, go_sem, t0, t1, t2, t3, t4]) rfl ⟨rfl, ?_⟩
  exact (unhide OU).below (unhide HB0) (by rw [unhide HBE]; exact Nat.le_refl _) (fun q hq e => by omega)
theorem keepC {W0 w' w1 : World} {b : Nat} {v0 v1 : Value} (h3 : b < W0.heap.size) (hS : Below W0.heap.size W0 w' ∧ w'.cell? ⟨b, 1, none⟩ = some v0 ∧ w'.cell? ⟨b, 3, none⟩ = some v1) (hb : Below w'.heap.size w' w1) :
    Below W0.heap.size W0 w1 ∧ w1.cell? ⟨b, 1, none⟩ = some v0 ∧ w1.cell? ⟨b, 3, none⟩ = some v1 := by
  obtain ⟨h, c0, c1⟩ := hS
  have hz := h.size
  have k : b < w'.heap.size := by omega
  exact ⟨below_step h hb hz, (hb.cell (p := ⟨b, 1, none⟩) k).trans c0, (hb.cell (p := ⟨b, 3, none⟩) k).trans c1⟩
set_option maxRecDepth 20000 in
set_option maxHeartbeats 4000000 in
theorem contentOf_node (u i e : Int) (a : Option Addr) (c : Nat) (x0 x1 x2 x3 x4 x5 x6 x7 : Int) (w : World) (h : IntsAt w a [x0, x1, x2, x3, x4, x5, x6, x7]) :
    Calls Tryz.prog 106 #[.agg #[.int .i64 1, .int .i64 u, .int .i64 i, .int .i64 e], .slice a 8 c] w fun r w' => r = .returned (.iface 197 (.agg #[.int .i64 u, .bool (x1 == 1), .int .i64 x2, .string (nmOf x3), .int .i64 x4, .int .i64 e])) ∧ Below w.heap.size w w' := by
  obtain ⟨W, hW, hWz, HB0, HX0⟩ := boxes1 w [.int .i64 1, .int .i64 u, .int .i64 i, .int .i64 e] 40
  have H := hide (h.below (unhide HB0))
  clear h
  have q1 := (unhide HX0).cell 1
  have q3 := (unhide HX0).cell 3
  simp only [List.getElem?_cons_zero, List.getElem?_cons_succ] at q1 q3
  go_enter Tryz.func106, Tryz.ntmps106
  go_wp2_with fail
  rw [← hW]
  clear hW
  generalize hbe : w.heap.size = b at *
  have HBE := hide hbe
  clear hbe
  have zb : b < W.heap.size := by omega
  have hD : (fun w' => Below W.heap.size W w' ∧ w'.cell? ⟨b, 1, none⟩ = some (.int .i64 u) ∧ w'.cell? ⟨b, 3, none⟩ = some (.int .i64 e)) W.drew := ⟨(Below.refl _ _).drew, q1, q3⟩
  go_region_held3 (fun w' => Below W.heap.size W w' ∧ w'.cell? ⟨b, 1, none⟩ = some (.int .i64 u) ∧ w'.cell? ⟨b, 3, none⟩ = some (.int .i64 e)) (first | exact hD | exact keepC zb (by assumption) (by assumption))
    (first
      | (go_at_call 129; refine (nodeOf_any u a c x0 x1 x2 x3 x4 x5 x6 x7 _ ((unhide H).below (sleft' (by assumption)))).mono ?_; rintro r w5 ⟨rfl, hb5⟩))
  rename_i hSF
  have HS := hide hSF.1
  clear hSF hD q1 q3
  go_wp2_with fail
  go_ret
  rw [unhide HBE]
  exact ⟨rfl, below_step (unhide HB0) (unhide HS) (by omega)⟩
theorem ints_part {w : World} {b o : Nat} {x0 x1 x2 x3 x4 x5 x6 x7 : Int} (h : IntsAt w (some ⟨b, o, none⟩) [x0, x1, x2, x3, x4, x5, x6, x7]) : IntsAt w (some ⟨b, o + 1, none⟩) [x1, x2, x3, x4] := by
  obtain ⟨b', o', he, hb, hc⟩ := h.at (k := 0) (by simp)
  cases he
  refine .inr ⟨b, o + 1, rfl, hb, fun i hi => ?_⟩
  have := hc (i + 1) (by simp at hi ⊢; omega)
  rw [show o + 1 + i = o + (i + 1) by omega, this]
  match i, hi with
  | 0, _ => rfl
  | 1, _ => rfl
  | 2, _ => rfl
  | 3, _ => rfl
set_option maxRecDepth 20000 in
set_option maxHeartbeats 4000000 in
theorem contentOf_piece (u i e : Int) (a : Option Addr) (c : Nat) (hc8 : 8 ≤ c) (x0 x1 x2 x3 x4 x5 x6 x7 : Int) (w : World) (h : IntsAt w a [x0, x1, x2, x3, x4, x5, x6, x7]) :
    Calls Tryz.prog 106 #[.agg #[.int .i64 2, .int .i64 u, .int .i64 i, .int .i64 e], .slice a 8 c] w fun r w' => (∃ a1 c1, r = .returned (.iface 199 (.agg #[.int .i64 u, .int .i64 i, .slice a1 4 c1, .int .i64 e])) ∧ w'.ownsRow w.heap.size 2 1 (.slice a1 4 c1) 4 (nums [x1, x2, x3, x4])) ∧ Below w.heap.size w w' := by
  obtain ⟨W, hW, hWz, HB0, HX0⟩ := boxes1 w [.int .i64 2, .int .i64 u, .int .i64 i, .int .i64 e] 40
  obtain ⟨b, o, rfl, hb, -⟩ := at8 h
  have H := hide (ints_part (h.below (unhide HB0)))
  clear h
  go_enter Tryz.func106, Tryz.ntmps106
  go_wp2_with fail
  rw [← hW]
  clear hW
  refine (cloneInts_any (some ⟨b, o + 1, none⟩) (c - 1) [x1, x2, x3, x4] _ (unhide H) (by simp) (by simp)).mono ?_
  rintro r w1 ⟨⟨v, rfl, ho⟩, hb1⟩
  obtain ⟨a1, c1, rfl, -, -, -, -⟩ := intsAt_own ho
  have HO := hide (own_base (base' := w.heap.size) ho (fun q hq => by have := ho.lt q hq; omega))
  have HX1 := hide ((unhide HX0).below hb1)
  have HB1 := hide (below_step (unhide HB0) hb1 (by omega))
  have z1 : w.heap.size < w1.heap.size := by have := hb1.size; omega
  clear ho hb1 HX0 HB0 H
  have q1 := (unhide HX1).cell 1
  have q2 := (unhide HX1).cell 2
  have q3 := (unhide HX1).cell 3
  simp only [List.getElem?_cons_zero, List.getElem?_cons_succ] at q1 q2 q3
  go_wp2_with fail
  go_ret
  exact ⟨⟨_, _, rfl, unhide HO⟩, unhide HB1⟩
set_option maxHeartbeats 1000000 in
theorem contentOf_gone (u i e : Int) (a : Option Addr) (n c : Nat) (w : World) :
    Calls Tryz.prog 106 #[.agg #[.int .i64 3, .int .i64 u, .int .i64 i, .int .i64 e], .slice a n c] w fun r w' => r = .returned (.iface 201 (.agg #[.int .i64 u, .int .i64 e])) ∧ Below w.heap.size w w' := by
  go_enter Tryz.func106, Tryz.ntmps106
  go_wp2_with fail
  go_ret
  exact ⟨rfl, below_new _ _⟩
end Go.Proofs.YtiopofemelninaaGreat
