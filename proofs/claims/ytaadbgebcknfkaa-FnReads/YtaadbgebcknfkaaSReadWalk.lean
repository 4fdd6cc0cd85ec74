/-
  What spec.ReadBlock answers.
-/
import Derived.Test.YtaadbgebcknfkaaReadWalk
import Derived.Test.YtaadbgebcknfkaaWideBox
import Derived.Test.YtaadbgebcknfkaaSDataWalk
import Derived.Test.YtaadbgebcknfkaaIntsWalk
namespace Go.Proofs.Ytaadbgebcknfkaa
open Go.RowKit
set_option linter.unusedVariables false

def QS (W : World) (r s0 s1 s2 s3 s4 : Nat) (b0 b1 b2 b3 b4 o0 o1 o2 o3 o4 : Nat) (V0 V1 V2 V3 V4 : Value) (w' : World) : Prop := Out (fun q => q = r) W w' ∧ w'.cell? ⟨b0, o0, none⟩ = some (V0) ∧ w'.cell? ⟨b1, o1, none⟩ = some (V1) ∧ w'.cell? ⟨b2, o2, none⟩ = some (V2) ∧ w'.cell? ⟨b3, o3, none⟩ = some (V3) ∧ w'.cell? ⟨b4, o4, none⟩ = some (V4) ∧ w'.cell? ⟨r, s0, none⟩ = some (cv w' r (s0)) ∧ w'.cell? ⟨r, s1, none⟩ = some (cv w' r (s1)) ∧ w'.cell? ⟨r, s2, none⟩ = some (cv w' r (s2)) ∧ w'.cell? ⟨r, s3, none⟩ = some (cv w' r (s3)) ∧ w'.cell? ⟨r, s4, none⟩ = some (cv w' r (s4)) ∧ w'.frozen? ⟨r, s0, none⟩ = false ∧ w'.frozen? ⟨r, s1, none⟩ = false ∧ w'.frozen? ⟨r, s2, none⟩ = false ∧ w'.frozen? ⟨r, s3, none⟩ = false ∧ w'.frozen? ⟨r, s4, none⟩ = false ∧ r < w'.heap.size
theorem QS.one {W w' : World} {r b0 b1 b2 b3 b4 o0 o1 o2 o3 o4 s0 s1 s2 s3 s4 : Nat} {V0 V1 V2 V3 V4 : Value} (k0 : b0 < W.heap.size ∧ b0 ≠ r) (k1 : b1 < W.heap.size ∧ b1 ≠ r) (k2 : b2 < W.heap.size ∧ b2 ≠ r) (k3 : b3 < W.heap.size ∧ b3 ≠ r) (k4 : b4 < W.heap.size ∧ b4 ≠ r) (h : QS W r s0 s1 s2 s3 s4 b0 b1 b2 b3 b4 o0 o1 o2 o3 o4 V0 V1 V2 V3 V4 w') (j : Nat) (v : Value) : QS W r s0 s1 s2 s3 s4 b0 b1 b2 b3 b4 o0 o1 o2 o3 o4 V0 V1 V2 V3 V4 (w'.setCell ⟨r, j, none⟩ v) := by
  obtain ⟨h, c0, c1, c2, c3, c4, d0, d1, d2, d3, d4, f0, f1, f2, f3, f4, hr⟩ := h
  have hz := h.size
  have hc : ∀ b i, b ≠ r → (w'.setCell ⟨r, j, none⟩ v).cell? ⟨b, i, none⟩ = w'.cell? ⟨b, i, none⟩ := fun b i hn => World.cell?_of_block (a := ⟨b, i, none⟩) (Below.heap_setCell w' ⟨r, j, none⟩ v b hn)
  have hd : ∀ i x, w'.cell? ⟨r, i, none⟩ = some x → (w'.setCell ⟨r, j, none⟩ v).cell? ⟨r, i, none⟩ = some (cv (w'.setCell ⟨r, j, none⟩ v) r i) := fun i x hx => by
    by_cases e : (⟨r, j, none⟩ : Addr) = ⟨r, i, none⟩
    · rw [← e] at hx ⊢
      exact cv_some' e (World.cell?_setCell_same _ _ _ hx)
    · exact cv_some (by rw [World.cell?_setCell_other _ _ _ _ e]; exact hx)
  refine ⟨h.setCell (p := ⟨r, j, none⟩) (.inl rfl) v, (hc _ _ k0.2).trans c0, (hc _ _ k1.2).trans c1, (hc _ _ k2.2).trans c2, (hc _ _ k3.2).trans c3, (hc _ _ k4.2).trans c4, hd _ _ d0, hd _ _ d1, hd _ _ d2, hd _ _ d3, hd _ _ d4, by rw [World.frozen?_setCell]; exact f0, by rw [World.frozen?_setCell]; exact f1, by rw [World.frozen?_setCell]; exact f2, by rw [World.frozen?_setCell]; exact f3, by rw [World.frozen?_setCell]; exact f4, by simpa [World.setCell] using hr⟩
theorem QS_below {W w' : World} {r b0 b1 b2 b3 b4 o0 o1 o2 o3 o4 s0 s1 s2 s3 s4 : Nat} {V0 V1 V2 V3 V4 : Value} {w1 : World} (k0 : b0 < W.heap.size ∧ b0 ≠ r) (k1 : b1 < W.heap.size ∧ b1 ≠ r) (k2 : b2 < W.heap.size ∧ b2 ≠ r) (k3 : b3 < W.heap.size ∧ b3 ≠ r) (k4 : b4 < W.heap.size ∧ b4 ≠ r) (h : Out (fun q => q = r) W w' ∧ w'.cell? ⟨b0, o0, none⟩ = some (V0) ∧ w'.cell? ⟨b1, o1, none⟩ = some (V1) ∧ w'.cell? ⟨b2, o2, none⟩ = some (V2) ∧ w'.cell? ⟨b3, o3, none⟩ = some (V3) ∧ w'.cell? ⟨b4, o4, none⟩ = some (V4) ∧ w'.cell? ⟨r, s0, none⟩ = some (cv w' r (s0)) ∧ w'.cell? ⟨r, s1, none⟩ = some (cv w' r (s1)) ∧ w'.cell? ⟨r, s2, none⟩ = some (cv w' r (s2)) ∧ w'.cell? ⟨r, s3, none⟩ = some (cv w' r (s3)) ∧ w'.cell? ⟨r, s4, none⟩ = some (cv w' r (s4)) ∧ w'.frozen? ⟨r, s0, none⟩ = false ∧ w'.frozen? ⟨r, s1, none⟩ = false ∧ w'.frozen? ⟨r, s2, none⟩ = false ∧ w'.frozen? ⟨r, s3, none⟩ = false ∧ w'.frozen? ⟨r, s4, none⟩ = false ∧ r < w'.heap.size) (hb : Below w'.heap.size w' w1) : Out (fun q => q = r) W w1 ∧ w1.cell? ⟨b0, o0, none⟩ = some (V0) ∧ w1.cell? ⟨b1, o1, none⟩ = some (V1) ∧ w1.cell? ⟨b2, o2, none⟩ = some (V2) ∧ w1.cell? ⟨b3, o3, none⟩ = some (V3) ∧ w1.cell? ⟨b4, o4, none⟩ = some (V4) ∧ w1.cell? ⟨r, s0, none⟩ = some (cv w1 r (s0)) ∧ w1.cell? ⟨r, s1, none⟩ = some (cv w1 r (s1)) ∧ w1.cell? ⟨r, s2, none⟩ = some (cv w1 r (s2)) ∧ w1.cell? ⟨r, s3, none⟩ = some (cv w1 r (s3)) ∧ w1.cell? ⟨r, s4, none⟩ = some (cv w1 r (s4)) ∧ w1.frozen? ⟨r, s0, none⟩ = false ∧ w1.frozen? ⟨r, s1, none⟩ = false ∧ w1.frozen? ⟨r, s2, none⟩ = false ∧ w1.frozen? ⟨r, s3, none⟩ = false ∧ w1.frozen? ⟨r, s4, none⟩ = false ∧ r < w1.heap.size := by
  obtain ⟨h, c0, c1, c2, c3, c4, d0, d1, d2, d3, d4, f0, f1, f2, f3, f4, hr⟩ := h
  have hz := h.size
  have hbo : ∀ b i, b < w'.heap.size → w1.cell? ⟨b, i, none⟩ = w'.cell? ⟨b, i, none⟩ := fun b i hl => hb.cell (p := ⟨b, i, none⟩) hl
  have hbf : ∀ b i, b < w'.heap.size → w1.frozen? ⟨b, i, none⟩ = w'.frozen? ⟨b, i, none⟩ := fun b i hl => hb.frozen (p := ⟨b, i, none⟩) hl
  refine ⟨h.trans (Out.ofBelow (F := fun q => q = r) hb) (fun _ _ e => e), (hbo _ _ (by have := k0.1; omega)).trans c0, (hbo _ _ (by have := k1.1; omega)).trans c1, (hbo _ _ (by have := k2.1; omega)).trans c2, (hbo _ _ (by have := k3.1; omega)).trans c3, (hbo _ _ (by have := k4.1; omega)).trans c4, cv_some ((hbo _ _ hr).trans d0), cv_some ((hbo _ _ hr).trans d1), cv_some ((hbo _ _ hr).trans d2), cv_some ((hbo _ _ hr).trans d3), cv_some ((hbo _ _ hr).trans d4), (hbf _ _ hr).trans f0, (hbf _ _ hr).trans f1, (hbf _ _ hr).trans f2, (hbf _ _ hr).trans f3, (hbf _ _ hr).trans f4, by have := hb.size; omega⟩
theorem QS_set {W w' : World} {r b0 b1 b2 b3 b4 o0 o1 o2 o3 o4 s0 s1 s2 s3 s4 : Nat} {V0 V1 V2 V3 V4 : Value} {u0 u1 u2 u3 u4 : Value} (k0 : b0 < W.heap.size ∧ b0 ≠ r) (k1 : b1 < W.heap.size ∧ b1 ≠ r) (k2 : b2 < W.heap.size ∧ b2 ≠ r) (k3 : b3 < W.heap.size ∧ b3 ≠ r) (k4 : b4 < W.heap.size ∧ b4 ≠ r) (h : Out (fun q => q = r) W w' ∧ w'.cell? ⟨b0, o0, none⟩ = some (V0) ∧ w'.cell? ⟨b1, o1, none⟩ = some (V1) ∧ w'.cell? ⟨b2, o2, none⟩ = some (V2) ∧ w'.cell? ⟨b3, o3, none⟩ = some (V3) ∧ w'.cell? ⟨b4, o4, none⟩ = some (V4) ∧ w'.cell? ⟨r, s0, none⟩ = some (cv w' r (s0)) ∧ w'.cell? ⟨r, s1, none⟩ = some (cv w' r (s1)) ∧ w'.cell? ⟨r, s2, none⟩ = some (cv w' r (s2)) ∧ w'.cell? ⟨r, s3, none⟩ = some (cv w' r (s3)) ∧ w'.cell? ⟨r, s4, none⟩ = some (cv w' r (s4)) ∧ w'.frozen? ⟨r, s0, none⟩ = false ∧ w'.frozen? ⟨r, s1, none⟩ = false ∧ w'.frozen? ⟨r, s2, none⟩ = false ∧ w'.frozen? ⟨r, s3, none⟩ = false ∧ w'.frozen? ⟨r, s4, none⟩ = false ∧ r < w'.heap.size) : Out (fun q => q = r) W (((((w'.setCell ⟨r, s0, none⟩ u0).setCell ⟨r, s1, none⟩ u1).setCell ⟨r, s2, none⟩ u2).setCell ⟨r, s3, none⟩ u3).setCell ⟨r, s4, none⟩ u4) ∧ (((((w'.setCell ⟨r, s0, none⟩ u0).setCell ⟨r, s1, none⟩ u1).setCell ⟨r, s2, none⟩ u2).setCell ⟨r, s3, none⟩ u3).setCell ⟨r, s4, none⟩ u4).cell? ⟨b0, o0, none⟩ = some (V0) ∧ (((((w'.setCell ⟨r, s0, none⟩ u0).setCell ⟨r, s1, none⟩ u1).setCell ⟨r, s2, none⟩ u2).setCell ⟨r, s3, none⟩ u3).setCell ⟨r, s4, none⟩ u4).cell? ⟨b1, o1, none⟩ = some (V1) ∧ (((((w'.setCell ⟨r, s0, none⟩ u0).setCell ⟨r, s1, none⟩ u1).setCell ⟨r, s2, none⟩ u2).setCell ⟨r, s3, none⟩ u3).setCell ⟨r, s4, none⟩ u4).cell? ⟨b2, o2, none⟩ = some (V2) ∧ (((((w'.setCell ⟨r, s0, none⟩ u0).setCell ⟨r, s1, none⟩ u1).setCell ⟨r, s2, none⟩ u2).setCell ⟨r, s3, none⟩ u3).setCell ⟨r, s4, none⟩ u4).cell? ⟨b3, o3, none⟩ = some (V3) ∧ (((((w'.setCell ⟨r, s0, none⟩ u0).setCell ⟨r, s1, none⟩ u1).setCell ⟨r, s2, none⟩ u2).setCell ⟨r, s3, none⟩ u3).setCell ⟨r, s4, none⟩ u4).cell? ⟨b4, o4, none⟩ = some (V4) ∧ (((((w'.setCell ⟨r, s0, none⟩ u0).setCell ⟨r, s1, none⟩ u1).setCell ⟨r, s2, none⟩ u2).setCell ⟨r, s3, none⟩ u3).setCell ⟨r, s4, none⟩ u4).cell? ⟨r, s0, none⟩ = some (cv ((((((w'.setCell ⟨r, s0, none⟩ u0).setCell ⟨r, s1, none⟩ u1).setCell ⟨r, s2, none⟩ u2).setCell ⟨r, s3, none⟩ u3).setCell ⟨r, s4, none⟩ u4)) r (s0)) ∧ (((((w'.setCell ⟨r, s0, none⟩ u0).setCell ⟨r, s1, none⟩ u1).setCell ⟨r, s2, none⟩ u2).setCell ⟨r, s3, none⟩ u3).setCell ⟨r, s4, none⟩ u4).cell? ⟨r, s1, none⟩ = some (cv ((((((w'.setCell ⟨r, s0, none⟩ u0).setCell ⟨r, s1, none⟩ u1).setCell ⟨r, s2, none⟩ u2).setCell ⟨r, s3, none⟩ u3).setCell ⟨r, s4, none⟩ u4)) r (s1)) ∧ (((((w'.setCell ⟨r, s0, none⟩ u0).setCell ⟨r, s1, none⟩ u1).setCell ⟨r, s2, none⟩ u2).setCell ⟨r, s3, none⟩ u3).setCell ⟨r, s4, none⟩ u4).cell? ⟨r, s2, none⟩ = some (cv ((((((w'.setCell ⟨r, s0, none⟩ u0).setCell ⟨r, s1, none⟩ u1).setCell ⟨r, s2, none⟩ u2).setCell ⟨r, s3, none⟩ u3).setCell ⟨r, s4, none⟩ u4)) r (s2)) ∧ (((((w'.setCell ⟨r, s0, none⟩ u0).setCell ⟨r, s1, none⟩ u1).setCell ⟨r, s2, none⟩ u2).setCell ⟨r, s3, none⟩ u3).setCell ⟨r, s4, none⟩ u4).cell? ⟨r, s3, none⟩ = some (cv ((((((w'.setCell ⟨r, s0, none⟩ u0).setCell ⟨r, s1, none⟩ u1).setCell ⟨r, s2, none⟩ u2).setCell ⟨r, s3, none⟩ u3).setCell ⟨r, s4, none⟩ u4)) r (s3)) ∧ (((((w'.setCell ⟨r, s0, none⟩ u0).setCell ⟨r, s1, none⟩ u1).setCell ⟨r, s2, none⟩ u2).setCell ⟨r, s3, none⟩ u3).setCell ⟨r, s4, none⟩ u4).cell? ⟨r, s4, none⟩ = some (cv ((((((w'.setCell ⟨r, s0, none⟩ u0).setCell ⟨r, s1, none⟩ u1).setCell ⟨r, s2, none⟩ u2).setCell ⟨r, s3, none⟩ u3).setCell ⟨r, s4, none⟩ u4)) r (s4)) ∧ (((((w'.setCell ⟨r, s0, none⟩ u0).setCell ⟨r, s1, none⟩ u1).setCell ⟨r, s2, none⟩ u2).setCell ⟨r, s3, none⟩ u3).setCell ⟨r, s4, none⟩ u4).frozen? ⟨r, s0, none⟩ = false ∧ (((((w'.setCell ⟨r, s0, none⟩ u0).setCell ⟨r, s1, none⟩ u1).setCell ⟨r, s2, none⟩ u2).setCell ⟨r, s3, none⟩ u3).setCell ⟨r, s4, none⟩ u4).frozen? ⟨r, s1, none⟩ = false ∧ (((((w'.setCell ⟨r, s0, none⟩ u0).setCell ⟨r, s1, none⟩ u1).setCell ⟨r, s2, none⟩ u2).setCell ⟨r, s3, none⟩ u3).setCell ⟨r, s4, none⟩ u4).frozen? ⟨r, s2, none⟩ = false ∧ (((((w'.setCell ⟨r, s0, none⟩ u0).setCell ⟨r, s1, none⟩ u1).setCell ⟨r, s2, none⟩ u2).setCell ⟨r, s3, none⟩ u3).setCell ⟨r, s4, none⟩ u4).frozen? ⟨r, s3, none⟩ = false ∧ (((((w'.setCell ⟨r, s0, none⟩ u0).setCell ⟨r, s1, none⟩ u1).setCell ⟨r, s2, none⟩ u2).setCell ⟨r, s3, none⟩ u3).setCell ⟨r, s4, none⟩ u4).frozen? ⟨r, s4, none⟩ = false ∧ r < (((((w'.setCell ⟨r, s0, none⟩ u0).setCell ⟨r, s1, none⟩ u1).setCell ⟨r, s2, none⟩ u2).setCell ⟨r, s3, none⟩ u3).setCell ⟨r, s4, none⟩ u4).heap.size := (QS.one k0 k1 k2 k3 k4 (QS.one k0 k1 k2 k3 k4 (QS.one k0 k1 k2 k3 k4 (QS.one k0 k1 k2 k3 k4 (QS.one k0 k1 k2 k3 k4 h s0 u0) s1 u1) s2 u2) s3 u3) s4 u4)
theorem QS_out {W w' : World} {r b0 b1 b2 b3 b4 o0 o1 o2 o3 o4 s0 s1 s2 s3 s4 : Nat} {V0 V1 V2 V3 V4 : Value} (h : Out (fun q => q = r) W w' ∧ w'.cell? ⟨b0, o0, none⟩ = some (V0) ∧ w'.cell? ⟨b1, o1, none⟩ = some (V1) ∧ w'.cell? ⟨b2, o2, none⟩ = some (V2) ∧ w'.cell? ⟨b3, o3, none⟩ = some (V3) ∧ w'.cell? ⟨b4, o4, none⟩ = some (V4) ∧ w'.cell? ⟨r, s0, none⟩ = some (cv w' r (s0)) ∧ w'.cell? ⟨r, s1, none⟩ = some (cv w' r (s1)) ∧ w'.cell? ⟨r, s2, none⟩ = some (cv w' r (s2)) ∧ w'.cell? ⟨r, s3, none⟩ = some (cv w' r (s3)) ∧ w'.cell? ⟨r, s4, none⟩ = some (cv w' r (s4)) ∧ w'.frozen? ⟨r, s0, none⟩ = false ∧ w'.frozen? ⟨r, s1, none⟩ = false ∧ w'.frozen? ⟨r, s2, none⟩ = false ∧ w'.frozen? ⟨r, s3, none⟩ = false ∧ w'.frozen? ⟨r, s4, none⟩ = false ∧ r < w'.heap.size) : Out (fun q => q = r) W w' := h.1

theorem at8' {w : World} {b o : Nat} {x0 x1 x2 x3 x4 x5 x6 x7 : Int} (h : IntsAt w (some ⟨b, o, none⟩) [x0, x1, x2, x3, x4, x5, x6, x7]) : True ∧ True ∧ True ∧ b < w.heap.size ∧ w.cell? ⟨b, o, none⟩ = some (.int .i64 x0) ∧ w.cell? ⟨b, o + 1, none⟩ = some (.int .i64 x1) ∧ w.cell? ⟨b, o + 2, none⟩ = some (.int .i64 x2) ∧ w.cell? ⟨b, o + 3, none⟩ = some (.int .i64 x3) ∧ w.cell? ⟨b, o + 4, none⟩ = some (.int .i64 x4) := by
  obtain ⟨b', o', he, hb, h0, h1, h2, h3, h4⟩ := at8 h
  cases he
  exact ⟨trivial, trivial, trivial, hb, h0, h1, h2, h3, h4⟩
/-- An answer of a block and a code. -/
def TRes (base : Nat) (w' : World) (r : Ending) (c : Int) (B : Blk) : Prop := ∃ v, r = .returned (.tuple #[.agg (blkV B v), .int .i64 c]) ∧ w'.ownsRow base 2 1 v B.nl.length (nums B.nl)
theorem results_cell_tmp {P : Program} {fn : Func} {p q : Tmp} {ty : TypeId} (h : fn.results = #[.cell p ty, .tmp q]) (tmps : Array Value) (w : World) (g : Nat) (t : TypeId) (cs : Array Value) (fr : Nat × Nat) (d : TypeDesc) (v : Value)
    (hp : tmps.getD p undef = .pointer (some ⟨g, 0, none⟩)) (hq : tmps.getD q undef = v) (hg : w.heap[g]? = some (.cells cs t fr))
    (hu : P.underlying ty = some d) (hd : (match d with | .struct _ | .array _ _ => true | _ => false) = true) (hi : (P.info? ty).map (·.size) = some cs.size) :
    (results fn tmps).run P w = .ok (.tuple #[.agg cs, v]) w := by
  have hp' : tmps[p]?.getD undef = .pointer (some ⟨g, 0, none⟩) := by simpa using hp
  have hq' : tmps[q]?.getD undef = v := by simpa using hq
  simp [results, h, hp', hq', asAddr, run_loadVar_row w g t ty cs fr d hg hu hd hi]
theorem l1Head_any (n : Int) (w : World) (hok : whOk n = true) :
    Calls Try.prog 89 #[.int .i64 n] w fun r w' => r = .returned (.tuple #[.agg #[.int .i64 (n % 4), .int .i64 (n / 16 % 1000), .int .i64 (n / 4 % 4), .int .i64 (n / 16000)], .bool true]) ∧ Below w.heap.size w w' := by
  simp only [whOk, Bool.and_eq_true] at hok
  refine (l1Head_yes n w hok.1).mono ?_
  rintro r w1 ⟨rfl, hb⟩
  rw [hok.2]
  exact ⟨rfl, hb⟩
theorem l1Head_none (n : Int) (w : World) (hok : whOk n = false) :
    Calls Try.prog 89 #[.int .i64 n] w fun r w' => (∃ k u i e : Int, r = .returned (.tuple #[.agg #[.int .i64 k, .int .i64 u, .int .i64 i, .int .i64 e], .bool false])) ∧ Below w.heap.size w w' := by
  cases h : inB n 0 999999999999999
  · refine (l1Head_no n w h).mono ?_
    rintro r w1 ⟨rfl, hb⟩
    exact ⟨⟨_, _, _, _, rfl⟩, hb⟩
  · have h2 : headOk (n % 4) (n / 16 % 1000) (n / 4 % 4) (n / 16000) = false := by
      simpa [whOk, h] using hok
    refine (l1Head_yes n w h).mono ?_
    rintro r w1 ⟨rfl, hb⟩
    rw [h2]
    exact ⟨⟨_, _, _, _, rfl⟩, hb⟩
set_option maxRecDepth 20000 in
set_option maxHeartbeats 4000000 in
theorem l3Read_form (a : Option Addr) (c : Nat) (x0 x1 x2 x3 x4 x5 x6 x7 : Int) (w : World) (h : IntsAt w a [x0, x1, x2, x3, x4, x5, x6, x7]) (hok : whOk x0 = false) :
    Calls Try.prog 45 #[.slice a 8 c] w fun r w' => TRes w.heap.size w' r (readCode [x0, x1, x2, x3, x4, x5, x6, x7]) (readBlk [x0, x1, x2, x3, x4, x5, x6, x7]) ∧ Below w.heap.size w w' := by
  have HC : Hid (readCode [x0, x1, x2, x3, x4, x5, x6, x7] = 1) := by rw [Hid, readCode, if_neg (by rw [hok]; decide)]
  have HC2 : Hid (readBlk [x0, x1, x2, x3, x4, x5, x6, x7] = Blk.none) := by
    have hbk : readBlk [x0, x1, x2, x3, x4, x5, x6, x7] = if readCode [x0, x1, x2, x3, x4, x5, x6, x7] = 0 then toldBlk x0 x1 x2 x3 x4 else Blk.none := rfl
    rw [Hid, hbk, if_neg (by rw [unhide HC]; decide)]
  obtain ⟨W, hW, hWz, HB0, HX0⟩ := boxes1 w [.int .i64 0, .int .i64 0, .int .i64 0, .int .i64 0, .int .i64 0, .bool false, .int .i64 0, .string ⟨#[]⟩, .int .i64 0, .slice none 0 0] 31
  obtain ⟨b, o, rfl, hb, q0, -⟩ := at8 h
  have p0 : W.cell? ⟨b, o, none⟩ = some (.int .i64 x0) := ((bcell (unhide HB0)).1 _ _ hb).trans q0
  have HOK := hide hok
  clear h hok
  go_enter Try.func45, Try.ntmps45
  go_wp2_with fail
  rw [← hW]
  clear hW q0
  refine (l1Head_none x0 _ (unhide HOK)).mono ?_
  rintro r w1 ⟨⟨k, u, i, e, rfl⟩, hb1⟩
  have HX1 := hide ((unhide HX0).below hb1)
  have HB1 := hide (below_step (unhide HB0) hb1 (by omega))
  have z1 : w.heap.size < w1.heap.size := by have := hb1.size; omega
  clear hb1 HX0 HB0 p0
  go_wp2_with (first | (refine wpList_store_part rfl 31 (.tmp 2) (.tmp 17) rfl w.heap.size 0 _ rfl rfl 31 _ ((unhide HX1).alloc _) (by kernel_rfl) (by simp) (by simp [Value.oneCell']) ?_; intro wZ XZ OZ))
  have XR : Hid (Box wZ w.heap.size [.int .i64 0, .int .i64 0, .int .i64 0, .int .i64 0, .int .i64 0, .bool false, .int .i64 0, .string ⟨#[]⟩, .int .i64 0, .slice none 0 0] 31) := XZ
  have BR : Hid (Below w.heap.size w wZ) := (unhide OZ).below ((unhide HB1).alloc (by omega) _) (Nat.le_refl _) (fun q hq e => by omega)
  refine bodyPost_ret (results_cell_tmp Try.results45 _ wZ w.heap.size 31 _ (0, 0) _ _ rfl rfl (unhide XR) Try.underlying31 rfl (by kernel_rfl)) rfl ⟨?_, unhide BR⟩
  rw [unhide HC, unhide HC2]
  exact ⟨_, rfl, World.ownsRow_nil _ _ _ _⟩
set_option maxRecDepth 20000 in
set_option maxHeartbeats 4000000 in
theorem l3Read_gone (a : Option Addr) (c : Nat) (hc8 : 8 ≤ c) (x0 x1 x2 x3 x4 x5 x6 x7 : Int) (w : World) (h : IntsAt w a [x0, x1, x2, x3, x4, x5, x6, x7]) (hok : whOk x0 = true) (hk : x0 % 4 = 3) :
    Calls Try.prog 45 #[.slice a 8 c] w fun r w' => TRes w.heap.size w' r (readCode [x0, x1, x2, x3, x4, x5, x6, x7]) (readBlk [x0, x1, x2, x3, x4, x5, x6, x7]) ∧ Below w.heap.size w w' := by
  have hrd : readCode [x0, x1, x2, x3, x4, x5, x6, x7] = if againCode x0 x1 x2 x3 x4 = 0 ∧ againWords x0 x1 x2 x3 x4 = [x0, x1, x2, x3, x4, x5, x6, x7] then 0 else 5 := by
    rw [readCode, if_pos hok, if_neg (by omega)]
  have hac : againCode x0 x1 x2 x3 x4 = goneCode (x0 / 16 % 1000) (x0 / 16000) := by unfold againCode; simp [hk]
  have haw : againWords x0 x1 x2 x3 x4 = goneWords (x0 / 16 % 1000) (x0 / 16000) := by unfold againWords; simp [hk]
  have htb : toldBlk x0 x1 x2 x3 x4 = ⟨3, x0 / 16 % 1000, 0, x0 / 16000, 0, false, 0, ⟨#[]⟩, 0, []⟩ := by unfold toldBlk; simp [hk]
  have hbk : readBlk [x0, x1, x2, x3, x4, x5, x6, x7] = if readCode [x0, x1, x2, x3, x4, x5, x6, x7] = 0 then toldBlk x0 x1 x2 x3 x4 else Blk.none := rfl
  rw [hac, haw] at hrd
  rw [htb] at hbk
  have HRD := hide hrd
  have HBK := hide hbk
  clear hrd hbk hac haw htb
  have hi : x0 / 4 % 4 = 0 := by
    simp only [whOk, Bool.and_eq_true, headOk, hk] at hok
    have := hok.2
    simp [inB] at this
    omega
  have HI := hide hi
  clear hi
  obtain ⟨W, hW, hWz, HB0, HX0⟩ := boxes1 w [.int .i64 0, .int .i64 0, .int .i64 0, .int .i64 0, .int .i64 0, .bool false, .int .i64 0, .string ⟨#[]⟩, .int .i64 0, .slice none 0 0] 31
  obtain ⟨b, o, rfl, hb, q0, -⟩ := at8 h
  have H0 := hide (h.below (unhide HB0))
  have p0 : W.cell? ⟨b, o, none⟩ = some (.int .i64 x0) := ((bcell (unhide HB0)).1 _ _ hb).trans q0
  have HOK := hide hok
  have HK := hide hk
  clear h hok hk
  go_enter Try.func45, Try.ntmps45
  go_wp2_with fail
  rw [← hW]
  clear hW q0
  refine (l1Head_any x0 _ (unhide HOK)).mono ?_
  rintro r w1 ⟨rfl, hb1⟩
  rw [unhide HK, unhide HI]
  have HX1 := hide ((unhide HX0).below hb1)
  have HB1 := hide (below_step (unhide HB0) hb1 (by omega))
  have H1 := hide ((unhide H0).below hb1)
  have z1 : w.heap.size < w1.heap.size := by have := hb1.size; omega
  clear hb1 HX0 HB0 H0 p0
  generalize x0 / 16 % 1000 = u at *
  generalize x0 / 16000 = e at *
  obtain ⟨W3, hW3, hW3z, HBw, HH3, HT3, HR3⟩ := boxes3 w1 [.int .i64 3, .int .i64 u, .int .i64 0, .int .i64 e] [.int .i64 3, .int .i64 u, .int .i64 0, .int .i64 e, .int .i64 0, .bool false, .int .i64 0, .string ⟨#[]⟩, .int .i64 0, .slice none 0 0] [.int .i64 0, .slice (some ⟨b, o, none⟩) 8 c] 27 31 41
  have HX3 := hide ((unhide HX1).below (unhide HBw))
  have HB3 := hide (below_step (unhide HB1) (unhide HBw) (by omega))
  have H3 := hide ((unhide H1).below (unhide HBw))
  have z3 : w1.heap.size + 1 + 1 < W3.heap.size := by omega
  clear HX1 HB1 H1
  go_wp2_with fail
  rw [← hW3]
  clear hW3
  refine (specPackGone_any u e _).mono ?_
  rintro r w4 ⟨⟨v, rfl, ho⟩, hb4⟩
  obtain ⟨a4, c4, rfl, -, -, -, -⟩ := intsAt_own ho
  have A := hide (intsAt_own1 ho)
  have LA : Hid (∀ x, a4 = some x → w1.heap.size + 1 + 1 < x.block) := fun x hx => by
    have := ho.lt x.block (by rw [hx]; rfl)
    omega
  have HX := hide ((unhide HX3).below hb4)
  have HT := hide ((unhide HT3).below hb4)
  have HR := hide ((unhide HR3).below hb4)
  have H := hide ((unhide H3).below hb4)
  have HB := hide (below_step (unhide HB3) hb4 (by omega))
  have z4 : w1.heap.size + 1 + 1 < w4.heap.size := by have := hb4.size; omega
  clear hb4 ho HX3 HT3 HR3 H3 HB3
  generalize hcd : goneCode u e = cd at *
  generalize hwd : goneWords u e = wd at *
  have hwl : wd.length ≤ 1048576 := by rw [← hwd]; exact goneWords_len _ _
  clear hcd hwd
  have r0 := (unhide HR).cell 0
  have r1 := (unhide HR).cell 1
  have g0 := (unhide HR).frozen 0
  have g1 := (unhide HR).frozen 1
  simp only [List.getElem?_cons_zero, List.getElem?_cons_succ] at r0 r1
  by_cases hc : cd = 0
  · have hcb : (cd != 0) = false := by simpa using hc
    have HC0 := hide hc
    clear hc
    go_wp2_with fail
    generalize hU : ((w4.setCell ⟨w1.heap.size + 1 + 1, 0, none⟩ (.int .i64 cd)).setCell ⟨w1.heap.size + 1 + 1, 1, none⟩ (.slice a4 wd.length c4)) = U at *
    obtain ⟨HRU, HOU⟩ := store2' (unhide HR) hU
    have HXU := hide ((unhide HX).out (unhide HOU) (by show ¬ w.heap.size = w1.heap.size + 1 + 1; omega))
    have HTU := hide ((unhide HT).out (unhide HOU) (by show ¬ w1.heap.size + 1 = w1.heap.size + 1 + 1; omega))
    have HBU := hide ((unhide HOU).below (unhide HB) (Nat.le_refl _) (fun q hq e => by omega))
    have HIU := hide ((unhide HOU).ints (unhide H) (fun x hx e => by cases hx; simp at e; omega))
    have HAU := hide ((unhide HOU).ints (unhide A) (fun x hx e => by have := unhide LA x hx; omega))
    have zU : w4.heap.size ≤ U.heap.size := (unhide HOU).size
    clear hU HOU HR HX HT HB H A r0 r1 g0 g1 HRU
    refine (l1Same_any a4 (some ⟨b, o, none⟩) c4 c wd [x0, x1, x2, x3, x4, x5, x6, x7] _ (unhide HAU) (unhide HIU) hwl).mono ?_
    rintro r w5 ⟨rfl, hb5⟩
    have HX5 := hide ((unhide HXU).below hb5)
    have HT5 := hide ((unhide HTU).below hb5)
    have HB5 := hide (below_step (unhide HBU) hb5 (by omega))
    clear hb5 HXU HTU HBU HIU HAU
    by_cases heq : wd = [x0, x1, x2, x3, x4, x5, x6, x7]
    · have hd : decide (wd = [x0, x1, x2, x3, x4, x5, x6, x7]) = true := by simpa using heq
      rw [hd]
      have HC : Hid (readCode [x0, x1, x2, x3, x4, x5, x6, x7] = 0) := by rw [Hid, unhide HRD, if_pos ⟨unhide HC0, heq⟩]
      have HC2 : Hid (readBlk [x0, x1, x2, x3, x4, x5, x6, x7] = ⟨3, u, 0, e, 0, false, 0, ⟨#[]⟩, 0, []⟩) := by rw [Hid, unhide HBK, if_pos (unhide HC)]
      clear hd heq
      go_wp2_with (first | (refine wpList_load_part rfl 31 (.tmp 6) rfl (w1.heap.size + 1) 0 rfl 31 _ [.int .i64 3, .int .i64 u, .int .i64 0, .int .i64 e, .int .i64 0, .bool false, .int .i64 0, .string ⟨#[]⟩, .int .i64 0, .slice none 0 0] (unhide HT5) rfl _ Try.underlying31 rfl (by kernel_rfl) ?_) | (refine wpList_store_part rfl 31 (.tmp 2) (.tmp 82) rfl w.heap.size 0 _ rfl rfl 31 _ (unhide HX5) (by kernel_rfl) (by simp) (by simp [Value.oneCell']) ?_; intro wZ XZ OZ))
      have XR : Hid (Box wZ w.heap.size [.int .i64 3, .int .i64 u, .int .i64 0, .int .i64 e, .int .i64 0, .bool false, .int .i64 0, .string ⟨#[]⟩, .int .i64 0, .slice none 0 0] 31) := XZ
      have BR : Hid (Below w.heap.size w wZ) := (unhide OZ).below (unhide HB5) (Nat.le_refl _) (fun q hq e => by omega)
      refine bodyPost_ret (results_cell_tmp Try.results45 _ wZ w.heap.size 31 _ (0, 0) _ _ rfl rfl (unhide XR) Try.underlying31 rfl (by kernel_rfl)) rfl ⟨?_, unhide BR⟩
      rw [unhide HC, unhide HC2]
      exact ⟨_, rfl, World.ownsRow_nil _ _ _ _⟩
    · have hd : decide (wd = [x0, x1, x2, x3, x4, x5, x6, x7]) = false := by simpa using heq
      rw [hd]
      have HC : Hid (readCode [x0, x1, x2, x3, x4, x5, x6, x7] = 5) := by rw [Hid, unhide HRD, if_neg (fun hh => heq hh.2)]
      have HC2 : Hid (readBlk [x0, x1, x2, x3, x4, x5, x6, x7] = Blk.none) := by rw [Hid, unhide HBK, if_neg (by rw [unhide HC]; decide)]
      clear hd heq
      go_wp2_with (first | (refine wpList_store_part rfl 31 (.tmp 2) (.tmp 81) rfl w.heap.size 0 _ rfl rfl 31 _ (unhide HX5) (by kernel_rfl) (by simp) (by simp [Value.oneCell']) ?_; intro wZ XZ OZ))
      have XR : Hid (Box wZ w.heap.size [.int .i64 0, .int .i64 0, .int .i64 0, .int .i64 0, .int .i64 0, .bool false, .int .i64 0, .string ⟨#[]⟩, .int .i64 0, .slice none 0 0] 31) := XZ
      have BR : Hid (Below w.heap.size w wZ) := (unhide OZ).below (unhide HB5) (Nat.le_refl _) (fun q hq e => by omega)
      refine bodyPost_ret (results_cell_tmp Try.results45 _ wZ w.heap.size 31 _ (0, 0) _ _ rfl rfl (unhide XR) Try.underlying31 rfl (by kernel_rfl)) rfl ⟨?_, unhide BR⟩
      rw [unhide HC, unhide HC2]
      exact ⟨_, rfl, World.ownsRow_nil _ _ _ _⟩
  · have hcb : (cd != 0) = true := by simpa using hc
    have HC : Hid (readCode [x0, x1, x2, x3, x4, x5, x6, x7] = 5) := by rw [Hid, unhide HRD, if_neg (fun hh => hc hh.1)]
    have HC2 : Hid (readBlk [x0, x1, x2, x3, x4, x5, x6, x7] = Blk.none) := by rw [Hid, unhide HBK, if_neg (by rw [unhide HC]; decide)]
    clear hc
    go_wp2_with (first | (refine wpList_store_part rfl 31 (.tmp 2) (.tmp 81) rfl w.heap.size 0 _ rfl rfl 31 _ (((unhide HX).set_other (p := ⟨w1.heap.size + 1 + 1, 0, none⟩) (by show w.heap.size ≠ w1.heap.size + 1 + 1; omega) _).set_other (p := ⟨w1.heap.size + 1 + 1, 1, none⟩) (by show w.heap.size ≠ w1.heap.size + 1 + 1; omega) _) (by kernel_rfl) (by simp) (by simp [Value.oneCell']) ?_; intro wZ XZ OZ))
    have XR : Hid (Box wZ w.heap.size [.int .i64 0, .int .i64 0, .int .i64 0, .int .i64 0, .int .i64 0, .bool false, .int .i64 0, .string ⟨#[]⟩, .int .i64 0, .slice none 0 0] 31) := XZ
    have BR : Hid (Below w.heap.size w wZ) := (unhide OZ).below (((unhide HB).setCell (p := ⟨w1.heap.size + 1 + 1, 0, none⟩) (by show w.heap.size ≤ w1.heap.size + 1 + 1; omega) _).setCell (p := ⟨w1.heap.size + 1 + 1, 1, none⟩) (by show w.heap.size ≤ w1.heap.size + 1 + 1; omega) _) (Nat.le_refl _) (fun q hq e => by omega)
    refine bodyPost_ret (results_cell_tmp Try.results45 _ wZ w.heap.size 31 _ (0, 0) _ _ rfl rfl (unhide XR) Try.underlying31 rfl (by kernel_rfl)) rfl ⟨?_, unhide BR⟩
    rw [unhide HC, unhide HC2]
    exact ⟨_, rfl, World.ownsRow_nil _ _ _ _⟩
set_option maxRecDepth 20000 in
set_option maxHeartbeats 4000000 in
theorem l3Read_piece (a : Option Addr) (c : Nat) (hc8 : 8 ≤ c) (x0 x1 x2 x3 x4 x5 x6 x7 : Int) (w : World) (h : IntsAt w a [x0, x1, x2, x3, x4, x5, x6, x7]) (hok : whOk x0 = true) (hk : x0 % 4 = 2) :
    Calls Try.prog 45 #[.slice a 8 c] w fun r w' => TRes w.heap.size w' r (readCode [x0, x1, x2, x3, x4, x5, x6, x7]) (readBlk [x0, x1, x2, x3, x4, x5, x6, x7]) ∧ Below w.heap.size w w' := by
  have hrd : readCode [x0, x1, x2, x3, x4, x5, x6, x7] = if againCode x0 x1 x2 x3 x4 = 0 ∧ againWords x0 x1 x2 x3 x4 = [x0, x1, x2, x3, x4, x5, x6, x7] then 0 else 5 := by
    rw [readCode, if_pos hok, if_neg (by omega)]
  have hac : againCode x0 x1 x2 x3 x4 = dataCode (x0 / 16 % 1000) (x0 / 4 % 4) [x1, x2, x3, x4] (x0 / 16000) := by unfold againCode; simp [hk]
  have haw : againWords x0 x1 x2 x3 x4 = dataWords (x0 / 16 % 1000) (x0 / 4 % 4) [x1, x2, x3, x4] (x0 / 16000) := by unfold againWords; simp [hk]
  have htb : toldBlk x0 x1 x2 x3 x4 = ⟨2, x0 / 16 % 1000, x0 / 4 % 4, x0 / 16000, 0, false, 0, ⟨#[]⟩, 0, [x1, x2, x3, x4]⟩ := by unfold toldBlk; simp [hk]
  have hbk : readBlk [x0, x1, x2, x3, x4, x5, x6, x7] = if readCode [x0, x1, x2, x3, x4, x5, x6, x7] = 0 then toldBlk x0 x1 x2 x3 x4 else Blk.none := rfl
  rw [hac, haw] at hrd
  rw [htb] at hbk
  have HRD := hide hrd
  have HBK := hide hbk
  clear hrd hbk hac haw htb
  obtain ⟨W, hW, hWz, HB0, HX0⟩ := boxes1 w [.int .i64 0, .int .i64 0, .int .i64 0, .int .i64 0, .int .i64 0, .bool false, .int .i64 0, .string ⟨#[]⟩, .int .i64 0, .slice none 0 0] 31
  obtain ⟨b, o, rfl, hb, q0, -⟩ := at8 h
  have H0 := hide (h.below (unhide HB0))
  have p0 : W.cell? ⟨b, o, none⟩ = some (.int .i64 x0) := ((bcell (unhide HB0)).1 _ _ hb).trans q0
  have HOK := hide hok
  have HK := hide hk
  clear h hok hk
  go_enter Try.func45, Try.ntmps45
  go_wp2_with fail
  rw [← hW]
  clear hW q0
  refine (l1Head_any x0 _ (unhide HOK)).mono ?_
  rintro r w1 ⟨rfl, hb1⟩
  rw [unhide HK]
  have HX1 := hide ((unhide HX0).below hb1)
  have HB1 := hide (below_step (unhide HB0) hb1 (by omega))
  have H1 := hide ((unhide H0).below hb1)
  have z1 : w.heap.size < w1.heap.size := by have := hb1.size; omega
  clear hb1 HX0 HB0 H0 p0
  generalize x0 / 16 % 1000 = u at *
  generalize x0 / 4 % 4 = i at *
  generalize x0 / 16000 = e at *
  obtain ⟨W3, hW3, hW3z, HBw, HH3, HT3, HR3⟩ := boxes3 w1 [.int .i64 2, .int .i64 u, .int .i64 i, .int .i64 e] [.int .i64 2, .int .i64 u, .int .i64 i, .int .i64 e, .int .i64 0, .bool false, .int .i64 0, .string ⟨#[]⟩, .int .i64 0, .slice none 0 0] [.int .i64 0, .slice (some ⟨b, o, none⟩) 8 c] 27 31 41
  have HX3 := hide ((unhide HX1).below (unhide HBw))
  have HB3 := hide (below_step (unhide HB1) (unhide HBw) (by omega))
  have H3 := hide ((unhide H1).below (unhide HBw))
  have z3 : w1.heap.size + 1 + 1 < W3.heap.size := by omega
  clear HX1 HB1 H1
  go_wp2_with fail
  rw [← hW3]
  clear hW3
  refine (l1Ints_any (some ⟨b, o + 1, none⟩) (c - 1) [x1, x2, x3, x4] _ (ints_part (unhide H3)) (by simp) (by simp)).mono ?_
  rintro r w3 ⟨⟨vn, rfl, hon⟩, hb3⟩
  obtain ⟨an, cn, rfl, -, -, -, -⟩ := intsAt_own hon
  have LN : Hid (∀ q, (Value.slice an [x1, x2, x3, x4].length cn).ownBlock = some q → w1.heap.size + 1 + 1 < q) := fun q hq => by
    have := hon.lt q hq
    omega
  have ON := hide hon
  have HX4 := hide ((unhide HX3).below hb3)
  have HT4 := hide ((unhide HT3).below hb3)
  have HR4 := hide ((unhide HR3).below hb3)
  have HH4 := hide ((unhide HH3).below hb3)
  have H4 := hide ((unhide H3).below hb3)
  have HB4 := hide (below_step (unhide HB3) hb3 (by omega))
  have z33 : w1.heap.size + 1 + 1 < w3.heap.size := by have := hb3.size; omega
  clear hon hb3 HX3 HT3 HR3 HH3 H3 HB3
  have t9 := (unhide HT4).cell 9
  have g9 := (unhide HT4).frozen 9
  have hh1 := (unhide HH4).cell 1
  have hh2 := (unhide HH4).cell 2
  have hh3 := (unhide HH4).cell 3
  simp only [List.getElem?_cons_zero, List.getElem?_cons_succ] at t9 hh1 hh2 hh3
  have ne1 : w1.heap.size ≠ w1.heap.size + 1 := by omega
  go_wp2_with fail
  generalize hV : w3.setCell ⟨w1.heap.size + 1, 9, none⟩ (.slice an 4 cn) = V at *
  have HX3 := hide ((unhide HX4).other' hV (by show w.heap.size ≠ w1.heap.size + 1; omega))
  have HT3 : Hid (Box V (w1.heap.size + 1) [.int .i64 2, .int .i64 u, .int .i64 i, .int .i64 e, .int .i64 0, .bool false, .int .i64 0, .string ⟨#[]⟩, .int .i64 0, .slice an 4 cn] 31) := (unhide HT4).set' hV
  have HR3 := hide ((unhide HR4).other' hV (by show w1.heap.size + 1 + 1 ≠ w1.heap.size + 1; omega))
  have OV : Hid (Out (fun q => q = w1.heap.size + 1) w3 V) := out_set' (Out.refl _ _) hV (.inl rfl)
  have H3 := hide ((unhide OV).ints (unhide H4) (fun x hx e => by cases hx; simp at e; omega))
  have HB3 := hide (below_set' (unhide HB4) hV (by show w.heap.size ≤ w1.heap.size + 1; omega))
  have ON3 := hide ((unhide OV).own (unhide ON) (fun q hq e => by have := unhide LN q hq; omega))
  have z3v : w1.heap.size + 1 + 1 < V.heap.size := by have := (unhide OV).size; omega
  clear hV OV HX4 HT4 HR4 HH4 H4 HB4 ON t9 g9 hh1 hh2 hh3
  refine (specPackData_any u i an cn [x1, x2, x3, x4] e _ (intsAt_own1 (unhide ON3)) (by simp)).mono ?_
  rintro r w4 ⟨⟨v, rfl, ho⟩, hb4⟩
  obtain ⟨a4, c4, rfl, -, -, -, -⟩ := intsAt_own ho
  have A := hide (intsAt_own1 ho)
  have LA : Hid (∀ x, a4 = some x → w1.heap.size + 1 + 1 < x.block) := fun x hx => by
    have := ho.lt x.block (by rw [hx]; rfl)
    omega
  have HX := hide ((unhide HX3).below hb4)
  have HT := hide ((unhide HT3).below hb4)
  have HR := hide ((unhide HR3).below hb4)
  have H := hide ((unhide H3).below hb4)
  have HB := hide (below_step (unhide HB3) hb4 (by omega))
  have z4 : w1.heap.size + 1 + 1 < w4.heap.size := by have := hb4.size; omega
  have ON4 := hide (own_below (unhide ON3) hb4)
  clear ON3
  clear hb4 ho HX3 HT3 HR3 H3 HB3
  generalize hcd : dataCode u i [x1, x2, x3, x4] e = cd at *
  generalize hwd : dataWords u i [x1, x2, x3, x4] e = wd at *
  have hwl : wd.length ≤ 1048576 := by rw [← hwd]; exact dataWords_len _ _ _ _
  clear hcd hwd
  have r0 := (unhide HR).cell 0
  have r1 := (unhide HR).cell 1
  have g0 := (unhide HR).frozen 0
  have g1 := (unhide HR).frozen 1
  simp only [List.getElem?_cons_zero, List.getElem?_cons_succ] at r0 r1
  by_cases hc : cd = 0
  · have hcb : (cd != 0) = false := by simpa using hc
    have HC0 := hide hc
    clear hc
    go_wp2_with fail
    generalize hU : ((w4.setCell ⟨w1.heap.size + 1 + 1, 0, none⟩ (.int .i64 cd)).setCell ⟨w1.heap.size + 1 + 1, 1, none⟩ (.slice a4 wd.length c4)) = U at *
    obtain ⟨HRU, HOU⟩ := store2' (unhide HR) hU
    have HXU := hide ((unhide HX).out (unhide HOU) (by show ¬ w.heap.size = w1.heap.size + 1 + 1; omega))
    have HTU := hide ((unhide HT).out (unhide HOU) (by show ¬ w1.heap.size + 1 = w1.heap.size + 1 + 1; omega))
    have HBU := hide ((unhide HOU).below (unhide HB) (Nat.le_refl _) (fun q hq e => by omega))
    have HIU := hide ((unhide HOU).ints (unhide H) (fun x hx e => by cases hx; simp at e; omega))
    have HAU := hide ((unhide HOU).ints (unhide A) (fun x hx e => by have := unhide LA x hx; omega))
    have zU : w4.heap.size ≤ U.heap.size := (unhide HOU).size
    have ONU := hide ((unhide HOU).own (unhide ON4) (fun q hq e => by have := unhide LN q hq; omega))
    clear ON4
    clear hU HOU HR HX HT HB H A r0 r1 g0 g1 HRU
    refine (l1Same_any a4 (some ⟨b, o, none⟩) c4 c wd [x0, x1, x2, x3, x4, x5, x6, x7] _ (unhide HAU) (unhide HIU) hwl).mono ?_
    rintro r w5 ⟨rfl, hb5⟩
    have HX5 := hide ((unhide HXU).below hb5)
    have HT5 := hide ((unhide HTU).below hb5)
    have HB5 := hide (below_step (unhide HBU) hb5 (by omega))
    have ON5 := hide (own_below (unhide ONU) hb5)
    clear ONU
    clear hb5 HXU HTU HBU HIU HAU
    by_cases heq : wd = [x0, x1, x2, x3, x4, x5, x6, x7]
    · have hd : decide (wd = [x0, x1, x2, x3, x4, x5, x6, x7]) = true := by simpa using heq
      rw [hd]
      have HC : Hid (readCode [x0, x1, x2, x3, x4, x5, x6, x7] = 0) := by rw [Hid, unhide HRD, if_pos ⟨unhide HC0, heq⟩]
      have HC2 : Hid (readBlk [x0, x1, x2, x3, x4, x5, x6, x7] = ⟨2, u, i, e, 0, false, 0, ⟨#[]⟩, 0, [x1, x2, x3, x4]⟩) := by rw [Hid, unhide HBK, if_pos (unhide HC)]
      clear hd heq
      go_wp2_with (first | (refine wpList_load_part rfl 31 (.tmp 6) rfl (w1.heap.size + 1) 0 rfl 31 _ [.int .i64 2, .int .i64 u, .int .i64 i, .int .i64 e, .int .i64 0, .bool false, .int .i64 0, .string ⟨#[]⟩, .int .i64 0, .slice an 4 cn] (unhide HT5) rfl _ Try.underlying31 rfl (by kernel_rfl) ?_) | (refine wpList_store_part rfl 31 (.tmp 2) (.tmp 82) rfl w.heap.size 0 _ rfl rfl 31 _ (unhide HX5) (by kernel_rfl) (by simp) (by simp [Value.oneCell']) ?_; intro wZ XZ OZ))
      have XR : Hid (Box wZ w.heap.size [.int .i64 2, .int .i64 u, .int .i64 i, .int .i64 e, .int .i64 0, .bool false, .int .i64 0, .string ⟨#[]⟩, .int .i64 0, .slice an 4 cn] 31) := XZ
      have BR : Hid (Below w.heap.size w wZ) := (unhide OZ).below (unhide HB5) (Nat.le_refl _) (fun q hq e => by omega)
      refine bodyPost_ret (results_cell_tmp Try.results45 _ wZ w.heap.size 31 _ (0, 0) _ _ rfl rfl (unhide XR) Try.underlying31 rfl (by kernel_rfl)) rfl ⟨?_, unhide BR⟩
      rw [unhide HC, unhide HC2]
      exact ⟨_, rfl, own_base ((unhide OZ).own (unhide ON5) (fun q hq e => by have := unhide LN q hq; omega)) (fun q hq => by have := unhide LN q hq; omega)⟩
    · have hd : decide (wd = [x0, x1, x2, x3, x4, x5, x6, x7]) = false := by simpa using heq
      rw [hd]
      have HC : Hid (readCode [x0, x1, x2, x3, x4, x5, x6, x7] = 5) := by rw [Hid, unhide HRD, if_neg (fun hh => heq hh.2)]
      have HC2 : Hid (readBlk [x0, x1, x2, x3, x4, x5, x6, x7] = Blk.none) := by rw [Hid, unhide HBK, if_neg (by rw [unhide HC]; decide)]
      clear hd heq
      go_wp2_with (first | (refine wpList_store_part rfl 31 (.tmp 2) (.tmp 81) rfl w.heap.size 0 _ rfl rfl 31 _ (unhide HX5) (by kernel_rfl) (by simp) (by simp [Value.oneCell']) ?_; intro wZ XZ OZ))
      have XR : Hid (Box wZ w.heap.size [.int .i64 0, .int .i64 0, .int .i64 0, .int .i64 0, .int .i64 0, .bool false, .int .i64 0, .string ⟨#[]⟩, .int .i64 0, .slice none 0 0] 31) := XZ
      have BR : Hid (Below w.heap.size w wZ) := (unhide OZ).below (unhide HB5) (Nat.le_refl _) (fun q hq e => by omega)
      refine bodyPost_ret (results_cell_tmp Try.results45 _ wZ w.heap.size 31 _ (0, 0) _ _ rfl rfl (unhide XR) Try.underlying31 rfl (by kernel_rfl)) rfl ⟨?_, unhide BR⟩
      rw [unhide HC, unhide HC2]
      exact ⟨_, rfl, World.ownsRow_nil _ _ _ _⟩
  · have hcb : (cd != 0) = true := by simpa using hc
    have HC : Hid (readCode [x0, x1, x2, x3, x4, x5, x6, x7] = 5) := by rw [Hid, unhide HRD, if_neg (fun hh => hc hh.1)]
    have HC2 : Hid (readBlk [x0, x1, x2, x3, x4, x5, x6, x7] = Blk.none) := by rw [Hid, unhide HBK, if_neg (by rw [unhide HC]; decide)]
    clear hc
    go_wp2_with (first | (refine wpList_store_part rfl 31 (.tmp 2) (.tmp 81) rfl w.heap.size 0 _ rfl rfl 31 _ (((unhide HX).set_other (p := ⟨w1.heap.size + 1 + 1, 0, none⟩) (by show w.heap.size ≠ w1.heap.size + 1 + 1; omega) _).set_other (p := ⟨w1.heap.size + 1 + 1, 1, none⟩) (by show w.heap.size ≠ w1.heap.size + 1 + 1; omega) _) (by kernel_rfl) (by simp) (by simp [Value.oneCell']) ?_; intro wZ XZ OZ))
    have XR : Hid (Box wZ w.heap.size [.int .i64 0, .int .i64 0, .int .i64 0, .int .i64 0, .int .i64 0, .bool false, .int .i64 0, .string ⟨#[]⟩, .int .i64 0, .slice none 0 0] 31) := XZ
    have BR : Hid (Below w.heap.size w wZ) := (unhide OZ).below (((unhide HB).setCell (p := ⟨w1.heap.size + 1 + 1, 0, none⟩) (by show w.heap.size ≤ w1.heap.size + 1 + 1; omega) _).setCell (p := ⟨w1.heap.size + 1 + 1, 1, none⟩) (by show w.heap.size ≤ w1.heap.size + 1 + 1; omega) _) (Nat.le_refl _) (fun q hq e => by omega)
    refine bodyPost_ret (results_cell_tmp Try.results45 _ wZ w.heap.size 31 _ (0, 0) _ _ rfl rfl (unhide XR) Try.underlying31 rfl (by kernel_rfl)) rfl ⟨?_, unhide BR⟩
    rw [unhide HC, unhide HC2]
    exact ⟨_, rfl, World.ownsRow_nil _ _ _ _⟩
end Go.Proofs.Ytaadbgebcknfkaa
