/-
  Rows of triples in memory (acts), and how an argument's triples are read (no Go in sight).
-/
import Derived.Test.YtdnfadbkpajloaaRowMath
import Derived.Test.YtdnfadbkpajloaaOpenDev
import Derived.Deep.Slices
namespace Go.Proofs.Ytdnfadbkpajloaa
open Go.RowKit

abbrev Trip := Int × Int × Int
def trs (l : List Trip) : List Value := l.flatMap fun c => [.int .i64 c.1, .int .i64 c.2.1, .int .i64 c.2.2]
theorem trs_nil : trs [] = [] := rfl
theorem trs_cons (c : Trip) (l : List Trip) : trs (c :: l) = .int .i64 c.1 :: .int .i64 c.2.1 :: .int .i64 c.2.2 :: trs l := by simp [trs]
theorem trs_one (c : Trip) : trs [c] = [.int .i64 c.1, .int .i64 c.2.1, .int .i64 c.2.2] := by simp [trs]
theorem trs_append (l m : List Trip) : trs (l ++ m) = trs l ++ trs m := by simp [trs]
theorem trs_length (l : List Trip) : (trs l).length = l.length * 3 := by
  induction l with
  | nil => rfl
  | cons c l ih => rw [trs_cons]; simp only [List.length_cons, ih]; omega
theorem trs_at {l : List Trip} : ∀ {i : Nat} (h : i < l.length), (trs l)[i * 3]? = some (.int .i64 l[i].1) ∧ (trs l)[i * 3 + 1]? = some (.int .i64 l[i].2.1) ∧ (trs l)[i * 3 + 2]? = some (.int .i64 l[i].2.2) := by
  induction l with
  | nil => intro i h; simp at h
  | cons c l ih =>
    intro i h
    rw [trs_cons]
    cases i with
    | zero => simp
    | succ i =>
      have := ih (i := i) (by simpa using h)
      have e : (i + 1) * 3 = i * 3 + 1 + 1 + 1 := by omega
      rw [e]
      simpa using this
theorem trs_set {l : List Trip} : ∀ (i : Nat) (c : Trip), (((trs l).set (i * 3) (.int .i64 c.1)).set (i * 3 + 1) (.int .i64 c.2.1)).set (i * 3 + 2) (.int .i64 c.2.2) = trs (l.set i c) := by
  induction l with
  | nil => intro i c; simp [trs]
  | cons d l ih =>
    intro i c
    rw [trs_cons]
    cases i with
    | zero => simp [trs_cons]
    | succ i =>
      have e : (i + 1) * 3 = i * 3 + 1 + 1 + 1 := by omega
      rw [e]
      simp only [List.set_cons_succ, trs_cons, ih]

/-- The triples l lie at a. -/
def TripsAt (w : World) (a : Option Addr) (l : List Trip) : Prop :=
  l = [] ∨ ∃ b o, a = some ⟨b, o, none⟩ ∧ b < w.heap.size ∧ ∀ i (h : i < l.length), w.cell? ⟨b, o + i * 3, none⟩ = some (.int .i64 l[i].1) ∧ w.cell? ⟨b, o + i * 3 + 1, none⟩ = some (.int .i64 l[i].2.1) ∧ w.cell? ⟨b, o + i * 3 + 2, none⟩ = some (.int .i64 l[i].2.2)
theorem TripsAt.at {w : World} {a : Option Addr} {l : List Trip} (h : TripsAt w a l) {k : Nat} (hk : k < l.length) :
    ∃ b o, a = some ⟨b, o, none⟩ ∧ b < w.heap.size ∧ ∀ i (h : i < l.length), w.cell? ⟨b, o + i * 3, none⟩ = some (.int .i64 l[i].1) ∧ w.cell? ⟨b, o + i * 3 + 1, none⟩ = some (.int .i64 l[i].2.1) ∧ w.cell? ⟨b, o + i * 3 + 2, none⟩ = some (.int .i64 l[i].2.2) := by
  rcases h with rfl | h
  · simp at hk
  · exact h
theorem TripsAt.keep {w w' : World} {a : Option Addr} {l : List Trip} (h : TripsAt w a l) (hz : w.heap.size ≤ w'.heap.size) (hk : ∀ x, a = some x → x.block < w.heap.size → w'.heap[x.block]? = w.heap[x.block]?) : TripsAt w' a l := by
  rcases h with rfl | ⟨b, o, rfl, hlt, hc⟩
  · exact .inl rfl
  · have hb := hk ⟨b, o, none⟩ rfl hlt
    exact .inr ⟨b, o, rfl, by omega, fun i hi => ⟨(World.cell?_of_block (a := ⟨b, o + i * 3, none⟩) hb).trans (hc i hi).1, (World.cell?_of_block (a := ⟨b, o + i * 3 + 1, none⟩) hb).trans (hc i hi).2.1, (World.cell?_of_block (a := ⟨b, o + i * 3 + 2, none⟩) hb).trans (hc i hi).2.2⟩⟩
theorem TripsAt.keep' {w w' : World} {a : Option Addr} {l : List Trip} (h : TripsAt w a l) (hz : w.heap.size ≤ w'.heap.size) (hk : l ≠ [] → ∀ x, a = some x → x.block < w.heap.size → w'.heap[x.block]? = w.heap[x.block]?) : TripsAt w' a l := by
  by_cases hl : l = []
  · exact .inl hl
  · exact h.keep hz (hk hl)
theorem TripsAt.below {w w' : World} {a : Option Addr} {l : List Trip} (h : TripsAt w a l) (hb : Below w.heap.size w w') : TripsAt w' a l := h.keep hb.size fun _ _ hx => hb.block _ hx
theorem Out.trips {F : Nat → Prop} {w w' : World} (ho : Out F w w') {a : Option Addr} {l : List Trip} (h : TripsAt w a l) (hF : l ≠ [] → ∀ x, a = some x → ¬ F x.block) : TripsAt w' a l := h.keep' ho.size fun hl x hx hlt => ho.block _ hlt (hF hl x hx)
theorem tripsAt_own {w : World} {base n : Nat} {e : TypeId} {v : Value} {l : List Trip} (h : w.ownsRow base e 3 v n (trs l)) :
    ∃ a c, v = .slice a l.length c ∧ n = l.length ∧ TripsAt w a l ∧ l.length ≤ c ∧ c ≤ maxLen := by
  have hn : n = l.length := by have := h.1; rw [trs_length] at this; omega
  subst hn
  rcases h.2 with ⟨rfl, h0⟩ | ⟨g, cap, cur, rfl, hg, hh, hn, hc, hs, ht⟩
  · exact ⟨none, 0, by rw [h0], rfl, .inl (List.length_eq_zero_iff.1 h0), by omega, by omega⟩
  · refine ⟨_, cap, rfl, rfl, ?_, hn, hc⟩
    by_cases h0 : l = []
    · exact .inl h0
    · refine .inr ⟨g, 0, rfl, (Array.getElem?_eq_some_iff.1 hh).1, fun i hi => ?_⟩
      rw [Nat.zero_add, h.cellAt (i * 3) (by omega), h.cellAt (i * 3 + 1) (by omega), h.cellAt (i * 3 + 2) (by omega)]
      exact trs_at hi
theorem tripsAt_slice {w : World} {base n m c : Nat} {e : TypeId} {a : Option Addr} {l : List Trip} (h : w.ownsRow base e 3 (.slice a m c) n (trs l)) : TripsAt w a l := by
  obtain ⟨_, _, hv, _, hi, _⟩ := tripsAt_own h
  cases hv
  exact hi

section
open Go.ChangeShapes Go.WideShapes Go.Deep
variable {H : Type} {enc : TypeId × Value → H} {P : Program} {w : World} {base : Nat} {spare : Nat → Bool} {held : Bool}
theorem open_trips_at {t e : TypeId} {f0 f1 f2 : Field} {fuel : Nat} {v : Value} {y : DataW H × List MemPlace} (ht : P.underlying t = some (.slice e)) (he : P.underlying e = some (.struct #[f0, f1, f2]))
    (ce : P.cellsOf e = 3) (o0 : f0.offset = 0) (o1 : f1.offset = 1) (o2 : f2.offset = 2) (c0 : P.cellsOf f0.type = 1) (c1 : P.cellsOf f1.type = 1) (c2 : P.cellsOf f2.type = 1) (t0 : P.underlying f0.type = some (.int .i64)) (t1 : P.underlying f1.type = some (.int .i64)) (t2 : P.underlying f2.type = some (.int .i64))
    (h : DataW.trod enc P w base spare held fuel t [v] = some y) : ∃ a c l, v = .slice a (List.length l) c ∧ TripsAt w a l ∧ List.length l ≤ c ∧ c ≤ maxLen := by
  rcases open_slice ht h with ⟨hcs, _⟩ | ⟨x, len, cap, m, n, D, Pl, hcs, hb, hl, hm, hmm, rfl, hx⟩
  · simp at hcs
    exact ⟨none, 0, [], by simpa using hcs, .inl rfl, Nat.le_refl _, by omega⟩
  · simp at hcs
    have hlm : len ≤ m := by rw [hmm]; split <;> omega
    have each : ∀ i, i < len → ∃ q : Trip, w.cell? (x.add (i * 3)) = some (.int .i64 q.1) ∧ w.cell? (x.add (i * 3 + 1)) = some (.int .i64 q.2.1) ∧ w.cell? (x.add (i * 3 + 2)) = some (.int .i64 q.2.2) := by
      intro i hi
      obtain ⟨cs', h1, h2⟩ := hx i (by omega)
      rw [ce] at h1
      obtain ⟨_, hlen, hcell⟩ := World.cells?_some h1
      obtain ⟨xs, k, hk, hxy, _, hxl, hf⟩ := DataW.trod_struct he h2
      match xs, hxl, cs', hlen with
      | [y0, y1, y2], _, [v0, v1, v2], _ =>
        have g0 := hf 0 f0 rfl
        have g1 := hf 1 f1 rfl
        have g2 := hf 2 f2 rfl
        simp [o0, o1, o2, c0, c1, c2] at g0 g1 g2
        have e0 := hcell 0 (by omega)
        have e1 := hcell 1 (by omega)
        have e2 := hcell 2 (by omega)
        rw [add_add] at e0 e1 e2
        obtain ⟨a0, q0, -, -⟩ := DataW.trod_int t0 g0
        obtain ⟨a1, q1, -, -⟩ := DataW.trod_int t1 g1
        obtain ⟨a2, q2, -, -⟩ := DataW.trod_int t2 g2
        simp at q0 q1 q2
        subst q0 q1 q2
        exact ⟨(a0, a1, a2), by simpa using e0, by simpa using e1, by simpa using e2⟩
    obtain ⟨q, hq⟩ := choose_lt each
    have hlen : ((List.range len).map q).length = len := by simp
    refine ⟨some x, cap, (List.range len).map q, by rw [hlen]; exact hcs, ?_, by rw [hlen]; exact hl, hm⟩
    by_cases h0 : len = 0
    · left; subst h0; simp
    · right
      have c0 : w.cell? (x.add 0) = _ := (hq 0 (by omega)).1
      have hs := addr_none c0
      obtain ⟨b, off, spot⟩ := x
      simp only at hs
      subst hs
      refine ⟨b, off, rfl, ?_, fun i hi => ?_⟩
      · have := World.block_lt_of_cell? w _ c0
        rwa [add_plain] at this
      · have := hq i (by simpa using hi)
        rw [add_plain, add_plain, add_plain] at this
        simpa [Nat.add_assoc] using this
end
end Go.Proofs.Ytdnfadbkpajloaa
