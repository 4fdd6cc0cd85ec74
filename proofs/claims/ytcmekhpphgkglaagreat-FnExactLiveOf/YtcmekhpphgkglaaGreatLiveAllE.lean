/-
  Several texts in one: ResWalk, BlkResWalk, StrsMath, MarkWalk, VMarkWalk, VHeldWalk, VResWalk, IntResWalk.
-/
import Derived.Test.YtcmekhpphgkglaaGreatDevEq
import Derived.Test.YtcmekhpphgkglaaGreatDevMark
import Derived.Test.YtcmekhpphgkglaaGreatDevTo
import Derived.Test.YtcmekhpphgkglaaGreatReadMath
import Derived.Test.YtcmekhpphgkglaaGreatWideBox
import Derived.Test.YtcmekhpphgkglaaGreatBase
import Derived.ProofKit
import Derived.Test.YtcmekhpphgkglaaGreatProg
import Derived.WalkKit
import Derived.WalkLawsBesides
import Derived.Laws.IdiomStrings
import Derived.OwnWalk
import Derived.Deep.RegionHeld3
import Derived.Test.YtcmekhpphgkglaaGreatLiveAllD
import Derived.Test.YtcmekhpphgkglaaGreatAppRow
/-
  What the laws' own looks at words in an answer tell.
-/
namespace Go.Proofs.YtcmekhpphgkglaaGreat
open Go.RowKit

theorem toInt64S_ex (a : Option Addr) (c : Nat) (l : List Int) (w : World) (h : IntsAt w a l) (hn : l.length ≤ 1048576) :
    Calls Tryz.prog 16 #[.slice a l.length c] w fun e w' => (∃ g, e = .returned (.slice (some ⟨g, 0, none⟩) l.length l.length) ∧ w'.ownsRow w.heap.size 2 1 (.slice (some ⟨g, 0, none⟩) l.length l.length) l.length (nums l)) ∧ Below w.heap.size w w' :=
  (toInt64S_any a c l w h hn).mono fun _ _ ⟨h1, h2, h3⟩ => ⟨⟨_, h1, h2⟩, h3⟩
end Go.Proofs.YtcmekhpphgkglaaGreat
/-
  What the laws' own looks at blocks in an answer tell.
-/
namespace Go.Proofs.YtcmekhpphgkglaaGreat
open Go.RowKit
set_option linter.unusedVariables false

set_option maxHeartbeats 2000000 in
theorem eqNode_same (u : Int) (d : Bool) (p : Int) (nm : ByteArray) (s : Int) (w : World) :
    Calls Tryz.prog 115 #[.agg #[.int .i64 u, .bool d, .int .i64 p, .string nm, .int .i64 s], .agg #[.int .i64 u, .bool d, .int .i64 p, .string nm, .int .i64 s]] w fun r w' => r = .returned (.bool true) ∧ Below w.heap.size w w' := by
  have h1 := int_neq_self u
  have h2 := bool_neq_self d
  have h3 := int_neq_self p
  have h4 := int_neq_self s
  go_enter Tryz.func115, Tryz.ntmps115
  go_wp2
  go_ret
  refine ⟨rfl, ?_⟩
  repeat (first | exact Below.refl _ _ | (with_reducible refine Below.alloc ?_ ?_ _; rotate_left; (first | omega | (simp <;> omega))))
set_option maxRecDepth 20000 in
set_option maxHeartbeats 4000000 in
theorem eqBlock_same (k u i e nu : Int) (nd : Bool) (np : Int) (nn : ByteArray) (ns : Int) (a b : Option Addr) (c d : Nat) (l : List Int) (w : World) (h : IntsAt w a l) (h2 : IntsAt w b l) (hn : l.length ≤ 1048576) :
    Calls Tryz.prog 90 #[.agg #[.int .i64 k, .int .i64 u, .int .i64 i, .int .i64 e, .int .i64 nu, .bool nd, .int .i64 np, .string nn, .int .i64 ns, .slice a l.length c], .agg #[.int .i64 k, .int .i64 u, .int .i64 i, .int .i64 e, .int .i64 nu, .bool nd, .int .i64 np, .string nn, .int .i64 ns, .slice b l.length d]] w fun r w' => r = .returned (.bool true) ∧ Below w.heap.size w w' := by
  obtain ⟨W, hW, hWz, HB0, HX0, HY0⟩ := boxes2 w [.int .i64 k, .int .i64 u, .int .i64 i, .int .i64 e, .int .i64 nu, .bool nd, .int .i64 np, .string nn, .int .i64 ns, .slice a l.length c] [.int .i64 k, .int .i64 u, .int .i64 i, .int .i64 e, .int .i64 nu, .bool nd, .int .i64 np, .string nn, .int .i64 ns, .slice b l.length d] 44 44
  have H := hide (h.below (unhide HB0))
  have H2 := hide (h2.below (unhide HB0))
  clear h h2
  go_enter Tryz.func90, Tryz.ntmps90
  go_wp2_with fail
  rw [← hW]
  clear hW
  refine (eqHead_same k u i e _).mono ?_
  rintro r w1 ⟨rfl, hb1⟩
  have HX1 := hide ((unhide HX0).below hb1)
  have HY1 := hide ((unhide HY0).below hb1)
  have H1 := hide ((unhide H).below hb1)
  have H21 := hide ((unhide H2).below hb1)
  have HB1 := hide (below_step (unhide HB0) hb1 (by omega))
  have z1 : w.heap.size + 1 < w1.heap.size := by have := hb1.size; omega
  clear hb1 HX0 HY0 H H2 HB0
  have x4 := (unhide HX1).cell 4
  have x5 := (unhide HX1).cell 5
  have x6 := (unhide HX1).cell 6
  have x7 := (unhide HX1).cell 7
  have x8 := (unhide HX1).cell 8
  simp only [List.getElem?_cons_zero, List.getElem?_cons_succ] at x4 x5 x6 x7 x8
  have y4 := (unhide HY1).cell 4
  have y5 := (unhide HY1).cell 5
  have y6 := (unhide HY1).cell 6
  have y7 := (unhide HY1).cell 7
  have y8 := (unhide HY1).cell 8
  simp only [List.getElem?_cons_zero, List.getElem?_cons_succ] at y4 y5 y6 y7 y8
  go_wp2_with fail
  refine (eqNode_same nu nd np nn ns _).mono ?_
  rintro r w2 ⟨rfl, hb2⟩
  have HX2 := hide ((unhide HX1).below hb2)
  have HY2 := hide ((unhide HY1).below hb2)
  have H2 := hide ((unhide H1).below hb2)
  have H22 := hide ((unhide H21).below hb2)
  have HB2 := hide (below_step (unhide HB1) hb2 (by omega))
  have z2 : w.heap.size + 1 < w2.heap.size := by have := hb2.size; omega
  clear hb2 HX1 HY1 H1 H21 HB1 x4 y4 x5 y5 x6 y6 x7 y7 x8 y8
  have x9 := (unhide HX2).cell 9
  have y9 := (unhide HY2).cell 9
  simp only [List.getElem?_cons_zero, List.getElem?_cons_succ] at x9 y9
  go_wp2_with fail
  refine (eqInt64S_same a b c d l _ (unhide H2) (unhide H22) hn).mono ?_
  rintro r w3 ⟨rfl, hb3⟩
  have HB3 := hide (below_step (unhide HB2) hb3 (by omega))
  clear hb3
  go_wp2_with fail
  go_ret
  exact ⟨rfl, unhide HB3⟩
end Go.Proofs.YtcmekhpphgkglaaGreat
/-
  A slice of strings as the walks see it (no Go in sight).
-/
namespace Go.Proofs.YtcmekhpphgkglaaGreat
open Go.RowKit

/-- The strings l lie at a (nothing is asked where there are none). -/
def StrsAt (w : World) (a : Option Addr) (l : List ByteArray) : Prop :=
  l = [] ∨ ∃ b o, a = some ⟨b, o, none⟩ ∧ b < w.heap.size ∧ ∀ i (h : i < l.length), w.cell? ⟨b, o + i, none⟩ = some (.string l[i])

theorem StrsAt.at {w : World} {a : Option Addr} {l : List ByteArray} (h : StrsAt w a l) {k : Nat} (hk : k < l.length) :
    ∃ b o, a = some ⟨b, o, none⟩ ∧ b < w.heap.size ∧ ∀ i (h : i < l.length), w.cell? ⟨b, o + i, none⟩ = some (.string l[i]) := by
  rcases h with rfl | h
  · simp at hk
  · exact h

theorem StrsAt.below {w w' : World} {a : Option Addr} {l : List ByteArray} (h : StrsAt w a l) (hb : Below w.heap.size w w') : StrsAt w' a l := by
  rcases h with rfl | ⟨b, o, rfl, hlt, hc⟩
  · exact .inl rfl
  · refine .inr ⟨b, o, rfl, Nat.lt_of_lt_of_le hlt hb.size, fun i hi => ?_⟩
    rw [hb.cell (p := ⟨b, o + i, none⟩) hlt]
    exact hc i hi

/-- What a walk is told of a slice of strings that came in: it is nil; or it leads to a row of 'cap' strings 'ss' (the first 'len' are its elements). -/
def IsStrs (w : World) (a : Option Addr) (len cap : Nat) (ss : List ByteArray) : Prop :=
  (a = none ∧ len = 0 ∧ cap = 0 ∧ ss = []) ∨
  ∃ x, a = some x ∧ len ≤ cap ∧ cap ≤ maxLen ∧ ss.length = cap ∧ (∀ i, i < ss.length → w.cell? (x.add i) = some (.string (ss.getD i ByteArray.empty))) ∧ ∀ s ∈ ss, s.size ≤ maxLen

theorem lt_of_cell {w : World} {x : Addr} {v : Value} (h : w.cell? x = some v) : x.block < w.heap.size := by
  unfold World.cell? at h
  by_cases hl : x.block < w.heap.size
  · exact hl
  · rw [Array.getElem?_eq_none (by omega)] at h
    simp at h

theorem IsStrs.at {w : World} {a : Option Addr} {len cap : Nat} {ss : List ByteArray} (h : IsStrs w a len cap ss) :
    ∃ l : List ByteArray, l.length = len ∧ StrsAt w a l ∧ (∀ s ∈ l, s.size ≤ maxLen) ∧ l.length ≤ maxLen ∧ len ≤ cap := by
  rcases h with ⟨rfl, rfl, rfl, rfl⟩ | ⟨x, rfl, hl, hm, hz, hc, hs⟩
  · exact ⟨[], rfl, .inl rfl, by simp, by simp, Nat.le_refl _⟩
  · have hlen : (ss.take len).length = len := by rw [List.length_take]; omega
    refine ⟨ss.take len, hlen, ?_, fun s hm' => hs s (List.mem_of_mem_take hm'), by rw [hlen]; exact Nat.le_trans hl hm, hl⟩
    by_cases h0 : len = 0
    · left
      subst h0
      simp
    · right
      have c0 := hc 0 (by omega)
      obtain ⟨b, off, spot⟩ := x
      have hspot : spot = none := by simpa [Addr.add] using World.cell?_spot c0
      subst hspot
      refine ⟨b, off, rfl, lt_of_cell (x := ⟨b, off, none⟩) (by simpa [Addr.add] using c0), fun i hi => ?_⟩
      have hi' : i < ss.length := by omega
      have := hc i hi'
      rw [Go.WideShapes.add_plain] at this
      rw [this]
      simp [List.getD_eq_getElem?_getD, List.getElem?_eq_getElem hi']

end Go.Proofs.YtcmekhpphgkglaaGreat
/-
  What the laws' own marks answer: a text for each number; they are laid into a slice of strings, and read back.
-/
namespace Go.Proofs.YtcmekhpphgkglaaGreat
open Go.RowKit

def digitB (n : Int) : UInt8 := UInt8.ofNat (48 + n % 10).toNat
/-- The digits of a number, ahead of out. -/
def mtL : Nat → Int → List UInt8 → List UInt8
  | 0, _, out => out
  | f + 1, m, out => if m ≤ 0 then out else mtL f (m / 10) (digitB m :: out)
/-- The mark of a number. -/
def markB (m : Int) : ByteArray := ⟨(109 :: mtL 12 m []).toArray⟩

theorem digitB_toNat (n : Int) : ((digitB n).toNat : Int) = 48 + n % 10 := by
  unfold digitB
  rw [UInt8.toNat_ofNat_of_lt' (by show _ < 256; omega)]
  omega
theorem mtL_end {f : Nat} {m : Int} {out : List UInt8} (h : m ≤ 0) : mtL f m out = out := by
  cases f with
  | zero => rfl
  | succ f => simp [mtL, h]
theorem mtL_step {f : Nat} {m : Int} {out : List UInt8} (h : 0 < m) : mtL (f + 1) m out = mtL f (m / 10) (digitB m :: out) := by
  rw [mtL, if_neg (by omega)]
theorem push_byte (b : UInt8) (out : List UInt8) : (⟨#[b]⟩ ++ ⟨out.toArray⟩ : ByteArray) = ⟨(b :: out).toArray⟩ := by
  rw [ByteArray.mk_append_mk]; simp

set_option maxHeartbeats 1000000 in
theorem markText_any (m : Int) (w : World) (h0 : 1 ≤ m) (h1 : m ≤ 1000000000) :
    Calls Tryz.prog 66 #[.int .i64 m] w fun e w' => e = .returned (.string (markB m)) ∧ Below w.heap.size w w' := by
  have h0' : ¬ m ≤ 0 := by omega
  go_enter Tryz.func66, Tryz.ntmps66
  go_wp2
  go_loopw [0, 3] (fun v o wr => ∃ (f : Nat) (n : Int) (out : List UInt8), v = .int .i64 n ∧ o = .string ⟨out.toArray⟩ ∧ 0 ≤ n ∧ n ≤ 1000000000 ∧ Hid (n < 10 ^ f) ∧ out.length + f = 12 ∧ Below w.heap.size w wr ∧ Hid (mtL f n out = mtL 12 m [])) (fun v _ _ => (intOf v).toNat)
  case atStart => exact ⟨12, m, [], rfl, rfl, by omega, h1, (by show m < 1000000000000; omega), rfl, Below.refl _ _, rfl⟩
  case round =>
    obtain ⟨f, n, out, rfl, rfl, n0, n1, HP, hf, hbw, HM⟩ := hrel
    by_cases hn : 0 < n
    · obtain ⟨f, rfl⟩ : ∃ g, f = g + 1 := by
        cases f with
        | zero => have := unhide HP; simp at this; omega
        | succ f => exact ⟨f, rfl⟩
      have HP2 : Hid (n / 10 < 10 ^ f) := by
        have := unhide HP
        rw [Int.pow_succ] at this
        show n / 10 < 10 ^ f
        omega
      have HM2 := hide ((mtL_step (f := f) (out := out) hn).symm.trans (unhide HM))
      have hcv : (convert 22 9 (.slice (some ⟨wr.heap.size, 0, none⟩) 1 1)).run Tryz.prog (wr.alloc (.cells #[.int .u8 (48 + n % 10)] 5)) = .ok (.string ⟨#[digitB n]⟩) (wr.alloc (.cells #[.int .u8 (48 + n % 10)] 5)) := by
        have hx := run_convert_bytes_back (P := Tryz.prog) (wr.alloc (.cells #[.int .u8 (48 + n % 10)] 5)) 22 9 5 ⟨wr.heap.size, 0, none⟩ 1 [digitB n] Tryz.underlying22 Tryz.underlying5 Tryz.underlying9 (fun j hj => by
          obtain rfl : j = 0 := by simpa using hj
          simp only [List.getElem_cons_zero]
          rw [digitB_toNat]
          simp [Addr.add, go_sem])
        exact hx
      have HB := hide hbw
      clear hbw
      go_wp2
      exact ⟨⟨f, n / 10, digitB n :: out, rfl, by rw [push_byte], by omega, by omega, HP2, by simp; omega, (unhide HB).alloc (unhide HB).size _, unhide HM2⟩, by simp [intOf]; omega⟩
    · have hr : mtL 12 m [] = out := by rw [← unhide HM]; exact mtL_end (by omega)
      have hr2 : markB m = ⟨(109 :: out).toArray⟩ := by rw [markB, hr]
      have HR := hide hr2
      have HB := hide hbw
      clear hr hr2 hbw
      go_wp2
      go_ret
      refine ⟨?_, unhide HB⟩
      rw [unhide HR, ← push_byte]
      rfl

theorem ownsRow_stay {w w' : World} {base : Nat} {e : TypeId} {v : Value} {n : Nat} {xs : List Value} (h : w.ownsRow base e 1 v n xs) (hk : ∀ k, k < w.heap.size → w'.heap[k]? = w.heap[k]?) : w'.ownsRow base e 1 v n xs := by
  refine ⟨h.1, ?_⟩
  rcases h.2 with h2 | ⟨g, cap, cur, a, b, c, d⟩
  · exact .inl h2
  · exact .inr ⟨g, cap, cur, a, b, (hk g (Array.getElem?_eq_some_iff.1 c).1).trans c, d⟩

/-- No block that was there turned, but the one at a. -/
def Besides (a : Option Addr) (w w' : World) : Prop := ∀ q, q < w.heap.size → (∀ x, a = some x → q ≠ x.block) → w'.heap[q]? = w.heap[q]?
theorem Besides.trans {a : Option Addr} {w w1 w2 : World} (h : Besides a w w1) (hz : w.heap.size ≤ w1.heap.size) (k : Besides a w1 w2) : Besides a w w2 :=
  fun q hq hx => (k q (by omega) hx).trans (h q hq hx)
theorem Besides.ofBelow {a : Option Addr} {w w1 : World} (h : Below w.heap.size w w1) : Besides a w w1 := fun q hq _ => h.block q hq

/-- The marks of n numbers from m on. -/
def marks (m : Int) (n : Nat) : List ByteArray := (List.range n).map fun (j : Nat) => markB (m + (j : Int))
theorem marks_length (m : Int) (n : Nat) : (marks m n).length = n := by simp [marks]
theorem marks_at (m : Int) (n j : Nat) (h : j < n) : (marks m n)[j]'(by rw [marks_length]; exact h) = markB (m + (j : Int)) := by simp [marks]


theorem keepM {W0 w' w1 : World} {b o : Nat} {v : Value} (h3 : b < W0.heap.size) (hS : Below W0.heap.size W0 w' ∧ w'.cell? ⟨b, o, none⟩ = some v) (hb : Below w'.heap.size w' w1) : Below W0.heap.size W0 w1 ∧ w1.cell? ⟨b, o, none⟩ = some v := by
  obtain ⟨h, c⟩ := hS
  have hz := h.size
  exact ⟨h.trans (hb.mono h.size), ((bcell hb).1 _ _ (by omega)).trans c⟩

end Go.Proofs.YtcmekhpphgkglaaGreat
/-
  What the laws' own looks and marks of lists of versions do.
-/
namespace Go.Proofs.YtcmekhpphgkglaaGreat
open Go.RowKit
set_option linter.unusedVariables false

/-- A version that was marked from M on. -/
def markVer (M : Int) (x : VerA) : VerA := ⟨M, ⟨⟨M + 1, M + 2, M + 3, M + 4, M + 5, (M + 6) % 3 == 0, M + 7, markB (M + 8), M + 9, numsFrom (M + 10) x.x.b.nl.length⟩, x.x.a, x.x.c⟩⟩
def vMarks : Int → List VerA → List VerA
  | _, [] => []
  | M, x :: L => markVer M x :: vMarks (M + 10 + x.x.b.nl.length) L
def vTo : Int → List VerA → Int
  | M, [] => M
  | M, x :: L => vTo (M + 10 + x.x.b.nl.length) L
theorem vMarks_length : ∀ (M : Int) (L : List VerA), (vMarks M L).length = L.length
  | _, [] => rfl
  | M, x :: L => by rw [vMarks, List.length_cons, vMarks_length, List.length_cons]
theorem vTo_snoc : ∀ (M : Int) (L : List VerA) (x : VerA), vTo M (L ++ [x]) = vTo M L + 10 + x.x.b.nl.length
  | _, [], _ => rfl
  | M, y :: L, x => by rw [List.cons_append, vTo, vTo, vTo_snoc]
theorem vMarks_snoc : ∀ (M : Int) (L : List VerA) (x : VerA), vMarks M (L ++ [x]) = vMarks M L ++ [markVer (vTo M L) x]
  | _, [], _ => rfl
  | M, y :: L, x => by rw [List.cons_append, vMarks, vMarks, vTo, vMarks_snoc]; rfl
theorem vTo_take {M : Int} {L : List VerA} {k : Nat} (hk : k < L.length) : vTo M (L.take (k + 1)) = vTo M (L.take k) + 10 + L[k].x.b.nl.length := by
  rw [List.take_succ_eq_append_getElem hk, vTo_snoc]
theorem vMarks_take {M : Int} {L : List VerA} {k : Nat} (hk : k < L.length) : vMarks M (L.take (k + 1)) = vMarks M (L.take k) ++ [markVer (vTo M (L.take k)) L[k]] := by
  rw [List.take_succ_eq_append_getElem hk, vMarks_snoc]
theorem vMarks_at {L : List VerA} : ∀ {M : Int} {k : Nat} (hk : k < L.length), (vMarks M L)[k]'(by rw [vMarks_length]; exact hk) = markVer (vTo M (L.take k)) L[k] := by
  induction L with
  | nil => intro M k hk; simp at hk
  | cons x L ih =>
    intro M k hk
    cases k with
    | zero => rfl
    | succ k => simp only [vMarks, List.getElem_cons_succ, List.take_succ_cons, vTo]; exact ih (by simpa using hk)
theorem markVer_nv (M : Int) (x : VerA) : (markVer M x).nv = x.nv := by simp [markVer, VerA.nv, numsFrom_length]
/-- Small lists: so the marks stay small. -/
theorem vTo_bounds : ∀ (M : Int) (L : List VerA) (n : Nat), (∀ x ∈ L, x.x.b.nl.length ≤ n) → M ≤ vTo M L ∧ vTo M L ≤ M + (10 + n) * L.length
  | M, [], n, _ => by simp [vTo]
  | M, x :: L, n, h => by
    have h1 := vTo_bounds (M + 10 + x.x.b.nl.length) L n (fun y hy => h y (List.mem_cons_of_mem _ hy))
    have h2 := h x List.mem_cons_self
    rw [vTo, List.length_cons]
    have e : ((10 : Int) + n) * ((L.length + 1 : Nat) : Int) = (10 + n) * L.length + (10 + n) := by push_cast; rw [Int.mul_add, Int.mul_one]
    omega
theorem vOwn_marked {w : World} {base : Nat} {v : Value} {L : List VerA} {M : Int} (h0 : ∀ x ∈ L, ∀ q, x.nv.ownBlock = some q → v.ownBlock ≠ some q) (h1 : L.Pairwise (fun x y => ∀ q, x.nv.ownBlock = some q → y.nv.ownBlock ≠ some q))
    (hr : w.ownsRow base 46 11 v L.length (vflat (vMarks M L))) (hn : ∀ i (hi : i < L.length), w.ownsRow base 2 1 L[i].nv L[i].x.b.nl.length (nums (numsFrom (vTo M (L.take i) + 10) L[i].x.b.nl.length))) : VOwn w base v (vMarks M L) := by
  have hl := vMarks_length M L
  refine ⟨by rw [hl]; exact hr, fun x hx => ?_, fun x hx q hq => ?_, ?_⟩
  · obtain ⟨i, hi, rfl⟩ := List.getElem_of_mem hx
    rw [hl] at hi
    rw [vMarks_at hi, markVer_nv]
    have := hn i hi
    show World.ownsRow _ _ _ _ _ (numsFrom (vTo M (L.take i) + 10) L[i].x.b.nl.length).length (nums (numsFrom (vTo M (L.take i) + 10) L[i].x.b.nl.length))
    rw [numsFrom_length]
    exact this
  · obtain ⟨i, hi, rfl⟩ := List.getElem_of_mem hx
    rw [hl] at hi
    rw [vMarks_at hi, markVer_nv] at hq
    exact h0 _ (List.getElem_mem hi) q hq
  · rw [List.pairwise_iff_getElem] at h1 ⊢
    intro i j hi hj hij q hq e
    rw [hl] at hi hj
    rw [vMarks_at hi, markVer_nv] at hq
    rw [vMarks_at hj, markVer_nv] at e
    exact h1 i j hi hj hij q hq e
theorem vstep {ys : List Value} {P : List Value} {k n : Nat} {M : Int} {s : Value} (hy : ys.length = n * 11) (hk : k < n) (hP : ys.take (k * 11) = P) (hs : ys[k * 11 + 10]? = some s) :
    (((((((((((ys.set (k * 11) (.int .i64 M)).set (k * 11 + 1) (.int .i64 (M + 1))).set (k * 11 + 2) (.int .i64 (M + 2))).set (k * 11 + 3) (.int .i64 (M + 3))).set (k * 11 + 4) (.int .i64 (M + 4))).set (k * 11 + 5) (.int .i64 (M + 5))).set (k * 11 + 6) (.bool ((M + 6) % 3 == 0))).set (k * 11 + 7) (.int .i64 (M + 7))).set (k * 11 + 8) (.string (markB (M + 8)))).set (k * 11 + 9) (.int .i64 (M + 9)))).take ((k + 1) * 11) = P ++ [.int .i64 M, .int .i64 (M + 1), .int .i64 (M + 2), .int .i64 (M + 3), .int .i64 (M + 4), .int .i64 (M + 5), .bool ((M + 6) % 3 == 0), .int .i64 (M + 7), .string (markB (M + 8)), .int .i64 (M + 9), s] := by
  have hk2 : k * 11 + 10 < n * 11 := by omega
  have h1 := take_step (v := .int .i64 M) hP (by omega)
  have h2 := take_step (v := .int .i64 (M + 1)) h1 (by simp; omega)
  have h3 := take_step (v := .int .i64 (M + 2)) h2 (by simp; omega)
  have h4 := take_step (v := .int .i64 (M + 3)) h3 (by simp; omega)
  have h5 := take_step (v := .int .i64 (M + 4)) h4 (by simp; omega)
  have h6 := take_step (v := .int .i64 (M + 5)) h5 (by simp; omega)
  have h7 := take_step (v := .bool ((M + 6) % 3 == 0)) h6 (by simp; omega)
  have h8 := take_step (v := .int .i64 (M + 7)) h7 (by simp; omega)
  have h9 := take_step (v := .string (markB (M + 8))) h8 (by simp; omega)
  have h10 := take_step (v := .int .i64 (M + 9)) h9 (by simp; omega)
  have hl : (((((((((((ys.set (k * 11) (.int .i64 M)).set (k * 11 + 1) (.int .i64 (M + 1))).set (k * 11 + 2) (.int .i64 (M + 2))).set (k * 11 + 3) (.int .i64 (M + 3))).set (k * 11 + 4) (.int .i64 (M + 4))).set (k * 11 + 5) (.int .i64 (M + 5))).set (k * 11 + 6) (.bool ((M + 6) % 3 == 0))).set (k * 11 + 7) (.int .i64 (M + 7))).set (k * 11 + 8) (.string (markB (M + 8)))).set (k * 11 + 9) (.int .i64 (M + 9)))).length = ys.length := by simp
  rw [show (k + 1) * 11 = k * 11 + 9 + 1 + 1 by omega, List.take_succ_eq_append_getElem (by rw [hl]; omega), h10]
  have hx : (((((((((((ys.set (k * 11) (.int .i64 M)).set (k * 11 + 1) (.int .i64 (M + 1))).set (k * 11 + 2) (.int .i64 (M + 2))).set (k * 11 + 3) (.int .i64 (M + 3))).set (k * 11 + 4) (.int .i64 (M + 4))).set (k * 11 + 5) (.int .i64 (M + 5))).set (k * 11 + 6) (.bool ((M + 6) % 3 == 0))).set (k * 11 + 7) (.int .i64 (M + 7))).set (k * 11 + 8) (.string (markB (M + 8)))).set (k * 11 + 9) (.int .i64 (M + 9))))[k * 11 + 9 + 1]'(by rw [hl]; omega) = s := by
    have : ys[k * 11 + 10] = s := by rw [List.getElem?_eq_getElem (by omega)] at hs; injection hs
    rw [List.getElem_set_ne (by omega), List.getElem_set_ne (by omega), List.getElem_set_ne (by omega), List.getElem_set_ne (by omega), List.getElem_set_ne (by omega), List.getElem_set_ne (by omega), List.getElem_set_ne (by omega), List.getElem_set_ne (by omega), List.getElem_set_ne (by omega), List.getElem_set_ne (by omega)]
    exact this
  rw [hx]
  simp

set_option maxRecDepth 20000 in
set_option maxHeartbeats 4000000 in
theorem markVersionS_any (v : Value) (base : Nat) (L : List VerA) (m : Int) (w : World) (h : VOwn w base v L) (hn : L.length ≤ 100) (hx : ∀ x ∈ L, x.x.b.nl.length ≤ 100) (h0 : 1 ≤ m) (h1 : m ≤ 1000) :
    Calls Tryz.prog 42 #[v, .int .i64 m] w fun e w' => e = .returned (.int .i64 (vTo m L)) ∧ VOwn w' base v (vMarks m L) ∧ Out (fun q => VB v L q ∨ w.heap.size ≤ q) w w' := by
  obtain ⟨va, vc, ev⟩ := h.form
  subst ev
  have HB := hide (fun M k => vTo_bounds M (L.take k) 100 (fun x hx' => hx x (List.mem_of_mem_take hx')))
  have HX := hide hx
  have HNE := hide h.ne
  have HPW := hide h.pw
  have HR := hide h.row
  have HNL := hide h.nl
  clear h hx
  go_enter Tryz.func42, Tryz.ntmps42
  go_wp2_with fail
  go_loopw [1, 5] (fun t i wr => ∃ (k : Nat) (ys : List Value), k ≤ L.length ∧ i = .int .i64 k ∧ t = .int .i64 (vTo m (L.take k)) ∧ ys.length = L.length * 11 ∧ Hid (wr.ownsRow base 46 11 (.slice va L.length vc) L.length ys) ∧ Hid (ys.take (k * 11) = vflat (vMarks m (L.take k))) ∧ Hid (∀ j, k * 11 ≤ j → ys[j]? = (vflat L)[j]?) ∧ Hid (∀ i (hi : i < L.length), wr.ownsRow base 2 1 L[i].nv L[i].x.b.nl.length (if i < k then nums (numsFrom (vTo m (L.take i) + 10) L[i].x.b.nl.length) else nums L[i].x.b.nl)) ∧ Hid (Out (fun q => VB (.slice va L.length vc) L q ∨ w.heap.size ≤ q) w wr)) (fun _ i _ => L.length - (intOf i).toNat)
  case atStart => exact ⟨0, vflat L, Nat.zero_le _, rfl, rfl, vflat_len L, HR, rfl, fun _ _ => rfl, fun i hi => by rw [if_neg (by omega)]; exact unhide HNL _ (List.getElem_mem hi), Out.refl _ _⟩
  case round =>
    obtain ⟨k, ys, hk, rfl, rfl, hyl, HO, HP, HS, HN, HU⟩ := hrel
    clear HR HNL
    have hwz := (unhide HU).size
    by_cases hlt : k < L.length
    · obtain ⟨g, ec⟩ : ∃ g, va = some ⟨g, 0, none⟩ := by
        rcases (unhide HO).2 with ⟨_, h0'⟩ | ⟨g, cap, cur, e, _⟩
        · omega
        · injection e with e1; exact ⟨g, e1⟩
      subst ec
      have hvb := unhide HB m k
      have hM0 : 1 ≤ vTo m (L.take k) := by omega
      have hM1 : vTo m (L.take k) ≤ 20000 := by
        have := hvb.2
        rw [List.length_take, Nat.min_eq_left hk] at this
        have h2 : ((10 : Int) + (100 : Nat)) * (k : Int) ≤ 110 * 100 := by push_cast; omega
        omega
      have hto := vTo_take (M := m) hlt
      have hmt := vMarks_take (M := m) hlt
      have hxl := unhide HX _ (List.getElem_mem hlt)
      have hsl : ys[k * 11 + 10]? = some L[k].nv := by
        rw [unhide HS _ (by omega)]
        exact vflat_at L k hlt 10 _ rfl
      have hnk := unhide HN k hlt
      rw [if_neg (by omega)] at hnk
      have hns := unhide HN
      have HTO := hide hto
      have HMT := hide hmt
      have HSL := hide hsl
      have HNK := hide hnk
      generalize hMM : vTo m (L.take k) = M at *
      clear hto hmt hsl hnk hns
      have c0 := (unhide HO).cellAt (k * 11) (by omega)
      have f0 := (unhide HO).frozenAt (k * 11)
      have c1 := (unhide HO).cellAt (k * 11 + 1) (by omega)
      have f1 := (unhide HO).frozenAt (k * 11 + 1)
      have c2 := (unhide HO).cellAt (k * 11 + 2) (by omega)
      have f2 := (unhide HO).frozenAt (k * 11 + 2)
      have c3 := (unhide HO).cellAt (k * 11 + 3) (by omega)
      have f3 := (unhide HO).frozenAt (k * 11 + 3)
      have c4 := (unhide HO).cellAt (k * 11 + 4) (by omega)
      have f4 := (unhide HO).frozenAt (k * 11 + 4)
      have c5 := (unhide HO).cellAt (k * 11 + 5) (by omega)
      have f5 := (unhide HO).frozenAt (k * 11 + 5)
      have c6 := (unhide HO).cellAt (k * 11 + 6) (by omega)
      have f6 := (unhide HO).frozenAt (k * 11 + 6)
      have c7 := (unhide HO).cellAt (k * 11 + 7) (by omega)
      have f7 := (unhide HO).frozenAt (k * 11 + 7)
      have c8 := (unhide HO).cellAt (k * 11 + 8) (by omega)
      have f8 := (unhide HO).frozenAt (k * 11 + 8)
      have c9 := (unhide HO).cellAt (k * 11 + 9) (by omega)
      have f9 := (unhide HO).frozenAt (k * 11 + 9)
      rw [List.getElem?_eq_getElem (by omega)] at c0 c1 c2 c3 c4 c5 c6 c7 c8 c9
      have r3 : (M + 6).tmod 3 = (M + 6) % 3 := Int.tmod_eq_emod_of_nonneg (by omega)
      have r4 : -9223372036854775808 ≤ (M + 6) % 3 ∧ (M + 6) % 3 ≤ 9223372036854775807 := by omega
      have k0 : (0 : Int) ≤ (k : Int) := by omega
      have k1 : (k : Int) < L.length := by omega
      have e2 : M + 1 + 1 = M + 2 := by omega
      have e3 : M + 2 + 1 = M + 3 := by omega
      have e4 : M + 3 + 1 = M + 4 := by omega
      have e5 : M + 4 + 1 = M + 5 := by omega
      have e6 : M + 5 + 1 = M + 6 := by omega
      have e7 : M + 6 + 1 = M + 7 := by omega
      have e8 : M + 7 + 1 = M + 8 := by omega
      have e9 : M + 8 + 1 = M + 9 := by omega
      have e10 : M + 9 + 1 = M + 10 := by omega
      go_wp2_with fail
      refine (markText_any (M + 8) _ (by omega) (by omega)).mono ?_
      rintro e w2 ⟨rfl, hb2⟩
      obtain ⟨U, hU⟩ : ∃ U, U = ((((((((wr.setCell ⟨g, k * 11, none⟩ (.int .i64 M)).setCell ⟨g, k * 11 + 1, none⟩ (.int .i64 (M + 1))).setCell ⟨g, k * 11 + 2, none⟩ (.int .i64 (M + 2))).setCell ⟨g, k * 11 + 3, none⟩ (.int .i64 (M + 3))).setCell ⟨g, k * 11 + 4, none⟩ (.int .i64 (M + 4))).setCell ⟨g, k * 11 + 5, none⟩ (.int .i64 (M + 5))).setCell ⟨g, k * 11 + 6, none⟩ (.bool ((M + 6) % 3 == 0))).setCell ⟨g, k * 11 + 7, none⟩ (.int .i64 (M + 7))) := ⟨_, rfl⟩
      obtain ⟨Y8, hS8⟩ : ∃ Y8, Y8 = ((((((((ys.set (k * 11) (.int .i64 M)).set (k * 11 + 1) (.int .i64 (M + 1))).set (k * 11 + 2) (.int .i64 (M + 2))).set (k * 11 + 3) (.int .i64 (M + 3))).set (k * 11 + 4) (.int .i64 (M + 4))).set (k * 11 + 5) (.int .i64 (M + 5))).set (k * 11 + 6) (.bool ((M + 6) % 3 == 0))).set (k * 11 + 7) (.int .i64 (M + 7))) := ⟨_, rfl⟩
      have hb3 : Below U.heap.size U w2 := by rw [hU]; exact hb2
      have OU : Hid (U.ownsRow base 46 11 (.slice (some ⟨g, 0, none⟩) L.length vc) L.length Y8) := by rw [hU, hS8]; exact (((((((((unhide HO).stored (k * 11) (.int .i64 M)).1.stored (k * 11 + 1) (.int .i64 (M + 1))).1.stored (k * 11 + 2) (.int .i64 (M + 2))).1.stored (k * 11 + 3) (.int .i64 (M + 3))).1.stored (k * 11 + 4) (.int .i64 (M + 4))).1.stored (k * 11 + 5) (.int .i64 (M + 5))).1.stored (k * 11 + 6) (.bool ((M + 6) % 3 == 0))).1.stored (k * 11 + 7) (.int .i64 (M + 7))).1
      have UU : Hid (Out (fun q => q = g) wr U) := by rw [hU]; exact (((((((((Out.refl (fun q => q = g) wr).setCell (p := ⟨g, k * 11, none⟩) (.inl rfl) (.int .i64 M)).setCell (p := ⟨g, k * 11 + 1, none⟩) (.inl rfl) (.int .i64 (M + 1))).setCell (p := ⟨g, k * 11 + 2, none⟩) (.inl rfl) (.int .i64 (M + 2))).setCell (p := ⟨g, k * 11 + 3, none⟩) (.inl rfl) (.int .i64 (M + 3))).setCell (p := ⟨g, k * 11 + 4, none⟩) (.inl rfl) (.int .i64 (M + 4))).setCell (p := ⟨g, k * 11 + 5, none⟩) (.inl rfl) (.int .i64 (M + 5))).setCell (p := ⟨g, k * 11 + 6, none⟩) (.inl rfl) (.bool ((M + 6) % 3 == 0))).setCell (p := ⟨g, k * 11 + 7, none⟩) (.inl rfl) (.int .i64 (M + 7)))
      clear hb2 hU c0 c1 c2 c3 c4 c5 c6 c7 c8 c9 f0 f1 f2 f3 f4 f5 f6 f7 f8 f9
      have z2 := hb3.size
      have z3 := (unhide UU).size
      have O2 := hide (own_below (unhide OU) hb3)
      have B2 := hide hb3
      have hgl : base ≤ g ∧ g < wr.heap.size := (unhide HO).lt g rfl
      have hlen8 : Y8.length = L.length * 11 := by rw [hS8]; simpa using hyl
      have hng : ∀ q, L[k].nv.ownBlock = some q → q ≠ g := fun q hq e => unhide HNE _ (List.getElem_mem hlt) q hq (by rw [e]; rfl)
      have N2 := hide (own_below ((unhide UU).own (unhide HNK) hng) hb3)
      have hs8 : Y8[k * 11 + 10]? = some L[k].nv := by
        rw [hS8, List.getElem?_set_ne (by omega), List.getElem?_set_ne (by omega), List.getElem?_set_ne (by omega), List.getElem?_set_ne (by omega), List.getElem?_set_ne (by omega), List.getElem?_set_ne (by omega), List.getElem?_set_ne (by omega), List.getElem?_set_ne (by omega)]
        exact unhide HSL
      have c8 := (unhide O2).cellAt (k * 11 + 8) (by omega)
      have c9 := (unhide O2).cellAt (k * 11 + 9) (by omega)
      rw [List.getElem?_eq_getElem (by omega)] at c8 c9
      have c10 : w2.cell? ⟨g, k * 11 + 10, none⟩ = some (.slice L[k].x.a L[k].x.b.nl.length L[k].x.c) := ((unhide O2).cellAt (k * 11 + 10) (by omega)).trans hs8
      have f8 := (unhide O2).frozenAt (k * 11 + 8)
      have f9 := (unhide O2).frozenAt (k * 11 + 9)
      have HS8 := hide hS8
      clear hb3 hs8 hS8
      go_wp2_with fail
      clear c8 c9 c10 f8 f9
      change Calls _ _ _ ((w2.setCell ⟨g, k * 11 + 8, none⟩ (.string (markB (M + 8)))).setCell ⟨g, k * 11 + 9, none⟩ (.int .i64 (M + 9))) _
      obtain ⟨V, hV⟩ : ∃ V, V = (w2.setCell ⟨g, k * 11 + 8, none⟩ (.string (markB (M + 8)))).setCell ⟨g, k * 11 + 9, none⟩ (.int .i64 (M + 9)) := ⟨_, rfl⟩
      rw [← hV]
      have OV : Hid (V.ownsRow base 46 11 (.slice (some ⟨g, 0, none⟩) L.length vc) L.length ((Y8.set (k * 11 + 8) (.string (markB (M + 8)))).set (k * 11 + 9) (.int .i64 (M + 9)))) := by rw [hV]; exact (((unhide O2).stored (k * 11 + 8) (.string (markB (M + 8)))).1.stored (k * 11 + 9) (.int .i64 (M + 9))).1
      have UV : Hid (Out (fun q => q = g) w2 V) := by rw [hV]; exact (((Out.refl (fun q => q = g) w2).setCell (p := ⟨g, k * 11 + 8, none⟩) (.inl rfl) (.string (markB (M + 8)))).setCell (p := ⟨g, k * 11 + 9, none⟩) (.inl rfl) (.int .i64 (M + 9)))
      have NV := hide ((unhide UV).own (unhide N2) hng)
      have z4 := (unhide UV).size
      have AV : Hid (Out (fun q => q = g) wr V) := ((unhide UU).trans (Out.ofBelow (F := fun q => q = g) (unhide B2)) (fun _ _ h => h)).trans (unhide UV) (fun _ _ h => h)
      clear hV O2 N2 UV
      refine (markInt64S_any L[k].nv L[k].x.b.nl.length base _ (M + 10) _ (unhide NV) (by omega) (by omega) (by omega)).mono ?_
      rintro e w4 ⟨rfl, hO4, ho4⟩
      have z5 := ho4.size
      have O4 := hide (ho4.own (unhide OV) (fun q hq e => hng q e (by simp [Value.ownBlock] at hq; omega)))
      have N4 : Hid (∀ i (hi : i < L.length), w4.ownsRow base 2 1 L[i].nv L[i].x.b.nl.length (if i < k + 1 then nums (numsFrom (vTo m (L.take i) + 10) L[i].x.b.nl.length) else nums L[i].x.b.nl)) := by
        intro i hi
        by_cases e : i = k
        · subst e
          rw [if_pos (by omega), hMM]
          exact hO4
        · have h1 := unhide HN i hi
          have h2 : (if i < k then nums (numsFrom (vTo m (L.take i) + 10) L[i].x.b.nl.length) else nums L[i].x.b.nl) = (if i < k + 1 then nums (numsFrom (vTo m (L.take i) + 10) L[i].x.b.nl.length) else nums L[i].x.b.nl) := by
            by_cases h3 : i < k
            · rw [if_pos h3, if_pos (by omega)]
            · rw [if_neg h3, if_neg (by omega)]
          rw [h2] at h1
          have h4 := (unhide AV).own h1 (fun q hq e2 => unhide HNE _ (List.getElem_mem hi) q hq (by rw [e2]; rfl))
          refine ho4.own h4 (fun q hq e2 => ?_)
          have hpw := List.pairwise_iff_getElem.1 (unhide HPW)
          rcases Nat.lt_or_gt_of_ne e with h5 | h5
          · exact hpw i k hi hlt h5 q hq e2
          · exact hpw k i hlt hi h5 q e2 hq
      have P4 : Hid (((Y8.set (k * 11 + 8) (.string (markB (M + 8)))).set (k * 11 + 9) (.int .i64 (M + 9))).take ((k + 1) * 11) = vflat (vMarks m (L.take (k + 1)))) := by
        rw [Hid, unhide HMT, vflat_snoc, unhide HS8]
        exact vstep hyl hlt (unhide HP) (by rw [unhide HSL, ← markVer_nv M L[k]]; rfl)
      have S4 : Hid (∀ j, (k + 1) * 11 ≤ j → ((Y8.set (k * 11 + 8) (.string (markB (M + 8)))).set (k * 11 + 9) (.int .i64 (M + 9)))[j]? = (vflat L)[j]?) := by
        intro j hj
        rw [unhide HS8, List.getElem?_set_ne (by omega), List.getElem?_set_ne (by omega), List.getElem?_set_ne (by omega), List.getElem?_set_ne (by omega), List.getElem?_set_ne (by omega), List.getElem?_set_ne (by omega), List.getElem?_set_ne (by omega), List.getElem?_set_ne (by omega), List.getElem?_set_ne (by omega), List.getElem?_set_ne (by omega)]
        exact unhide HS j (by omega)
      have U4 : Hid (Out (fun q => VB (.slice (some ⟨g, 0, none⟩) L.length vc) L q ∨ w.heap.size ≤ q) w w4) := ((unhide HU).trans (unhide AV) (fun q _ e => .inl (.inl (by rw [e]; rfl)))).trans ho4 (fun q _ e => .inl (.inr ⟨L[k], List.getElem_mem hlt, e⟩))
      have L4 : ((Y8.set (k * 11 + 8) (.string (markB (M + 8)))).set (k * 11 + 9) (.int .i64 (M + 9))).length = L.length * 11 := by simpa using hlen8
      have hmk : M + 10 + (L[k].x.b.nl.length : Int) = vTo m (L.take (k + 1)) := (unhide HTO).symm
      rw [hmk]
      generalize ((Y8.set (k * 11 + 8) (.string (markB (M + 8)))).set (k * 11 + 9) (.int .i64 (M + 9))) = Y10 at *
      clear hmk hO4 ho4 HO HP HS HN HU HNK HSL HMT HTO NV OV AV UU OU B2 HS8 hMM
      go_wp2_with fail
      go_roundw
      case rel => exact ⟨k + 1, Y10, by omega, by go_num, rfl, L4, O4, P4, S4, N4, U4⟩
      case measure => simp [intOf]; omega
    · have hke : k = L.length := by omega
      subst hke
      have hys : ys = vflat (vMarks m L) := by
        have := unhide HP
        rwa [List.take_of_length_le (by omega), List.take_length] at this
      have HYS := hide hys
      have HV : Hid (VOwn wr base (.slice va L.length vc) (vMarks m L)) := vOwn_marked (unhide HNE) (unhide HPW) (by rw [← hys]; exact unhide HO) (fun i hi => by have := unhide HN i hi; rw [if_pos hi] at this; exact this)
      rw [List.take_length]
      have k1 : ¬ (L.length : Int) < L.length := by omega
      clear hys
      go_wp2_with fail
      go_ret
      exact ⟨rfl, unhide HV, unhide HU⟩
end Go.Proofs.YtcmekhpphgkglaaGreat
/-
  What the laws' own reads back and looks of lists of versions do.
-/
namespace Go.Proofs.YtcmekhpphgkglaaGreat
open Go.RowKit
set_option linter.unusedVariables false

theorem keepV {W0 w' w1 : World} {b o1 o2 o3 : Nat} {v1 v2 v3 : Value} (h3 : b < W0.heap.size) (hS : Below W0.heap.size W0 w' ∧ w'.cell? ⟨b, o1, none⟩ = some v1 ∧ w'.cell? ⟨b, o2, none⟩ = some v2 ∧ w'.cell? ⟨b, o3, none⟩ = some v3) (hb : Below w'.heap.size w' w1) :
    Below W0.heap.size W0 w1 ∧ w1.cell? ⟨b, o1, none⟩ = some v1 ∧ w1.cell? ⟨b, o2, none⟩ = some v2 ∧ w1.cell? ⟨b, o3, none⟩ = some v3 := by
  obtain ⟨h, c1, c2, c3⟩ := hS
  have hz := h.size
  exact ⟨h.trans (hb.mono h.size), ((bcell hb).1 _ _ (by omega)).trans c1, ((bcell hb).1 _ _ (by omega)).trans c2, ((bcell hb).1 _ _ (by omega)).trans c3⟩
theorem VOwn.ints {w : World} {base : Nat} {v : Value} {L : List VerA} (h : VOwn w base v L) {k : Nat} (hk : k < L.length) : IntsAt w L[k].x.a L[k].x.b.nl := intsAt_own1 (h.nl _ (List.getElem_mem hk))

set_option maxRecDepth 20000 in
set_option maxHeartbeats 4000000 in
theorem heldVersionS_any (va : Option Addr) (vc base : Nat) (L : List VerA) (m : Int) (w : World) (h : VOwn w base (.slice va L.length vc) (vMarks m L)) (hn : L.length ≤ 100) (hx : ∀ x ∈ L, x.x.b.nl.length ≤ 100) (h0 : 1 ≤ m) (h1 : m ≤ 1000) :
    Calls Tryz.prog 43 #[.slice va L.length vc, .int .i64 m] w fun e w' => e = .returned (.int .i64 (vTo m L)) ∧ Below w.heap.size w w' := by
  have HB := hide (fun M k => vTo_bounds M (L.take k) 100 (fun x hx' => hx x (List.mem_of_mem_take hx')))
  have HX := hide hx
  have H := hide h
  clear h hx
  go_enter Tryz.func43, Tryz.ntmps43
  go_wp2_with fail
  go_loopw [1, 5] (fun t i wr => ∃ (k : Nat), k ≤ L.length ∧ i = .int .i64 k ∧ t = .int .i64 (vTo m (L.take k)) ∧ Hid (Below w.heap.size w wr)) (fun _ i _ => L.length - (intOf i).toNat)
  case atStart => exact ⟨0, Nat.zero_le _, rfl, rfl, Below.refl _ _⟩
  case round =>
    obtain ⟨k, hk, rfl, rfl, HU⟩ := hrel
    have hwz := (unhide HU).size
    by_cases hlt : k < L.length
    · have hlm : k < (vMarks m L).length := by rw [vMarks_length]; exact hlt
      obtain ⟨g, c2, eg, hg, hcell⟩ := ((unhide H).below (unhide HU)).at hlm
      have hint := ((unhide H).below (unhide HU)).ints hlm
      injection eg with eg1 eg2 eg3
      subst eg1 eg3
      rw [vMarks_at hlt] at hcell hint
      have hvb := unhide HB m k
      have hM0 : 1 ≤ vTo m (L.take k) := by omega
      have hM1 : vTo m (L.take k) ≤ 20000 := by
        have := hvb.2
        rw [List.length_take, Nat.min_eq_left hk] at this
        have h2 : ((10 : Int) + (100 : Nat)) * (k : Int) ≤ 110 * 100 := by push_cast; omega
        omega
      have hto := vTo_take (M := m) hlt
      have hxl := unhide HX _ (List.getElem_mem hlt)
      have HTO := hide hto
      generalize hMM : vTo m (L.take k) = M at *
      have HIN : Hid (IntsAt wr L[k].x.a (numsFrom (M + 10) L[k].x.b.nl.length)) := hint
      clear hto eg2 hint hMM hvb
      obtain ⟨mk, hmk⟩ : ∃ mk, mk = markB (M + 8) := ⟨_, rfl⟩
      have c0 : wr.cell? ⟨g, k * 11, none⟩ = some (.int .i64 (M)) := hcell 0 _ rfl
      have c1 : wr.cell? ⟨g, k * 11 + 1, none⟩ = some (.int .i64 (M + 1)) := hcell 1 _ rfl
      have c2 : wr.cell? ⟨g, k * 11 + 1 + 1, none⟩ = some (.int .i64 (M + 2)) := hcell 2 _ rfl
      have c3 : wr.cell? ⟨g, k * 11 + 1 + 2, none⟩ = some (.int .i64 (M + 3)) := hcell 3 _ rfl
      have c4 : wr.cell? ⟨g, k * 11 + 1 + 3, none⟩ = some (.int .i64 (M + 4)) := hcell 4 _ rfl
      have c5 : wr.cell? ⟨g, k * 11 + 5, none⟩ = some (.int .i64 (M + 5)) := hcell 5 _ rfl
      have c7 : wr.cell? ⟨g, k * 11 + 1 + 4 + 2, none⟩ = some (.int .i64 (M + 7)) := hcell 7 _ rfl
      have c6 : wr.cell? ⟨g, k * 11 + 1 + 4 + 1, none⟩ = some (.bool ((M + 6) % 3 == 0)) := hcell 6 _ rfl
      have c8 : wr.cell? ⟨g, k * 11 + 1 + 4 + 3, none⟩ = some (.string mk) := hcell 8 _ (by rw [hmk]; rfl)
      have c9 : wr.cell? ⟨g, k * 11 + 1 + 4 + 4, none⟩ = some (.int .i64 (M + 9)) := hcell 9 _ rfl
      have c10 : wr.cell? ⟨g, k * 11 + 1 + 9, none⟩ = some (.slice L[k].x.a L[k].x.b.nl.length L[k].x.c) := hcell 10 _ (show (markVer M L[k]).cells[10]? = some L[k].nv by rw [← markVer_nv M L[k]]; rfl)
      have HMK := hide hmk
      have n0 := int_neq_self (M)
      have n1 := int_neq_self (M + 1)
      have n2 := int_neq_self (M + 2)
      have n3 := int_neq_self (M + 3)
      have n4 := int_neq_self (M + 4)
      have n5 := int_neq_self (M + 5)
      have n7 := int_neq_self (M + 7)
      have n9 := int_neq_self (M + 9)
      have n6 := bool_neq_self ((M + 6) % 3 == 0)
      have e2 : M + 1 + 1 = M + 2 := by omega
      have e3 : M + 2 + 1 = M + 3 := by omega
      have e4 : M + 3 + 1 = M + 4 := by omega
      have e5 : M + 4 + 1 = M + 5 := by omega
      have e6 : M + 5 + 1 = M + 6 := by omega
      have e7 : M + 6 + 1 = M + 7 := by omega
      have e8 : M + 7 + 1 = M + 8 := by omega
      have e9 : M + 8 + 1 = M + 9 := by omega
      have e10 : M + 9 + 1 = M + 10 := by omega
      have r3 : (M + 6).tmod 3 = (M + 6) % 3 := Int.tmod_eq_emod_of_nonneg (by omega)
      have r4 : -9223372036854775808 ≤ (M + 6) % 3 ∧ (M + 6) % 3 ≤ 9223372036854775807 := by omega
      have k0 : (0 : Int) ≤ (k : Int) := by omega
      have k1 : (k : Int) < L.length := by omega
      have hD : (fun w' => Below wr.heap.size wr w' ∧ w'.cell? ⟨g, k * 11 + 1 + 4 + 3, none⟩ = some (.string mk) ∧ w'.cell? ⟨g, k * 11 + 1 + 4 + 4, none⟩ = some (.int .i64 (M + 9)) ∧ w'.cell? ⟨g, k * 11 + 1 + 9, none⟩ = some (.slice L[k].x.a L[k].x.b.nl.length L[k].x.c)) wr.drew := ⟨(Below.refl _ _).drew, c8, c9, c10⟩
      have HD := hide hD
      clear hcell hmk hD
      go_wp2_with fail
      clear c0 c1 c2 c3 c4 c5 c6 c7 c8 c9 c10
      go_region_held3 (fun w' => Below wr.heap.size wr w' ∧ w'.cell? ⟨g, k * 11 + 1 + 4 + 3, none⟩ = some (.string mk) ∧ w'.cell? ⟨g, k * 11 + 1 + 4 + 4, none⟩ = some (.int .i64 (M + 9)) ∧ w'.cell? ⟨g, k * 11 + 1 + 9, none⟩ = some (.slice L[k].x.a L[k].x.b.nl.length L[k].x.c)) (first | exact unhide HD | exact keepV (by omega) (by assumption) (by assumption))
        (first | (go_at_call 66; refine (markText_any _ _ (by omega) (by omega)).mono ?_; rintro e w2 ⟨rfl, hb2⟩; rw [← unhide HMK]))
      rename_i hSF
      have c9 := hSF.2.2.1
      have c10 := hSF.2.2.2
      have B2 := hide hSF.1
      have IN2 := hide ((unhide HIN).below hSF.1)
      clear hSF HD HIN
      go_wp2_with fail
      refine (heldInt64S_any _ _ L[k].x.b.nl.length (M + 10) _ (unhide IN2) (by omega) (by omega) (by omega)).mono ?_
      rintro e w4 ⟨rfl, rfl⟩
      have hnn : ¬ (M + 10 + (L[k].x.b.nl.length : Int)) < 0 := by omega
      have hmk : M + 10 + (L[k].x.b.nl.length : Int) = vTo m (L.take (k + 1)) := (unhide HTO).symm
      rw [hmk] at hnn ⊢
      have B4 := hide ((unhide HU).trans ((unhide B2).mono hwz))
      clear hmk c9 c10 HTO n0 n1 n2 n3 n4 n5 n6 n7 n9 e2 e3 e4 e5 e6 e7 e8 e9 e10 r3 r4
      go_wp2_with fail
      go_roundw
      case rel => exact ⟨k + 1, by omega, by go_num, rfl, B4⟩
      case measure => simp [intOf]; omega
    · have hke : k = L.length := by omega
      subst hke
      have k1 : ¬ (L.length : Int) < L.length := by omega
      rw [List.take_length]
      go_wp2_with fail
      go_ret
      exact ⟨rfl, unhide HU⟩
end Go.Proofs.YtcmekhpphgkglaaGreat
/-
  What the laws' own looks at versions answer of the same ones; answers of versions looked at, marked, read back.
-/
namespace Go.Proofs.YtcmekhpphgkglaaGreat
open Go.RowKit
set_option linter.unusedVariables false

theorem readBlk_nl (l : List Int) : (readBlk l).nl.length ≤ 4 := by
  unfold readBlk
  split
  · split
    · unfold toldBlk
      split
      · simp
      · split
        · simp
        · split <;> simp [Blk.none]
    · simp [Blk.none]
  · simp [Blk.none]
theorem imgRun_nl (clock : Int) : ∀ (n : Nat) (line : Int) (ws : List Int), ∀ v ∈ (imgRun clock n line ws).2.1, v.2.nl.length ≤ 4
  | 0, _, _, v, h => by simp [imgRun] at h
  | n + 1, line, ws, v, h => by
    have ih := imgRun_nl clock n (line + 1) (ws.drop 8)
    unfold imgRun at h
    split at h
    · split at h
      · rcases List.mem_append.1 h with h | h
        · unfold stepVers at h
          split at h
          · cases h
          · split at h
            · rcases List.mem_singleton.1 h with rfl; exact readBlk_nl _
            · rcases List.mem_singleton.1 h with rfl; simp [headBlk]
        · exact ih v h
      · cases h
    · cases h
theorem imgVers_small (ws : List Int) : (imgVers ws).length ≤ 41 ∧ ∀ v ∈ imgVers ws, v.2.nl.length ≤ 4 := by
  unfold imgVers
  split
  · rename_i hc
    obtain ⟨_, _, hs⟩ := clockVal_bounds hc
    have hz : ws.length ≤ 328 := by simp [sizeOk] at hs; omega
    have := (imgRun_len (clockVal ws) (ws.length / 8 - 1) 1 (ws.drop 8)).1
    exact ⟨by omega, imgRun_nl _ _ _ _⟩
  · simp
theorem vers_small {ws : List Int} {L : List VerA} (h : L.map VerA.ver = imgVers ws) : L.length ≤ 100 ∧ ∀ x ∈ L, x.x.b.nl.length ≤ 100 := by
  have hs := imgVers_small ws
  rw [← h] at hs
  refine ⟨by have := hs.1; simp at this; omega, fun x hx => ?_⟩
  have := hs.2 x.ver (List.mem_map_of_mem hx)
  exact Nat.le_trans this (by decide)

theorem keepV22 {W0 w' w1 : World} {b b2 o0 o1 o2 o3 o4 o5 o6 o7 o8 o9 o10 p0 p1 p2 p3 p4 p5 p6 p7 p8 p9 p10 : Nat} {v0 v1 v2 v3 v4 v5 v6 v7 v8 v9 v10 u0 u1 u2 u3 u4 u5 u6 u7 u8 u9 u10 : Value} (h3 : b < W0.heap.size) (h4 : b2 < W0.heap.size) (hS : Below W0.heap.size W0 w' ∧ w'.cell? ⟨b, o0, none⟩ = some v0 ∧ w'.cell? ⟨b, o1, none⟩ = some v1 ∧ w'.cell? ⟨b, o2, none⟩ = some v2 ∧ w'.cell? ⟨b, o3, none⟩ = some v3 ∧ w'.cell? ⟨b, o4, none⟩ = some v4 ∧ w'.cell? ⟨b, o5, none⟩ = some v5 ∧ w'.cell? ⟨b, o6, none⟩ = some v6 ∧ w'.cell? ⟨b, o7, none⟩ = some v7 ∧ w'.cell? ⟨b, o8, none⟩ = some v8 ∧ w'.cell? ⟨b, o9, none⟩ = some v9 ∧ w'.cell? ⟨b, o10, none⟩ = some v10 ∧ w'.cell? ⟨b2, p0, none⟩ = some u0 ∧ w'.cell? ⟨b2, p1, none⟩ = some u1 ∧ w'.cell? ⟨b2, p2, none⟩ = some u2 ∧ w'.cell? ⟨b2, p3, none⟩ = some u3 ∧ w'.cell? ⟨b2, p4, none⟩ = some u4 ∧ w'.cell? ⟨b2, p5, none⟩ = some u5 ∧ w'.cell? ⟨b2, p6, none⟩ = some u6 ∧ w'.cell? ⟨b2, p7, none⟩ = some u7 ∧ w'.cell? ⟨b2, p8, none⟩ = some u8 ∧ w'.cell? ⟨b2, p9, none⟩ = some u9 ∧ w'.cell? ⟨b2, p10, none⟩ = some u10) (hb : Below w'.heap.size w' w1) :
    Below W0.heap.size W0 w1 ∧ w1.cell? ⟨b, o0, none⟩ = some v0 ∧ w1.cell? ⟨b, o1, none⟩ = some v1 ∧ w1.cell? ⟨b, o2, none⟩ = some v2 ∧ w1.cell? ⟨b, o3, none⟩ = some v3 ∧ w1.cell? ⟨b, o4, none⟩ = some v4 ∧ w1.cell? ⟨b, o5, none⟩ = some v5 ∧ w1.cell? ⟨b, o6, none⟩ = some v6 ∧ w1.cell? ⟨b, o7, none⟩ = some v7 ∧ w1.cell? ⟨b, o8, none⟩ = some v8 ∧ w1.cell? ⟨b, o9, none⟩ = some v9 ∧ w1.cell? ⟨b, o10, none⟩ = some v10 ∧ w1.cell? ⟨b2, p0, none⟩ = some u0 ∧ w1.cell? ⟨b2, p1, none⟩ = some u1 ∧ w1.cell? ⟨b2, p2, none⟩ = some u2 ∧ w1.cell? ⟨b2, p3, none⟩ = some u3 ∧ w1.cell? ⟨b2, p4, none⟩ = some u4 ∧ w1.cell? ⟨b2, p5, none⟩ = some u5 ∧ w1.cell? ⟨b2, p6, none⟩ = some u6 ∧ w1.cell? ⟨b2, p7, none⟩ = some u7 ∧ w1.cell? ⟨b2, p8, none⟩ = some u8 ∧ w1.cell? ⟨b2, p9, none⟩ = some u9 ∧ w1.cell? ⟨b2, p10, none⟩ = some u10 := by
  obtain ⟨h, c0, c1, c2, c3, c4, c5, c6, c7, c8, c9, c10, d0, d1, d2, d3, d4, d5, d6, d7, d8, d9, d10⟩ := hS
  have hz := h.size
  exact ⟨h.trans (hb.mono h.size), ((bcell hb).1 _ _ (by omega)).trans c0, ((bcell hb).1 _ _ (by omega)).trans c1, ((bcell hb).1 _ _ (by omega)).trans c2, ((bcell hb).1 _ _ (by omega)).trans c3, ((bcell hb).1 _ _ (by omega)).trans c4, ((bcell hb).1 _ _ (by omega)).trans c5, ((bcell hb).1 _ _ (by omega)).trans c6, ((bcell hb).1 _ _ (by omega)).trans c7, ((bcell hb).1 _ _ (by omega)).trans c8, ((bcell hb).1 _ _ (by omega)).trans c9, ((bcell hb).1 _ _ (by omega)).trans c10, ((bcell hb).1 _ _ (by omega)).trans d0, ((bcell hb).1 _ _ (by omega)).trans d1, ((bcell hb).1 _ _ (by omega)).trans d2, ((bcell hb).1 _ _ (by omega)).trans d3, ((bcell hb).1 _ _ (by omega)).trans d4, ((bcell hb).1 _ _ (by omega)).trans d5, ((bcell hb).1 _ _ (by omega)).trans d6, ((bcell hb).1 _ _ (by omega)).trans d7, ((bcell hb).1 _ _ (by omega)).trans d8, ((bcell hb).1 _ _ (by omega)).trans d9, ((bcell hb).1 _ _ (by omega)).trans d10⟩
set_option maxRecDepth 20000 in
set_option maxHeartbeats 2000000 in
theorem eqVersion_same (ln k u i e nu : Int) (nd : Bool) (np : Int) (nn : ByteArray) (ns : Int) (a b : Option Addr) (c d : Nat) (l : List Int) (w : World) (h : IntsAt w a l) (h2 : IntsAt w b l) (hn : l.length ≤ 1048576) :
    Calls Tryz.prog 65 #[.agg #[.int .i64 ln, .int .i64 k, .int .i64 u, .int .i64 i, .int .i64 e, .int .i64 nu, .bool nd, .int .i64 np, .string nn, .int .i64 ns, .slice a l.length c], .agg #[.int .i64 ln, .int .i64 k, .int .i64 u, .int .i64 i, .int .i64 e, .int .i64 nu, .bool nd, .int .i64 np, .string nn, .int .i64 ns, .slice b l.length d]] w fun r w' => r = .returned (.bool true) ∧ Below w.heap.size w w' := by
  have hne := int_neq_self ln
  have H := hide h
  have H2 := hide h2
  clear h h2
  obtain ⟨W, hW, z1, hb, hx, hy⟩ := boxes2 w [.int .i64 ln, .int .i64 k, .int .i64 u, .int .i64 i, .int .i64 e, .int .i64 nu, .bool nd, .int .i64 np, .string nn, .int .i64 ns, .slice a l.length c] [.int .i64 ln, .int .i64 k, .int .i64 u, .int .i64 i, .int .i64 e, .int .i64 nu, .bool nd, .int .i64 np, .string nn, .int .i64 ns, .slice b l.length d] 46 46
  have X0 := hx
  have Y0 := hy
  rw [hW] at X0 Y0
  go_enter Tryz.func65, Tryz.ntmps65
  go_wp2_with (first
    | (refine wpList_load_part rfl 44 (.tmp 10) rfl w.heap.size 1 rfl 46 _ [.int .i64 k, .int .i64 u, .int .i64 i, .int .i64 e, .int .i64 nu, .bool nd, .int .i64 np, .string nn, .int .i64 ns, .slice a l.length c] (unhide X0) rfl _ Tryz.underlying44 rfl (by kernel_rfl) ?_)
    | (refine wpList_load_part rfl 44 (.tmp 12) rfl (w.heap.size + 1) 1 rfl 46 _ [.int .i64 k, .int .i64 u, .int .i64 i, .int .i64 e, .int .i64 nu, .bool nd, .int .i64 np, .string nn, .int .i64 ns, .slice b l.length d] (unhide Y0) rfl _ Tryz.underlying44 rfl (by kernel_rfl) ?_))
  rw [← hW]
  clear hW X0 Y0
  refine (eqBlock_same k u i e nu nd np nn ns a b c d l _ ((unhide H).below (unhide hb)) ((unhide H2).below (unhide hb)) hn).mono ?_
  rintro r w2 ⟨rfl, hb2⟩
  have B2 := hide (below_step (unhide hb) hb2 (by omega))
  clear hb2 hb hx hy
  go_wp2_with fail
  go_ret
  exact ⟨rfl, unhide B2⟩
set_option maxRecDepth 20000 in
set_option maxHeartbeats 4000000 in
theorem eqVersionS_same (va vb : Option Addr) (c d base base' : Nat) (L M : List VerA) (w : World) (h : VOwn w base (.slice va L.length c) L) (h2 : VOwn w base' (.slice vb M.length d) M) (hn : L.length ≤ 100) (hs : L.map VerA.ver = M.map VerA.ver) (hx : ∀ x ∈ L, x.x.b.nl.length ≤ 100) :
    Calls Tryz.prog 41 #[.slice va L.length c, .slice vb M.length d] w fun r w' => r = .returned (.bool true) ∧ Below w.heap.size w w' := by
  have hlm : L.length = M.length := by simpa using congrArg List.length hs
  have hlb : ((L.length : Int) != (M.length : Int)) = false := by simp; omega
  have HL := hide hlm
  have HSS := hide hs
  have H := hide h
  have H2 := hide h2
  have HX := hide hx
  clear hlm hs h h2 hx
  go_enter Tryz.func41, Tryz.ntmps41
  go_wp2_with fail
  go_loopw [5] (fun i wr => ∃ k : Nat, k ≤ L.length ∧ i = .int .i64 k ∧ Hid (Below w.heap.size w wr)) (fun i _ => L.length - (intOf i).toNat)
  case atStart => exact ⟨0, Nat.zero_le _, rfl, Below.refl _ _⟩
  case round =>
    obtain ⟨k, hk, rfl, HB⟩ := hrel
    have z0 := (unhide HB).size
    by_cases hlt : k < L.length
    · have hlt2 : k < M.length := by have := unhide HL; omega
      have hxy : L[k].ver = M[k].ver := by
        have := congrArg (fun l => l[k]?) (unhide HSS)
        simpa [hlt, hlt2] using this
      have hi1 := ((unhide H).below (unhide HB)).ints hlt
      have hi2 := ((unhide H2).below (unhide HB)).ints hlt2
      obtain ⟨g1, e1, eg, hg1, hc1⟩ := ((unhide H).below (unhide HB)).at hlt
      injection eg with eg1 eg2 eg3
      subst eg1 eg3
      obtain ⟨g2, e2, eg, hg2, hc2⟩ := ((unhide H2).below (unhide HB)).at hlt2
      injection eg with eg1 eg2 eg3
      subst eg1 eg3
      have hnl := unhide HX _ (List.getElem_mem hlt)
      generalize L[k] = x at *
      generalize M[k] = y at *
      have hxl : x.line = y.line := congrArg Prod.fst hxy
      have hxb : x.x.b = y.x.b := congrArg Prod.snd hxy
      have I1 := hide hi1
      have I2 : Hid (IntsAt wr y.x.a x.x.b.nl) := by rw [hxb]; exact hi2
      have k0 : (0 : Int) ≤ (k : Int) := by omega
      have k1 : (k : Int) < L.length := by omega
      have k2 : (k : Int) < M.length := by omega
      have x0 : wr.cell? ⟨g1, k * 11, none⟩ = some (.int .i64 x.line) := hc1 0 _ rfl
      have x1 : wr.cell? ⟨g1, k * 11 + 1, none⟩ = some (.int .i64 x.x.b.k) := hc1 1 _ rfl
      have x2 : wr.cell? ⟨g1, k * 11 + 2, none⟩ = some (.int .i64 x.x.b.u) := hc1 2 _ rfl
      have x3 : wr.cell? ⟨g1, k * 11 + 3, none⟩ = some (.int .i64 x.x.b.i) := hc1 3 _ rfl
      have x4 : wr.cell? ⟨g1, k * 11 + 4, none⟩ = some (.int .i64 x.x.b.e) := hc1 4 _ rfl
      have x5 : wr.cell? ⟨g1, k * 11 + 5, none⟩ = some (.int .i64 x.x.b.nu) := hc1 5 _ rfl
      have x6 : wr.cell? ⟨g1, k * 11 + 6, none⟩ = some (.bool x.x.b.nd) := hc1 6 _ rfl
      have x7 : wr.cell? ⟨g1, k * 11 + 7, none⟩ = some (.int .i64 x.x.b.np) := hc1 7 _ rfl
      have x8 : wr.cell? ⟨g1, k * 11 + 8, none⟩ = some (.string x.x.b.nn) := hc1 8 _ rfl
      have x9 : wr.cell? ⟨g1, k * 11 + 9, none⟩ = some (.int .i64 x.x.b.ns) := hc1 9 _ rfl
      have x10 : wr.cell? ⟨g1, k * 11 + 10, none⟩ = some (.slice x.x.a x.x.b.nl.length x.x.c) := hc1 10 _ rfl
      have y0 : wr.cell? ⟨g2, k * 11, none⟩ = some (.int .i64 x.line) := by
        have := hc2 0 _ rfl
        rwa [← hxl] at this
      have y1 : wr.cell? ⟨g2, k * 11 + 1, none⟩ = some (.int .i64 x.x.b.k) := by
        have := hc2 1 _ rfl
        rwa [← hxb] at this
      have y2 : wr.cell? ⟨g2, k * 11 + 2, none⟩ = some (.int .i64 x.x.b.u) := by
        have := hc2 2 _ rfl
        rwa [← hxb] at this
      have y3 : wr.cell? ⟨g2, k * 11 + 3, none⟩ = some (.int .i64 x.x.b.i) := by
        have := hc2 3 _ rfl
        rwa [← hxb] at this
      have y4 : wr.cell? ⟨g2, k * 11 + 4, none⟩ = some (.int .i64 x.x.b.e) := by
        have := hc2 4 _ rfl
        rwa [← hxb] at this
      have y5 : wr.cell? ⟨g2, k * 11 + 5, none⟩ = some (.int .i64 x.x.b.nu) := by
        have := hc2 5 _ rfl
        rwa [← hxb] at this
      have y6 : wr.cell? ⟨g2, k * 11 + 6, none⟩ = some (.bool x.x.b.nd) := by
        have := hc2 6 _ rfl
        rwa [← hxb] at this
      have y7 : wr.cell? ⟨g2, k * 11 + 7, none⟩ = some (.int .i64 x.x.b.np) := by
        have := hc2 7 _ rfl
        rwa [← hxb] at this
      have y8 : wr.cell? ⟨g2, k * 11 + 8, none⟩ = some (.string x.x.b.nn) := by
        have := hc2 8 _ rfl
        rwa [← hxb] at this
      have y9 : wr.cell? ⟨g2, k * 11 + 9, none⟩ = some (.int .i64 x.x.b.ns) := by
        have := hc2 9 _ rfl
        rwa [← hxb] at this
      have y10 : wr.cell? ⟨g2, k * 11 + 10, none⟩ = some (.slice y.x.a x.x.b.nl.length y.x.c) := by
        have := hc2 10 _ rfl
        rwa [← hxb] at this
      have hD : (fun w' => Below wr.heap.size wr w' ∧ w'.cell? ⟨g1, k * 11, none⟩ = some (.int .i64 x.line) ∧ w'.cell? ⟨g1, k * 11 + 1, none⟩ = some (.int .i64 x.x.b.k) ∧ w'.cell? ⟨g1, k * 11 + 2, none⟩ = some (.int .i64 x.x.b.u) ∧ w'.cell? ⟨g1, k * 11 + 3, none⟩ = some (.int .i64 x.x.b.i) ∧ w'.cell? ⟨g1, k * 11 + 4, none⟩ = some (.int .i64 x.x.b.e) ∧ w'.cell? ⟨g1, k * 11 + 5, none⟩ = some (.int .i64 x.x.b.nu) ∧ w'.cell? ⟨g1, k * 11 + 6, none⟩ = some (.bool x.x.b.nd) ∧ w'.cell? ⟨g1, k * 11 + 7, none⟩ = some (.int .i64 x.x.b.np) ∧ w'.cell? ⟨g1, k * 11 + 8, none⟩ = some (.string x.x.b.nn) ∧ w'.cell? ⟨g1, k * 11 + 9, none⟩ = some (.int .i64 x.x.b.ns) ∧ w'.cell? ⟨g1, k * 11 + 10, none⟩ = some (.slice x.x.a x.x.b.nl.length x.x.c) ∧ w'.cell? ⟨g2, k * 11, none⟩ = some (.int .i64 x.line) ∧ w'.cell? ⟨g2, k * 11 + 1, none⟩ = some (.int .i64 x.x.b.k) ∧ w'.cell? ⟨g2, k * 11 + 2, none⟩ = some (.int .i64 x.x.b.u) ∧ w'.cell? ⟨g2, k * 11 + 3, none⟩ = some (.int .i64 x.x.b.i) ∧ w'.cell? ⟨g2, k * 11 + 4, none⟩ = some (.int .i64 x.x.b.e) ∧ w'.cell? ⟨g2, k * 11 + 5, none⟩ = some (.int .i64 x.x.b.nu) ∧ w'.cell? ⟨g2, k * 11 + 6, none⟩ = some (.bool x.x.b.nd) ∧ w'.cell? ⟨g2, k * 11 + 7, none⟩ = some (.int .i64 x.x.b.np) ∧ w'.cell? ⟨g2, k * 11 + 8, none⟩ = some (.string x.x.b.nn) ∧ w'.cell? ⟨g2, k * 11 + 9, none⟩ = some (.int .i64 x.x.b.ns) ∧ w'.cell? ⟨g2, k * 11 + 10, none⟩ = some (.slice y.x.a x.x.b.nl.length y.x.c)) wr.drew := ⟨(Below.refl _ _).drew, x0, x1, x2, x3, x4, x5, x6, x7, x8, x9, x10, y0, y1, y2, y3, y4, y5, y6, y7, y8, y9, y10⟩
      have HD := hide hD
      clear hD hc1 hc2 hi1 hi2 hxy hxl hxb x0 x1 x2 x3 x4 x5 x6 x7 x8 x9 x10 y0 y1 y2 y3 y4 y5 y6 y7 y8 y9 y10
      go_wp2_with fail
      go_region_held3 (fun w' => Below wr.heap.size wr w' ∧ w'.cell? ⟨g1, k * 11, none⟩ = some (.int .i64 x.line) ∧ w'.cell? ⟨g1, k * 11 + 1, none⟩ = some (.int .i64 x.x.b.k) ∧ w'.cell? ⟨g1, k * 11 + 2, none⟩ = some (.int .i64 x.x.b.u) ∧ w'.cell? ⟨g1, k * 11 + 3, none⟩ = some (.int .i64 x.x.b.i) ∧ w'.cell? ⟨g1, k * 11 + 4, none⟩ = some (.int .i64 x.x.b.e) ∧ w'.cell? ⟨g1, k * 11 + 5, none⟩ = some (.int .i64 x.x.b.nu) ∧ w'.cell? ⟨g1, k * 11 + 6, none⟩ = some (.bool x.x.b.nd) ∧ w'.cell? ⟨g1, k * 11 + 7, none⟩ = some (.int .i64 x.x.b.np) ∧ w'.cell? ⟨g1, k * 11 + 8, none⟩ = some (.string x.x.b.nn) ∧ w'.cell? ⟨g1, k * 11 + 9, none⟩ = some (.int .i64 x.x.b.ns) ∧ w'.cell? ⟨g1, k * 11 + 10, none⟩ = some (.slice x.x.a x.x.b.nl.length x.x.c) ∧ w'.cell? ⟨g2, k * 11, none⟩ = some (.int .i64 x.line) ∧ w'.cell? ⟨g2, k * 11 + 1, none⟩ = some (.int .i64 x.x.b.k) ∧ w'.cell? ⟨g2, k * 11 + 2, none⟩ = some (.int .i64 x.x.b.u) ∧ w'.cell? ⟨g2, k * 11 + 3, none⟩ = some (.int .i64 x.x.b.i) ∧ w'.cell? ⟨g2, k * 11 + 4, none⟩ = some (.int .i64 x.x.b.e) ∧ w'.cell? ⟨g2, k * 11 + 5, none⟩ = some (.int .i64 x.x.b.nu) ∧ w'.cell? ⟨g2, k * 11 + 6, none⟩ = some (.bool x.x.b.nd) ∧ w'.cell? ⟨g2, k * 11 + 7, none⟩ = some (.int .i64 x.x.b.np) ∧ w'.cell? ⟨g2, k * 11 + 8, none⟩ = some (.string x.x.b.nn) ∧ w'.cell? ⟨g2, k * 11 + 9, none⟩ = some (.int .i64 x.x.b.ns) ∧ w'.cell? ⟨g2, k * 11 + 10, none⟩ = some (.slice y.x.a x.x.b.nl.length y.x.c)) (first | exact unhide HD | exact keepV22 (by omega) (by omega) (by assumption) (by assumption))
        (first
          | (go_at_call 65; refine (eqVersion_same _ _ _ _ _ _ _ _ _ _ x.x.a y.x.a x.x.c y.x.c x.x.b.nl _ ((unhide I1).below (And.left (by assumption))) ((unhide I2).below (And.left (by assumption))) (by omega)).mono ?_; rintro r w5 ⟨rfl, hb5⟩))
      rename_i hSF
      have B5 := hide (below_step (unhide HB) hSF.1 z0)
      clear hSF HD hb5
      go_wp2_with fail
      exact ⟨⟨k + 1, by omega, by go_num, B5⟩, by simp [intOf]; omega⟩
    · have k1 : ¬ (k : Int) < L.length := by omega
      go_wp2_with fail
      go_ret
      exact ⟨rfl, unhide HB⟩
end Go.Proofs.YtcmekhpphgkglaaGreat
/-
  What the laws' own looks and marks of an answer of numbers do.
-/
namespace Go.Proofs.YtcmekhpphgkglaaGreat
open Go.RowKit
set_option linter.unusedVariables false

end Go.Proofs.YtcmekhpphgkglaaGreat
