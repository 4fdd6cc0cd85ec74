/-
  What words tell, line by line: versions and free lines (no Go in sight); versions in memory.
-/
import Derived.Test.YtiopofemelninaaGreatReadMath
import Derived.Test.YtiopofemelninaaGreatBlksMath
import Derived.Test.YtiopofemelninaaGreatClockWalk
import Derived.Test.YtiopofemelninaaGreatAppRow
import Derived.Test.YtiopofemelninaaGreatDevTo
namespace Go.Proofs.YtiopofemelninaaGreat
open Go.RowKit
set_option linter.unusedVariables false

/-- A block of a head alone. -/
def headBlk (x : Int) : Blk := ⟨x % 4, x / 16 % 1000, x / 4 % 4, x / 16000, 0, false, 0, ⟨#[]⟩, 0, []⟩
abbrev Ver := Int × Blk
def sureB (clock x : Int) : Bool := decide (x / 16000 ≤ clock - 2)
def stepCode (clock : Int) (l : List Int) : Int :=
  if whOk (l.getD 0 0) = true then (if l.getD 0 0 % 4 = 0 then 0 else if sureB clock (l.getD 0 0) = true then readCode l else 0) else 1
def stepVers (clock line : Int) (l : List Int) : List Ver :=
  if l.getD 0 0 % 4 = 0 then [] else if sureB clock (l.getD 0 0) = true then [(line, readBlk l)] else [(line, headBlk (l.getD 0 0))]
def stepFree (line : Int) (l : List Int) : List Int := if l.getD 0 0 % 4 = 0 then [line] else []
/-- n lines, from 'line' on. -/
def imgRun (clock : Int) : Nat → Int → List Int → Int × List Ver × List Int
  | 0, _, _ => (0, [], [])
  | n + 1, line, ws =>
    if stepCode clock (ws.take 8) = 0 then
      (if (imgRun clock n (line + 1) (ws.drop 8)).1 = 0 then (0, stepVers clock line (ws.take 8) ++ (imgRun clock n (line + 1) (ws.drop 8)).2.1, stepFree line (ws.take 8) ++ (imgRun clock n (line + 1) (ws.drop 8)).2.2)
       else ((imgRun clock n (line + 1) (ws.drop 8)).1, [], []))
    else (stepCode clock (ws.take 8), [], [])
def imgCode (ws : List Int) : Int := if clockCode ws = 0 then (imgRun (clockVal ws) (ws.length / 8 - 1) 1 (ws.drop 8)).1 else clockCode ws
def imgVers (ws : List Int) : List Ver := if clockCode ws = 0 then (imgRun (clockVal ws) (ws.length / 8 - 1) 1 (ws.drop 8)).2.1 else []
def imgFree (ws : List Int) : List Int := if clockCode ws = 0 then (imgRun (clockVal ws) (ws.length / 8 - 1) 1 (ws.drop 8)).2.2 else []

/-- So far: V and F have been told, and what n more lines tell ends it all as T. -/
def Sofar (T R : Int × List Ver × List Int) (V : List Ver) (F : List Int) : Prop := T.1 = R.1 ∧ (R.1 = 0 → T.2.1 = V ++ R.2.1 ∧ T.2.2 = F ++ R.2.2) ∧ (R.1 ≠ 0 → T.2.1 = [] ∧ T.2.2 = [])
theorem imgRun_bad {clock line : Int} {n : Nat} {ws : List Int} : (imgRun clock n line ws).1 ≠ 0 → (imgRun clock n line ws).2.1 = [] ∧ (imgRun clock n line ws).2.2 = [] := by
  cases n with
  | zero => intro h; exact absurd rfl h
  | succ n =>
    unfold imgRun
    split
    · split
      · intro h; exact absurd rfl h
      · intro _; exact ⟨rfl, rfl⟩
    · intro _; exact ⟨rfl, rfl⟩
theorem sofar_start (T : Int × List Ver × List Int) (h : T.1 ≠ 0 → T.2.1 = [] ∧ T.2.2 = []) : Sofar T T [] [] := ⟨rfl, fun _ => ⟨rfl, rfl⟩, h⟩
theorem sofar_step {T : Int × List Ver × List Int} {clock line : Int} {n : Nat} {ws : List Int} {V : List Ver} {F : List Int} (h : Sofar T (imgRun clock (n + 1) line ws) V F) (h0 : stepCode clock (ws.take 8) = 0) :
    Sofar T (imgRun clock n (line + 1) (ws.drop 8)) (V ++ stepVers clock line (ws.take 8)) (F ++ stepFree line (ws.take 8)) := by
  unfold imgRun at h
  rw [if_pos h0] at h
  by_cases hr : (imgRun clock n (line + 1) (ws.drop 8)).1 = 0
  · rw [if_pos hr] at h
    refine ⟨by rw [h.1, hr], fun _ => ?_, fun e => absurd hr e⟩
    have := h.2.1 rfl
    simp only [List.append_assoc]
    exact this
  · rw [if_neg hr] at h
    exact ⟨h.1, fun e => absurd e hr, fun _ => h.2.2 hr⟩
theorem sofar_stop {T : Int × List Ver × List Int} {clock line : Int} {n : Nat} {ws : List Int} {V : List Ver} {F : List Int} (h : Sofar T (imgRun clock (n + 1) line ws) V F) (h0 : stepCode clock (ws.take 8) ≠ 0) :
    T.1 = stepCode clock (ws.take 8) ∧ T.2.1 = [] ∧ T.2.2 = [] := by
  unfold imgRun at h
  rw [if_neg h0] at h
  exact ⟨h.1, h.2.2 h0⟩
theorem sofar_end {T : Int × List Ver × List Int} {clock line : Int} {ws : List Int} {V : List Ver} {F : List Int} (h : Sofar T (imgRun clock 0 line ws) V F) : T.1 = 0 ∧ T.2.1 = V ∧ T.2.2 = F := by
  have := h.2.1 rfl
  simp only [imgRun, List.append_nil] at this
  exact ⟨h.1, this.1, this.2⟩
theorem stepVers_len (clock line : Int) (l : List Int) : (stepVers clock line l).length ≤ 1 := by
  unfold stepVers; split; (simp); split <;> simp
theorem stepFree_len (line : Int) (l : List Int) : (stepFree line l).length ≤ 1 := by
  unfold stepFree; split <;> simp
theorem imgRun_len (clock : Int) : ∀ (n : Nat) (line : Int) (ws : List Int), (imgRun clock n line ws).2.1.length ≤ n ∧ (imgRun clock n line ws).2.2.length ≤ n
  | 0, _, _ => ⟨Nat.le_refl _, Nat.le_refl _⟩
  | n + 1, line, ws => by
    have ih := imgRun_len clock n (line + 1) (ws.drop 8)
    have h1 := stepVers_len clock line (ws.take 8)
    have h2 := stepFree_len line (ws.take 8)
    unfold imgRun
    split
    · split
      · simp only [List.length_append]; omega
      · simp
    · simp

/-- A version, and where its numbers lie. -/
structure VerA where
  line : Int
  x : BlkA
def VerA.cells (v : VerA) : List Value := .int .i64 v.line :: v.x.cells
def VerA.ver (v : VerA) : Ver := (v.line, v.x.b)
def VerA.nv (v : VerA) : Value := .slice v.x.a v.x.b.nl.length v.x.c
def vflat (L : List VerA) : List Value := L.flatMap VerA.cells
theorem vflat_len (L : List VerA) : (vflat L).length = L.length * 11 := by
  induction L with
  | nil => rfl
  | cons x L ih => rw [vflat, List.flatMap_cons, ← vflat, List.length_append, ih]; simp [VerA.cells, BlkA.cells]; omega
theorem vflat_snoc (L : List VerA) (x : VerA) : vflat (L ++ [x]) = vflat L ++ x.cells := by simp [vflat]
theorem vflat_at : ∀ (L : List VerA) (i : Nat) (h : i < L.length) (j : Nat) (v : Value), (L[i].cells)[j]? = some v → (vflat L)[i * 11 + j]? = some v
  | x :: L, 0, h, j, v, hv => by
    rw [vflat, List.flatMap_cons, Nat.zero_mul, Nat.zero_add, List.getElem?_append_left]
    · exact hv
    · exact (List.getElem?_eq_some_iff.1 hv).1
  | x :: L, i + 1, h, j, v, hv => by
    have hl : x.cells.length = 11 := rfl
    rw [vflat, List.flatMap_cons, ← vflat, List.getElem?_append_right (by omega), hl]
    have := vflat_at L i (by simpa using h) j v hv
    rw [show (i + 1) * 11 + j - 11 = i * 11 + j by omega]
    exact this
theorem VerA.one (x : VerA) : ∀ u ∈ x.cells, u.oneCell' = true := by
  intro u hu
  simp only [VerA.cells, BlkA.cells, List.mem_cons, List.not_mem_nil, or_false] at hu
  rcases hu with rfl | rfl | rfl | rfl | rfl | rfl | rfl | rfl | rfl | rfl | rfl <;> rfl

/-- The blocks of versions. -/
def VB (v : Value) (L : List VerA) (q : Nat) : Prop := v.ownBlock = some q ∨ ∃ x ∈ L, x.nv.ownBlock = some q
/-- Versions of our own: their row, and the rows of their numbers, all apart. -/
structure VOwn (w : World) (base : Nat) (v : Value) (L : List VerA) : Prop where
  row : w.ownsRow base 46 11 v L.length (vflat L)
  nl : ∀ x ∈ L, w.ownsRow base 2 1 x.nv x.x.b.nl.length (nums x.x.b.nl)
  ne : ∀ x ∈ L, ∀ q, x.nv.ownBlock = some q → v.ownBlock ≠ some q
  pw : L.Pairwise (fun x y => ∀ q, x.nv.ownBlock = some q → y.nv.ownBlock ≠ some q)
theorem VOwn.stay {w w' : World} {base : Nat} {v : Value} {L : List VerA} (h : VOwn w base v L) (hk : ∀ q, VB v L q → q < w.heap.size → w'.heap[q]? = w.heap[q]?) : VOwn w' base v L :=
  ⟨own_stay h.row fun q hq => hk q (.inl hq), fun x hx => own_stay (h.nl x hx) fun q hq => hk q (.inr ⟨x, hx, hq⟩), h.ne, h.pw⟩
theorem VOwn.below {w w' : World} {base : Nat} {v : Value} {L : List VerA} (h : VOwn w base v L) (hb : Below w.heap.size w w') : VOwn w' base v L := h.stay fun q _ hq => hb.block q hq
theorem VOwn.out {F : Nat → Prop} {w w' : World} {base : Nat} {v : Value} {L : List VerA} (h : VOwn w base v L) (ho : Out F w w') (hF : ∀ q, VB v L q → ¬ F q) : VOwn w' base v L := h.stay fun q hq hl => ho.block q hl (hF q hq)
theorem VOwn.lt {w : World} {base : Nat} {v : Value} {L : List VerA} (h : VOwn w base v L) {q : Nat} (hq : VB v L q) : base ≤ q ∧ q < w.heap.size := by
  rcases hq with hq | ⟨x, hx, hq⟩
  · exact h.row.lt q hq
  · exact (h.nl x hx).lt q hq
theorem VOwn.base {w : World} {base base' : Nat} {v : Value} {L : List VerA} (h : VOwn w base v L) (hb : base' ≤ base) : VOwn w base' v L :=
  ⟨own_base h.row fun q hq => Nat.le_trans hb (h.row.lt q hq).1, fun x hx => own_base (h.nl x hx) fun q hq => Nat.le_trans hb ((h.nl x hx).lt q hq).1, h.ne, h.pw⟩
theorem vown_nil (w : World) (base : Nat) : VOwn w base (.slice none 0 0) [] := ⟨World.ownsRow_nil _ _ _ _, fun x hx => (by cases hx), fun x hx => (by cases hx), List.Pairwise.nil⟩
/-- One more version. -/
theorem VOwn.next {w w' : World} {base : Nat} {v v' : Value} {L : List VerA} {x : VerA} (h : VOwn w base v L) (hx : w.ownsRow base 2 1 x.nv x.x.b.nl.length (nums x.x.b.nl)) (hnx : ∀ q, x.nv.ownBlock = some q → ¬ VB v L q)
    (hgrow : w.grownBy w' v.ownBlock) (hown : w'.ownsRow base 46 11 v' (L.length + 1) (vflat L ++ x.cells)) (hloc : v'.ownBlock = v.ownBlock ∨ v'.ownBlock = some w.heap.size) : VOwn w' base v' (L ++ [x]) := by
  have ho := Out.ofGrown hgrow
  have hne' : ∀ q, q < w.heap.size → v.ownBlock ≠ some q → v'.ownBlock ≠ some q := fun q hq h1 h2 => by
    rcases hloc with e | e
    · exact h1 (by rw [← e]; exact h2)
    · rw [e] at h2; injection h2 with h2; omega
  refine ⟨?_, fun y hy => ?_, fun y hy q hq => ?_, ?_⟩
  · rw [vflat_snoc, List.length_append]; exact hown
  · rcases List.mem_append.1 hy with hy | hy
    · exact ho.own (h.nl y hy) (fun q hq e => h.ne y hy q hq e.symm)
    · rcases List.mem_singleton.1 hy with rfl
      exact ho.own hx (fun q hq e => hnx q hq (.inl e.symm))
  · rcases List.mem_append.1 hy with hy | hy
    · exact hne' q ((h.nl y hy).lt q hq).2 (h.ne y hy q hq)
    · rcases List.mem_singleton.1 hy with rfl
      exact hne' q (hx.lt q hq).2 (fun e => hnx q hq (.inl e))
  · rw [List.pairwise_append]
    refine ⟨h.pw, List.pairwise_singleton _ _, fun y hy z hz q hq e => ?_⟩
    rcases List.mem_singleton.1 hz with rfl
    exact hnx q e (.inr ⟨y, hy, hq⟩)
/-- The cells of one version. -/
theorem VOwn.at {w : World} {base : Nat} {v : Value} {L : List VerA} (h : VOwn w base v L) {k : Nat} (hk : k < L.length) : ∃ g c, v = .slice (some ⟨g, 0, none⟩) L.length c ∧ g < w.heap.size ∧ ∀ j u, (L[k].cells)[j]? = some u → w.cell? ⟨g, k * 11 + j, none⟩ = some u := by
  rcases h.row.2 with ⟨_, h0⟩ | ⟨g, cap, cur, rfl, hg, hh, _⟩
  · omega
  · refine ⟨g, cap, rfl, (Array.getElem?_eq_some_iff.1 hh).1, fun j u hj => ?_⟩
    have hl : (L[k].cells).length = 11 := rfl
    have hj2 := (List.getElem?_eq_some_iff.1 hj).1
    rw [h.row.cellAt (k * 11 + j) (by omega)]
    exact vflat_at L k hk j u hj
theorem VOwn.form {w : World} {base : Nat} {v : Value} {L : List VerA} (h : VOwn w base v L) : ∃ a c, v = .slice a L.length c := by
  obtain ⟨a, c, e, -⟩ := rowAt_own h.row
  exact ⟨a, c, e⟩
theorem infoVer : (Tryz.prog.info? 46).map (fun i => (i.zero, i.size, i.bytes)) = some (some (.agg #[.int .i64 0, .int .i64 0, .int .i64 0, .int .i64 0, .int .i64 0, .int .i64 0, .bool false, .int .i64 0, .string ⟨#[]⟩, .int .i64 0, .slice none 0 0]), 11, 112) := by kernel_rfl

/-- An image that is being told, in the box p. -/
structure IM (w : World) (base p : Nat) (clock : Int) (vv fv : Value) (L : List VerA) (F : List Int) : Prop where
  box : Box w p [.int .i64 clock, vv, fv] 61
  vers : VOwn w base vv L
  free : w.ownsRow base 2 1 fv F.length (nums F)
  sep : ∀ q, fv.ownBlock = some q → ¬ VB vv L q
  pb : p < base
  bz : base ≤ w.heap.size
def IB (p : Nat) (vv fv : Value) (L : List VerA) (q : Nat) : Prop := q = p ∨ VB vv L q ∨ fv.ownBlock = some q
theorem IM.stay {w w' : World} {base p : Nat} {clock : Int} {vv fv : Value} {L : List VerA} {F : List Int} (h : IM w base p clock vv fv L F) (hz : w.heap.size ≤ w'.heap.size) (hk : ∀ q, IB p vv fv L q → q < w.heap.size → w'.heap[q]? = w.heap[q]?) : IM w' base p clock vv fv L F :=
  ⟨h.box.keep (hk p (.inl rfl) h.box.lt), h.vers.stay fun q hq => hk q (.inr (.inl hq)), own_stay h.free fun q hq => hk q (.inr (.inr hq)), h.sep, h.pb, Nat.le_trans h.bz hz⟩
theorem IM.below {w w' : World} {base p : Nat} {clock : Int} {vv fv : Value} {L : List VerA} {F : List Int} (h : IM w base p clock vv fv L F) (hb : Below w.heap.size w w') : IM w' base p clock vv fv L F := h.stay hb.size fun q _ hq => hb.block q hq
theorem IM.out {G : Nat → Prop} {w w' : World} {base p : Nat} {clock : Int} {vv fv : Value} {L : List VerA} {F : List Int} (h : IM w base p clock vv fv L F) (ho : Out G w w') (hG : ∀ q, IB p vv fv L q → ¬ G q) : IM w' base p clock vv fv L F := h.stay ho.size fun q hq hl => ho.block q hl (hG q hq)
theorem IM.lt {w : World} {base p : Nat} {clock : Int} {vv fv : Value} {L : List VerA} {F : List Int} (h : IM w base p clock vv fv L F) {q : Nat} (hq : IB p vv fv L q) : (q = p ∨ base ≤ q) ∧ q < w.heap.size := by
  rcases hq with rfl | hq | hq
  · exact ⟨.inl rfl, h.box.lt⟩
  · exact ⟨.inr (h.vers.lt hq).1, (h.vers.lt hq).2⟩
  · exact ⟨.inr (h.free.lt q hq).1, (h.free.lt q hq).2⟩
end Go.Proofs.YtiopofemelninaaGreat
