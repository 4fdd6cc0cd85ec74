/-
  What impl.FormatActs and spec.FormatActs answer: 'fmtList'.
-/
import Derived.Test.YtdijmijipgnlgaaAppRow
import Derived.Test.YtdijmijipgnlgaaTripMath
import Derived.Test.YtdijmijipgnlgaaActSWalk
import Derived.Test.YtdijmijipgnlgaaInWalk
namespace Go.Proofs.Ytdijmijipgnlgaa
open Go.RowKit
set_option linter.unusedVariables false

def fmtLoop : Nat → List Trip
  | 0 => []
  | j + 1 => fmtLoop j ++ [(1, 8 * ((j : Int) + 1), 0), (2, (j : Int) + 1, 0)]
def fmtEnd : List Trip := [(3, 0, 0), (1, 1, 2), (2, 0, 0), (3, 0, 0), (1, 0, 691691691), (2, 0, 0), (3, 0, 0)]
def fmtCode (n : Int) : Int := if inB n 2 41 = true then 0 else 2
def fmtList (n : Int) : List Trip := if inB n 2 41 = true then fmtLoop (n.toNat - 1) ++ fmtEnd else []
theorem fmtLoop_length (j : Nat) : (fmtLoop j).length = 2 * j := by
  induction j with
  | zero => rfl
  | succ j ih => rw [fmtLoop, List.length_append, ih]; simp; omega
theorem fmtList_length (n : Int) : (fmtList n).length ≤ 87 := by
  unfold fmtList
  split
  · rename_i h
    have := inB_true.1 h
    rw [List.length_append, fmtLoop_length]
    simp [fmtEnd]
    omega
  · simp
theorem trs_oneCell (l : List Trip) : ∀ u ∈ trs l, u.oneCell' = true := by
  intro u hu
  obtain ⟨x, -, hx⟩ := List.mem_flatMap.1 hu
  simp at hx
  rcases hx with rfl | rfl | rfl <;> rfl
theorem rowAt_new (w : World) (cs : List Value) (t : TypeId) : RowAt (w.alloc (.cells cs.toArray t)) (some ⟨w.heap.size, 0, none⟩) cs := rowAt_box (box_new w cs t)

/-- A row of acts that grows, beside boxes B. -/
structure FS (w : World) (base : Nat) (B : List (Nat × List Value × TypeId)) (v : Value) (n : Nat) (l : List Trip) (wc : World) : Prop where
  own : wc.ownsRow base 138 3 v n (trs l)
  bel : Below w.heap.size w wc
  hb : w.heap.size ≤ base
  hz : base ≤ wc.heap.size
  boxes : ∀ p ∈ B, Box wc p.1 p.2.1 p.2.2 ∧ v.ownBlock ≠ some p.1
theorem FS.next {w : World} {base : Nat} {B : List (Nat × List Value × TypeId)} {v v' : Value} {n n' : Nat} {l l' : List Trip} {ys : List Value} {wc w3 : World} (h : FS w base B v n l wc) (hgrow : wc.grownBy w3 v.ownBlock) (hown : w3.ownsRow base 138 3 v' n' (trs l ++ ys)) (e : trs l ++ ys = trs l') (hloc : v'.ownBlock = v.ownBlock ∨ v'.ownBlock = some wc.heap.size) : FS w base B v' n' l' w3 :=
  ⟨e ▸ hown, h.bel.grown hgrow (Nat.le_trans h.hb h.hz) (fun q hq => Nat.le_trans h.hb (h.own.lt q hq).1), h.hb, Nat.le_trans h.hz hgrow.size, fun p hp => by
    obtain ⟨h1, h2⟩ := h.boxes p hp
    refine ⟨h1.grown hgrow h2, ?_⟩
    rcases hloc with hl | hl
    · rw [hl]; exact h2
    · rw [hl]; intro e; injection e with e; have := h1.lt; omega⟩
theorem FS.below {w : World} {base : Nat} {B : List (Nat × List Value × TypeId)} {v : Value} {n : Nat} {l : List Trip} {wc w3 : World} (h : FS w base B v n l wc) (hb : Below wc.heap.size wc w3) : FS w base B v n l w3 :=
  ⟨own_below h.own hb, below_step h.bel hb (Nat.le_trans h.hb h.hz), h.hb, Nat.le_trans h.hz hb.size, fun p hp => ⟨(h.boxes p hp).1.below hb, (h.boxes p hp).2⟩⟩
theorem FS.alloc {w : World} {base : Nat} {B : List (Nat × List Value × TypeId)} {v : Value} {n : Nat} {l : List Trip} {wc : World} (h : FS w base B v n l wc) (o : Obj) : FS w base B v n l (wc.alloc o) := h.below ((Below.refl _ _).alloc (Nat.le_refl _) _)
theorem FS.add {w : World} {base : Nat} {B : List (Nat × List Value × TypeId)} {v : Value} {n : Nat} {l : List Trip} {wc W : World} (h : FS w base B v n l wc) (hb : Below wc.heap.size wc W) {cs : List Value} {t : TypeId} (hx : Box W wc.heap.size cs t) : FS w base ((wc.heap.size, cs, t) :: B) v n l W :=
  ⟨own_below h.own hb, (h.below hb).bel, h.hb, (h.below hb).hz, fun p hp => by
    rcases List.mem_cons.1 hp with rfl | hp
    · exact ⟨hx, fun e => by have := (h.own.lt _ e).2; omega⟩
    · exact (h.below hb).boxes p hp⟩
theorem FS.put {w : World} {base : Nat} {B : List (Nat × List Value × TypeId)} {v : Value} {n : Nat} {l : List Trip} {W : World} (h : FS w base B v n l W) {b : Nat} {cs : List Value} {t : TypeId} (hx : Box W b cs t) (hne : v.ownBlock ≠ some b) : FS w base ((b, cs, t) :: B) v n l W :=
  ⟨h.own, h.bel, h.hb, h.hz, fun p hp => by
    rcases List.mem_cons.1 hp with rfl | hp
    · exact ⟨hx, hne⟩
    · exact h.boxes p hp⟩
theorem FS.form {w : World} {base : Nat} {B : List (Nat × List Value × TypeId)} {v : Value} {n : Nat} {l : List Trip} {wc : World} (h : FS w base B v n l wc) : ∃ a c, v = .slice a n c := by
  obtain ⟨a, c, e, -⟩ := rowAt_own h.own
  exact ⟨a, c, e⟩

theorem fmt_step {j : Nat} {a : Int} (ha : a = 8 * ((j : Int) + 1)) : trs (fmtLoop j) ++ trs [(1, a, 0), (2, a / 8, 0)] = trs (fmtLoop (j + 1)) := by
  subst ha
  have e : 8 * ((j : Int) + 1) / 8 = (j : Int) + 1 := by omega
  rw [e, fmtLoop, trs_append]
def ActsIs (e : Ending) (base : Nat) (w' : World) (code : Int) (l : List Trip) : Prop := ∃ a c, e = .returned (.agg #[.int .i64 code, .slice a l.length c]) ∧ w'.ownsRow base 138 3 (.slice a l.length c) l.length (trs l)

set_option maxHeartbeats 1000000 in
theorem flushedStore_any (a v : Int) (w : World) (h0 : 0 ≤ a) (h1 : a ≤ 1000) :
    Calls Try.prog 149 #[.int .i64 a, .int .i64 v] w fun e w' => (e = .returned (.slice (some ⟨w.heap.size, 0, none⟩) 2 2) ∧ RowAt w' (some ⟨w.heap.size, 0, none⟩) (trs [(1, a, v), (2, a / 8, 0)])) ∧ Below w.heap.size w w' := by
  have htd : a.tdiv 8 = a / 8 := Int.tdiv_eq_ediv_of_nonneg h0
  have hw : -9223372036854775808 ≤ a / 8 ∧ a / 8 ≤ 9223372036854775807 := by omega
  go_enter Try.func149, Try.ntmps149
  go_wp2
  go_ret
  exact ⟨⟨rfl, rowAt_new w _ _⟩, (Below.refl _ _).alloc (Nat.le_refl _) _⟩

set_option maxRecDepth 20000 in
set_option maxHeartbeats 2000000 in
theorem implFormatActs_any (n : Int) (w : World) :
    Calls Try.prog 63 #[.int .i64 n] w fun e w' => ActsIs e w.heap.size w' (fmtCode n) (fmtList n) ∧ Below w.heap.size w w' := by
  obtain ⟨i0, hi, hz0, hz1, hz2⟩ := info_parts infoAct
  cases hq : inB n 2 41
  · have HC : Hid (fmtCode n = 2 ∧ fmtList n = []) := by simp [Hid, fmtCode, fmtList, hq]
    go_enter Try.func63, Try.ntmps63
    go_wp2_with fail
    refine (isWithin_any _ _ _ _).mono ?_
    rintro e w1 ⟨rfl, rfl⟩
    rw [hq]
    go_wp2_with fail
    refine bodyPost_ret (v := .agg #[.int .i64 2, .slice none 0 0]) (by simp [results, Try.results63, go_sem]) rfl ⟨?_, ?_⟩
    · rw [(unhide HC).1, (unhide HC).2]
      exact ⟨none, 0, rfl, World.ownsRow_nil _ _ _ _⟩
    · repeat (first | exact Below.refl _ _ | (with_reducible refine Below.alloc ?_ ?_ _; rotate_left; first | omega | (simp <;> omega)) | (with_reducible refine Below.setCell ?_ ?_ _; rotate_left; first | omega | (simp <;> omega)))
  have hb := inB_true.1 hq
  have HC : Hid (fmtCode n = 0 ∧ fmtList n = fmtLoop (n.toNat - 1) ++ fmtEnd) := by simp [Hid, fmtCode, fmtList, hq]
  go_enter Try.func63, Try.ntmps63
  go_wp2_with fail
  refine (isWithin_any _ _ _ _).mono ?_
  rintro e w1 ⟨rfl, rfl⟩
  rw [hq]
  clear hq
  go_wp2_with fail
  obtain ⟨W, hW, z1, hbW, hx, hy⟩ := boxes2 w [.int .i64 0, .slice none 0 0] [.int .i64 3, .int .i64 0, .int .i64 0] 88 138
  rw [← hW]
  clear hW
  have HF : Hid (FS w W.heap.size [(w.heap.size + 1, [.int .i64 3, .int .i64 0, .int .i64 0], 138), (w.heap.size, [.int .i64 0, .slice none 0 0], 88)] (.slice none 0 0) 0 (fmtLoop 0) W) :=
    ⟨World.ownsRow_nil _ _ _ _, unhide hbW, by omega, Nat.le_refl _, fun p hp => by
      rcases List.mem_cons.1 hp with rfl | hp
      · exact ⟨unhide hy, by simp [Value.ownBlock]⟩
      · rcases List.mem_singleton.1 hp with rfl
        exact ⟨unhide hx, by simp [Value.ownBlock]⟩⟩
  clear hbW hx hy
  generalize hBB : [(w.heap.size + 1, [Value.int .i64 3, .int .i64 0, .int .i64 0], 138), (w.heap.size, [.int .i64 0, .slice none 0 0], 88)] = BB at HF
  have hP1 : (w.heap.size + 1, [Value.int .i64 3, .int .i64 0, .int .i64 0], 138) ∈ BB := by rw [← hBB]; exact List.mem_cons_self
  have hP2 : (w.heap.size, [Value.int .i64 0, .slice none 0 0], 88) ∈ BB := by rw [← hBB]; exact List.mem_cons_of_mem _ List.mem_cons_self
  have HP1 := hide hP1
  have HP2 := hide hP2
  clear hBB hP1 hP2
  go_loopw [4, 5] (fun v i wr => ∃ (j : Nat) (a : Option Addr) (c : Nat), j + 1 ≤ n.toNat ∧ i = .int .i64 ((j : Int) + 1) ∧ v = .slice a (2 * j) c ∧ Hid (FS w W.heap.size BB (.slice a (2 * j) c) (2 * j) (fmtLoop j) wr)) (fun _ i _ => n.toNat - (intOf i).toNat)
  case atStart => exact ⟨0, none, 0, by omega, rfl, rfl, HF⟩
  case round =>
    obtain ⟨j, a, c, hj, rfl, rfl, HR⟩ := hrel
    clear HF
    have zr := (unhide HR).hz
    have e0 : ((j : Int) + 1) * 8 + 0 = 8 * ((j : Int) + 1) := by omega
    by_cases hlt : (j : Int) + 1 < n
    · go_wp2_with fail
      refine (flushedStore_any _ _ _ (by omega) (by omega)).mono ?_
      rintro e w2 ⟨⟨rfl, hrow⟩, hb2⟩
      have z2 := hb2.size
      have R2 := hide ((unhide HR).below hb2)
      have RW := hide hrow
      clear hrow hb2 HR
      go_wp2_with (at_builtin; refine wpList_append_row _ rfl _ _ 48 rfl W.heap.size 138 i0 _ 3 24 Try.underlying48 hi hz0 hz1 hz2 rfl (by decide) (by decide) (.slice a (2 * j) c) (2 * j) (trs (fmtLoop j)) rfl (unhide R2).own _ 2 2 _ rfl rfl (unhide RW) (trs_oneCell _) (by omega) (by omega) ?_; intro v' w3 hown hgrow hloc; have HOW := hide hown; have HGR := hide hgrow; have HLO := hide hloc; clear hown hgrow hloc)
      have R3 := hide ((unhide R2).next (l' := fmtLoop (j + 1)) (unhide HGR) (unhide HOW) (fmt_step (by omega)) (unhide HLO))
      obtain ⟨a', c', ev⟩ := (unhide R3).form
      subst ev
      rw [show 2 * j + 2 = 2 * (j + 1) by omega] at R3 ⊢
      clear HOW HGR HLO R2 RW
      go_wp2_with fail
      go_roundw
      case rel => exact ⟨j + 1, a', c', by omega, by go_num, rfl, R3⟩
      case measure => simp [intOf]; omega
    · have HJE : Hid (j = n.toNat - 1) := by rw [Hid]; omega
      clear e0
      have x0 := ((unhide HR).boxes _ (unhide HP1)).1.cell 0
      have x1 := ((unhide HR).boxes _ (unhide HP1)).1.cell 1
      have x2 := ((unhide HR).boxes _ (unhide HP1)).1.cell 2
      simp at x0 x1 x2
      have R1 := hide ((unhide HR).alloc (.cells #[.int .i64 3, .int .i64 0, .int .i64 0] 138))
      clear HR
      go_wp2_with (at_builtin; refine wpList_append_row _ rfl _ _ 48 rfl W.heap.size 138 i0 _ 3 24 Try.underlying48 hi hz0 hz1 hz2 rfl (by decide) (by decide) (.slice a (2 * j) c) (2 * j) (trs (fmtLoop j)) rfl (unhide R1).own _ 1 1 (trs [(3, 0, 0)]) rfl rfl (rowAt_new wr [.int .i64 3, .int .i64 0, .int .i64 0] 138) (trs_oneCell _) (by omega) (unhide R1).hz ?_; intro v1 w3 hown hgrow hloc; have HOW := hide hown; have HGR := hide hgrow; have HLO := hide hloc; clear hown hgrow hloc)
      have R3 := hide ((unhide R1).next (l' := fmtLoop j ++ [(3, 0, 0)]) (unhide HGR) (unhide HOW) (by rw [trs_append]) (unhide HLO))
      obtain ⟨a1, c1, ev⟩ := (unhide R3).form
      subst ev
      clear HOW HGR HLO R1 x0 x1 x2
      refine (flushedStore_any _ _ _ (by omega) (by omega)).mono ?_
      rintro e w4 ⟨⟨rfl, hrow⟩, hb4⟩
      have R4 := hide ((unhide R3).below hb4)
      have RW := hide hrow
      clear hrow hb4 R3
      have x0 := ((unhide R4).boxes _ (unhide HP1)).1.cell 0
      have x1 := ((unhide R4).boxes _ (unhide HP1)).1.cell 1
      have x2 := ((unhide R4).boxes _ (unhide HP1)).1.cell 2
      simp at x0 x1 x2
      go_wp2_with (first | (at_builtin; refine wpList_append_row _ rfl _ _ 48 rfl W.heap.size 138 i0 _ 3 24 Try.underlying48 hi hz0 hz1 hz2 rfl (by decide) (by decide) (.slice a1 (2 * j + 1) c1) (2 * j + 1) (trs (fmtLoop j ++ [(3, 0, 0)])) rfl (unhide R4).own _ 2 2 _ rfl rfl (unhide RW) (trs_oneCell _) (by omega) (unhide R4).hz ?_; intro v5 w5 hown hgrow hloc; have R5 := hide ((unhide R4).next (l' := ((fmtLoop j ++ [(3, 0, 0)]) ++ [(1, 1, 2), (2, 0, 0)])) hgrow hown (trs_append _ [(1, 1, 2), (2, 0, 0)]).symm hloc); clear hown hgrow hloc x0 x1 x2; have x0 := ((unhide R5).boxes _ (unhide HP1)).1.cell 0; have x1 := ((unhide R5).boxes _ (unhide HP1)).1.cell 1; have x2 := ((unhide R5).boxes _ (unhide HP1)).1.cell 2; simp at x0 x1 x2; have S5 := hide ((unhide R5).alloc (.cells #[.int .i64 3, .int .i64 0, .int .i64 0] 138))) | (at_builtin; refine wpList_append_row _ rfl _ _ 48 rfl W.heap.size 138 i0 _ 3 24 Try.underlying48 hi hz0 hz1 hz2 rfl (by decide) (by decide) v5 ((2 * j + 1) + 2) (trs ((fmtLoop j ++ [(3, 0, 0)]) ++ [(1, 1, 2), (2, 0, 0)])) rfl (unhide S5).own _ 1 1 (trs [(3, 0, 0)]) rfl rfl (rowAt_new w5 [.int .i64 3, .int .i64 0, .int .i64 0] 138) (trs_oneCell _) (by omega) (unhide S5).hz ?_; intro v6 w6 hown hgrow hloc; have R6 := hide ((unhide S5).next (l' := (((fmtLoop j ++ [(3, 0, 0)]) ++ [(1, 1, 2), (2, 0, 0)]) ++ [(3, 0, 0)])) hgrow hown (trs_append _ [(3, 0, 0)]).symm hloc); clear hown hgrow hloc x0 x1 x2))
      clear R4 R5 S5 RW
      obtain ⟨a6, c6, ev⟩ := (unhide R6).form
      subst ev
      obtain ⟨N, hN⟩ : ∃ N, N = 2 * j + 1 + 2 + 1 := ⟨_, rfl⟩
      rw [← hN] at R6 ⊢
      have hNb : N ≤ 1000 := by omega
      have HN := hide hN
      clear hN
      refine (flushedStore_any _ _ _ (by omega) (by omega)).mono ?_
      rintro e w7 ⟨⟨rfl, hrow⟩, hb7⟩
      have R7 := hide ((unhide R6).below hb7)
      obtain ⟨M, hM⟩ : ∃ M : Int, M = 691691691 := ⟨_, rfl⟩
      have RW : Hid (RowAt w7 (some ⟨w6.heap.size, 0, none⟩) (trs [(1, 0, M), (2, 0, 0)])) := by rw [hM]; exact hrow
      have HMM := hide hM
      clear hM
      clear hrow hb7 R6
      have x0 := ((unhide R7).boxes _ (unhide HP1)).1.cell 0
      have x1 := ((unhide R7).boxes _ (unhide HP1)).1.cell 1
      have x2 := ((unhide R7).boxes _ (unhide HP1)).1.cell 2
      simp at x0 x1 x2
      go_wp2_with (first | (at_builtin; refine wpList_append_row _ rfl _ _ 48 rfl W.heap.size 138 i0 _ 3 24 Try.underlying48 hi hz0 hz1 hz2 rfl (by decide) (by decide) (.slice a6 N c6) N (trs (((fmtLoop j ++ [(3, 0, 0)]) ++ [(1, 1, 2), (2, 0, 0)]) ++ [(3, 0, 0)])) rfl (unhide R7).own _ 2 2 _ rfl rfl (unhide RW) (trs_oneCell _) (by omega) (unhide R7).hz ?_; intro v8 w8 hown hgrow hloc; have R8 := hide ((unhide R7).next (l' := ((((fmtLoop j ++ [(3, 0, 0)]) ++ [(1, 1, 2), (2, 0, 0)]) ++ [(3, 0, 0)]) ++ [(1, 0, M), (2, 0, 0)])) hgrow hown (trs_append _ [(1, 0, M), (2, 0, 0)]).symm hloc); clear hown hgrow hloc x0 x1 x2; have x0 := ((unhide R8).boxes _ (unhide HP1)).1.cell 0; have x1 := ((unhide R8).boxes _ (unhide HP1)).1.cell 1; have x2 := ((unhide R8).boxes _ (unhide HP1)).1.cell 2; simp at x0 x1 x2; have S8 := hide ((unhide R8).alloc (.cells #[.int .i64 3, .int .i64 0, .int .i64 0] 138))) | (at_builtin; refine wpList_append_row _ rfl _ _ 48 rfl W.heap.size 138 i0 _ 3 24 Try.underlying48 hi hz0 hz1 hz2 rfl (by decide) (by decide) v8 (N + 2) (trs ((((fmtLoop j ++ [(3, 0, 0)]) ++ [(1, 1, 2), (2, 0, 0)]) ++ [(3, 0, 0)]) ++ [(1, 0, M), (2, 0, 0)])) rfl (unhide S8).own _ 1 1 (trs [(3, 0, 0)]) rfl rfl (rowAt_new w8 [.int .i64 3, .int .i64 0, .int .i64 0] 138) (trs_oneCell _) (by omega) (unhide S8).hz ?_; intro v9 w9 hown hgrow hloc; have R9 := hide ((unhide S8).next (l' := (((((fmtLoop j ++ [(3, 0, 0)]) ++ [(1, 1, 2), (2, 0, 0)]) ++ [(3, 0, 0)]) ++ [(1, 0, M), (2, 0, 0)]) ++ [(3, 0, 0)])) hgrow hown (trs_append _ [(3, 0, 0)]).symm hloc); clear hown hgrow hloc x0 x1 x2; obtain ⟨a9, c9, ev⟩ := (unhide R9).form; subst ev; have y0 := ((unhide R9).boxes _ (unhide HP2)).1.cell 0; have y1 := ((unhide R9).boxes _ (unhide HP2)).1.cell 1; simp at y0 y1; have f0 := ((unhide R9).boxes _ (unhide HP2)).1.frozen 0; have f1 := ((unhide R9).boxes _ (unhide HP2)).1.frozen 1))
      clear R7 R8 S8 RW y0 y1 f0 f1
      generalize hU : (w9.setCell _ _).setCell _ _ = U
      obtain ⟨XU, OU⟩ := store2' ((unhide R9).boxes _ (unhide HP2)).1 hU
      have t0 := (unhide XU).cell 0
      have t1 := (unhide XU).cell 1
      simp at t0 t1
      have hlf : Hid (fmtList n = (((((fmtLoop j ++ [(3, 0, 0)]) ++ [(1, 1, 2), (2, 0, 0)]) ++ [(3, 0, 0)]) ++ [(1, 0, M), (2, 0, 0)]) ++ [(3, 0, 0)])) := by rw [Hid, (unhide HC).2, unhide HJE, unhide HMM]; simp [fmtEnd]
      have hlen : (fmtList n).length = ((N + 2) + 1) := by rw [unhide hlf, unhide HN]; simp [fmtLoop_length]
      have OW := (unhide OU).own (unhide R9).own (fun q hq e => ((unhide R9).boxes _ (unhide HP2)).2 (by rw [hq, e]))
      rw [← unhide hlf] at OW
      refine bodyPost_ret (v := .agg #[.int .i64 0, .slice a9 ((N + 2) + 1) c9]) (by simp [results, Try.results63, go_sem, t0, t1]) rfl ⟨?_, ?_⟩
      · refine ⟨a9, c9, ?_, ?_⟩
        · rw [(unhide HC).1, hlen]
        · rw [hlen]
          exact own_base OW (fun q hq => Nat.le_trans (unhide R9).hb ((unhide R9).own.lt q hq).1)
      · exact (unhide OU).below (unhide R9).bel (Nat.le_refl _) (fun q hq e => by omega)
set_option maxRecDepth 20000 in
set_option maxHeartbeats 2000000 in
theorem specFormatActs_any (n : Int) (w : World) :
    Calls Try.prog 62 #[.int .i64 n] w fun e w' => ActsIs e w.heap.size w' (fmtCode n) (fmtList n) ∧ Below w.heap.size w w' := by
  obtain ⟨i0, hi, hz0, hz1, hz2⟩ := info_parts infoAct
  cases hq : inB n 2 41
  · have HC : Hid (fmtCode n = 2 ∧ fmtList n = []) := by simp [Hid, fmtCode, fmtList, hq]
    go_enter Try.func62, Try.ntmps62
    go_wp2_with fail
    refine (l1In_any _ _ _ _).mono ?_
    rintro e w1 ⟨rfl, rfl⟩
    rw [hq]
    go_wp2_with fail
    refine bodyPost_ret (v := .agg #[.int .i64 2, .slice none 0 0]) (by simp [results, Try.results62, go_sem]) rfl ⟨?_, ?_⟩
    · rw [(unhide HC).1, (unhide HC).2]
      exact ⟨none, 0, rfl, World.ownsRow_nil _ _ _ _⟩
    · repeat (first | exact Below.refl _ _ | (with_reducible refine Below.alloc ?_ ?_ _; rotate_left; first | omega | (simp <;> omega)) | (with_reducible refine Below.setCell ?_ ?_ _; rotate_left; first | omega | (simp <;> omega)))
  have hb := inB_true.1 hq
  have HC : Hid (fmtCode n = 0 ∧ fmtList n = fmtLoop (n.toNat - 1) ++ fmtEnd) := by simp [Hid, fmtCode, fmtList, hq]
  go_enter Try.func62, Try.ntmps62
  go_wp2_with fail
  refine (l1In_any _ _ _ _).mono ?_
  rintro e w1 ⟨rfl, rfl⟩
  rw [hq]
  clear hq
  go_wp2_with fail
  have HO := World.ownsRow_made (base := w.heap.size + 1) (e := 138) (size := 3) (w.alloc (.cells #[.int .i64 0, .slice none 0 0] 88)) #[] 0 (by simp) (by unfold maxLen; omega) rfl
  rw [World.size_alloc] at HO
  obtain ⟨W, hW, z1, hbW, hx, hy⟩ := boxes2 w [.int .i64 0, .slice none 0 0] [] 88 138
  have HF : Hid (FS w (w.heap.size + 1) [(w.heap.size, [.int .i64 0, .slice none 0 0], 88)] (.slice (some ⟨w.heap.size + 1, 0, none⟩) 0 0) 0 (fmtLoop 0) W) :=
    ⟨by rw [hW]; exact HO, unhide hbW, by omega, by omega, fun p hp => by
      rcases List.mem_singleton.1 hp with rfl
      exact ⟨unhide hx, by simp [Value.ownBlock]⟩⟩
  rw [← hW]
  clear hW hbW hx hy HO
  generalize hBB : [(w.heap.size, [Value.int .i64 0, .slice none 0 0], 88)] = BB at HF
  have hP2 : (w.heap.size, [Value.int .i64 0, .slice none 0 0], 88) ∈ BB := by rw [← hBB]; exact List.mem_cons_self
  have HP2 := hide hP2
  clear hBB hP2
  go_loopw [3, 4] (fun v i wr => ∃ (j : Nat) (a : Option Addr) (c : Nat), j + 1 ≤ n.toNat ∧ i = .int .i64 ((j : Int) + 1) ∧ v = .slice a (2 * j) c ∧ Hid (FS w (w.heap.size + 1) BB (.slice a (2 * j) c) (2 * j) (fmtLoop j) wr)) (fun _ i _ => n.toNat - (intOf i).toNat)
  case atStart => exact ⟨0, _, 0, by omega, rfl, rfl, HF⟩
  case round =>
    obtain ⟨j, a, c, hj, rfl, rfl, HR⟩ := hrel
    clear HF
    have zr := (unhide HR).hz
    by_cases hlt : (j : Int) + 1 < n
    · have R2 := hide ((unhide HR).alloc (.cells #[.int .i64 1, .int .i64 (8 * ((j : Int) + 1)), .int .i64 0, .int .i64 2, .int .i64 ((j : Int) + 1), .int .i64 0] 138))
      clear HR
      go_wp2_with (at_builtin; refine wpList_append_row _ rfl _ _ 48 rfl (w.heap.size + 1) 138 i0 _ 3 24 Try.underlying48 hi hz0 hz1 hz2 rfl (by decide) (by decide) (.slice a (2 * j) c) (2 * j) (trs (fmtLoop j)) rfl (unhide R2).own _ 2 2 (trs [(1, 8 * ((j : Int) + 1), 0), (2, (j : Int) + 1, 0)]) rfl rfl (rowAt_new wr [.int .i64 1, .int .i64 (8 * ((j : Int) + 1)), .int .i64 0, .int .i64 2, .int .i64 ((j : Int) + 1), .int .i64 0] 138) (trs_oneCell _) (by omega) (unhide R2).hz ?_; intro v' w3 hown hgrow hloc; have HOW := hide hown; have HGR := hide hgrow; have HLO := hide hloc; clear hown hgrow hloc)
      have R3 := hide ((unhide R2).next (l' := fmtLoop (j + 1)) (unhide HGR) (unhide HOW) (by rw [fmtLoop, trs_append]) (unhide HLO))
      obtain ⟨a', c', ev⟩ := (unhide R3).form
      subst ev
      rw [show 2 * j + 2 = 2 * (j + 1) by omega] at R3 ⊢
      clear HOW HGR HLO R2
      go_wp2_with fail
      go_roundw
      case rel => exact ⟨j + 1, a', c', by omega, by go_num, rfl, R3⟩
      case measure => simp [intOf]; omega
    · have HJE : Hid (j = n.toNat - 1) := by rw [Hid]; omega
      have hj41 : j ≤ 41 := by omega
      obtain ⟨W2, hW2, z2, hb2, hx2, hy2⟩ := boxes2 wr [.int .i64 3, .int .i64 0, .int .i64 0] [.int .i64 2, .int .i64 0, .int .i64 0] 138 138
      have hnb : ∀ b, wr.heap.size ≤ b → (Value.slice a (2 * j) c).ownBlock ≠ some b := fun b h e => by have := ((unhide HR).own.lt _ e).2; omega
      have R2 := hide ((((unhide HR).below (unhide hb2)).put (unhide hx2) (hnb _ (Nat.le_refl _))).put (unhide hy2) (hnb _ (by omega)))
      clear hnb hb2 HR
      have x0 := (unhide hx2).cell 0
      have x1 := (unhide hx2).cell 1
      have x2 := (unhide hx2).cell 2
      have u0 := (unhide hy2).cell 0
      have u1 := (unhide hy2).cell 1
      have u2 := (unhide hy2).cell 2
      simp at x0 x1 x2 u0 u1 u2
      rw [hW2] at x0 x1 x2 u0 u1 u2 R2
      have R2a := hide ((unhide R2).alloc (.cells #[.int .i64 3, .int .i64 0, .int .i64 0, .int .i64 1, .int .i64 1, .int .i64 2, .int .i64 2, .int .i64 0, .int .i64 0, .int .i64 3, .int .i64 0, .int .i64 0] 138))
      clear hW2 hx2 hy2
      have RA : Hid (RowAt (((wr.alloc (.cells #[.int .i64 3, .int .i64 0, .int .i64 0] 138)).alloc (.cells #[.int .i64 2, .int .i64 0, .int .i64 0] 138)).alloc (.cells #[.int .i64 3, .int .i64 0, .int .i64 0, .int .i64 1, .int .i64 1, .int .i64 2, .int .i64 2, .int .i64 0, .int .i64 0, .int .i64 3, .int .i64 0, .int .i64 0] 138)) (some ⟨wr.heap.size + 1 + 1, 0, none⟩) (trs [(3, 0, 0), (1, 1, 2), (2, 0, 0), (3, 0, 0)])) := by
        have := rowAt_new ((wr.alloc (.cells #[.int .i64 3, .int .i64 0, .int .i64 0] 138)).alloc (.cells #[.int .i64 2, .int .i64 0, .int .i64 0] 138)) [.int .i64 3, .int .i64 0, .int .i64 0, .int .i64 1, .int .i64 1, .int .i64 2, .int .i64 2, .int .i64 0, .int .i64 0, .int .i64 3, .int .i64 0, .int .i64 0] 138
        rw [World.size_alloc, World.size_alloc] at this
        exact this
      go_wp2_with (first | (at_builtin; refine wpList_append_row _ rfl _ _ 48 rfl (w.heap.size + 1) 138 i0 _ 3 24 Try.underlying48 hi hz0 hz1 hz2 rfl (by decide) (by decide) (.slice a (2 * j) c) (2 * j) (trs (fmtLoop j)) rfl (unhide R2a).own _ 4 4 (trs [(3, 0, 0), (1, 1, 2), (2, 0, 0), (3, 0, 0)]) rfl rfl (unhide RA) (trs_oneCell _) (by omega) (unhide R2a).hz ?_; intro v5 w5 hown hgrow hloc; have R5 := hide ((unhide R2a).next (l' := fmtLoop j ++ [(3, 0, 0), (1, 1, 2), (2, 0, 0), (3, 0, 0)]) hgrow hown (trs_append _ [(3, 0, 0), (1, 1, 2), (2, 0, 0), (3, 0, 0)]).symm hloc); clear hown hgrow hloc x0 x1 x2 u0 u1 u2; have x0 := ((unhide R5).boxes _ (List.mem_cons_of_mem _ List.mem_cons_self)).1.cell 0; have x1 := ((unhide R5).boxes _ (List.mem_cons_of_mem _ List.mem_cons_self)).1.cell 1; have x2 := ((unhide R5).boxes _ (List.mem_cons_of_mem _ List.mem_cons_self)).1.cell 2; have u0 := ((unhide R5).boxes _ List.mem_cons_self).1.cell 0; have u1 := ((unhide R5).boxes _ List.mem_cons_self).1.cell 1; have u2 := ((unhide R5).boxes _ List.mem_cons_self).1.cell 2; simp at x0 x1 x2 u0 u1 u2; have S5 := hide ((unhide R5).alloc (.cells #[.int .i64 1, .int .i64 0, .int .i64 691691691, .int .i64 2, .int .i64 0, .int .i64 0, .int .i64 3, .int .i64 0, .int .i64 0] 138))) | (at_builtin; refine wpList_append_row _ rfl _ _ 48 rfl (w.heap.size + 1) 138 i0 _ 3 24 Try.underlying48 hi hz0 hz1 hz2 rfl (by decide) (by decide) v5 (2 * j + 4) (trs (fmtLoop j ++ [(3, 0, 0), (1, 1, 2), (2, 0, 0), (3, 0, 0)])) rfl (unhide S5).own _ 3 3 (trs [(1, 0, 691691691), (2, 0, 0), (3, 0, 0)]) rfl rfl (rowAt_new w5 [.int .i64 1, .int .i64 0, .int .i64 691691691, .int .i64 2, .int .i64 0, .int .i64 0, .int .i64 3, .int .i64 0, .int .i64 0] 138) (trs_oneCell _) (by omega) (unhide S5).hz ?_; intro v6 w6 hown hgrow hloc; have R6 := hide ((unhide S5).next (l' := (fmtLoop j ++ [(3, 0, 0), (1, 1, 2), (2, 0, 0), (3, 0, 0)]) ++ [(1, 0, 691691691), (2, 0, 0), (3, 0, 0)]) hgrow hown (trs_append _ [(1, 0, 691691691), (2, 0, 0), (3, 0, 0)]).symm hloc); clear hown hgrow hloc x0 x1 x2 u0 u1 u2; obtain ⟨a6, c6, ev⟩ := (unhide R6).form; subst ev; have y0 := ((unhide R6).boxes _ (List.mem_cons_of_mem _ (List.mem_cons_of_mem _ (unhide HP2)))).1.cell 0; have y1 := ((unhide R6).boxes _ (List.mem_cons_of_mem _ (List.mem_cons_of_mem _ (unhide HP2)))).1.cell 1; simp at y0 y1; have f0 := ((unhide R6).boxes _ (List.mem_cons_of_mem _ (List.mem_cons_of_mem _ (unhide HP2)))).1.frozen 0; have f1 := ((unhide R6).boxes _ (List.mem_cons_of_mem _ (List.mem_cons_of_mem _ (unhide HP2)))).1.frozen 1))
      clear R2 R2a RA R5 S5 y0 y1 f0 f1
      generalize hU : (w6.setCell _ _).setCell _ _ = U
      have XB := ((unhide R6).boxes _ (List.mem_cons_of_mem _ (List.mem_cons_of_mem _ (unhide HP2))))
      obtain ⟨XU, OU⟩ := store2' XB.1 hU
      have t0 := (unhide XU).cell 0
      have t1 := (unhide XU).cell 1
      simp at t0 t1
      have hlf : Hid (fmtList n = (fmtLoop j ++ [(3, 0, 0), (1, 1, 2), (2, 0, 0), (3, 0, 0)]) ++ [(1, 0, 691691691), (2, 0, 0), (3, 0, 0)]) := by rw [Hid, (unhide HC).2, unhide HJE]; simp [fmtEnd]
      have hlen : (fmtList n).length = 2 * j + 4 + 3 := by rw [unhide hlf]; simp [fmtLoop_length]
      have OW := (unhide OU).own (unhide R6).own (fun q hq e => XB.2 (by rw [hq, e]))
      rw [← unhide hlf] at OW
      refine bodyPost_ret (v := .agg #[.int .i64 0, .slice a6 (2 * j + 4 + 3) c6]) (by simp [results, Try.results62, go_sem, t0, t1]) rfl ⟨?_, ?_⟩
      · refine ⟨a6, c6, ?_, ?_⟩
        · rw [(unhide HC).1, hlen]
        · rw [hlen]
          exact own_base OW (fun q hq => Nat.le_trans (unhide R6).hb ((unhide R6).own.lt q hq).1)
      · exact (unhide OU).below (unhide R6).bel (Nat.le_refl _) (fun q hq e => by omega)
end Go.Proofs.Ytdijmijipgnlgaa
