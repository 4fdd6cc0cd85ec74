/-
  Several texts in one: AppRow, Draw2Acts, DoWalk, ActsWalk, EqB, SameDevWalk, LwAt, FnActsWalk, CodeRow, FnActsTop.
-/
import Derived.Test.YtgckkehlnahfmaaRowMath
import Derived.Maps.AppendAt
import Derived.Deep.RegionLaw
import Derived.Test.YtgckkehlnahfmaaDraw2Flush
import Derived.Test.YtgckkehlnahfmaaTripMath
import Derived.Test.YtgckkehlnahfmaaDoMath
import Derived.Test.YtgckkehlnahfmaaProg
import Derived.WalkKit
import Derived.WalkLawsBesides
import Derived.BigQuiet
import Derived.Deep.QuietTactic
import Derived.Laws.StructEq
import Derived.Test.YtgckkehlnahfmaaOwnDev
import Derived.Test.YtgckkehlnahfmaaSrcWalk
import Derived.Test.YtgckkehlnahfmaaSActsWalk
import Derived.Test.YtgckkehlnahfmaaFncKit
import Derived.Deep.RegionHeld3
import Derived.Deep.CutRange
import Derived.Test.YtgckkehlnahfmaaSrcMath
import Derived.ProofKit
/-
  'append' onto a row that is ours, of elements of any size, from whatever slice can be read (nil too).
-/
namespace Go.Proofs.Ytgckkehlnahfmaa
open Go.RowKit

/-- The cells xs lie at a (nothing is asked where there are none). -/
def RowAt (w : World) (a : Option Addr) (xs : List Value) : Prop :=
  xs = [] ∨ ∃ b o, a = some ⟨b, o, none⟩ ∧ b < w.heap.size ∧ ∀ j u, xs[j]? = some u → w.cell? ⟨b, o + j, none⟩ = some u
theorem RowAt.keep {w w' : World} {a : Option Addr} {l : List Value} (h : RowAt w a l) (hz : w.heap.size ≤ w'.heap.size) (hk : l ≠ [] → ∀ x, a = some x → x.block < w.heap.size → w'.heap[x.block]? = w.heap[x.block]?) : RowAt w' a l := by
  by_cases hl : l = []
  · exact .inl hl
  rcases h with h | ⟨b, o, rfl, hlt, hc⟩
  · exact .inl h
  · exact .inr ⟨b, o, rfl, by omega, fun j u hj => (World.cell?_of_block (a := ⟨b, o + j, none⟩) (hk hl ⟨b, o, none⟩ rfl hlt)).trans (hc j u hj)⟩
theorem RowAt.below {w w' : World} {a : Option Addr} {l : List Value} (h : RowAt w a l) (hb : Below w.heap.size w w') : RowAt w' a l := h.keep hb.size fun _ _ _ hx => hb.block _ hx
theorem RowAt.out {F : Nat → Prop} {w w' : World} {a : Option Addr} {l : List Value} (h : RowAt w a l) (ho : Out F w w') (hF : l ≠ [] → ∀ x, a = some x → ¬ F x.block) : RowAt w' a l := h.keep ho.size fun hl x hx hlt => ho.block _ hlt (hF hl x hx)
theorem RowAt.drew {w : World} {a : Option Addr} {l : List Value} (h : RowAt w a l) : RowAt w.drew a l := h
theorem rowAt_box {w : World} {b : Nat} {cs : List Value} {t : TypeId} (h : Box w b cs t) : RowAt w (some ⟨b, 0, none⟩) cs :=
  .inr ⟨b, 0, rfl, h.lt, fun j u hj => by rw [Nat.zero_add, h.cell j]; exact hj⟩
theorem rowAt_own {w : World} {base n : Nat} {e : TypeId} {size : Nat} {v : Value} {xs : List Value} (h : w.ownsRow base e size v n xs) :
    ∃ a c, v = .slice a n c ∧ RowAt w a xs ∧ n ≤ c ∧ c ≤ maxLen := by
  have hl := h.1
  rcases h.2 with ⟨rfl, h0⟩ | ⟨g, cap, cur, rfl, hg, hh, hn, hc, hs2, ht⟩
  · exact ⟨none, 0, by rw [h0], .inl (List.length_eq_zero_iff.1 (by rw [hl, h0, Nat.zero_mul])), by omega, by omega⟩
  · refine ⟨_, cap, rfl, ?_, hn, hc⟩
    by_cases h0 : xs = []
    · exact .inl h0
    · refine .inr ⟨g, 0, rfl, (Array.getElem?_eq_some_iff.1 hh).1, fun j u hj => ?_⟩
      rw [Nat.zero_add, h.cellAt j (by have := (List.getElem?_eq_some_iff.1 hj).1; omega)]
      exact hj

theorem run_append_xs {P : Program} (w : World) (base : Nat) (t ty e : TypeId) (i : TypeInfo) (z : Value) (size bytes : Nat) (ht : P.underlying t = some (.slice e)) (hi : P.info? e = some i) (hz : i.zero = some z) (hsize : i.size = size) (hby : i.bytes = bytes) (hzs : z.cells.size = size) (hsz : 0 < size) (hb1 : bytes ≤ 1000)
    (v : Value) (n : Nat) (xs : List Value) (hown : w.ownsRow base e size v n xs) (a : Option Addr) (m c : Nat) (ys : List Value) (hl : ys.length = m * size) (hp : RowAt w a ys) (h1 : ∀ u ∈ ys, u.oneCell' = true) (hn : n + m ≤ 100000000) (hbase : base ≤ w.heap.size) :
    ∃ v' w', (Builtin.append_ #[t, t] ty #[v, .slice a m c]).run P w = .ok v' w' ∧ w'.ownsRow base e size v' (n + m) (xs ++ ys) ∧ w.grownBy w' v.ownBlock ∧ (v'.ownBlock = v.ownBlock ∨ v'.ownBlock = some w.heap.size) := by
  cases a with
  | none =>
    have hy : ys = [] := by
      rcases hp with h | ⟨b, o, h, _⟩
      · exact h
      · cases h
    subst hy
    have hm : m = 0 := by
      rcases Nat.eq_zero_or_pos m with h | h
      · exact h
      · have := Nat.mul_pos h hsz
        simp at hl; omega
    subst hm
    refine ⟨v, w, ?_, by simpa using hown, ⟨rfl, rfl, rfl, Nat.le_refl _, fun _ _ _ => rfl⟩, .inl rfl⟩
    rcases hown.2 with ⟨rfl, rfl⟩ | ⟨g, cap, cur, rfl, _, _, hnc, _⟩
    · simp [Builtin.append_, run_underlying ht, sizeOf, typeInfo, hi, Builtin.lenOf, Builtin.firstCells]
    · simp [Builtin.append_, run_underlying ht, sizeOf, typeInfo, hi, Builtin.lenOf, Builtin.firstCells, hnc, storeCells]
  | some ad =>
    obtain ⟨v', w', hr, h2, h3, -, h5⟩ := run_append_own_at (P := P) w base t ty e i z size bytes ht hi hz hsize hby hzs hsz v n xs hown ad m c ys hl (fun j u hj => by
      rcases hp with h | ⟨b, o, h, _, hc⟩
      · subst h; simp at hj
      · injection h with h; subst h; rw [Go.WideShapes.add_plain]; exact hc j u hj) h1 (by unfold maxLen; omega) (Nat.le_trans (Nat.mul_le_mul hn hb1) (by decide)) hbase
    exact ⟨v', w', hr, h2, h3, h5⟩
theorem wpList_append_xs {P : Program} (w : World) {ops : Array Oper} {rest : List Oper} {o : Oper} {a : Act} {Q : Exit → Act → World → Prop} (hgd : o.guard = none) (s x : Operand) (t : TypeId)
    (ho : o.op = .call { callee := .builtin .append, args := #[s, x], argTypes := #[t, t] })
    (base : Nat) (e : TypeId) (i : TypeInfo) (z : Value) (size bytes : Nat) (ht : P.underlying t = some (.slice e)) (hi : P.info? e = some i) (hz : i.zero = some z) (hsize : i.size = size) (hby : i.bytes = bytes) (hzs : z.cells.size = size) (hsz : 0 < size) (hb1 : bytes ≤ 1000)
    (v : Value) (n : Nat) (xs : List Value) (hs : a.eval s = v) (hown : w.ownsRow base e size v n xs) (ad : Option Addr) (m c : Nat) (ys : List Value) (hx : a.eval x = .slice ad m c) (hl : ys.length = m * size) (hp : RowAt w ad ys) (h1 : ∀ u ∈ ys, u.oneCell' = true) (hn : n + m ≤ 100000000) (hbase : base ≤ w.heap.size)
    (h : ∀ v' w', w'.ownsRow base e size v' (n + m) (xs ++ ys) → w.grownBy w' v.ownBlock → (v'.ownBlock = v.ownBlock ∨ v'.ownBlock = some w.heap.size) → wpList P ops Q rest (a.put o.dst v') w') : wpList P ops Q (o :: rest) a w := by
  refine wpList_plain hgd fun K hK => ?_
  obtain ⟨v', w', hr, h2, h3, h4⟩ := run_append_xs w base t o.type e i z size bytes ht hi hz hsize hby hzs hsz hb1 v n xs hown ad m c ys hl hp h1 hn hbase
  unfold Oper.wp execOp
  simp only [ho, resolve, invoke, builtin, Sem.run_bind, Sem.run_pure, Result.andThen_ok, List.map_toArray, List.map_cons, List.map_nil, hs, hx, hr]
  exact hK _ _ (h v' w' h2 h3 h4)
theorem step_append_xs {P : Program} (w : World) {ops : Array Oper} {o : Oper} {a : Act} {K : Act → World → Prop} {Q : Exit → Act → World → Prop} {E : Prop} (hgd : o.guard = none) (s x : Operand) (t : TypeId)
    (ho : o.op = .call { callee := .builtin .append, args := #[s, x], argTypes := #[t, t] })
    (base : Nat) (e : TypeId) (i : TypeInfo) (z : Value) (size bytes : Nat) (ht : P.underlying t = some (.slice e)) (hi : P.info? e = some i) (hz : i.zero = some z) (hsize : i.size = size) (hby : i.bytes = bytes) (hzs : z.cells.size = size) (hsz : 0 < size) (hb1 : bytes ≤ 1000)
    (v : Value) (n : Nat) (xs : List Value) (hs : a.eval s = v) (hown : w.ownsRow base e size v n xs) (ad : Option Addr) (m c : Nat) (ys : List Value) (hx : a.eval x = .slice ad m c) (hl : ys.length = m * size) (hp : RowAt w ad ys) (h1 : ∀ u ∈ ys, u.oneCell' = true) (hn : n + m ≤ 100000000) (hbase : base ≤ w.heap.size)
    (h : ∀ v' w', w'.ownsRow base e size v' (n + m) (xs ++ ys) → w.grownBy w' v.ownBlock → (v'.ownBlock = v.ownBlock ∨ v'.ownBlock = some w.heap.size) → K (a.put o.dst v') w') :
    if Region.wanted o (yielded ops a.tmps) = true then Oper.wp P o a w K Q else E := by
  have hw : Region.wanted o (yielded ops a.tmps) = true := by simp [Region.wanted, hgd]
  rw [if_pos hw]
  obtain ⟨v', w', hr, h2, h3, h4⟩ := run_append_xs w base t o.type e i z size bytes ht hi hz hsize hby hzs hsz hb1 v n xs hown ad m c ys hl hp h1 hn hbase
  unfold Oper.wp execOp
  simp only [ho, resolve, invoke, builtin, Sem.run_bind, Sem.run_pure, Result.andThen_ok, List.map_toArray, List.map_cons, List.map_nil, hs, hx, hr]
  exact h v' w' h2 h3 h4
end Go.Proofs.Ytgckkehlnahfmaa
/-
  The laws' draws of devices: acts for one.
-/
namespace Go.Proofs.Ytgckkehlnahfmaa
open Go.RowKit
set_option linter.unusedVariables false

theorem trs_one1 (l : List Trip) : ∀ u ∈ trs l, u.oneCell' = true := by
  intro u hu
  simp only [trs, List.mem_flatMap] at hu
  obtain ⟨c, -, hc⟩ := hu
  simp at hc
  rcases hc with rfl | rfl | rfl <;> rfl
theorem rowAt_fresh (w : World) (cs : List Value) (t : TypeId) : RowAt (w.alloc (.cells cs.toArray t)) (some ⟨w.heap.size, 0, none⟩) cs := rowAt_box (box_new w cs t)
theorem rowAt_fresh' (w : World) (p : Addr) (v : Value) (cs : List Value) (t : TypeId) : RowAt ((w.setCell p v).alloc (.cells cs.toArray t)) (some ⟨w.heap.size, 0, none⟩) cs := by
  have h := rowAt_fresh (w.setCell p v) cs t
  have e : (w.setCell p v).heap.size = w.heap.size := by simp [World.setCell]
  rw [e] at h
  exact h
theorem own_cap {w : World} {base n m c : Nat} {e : TypeId} {k : Nat} {a : Option Addr} {xs : List Value} (h : w.ownsRow base e k (.slice a n c) m xs) : m ≤ c ∧ c ≤ maxLen := by
  obtain ⟨_, _, ev, -, h1, h2⟩ := rowAt_own h
  cases ev
  exact ⟨h1, h2⟩
def lenV : Value → Nat
  | .slice _ n _ => n
  | _ => 0
theorem infoActD : (Try.prog.info? 84).map (fun i => (i.zero, i.size, i.bytes)) = some (some (.agg #[.int .i64 0, .int .i64 0, .int .i64 0]), 3, 24) := by kernel_rfl
/-- What there is while acts are drawn: the source s, the answer's box, the device's box db with its device, the acts so far. -/
structure AD (w : World) (s lo db : Nat) (a : Option Addr) (n c : Nat) (a1 a2 a3 : Option Addr) (c1 c2 c3 : Nat) (D : Dev) (P : Nat) (v : Value) (l : List Trip) (wr : World) : Prop where
  src : SrcTo wr s a n c P
  bel : Below w.heap.size w wr
  ans : Box wr w.heap.size [.slice none 0 0, .slice none 0 0, .slice none 0 0] 27
  dev : Box wr db [.slice a1 D.words.length c1, .slice a2 D.flights.length c2, .slice a3 D.over.length c3] 27
  rd : RDev wr lo db a1 a2 a3 D
  row : wr.ownsRow (db + 1) 84 3 v l.length (trs l)
  q1 : w.heap.size < s
  q2 : s < lo
  q3 : lo ≤ db
  q4 : db < wr.heap.size
theorem AD.step {w : World} {s lo db : Nat} {a : Option Addr} {n c : Nat} {a1 a2 a3 : Option Addr} {c1 c2 c3 : Nat} {D : Dev} {P P' : Nat} {v : Value} {l : List Trip} {wr w' : World} (h : AD w s lo db a n c a1 a2 a3 c1 c2 c3 D P v l wr) (hs : SrcTo w' s a n c P') (ho : Out (fun q => q = s) wr w') : AD w s lo db a n c a1 a2 a3 c1 c2 c3 D P' v l w' := by
  have h1 := h.q1
  have h2 := h.q2
  have h3 := h.q3
  have h4 := h.q4
  have hz := ho.size
  exact ⟨hs, ho.below h.bel (Nat.le_refl _) (fun q hq e => by omega), h.ans.out ho (by show ¬ w.heap.size = s; omega), h.dev.out ho (by show ¬ db = s; omega), h.rd.out ho (fun q g1 g2 e => by omega), ho.own h.row (fun q hq e => by have := (h.row.lt q hq).1; omega), h1, h2, h3, by omega⟩
theorem AD.below {w : World} {s lo db : Nat} {a : Option Addr} {n c : Nat} {a1 a2 a3 : Option Addr} {c1 c2 c3 : Nat} {D : Dev} {P : Nat} {v : Value} {l : List Trip} {wr w' : World} (h : AD w s lo db a n c a1 a2 a3 c1 c2 c3 D P v l wr) (hb : Below wr.heap.size wr w') : AD w s lo db a n c a1 a2 a3 c1 c2 c3 D P v l w' :=
  ⟨h.src.below hb, below_step h.bel hb h.bel.size, h.ans.below hb, h.dev.below hb, h.rd.below hb, own_below h.row hb, h.q1, h.q2, h.q3, by have := hb.size; have := h.q4; omega⟩
/-- Behind a store into a box of our own above the device's, which is not the acts' row. -/
theorem AD.put {w : World} {s lo db : Nat} {a : Option Addr} {n c : Nat} {a1 a2 a3 : Option Addr} {c1 c2 c3 : Nat} {D : Dev} {P : Nat} {v : Value} {l : List Trip} {wr w' : World} {b : Nat} (h : AD w s lo db a n c a1 a2 a3 c1 c2 c3 D P v l wr) (ho : Out (fun q => q = b) wr w') (hb : db < b) (hne : v.ownBlock ≠ some b) : AD w s lo db a n c a1 a2 a3 c1 c2 c3 D P v l w' := by
  have h1 := h.q1
  have h2 := h.q2
  have h3 := h.q3
  have h4 := h.q4
  have hz := ho.size
  exact ⟨h.src.above ho (fun q e => by omega), ho.below h.bel (Nat.le_refl _) (fun q hq e => by omega), h.ans.out ho (by show ¬ w.heap.size = b; omega), h.dev.out ho (by show ¬ db = b; omega), h.rd.out ho (fun q g1 g2 e => by omega), ho.own h.row (fun q hq e => hne (by rw [hq, e])), h1, h2, h3, by omega⟩
theorem AD.grow {w : World} {s lo db : Nat} {a : Option Addr} {n c : Nat} {a1 a2 a3 : Option Addr} {c1 c2 c3 : Nat} {D : Dev} {P : Nat} {v v' : Value} {l m : List Trip} {k : Nat} {wr w' : World} (h : AD w s lo db a n c a1 a2 a3 c1 c2 c3 D P v l wr) (hg : wr.grownBy w' v.ownBlock) (ho : w'.ownsRow (db + 1) 84 3 v' (l.length + k) (trs l ++ trs m)) (hk : m.length = k) : AD w s lo db a n c a1 a2 a3 c1 c2 c3 D P v' (l ++ m) w' := by
  have h1 := h.q1
  have h2 := h.q2
  have h3 := h.q3
  have h4 := h.q4
  have hO := Out.ofGrown hg
  have hz := hO.size
  have hF : ∀ q, some q = v.ownBlock → db < q := fun q e => by have := (h.row.lt q e.symm).1; omega
  refine ⟨h.src.above hO (fun q e => by have := hF q e; omega), hO.below h.bel (Nat.le_refl _) (fun q hq e => by have := hF q e; omega), h.ans.out hO (fun e => by have := hF _ e; omega), h.dev.out hO (fun e => by have := hF _ e; omega), h.rd.out hO (fun q g1 g2 e => by have := hF q e; omega), ?_, h1, h2, h3, by omega⟩
  rw [trs_append, List.length_append, hk]
  exact ho
theorem AD.form {w : World} {s lo db : Nat} {a : Option Addr} {n c : Nat} {a1 a2 a3 : Option Addr} {c1 c2 c3 : Nat} {D : Dev} {P : Nat} {v : Value} {l : List Trip} {wr : World} (h : AD w s lo db a n c a1 a2 a3 c1 c2 c3 D P v l wr) : ∃ av cv, v = .slice av l.length cv ∧ TripsAt wr av l := by
  obtain ⟨av, cv, e, -, ht, -⟩ := tripsAt_own h.row
  exact ⟨av, cv, e, ht⟩

set_option maxRecDepth 20000 in
set_option maxHeartbeats 4000000 in
theorem drawDoActs_any (a : Option Addr) (n c : Nat) (w : World) (h : CodeAt w a n) (hn : n ≤ 1048576) :
    Calls Try.prog 29 #[.slice a n c] w fun r w' => (∃ a1 c1 a2 c2 a3 c3 D av cv l, r = .returned (.tuple #[.agg #[.slice a1 (List.length (Dev.words D)) c1, .slice a2 (List.length (Dev.flights D)) c2, .slice a3 (List.length (Dev.over D)) c3], .slice av (List.length l) cv]) ∧ RDev w' w.heap.size w'.heap.size a1 a2 a3 D ∧ Few D ∧ TripsAt w' av l ∧ List.length l ≤ 501 ∧ List.length l ≤ cv ∧ cv ≤ maxLen) ∧ Below w.heap.size w w' := by
  obtain ⟨i0, hi, hz0, hz1, hz2⟩ := info_parts infoActD
  obtain ⟨W, hW, hWz, HB0, HX0⟩ := boxes1 w [.slice none 0 0, .slice none 0 0, .slice none 0 0] 27
  have H := hide (h.below (unhide HB0))
  clear h
  go_enter Try.func29, Try.ntmps29
  go_wp2_with fail
  rw [← hW]
  clear hW
  refine (l1Source_any a n c _).mono ?_
  rintro r W1 ⟨rfl, hW1⟩
  obtain ⟨hS, hB⟩ := sourceTo hW1 (unhide H) hn
  have z1 := hB.size
  have hslt := hS.lt
  have S1 := hide hS
  have B1 := hide (below_step (unhide HB0) hB (by omega))
  have HX1 := hide ((unhide HX0).below hB)
  clear hS hB hW1 H HB0 HX0
  go_wp2_with fail
  refine (l2Bent_any W.heap.size a n c 0 _ (unhide S1) (by omega)).mono ?_
  rintro r w2 ⟨⟨a1, c1, a2, c2, a3, c3, D, rfl, hR, hF⟩, h2, o2⟩
  have z2 := o2.size
  have S2 := hide h2
  have HX2 := hide ((unhide HX1).out o2 (by show ¬ w.heap.size = W.heap.size; omega))
  have B2 := hide (o2.below (unhide B1) (Nat.le_refl _) (fun q hq e => by omega))
  have R2 := hide hR
  have F2 := hide hF
  clear hR hF h2 o2 S1 HX1 B1
  obtain ⟨W3, hW3, z3, hb3, hx3, hy3⟩ := boxes2 w2 [.slice a1 D.words.length c1, .slice a2 D.flights.length c2, .slice a3 D.over.length c3] [] 27 84
  have A3 : Hid (AD w W.heap.size W1.heap.size w2.heap.size a n c a1 a2 a3 c1 c2 c3 D (0 + 70) (.slice (some ⟨w2.heap.size + 1, 0, none⟩) 0 0) ([]) W3) := hide ⟨(unhide S2).below (unhide hb3), below_step (unhide B2) (unhide hb3) (by omega), (unhide HX2).below (unhide hb3), unhide hx3, (unhide R2).below (unhide hb3), ⟨rfl, .inr ⟨w2.heap.size + 1, 0, #[], rfl, Nat.le_refl _, unhide hy3, Nat.le_refl _, by unfold maxLen; omega, rfl, rfl⟩⟩, by omega, by omega, by omega, by omega⟩
  clear S2 HX2 B2 R2 hb3 hx3 hy3
  go_wp2_with fail
  rw [← hW3]
  clear hW3
  refine (nextTo W.heap.size a n c (0 + 70) 9 _ (unhide A3).src (by omega) (by omega) (by omega)).mono ?_
  rintro r w4 ⟨⟨x, rfl, hx0, hx1⟩, hs4, ho4⟩
  obtain ⟨t, rfl⟩ : ∃ t : Nat, x = (t : Int) := ⟨x.toNat, by omega⟩
  have A4 := hide ((unhide A3).step hs4 ho4)
  clear hs4 ho4 A3
  go_wp2_with fail
  go_loopw [6, 7] (fun v i wr => ∃ (j : Nat) (l : List Trip) (av : Option Addr) (cv : Nat), i = .int .i64 j ∧ v = .slice av l.length cv ∧ l.length + j ≤ 8 ∧ Hid (AD w W.heap.size W1.heap.size w2.heap.size a n c a1 a2 a3 c1 c2 c3 D (0 + 71 + 6 * (8 - j)) (.slice av l.length cv) (l) wr)) (fun _ i _ => (intOf i).toNat)
  case atStart => exact ⟨t, [], _, _, rfl, rfl, by simp; omega, hide ((unhide A4).step ((unhide A4).src.more (by omega)) (Out.refl _ _))⟩
  case round =>
    obtain ⟨j, l, av, cv, rfl, rfl, hlj, HA⟩ := hrel
    clear A4
    have hdz := (unhide HA).q4
    by_cases hj0 : (0 : Int) < (j : Int)
    · go_wp2_with fail
      refine (l2DrawAct_any W.heap.size a n c _ 16 _ (unhide HA).src (by omega) (by omega) (by omega)).mono ?_
      rintro r w5 ⟨⟨k1, k2, k3, rfl⟩, hs5, ho5⟩
      have A5 := hide ((unhide HA).step hs5 ho5)
      have hlt5 := fun q hq => ((unhide A5).row.lt q hq).2
      clear hs5 ho5 HA hdz
      obtain ⟨W6, hW6, z6, hb6, hx6⟩ := boxes1 w5 [.int .i64 k1, .int .i64 k2, .int .i64 k3] 84
      have A6 := hide ((unhide A5).below (unhide hb6))
      have hne : (Value.slice av l.length cv).ownBlock ≠ some w5.heap.size := fun e => by have := hlt5 _ e; omega
      have HNE := hide hne
      have hdb := (unhide A5).q4
      have hsd : W.heap.size < w5.heap.size := by have := (unhide A5).src.lt; omega
      clear hlt5 hne A5 hb6
      go_wp2_with fail
      rw [← hW6]
      clear hW6
      refine (nextTo W.heap.size a n c _ 20 _ (unhide A6).src (by omega) (by omega) (by omega)).mono ?_
      rintro r w7 ⟨⟨x, rfl, hx0, hx1⟩, hs7, ho7⟩
      have z7 := ho7.size
      have A7 := hide ((unhide A6).step hs7 ho7)
      have X7 := hide ((unhide hx6).out ho7 (by show ¬ w5.heap.size = W.heap.size; omega))
      clear hs7 ho7 A6 hx6 hx0 hx1
      cases x0 : (x == 0)
      case true =>
        go_wp2_with fail
        refine (pickTo W.heap.size a n c _ (fun _ => True) _ _ 4 w7 (unhide A7).src (by omega) rfl (by omega) (by omega) (by simp)).mono ?_
        rintro r w8 ⟨⟨y, -, rfl⟩, hs8, ho8⟩
        have z8 := ho8.size
        have A8 := hide ((unhide A7).step hs8 ho8)
        have X8 := hide ((unhide X7).out ho8 (by show ¬ w5.heap.size = W.heap.size; omega))
        clear hs8 ho8 A7 X7
        obtain ⟨U, hU⟩ : ∃ U, U = w8.setCell ⟨w5.heap.size, 0, none⟩ (.int .i64 y) := ⟨_, rfl⟩
        have OU : Out (fun q => q = w5.heap.size) w8 U := out_set' (Out.refl _ _) hU.symm (.inl rfl)
        have zU := OU.size
        have AU := hide ((unhide A8).put OU (by omega) (unhide HNE))
        have A9 := hide ((unhide AU).below (Below.alloc (Below.refl _ _) (Nat.le_refl _) (.cells #[.int .i64 y, .int .i64 k2, .int .i64 k3] 84)))
        have pl : w5.heap.size < w8.heap.size := by omega
        have hdz : w2.heap.size < w8.heap.size := by omega
        clear zU
        have g0 := (unhide X8).cell 0
        have g1 := (unhide X8).cell 1
        have g2 := (unhide X8).cell 2
        have f0 := (unhide X8).frozen 0
        simp at g0 g1 g2
        clear OU AU A8 X8
        subst hU
        go_wp2_with (at_builtin; clear g0 g1 g2 f0; refine wpList_append_xs _ rfl _ _ 48 rfl (w2.heap.size + 1) 84 i0 _ 3 24 Try.underlying48 hi hz0 hz1 hz2 rfl (by decide) (by decide) (.slice av l.length cv) l.length (trs l) rfl (unhide A9).row _ 1 1 (trs [(y, k2, k3)]) rfl rfl (rowAt_fresh' w8 _ _ [.int .i64 y, .int .i64 k2, .int .i64 k3] 84) (trs_one1 _) (by omega) (by simp; omega) ?_; intro v8 w8 hown hgrow hloc; have A8 := hide ((unhide A9).grow hgrow hown rfl); obtain ⟨a8, c8, e8, -⟩ := (unhide A8).form; subst e8; clear hown hgrow hloc A9)
        go_roundw
        case rel => exact ⟨j - 1, l ++ [(y, k2, k3)], a8, c8, by go_num, by simp, by simp; omega, hide ((unhide A8).step ((unhide A8).src.more (by omega)) (Out.refl _ _))⟩
        case measure => simp [intOf]; omega
      cases x1 : (x == 1)
      case true =>
        go_wp2_with fail
        refine (pickTo W.heap.size a n c _ (fun _ => True) _ _ 2 w7 (unhide A7).src (by omega) rfl (by omega) (by omega) (by simp)).mono ?_
        rintro r w8 ⟨⟨y, -, rfl⟩, hs8, ho8⟩
        have z8 := ho8.size
        have A8 := hide ((unhide A7).step hs8 ho8)
        have X8 := hide ((unhide X7).out ho8 (by show ¬ w5.heap.size = W.heap.size; omega))
        clear hs8 ho8 A7 X7
        obtain ⟨U, hU⟩ : ∃ U, U = w8.setCell ⟨w5.heap.size, 1, none⟩ (.int .i64 y) := ⟨_, rfl⟩
        have OU : Out (fun q => q = w5.heap.size) w8 U := out_set' (Out.refl _ _) hU.symm (.inl rfl)
        have zU := OU.size
        have AU := hide ((unhide A8).put OU (by omega) (unhide HNE))
        have A9 := hide ((unhide AU).below (Below.alloc (Below.refl _ _) (Nat.le_refl _) (.cells #[.int .i64 k1, .int .i64 y, .int .i64 k3] 84)))
        have pl : w5.heap.size < w8.heap.size := by omega
        have hdz : w2.heap.size < w8.heap.size := by omega
        clear zU
        have g0 := (unhide X8).cell 0
        have g1 := (unhide X8).cell 1
        have g2 := (unhide X8).cell 2
        have f1 := (unhide X8).frozen 1
        simp at g0 g1 g2
        clear OU AU A8 X8
        subst hU
        go_wp2_with (at_builtin; clear g0 g1 g2 f1; refine wpList_append_xs _ rfl _ _ 48 rfl (w2.heap.size + 1) 84 i0 _ 3 24 Try.underlying48 hi hz0 hz1 hz2 rfl (by decide) (by decide) (.slice av l.length cv) l.length (trs l) rfl (unhide A9).row _ 1 1 (trs [(k1, y, k3)]) rfl rfl (rowAt_fresh' w8 _ _ [.int .i64 k1, .int .i64 y, .int .i64 k3] 84) (trs_one1 _) (by omega) (by simp; omega) ?_; intro v8 w8 hown hgrow hloc; have A8 := hide ((unhide A9).grow hgrow hown rfl); obtain ⟨a8, c8, e8, -⟩ := (unhide A8).form; subst e8; clear hown hgrow hloc A9)
        go_roundw
        case rel => exact ⟨j - 1, l ++ [(k1, y, k3)], a8, c8, by go_num, by simp, by simp; omega, hide ((unhide A8).step ((unhide A8).src.more (by omega)) (Out.refl _ _))⟩
        case measure => simp [intOf]; omega
      cases x2 : (x == 2)
      case true =>
        go_wp2_with fail
        refine (pickTo W.heap.size a n c _ (fun _ => True) _ _ 2 w7 (unhide A7).src (by omega) rfl (by omega) (by omega) (by simp)).mono ?_
        rintro r w8 ⟨⟨y, -, rfl⟩, hs8, ho8⟩
        have z8 := ho8.size
        have A8 := hide ((unhide A7).step hs8 ho8)
        have X8 := hide ((unhide X7).out ho8 (by show ¬ w5.heap.size = W.heap.size; omega))
        clear hs8 ho8 A7 X7
        obtain ⟨U, hU⟩ : ∃ U, U = w8.setCell ⟨w5.heap.size, 2, none⟩ (.int .i64 y) := ⟨_, rfl⟩
        have OU : Out (fun q => q = w5.heap.size) w8 U := out_set' (Out.refl _ _) hU.symm (.inl rfl)
        have zU := OU.size
        have AU := hide ((unhide A8).put OU (by omega) (unhide HNE))
        have A9 := hide ((unhide AU).below (Below.alloc (Below.refl _ _) (Nat.le_refl _) (.cells #[.int .i64 k1, .int .i64 k2, .int .i64 y] 84)))
        have pl : w5.heap.size < w8.heap.size := by omega
        have hdz : w2.heap.size < w8.heap.size := by omega
        clear zU
        have g0 := (unhide X8).cell 0
        have g1 := (unhide X8).cell 1
        have g2 := (unhide X8).cell 2
        have f2 := (unhide X8).frozen 2
        simp at g0 g1 g2
        clear OU AU A8 X8
        subst hU
        go_wp2_with (at_builtin; clear g0 g1 g2 f2; refine wpList_append_xs _ rfl _ _ 48 rfl (w2.heap.size + 1) 84 i0 _ 3 24 Try.underlying48 hi hz0 hz1 hz2 rfl (by decide) (by decide) (.slice av l.length cv) l.length (trs l) rfl (unhide A9).row _ 1 1 (trs [(k1, k2, y)]) rfl rfl (rowAt_fresh' w8 _ _ [.int .i64 k1, .int .i64 k2, .int .i64 y] 84) (trs_one1 _) (by omega) (by simp; omega) ?_; intro v8 w8 hown hgrow hloc; have A8 := hide ((unhide A9).grow hgrow hown rfl); obtain ⟨a8, c8, e8, -⟩ := (unhide A8).form; subst e8; clear hown hgrow hloc A9)
        go_roundw
        case rel => exact ⟨j - 1, l ++ [(k1, k2, y)], a8, c8, by go_num, by simp, by simp; omega, hide ((unhide A8).step ((unhide A8).src.more (by omega)) (Out.refl _ _))⟩
        case measure => simp [intOf]; omega
      have p0 := (unhide X7).cell 0
      have p1 := (unhide X7).cell 1
      have p2 := (unhide X7).cell 2
      simp at p0 p1 p2
      have A9 := hide ((unhide A7).below (Below.alloc (Below.refl _ _) (Nat.le_refl _) (.cells #[.int .i64 k1, .int .i64 k2, .int .i64 k3] 84)))
      have pl : w5.heap.size < w7.heap.size := by omega
      have hdz : w2.heap.size < w7.heap.size := by omega
      clear A7 X7
      go_wp2_with (at_builtin; refine wpList_append_xs _ rfl _ _ 48 rfl (w2.heap.size + 1) 84 i0 _ 3 24 Try.underlying48 hi hz0 hz1 hz2 rfl (by decide) (by decide) (.slice av l.length cv) l.length (trs l) rfl (unhide A9).row _ 1 1 (trs [(k1, k2, k3)]) rfl rfl (rowAt_fresh w7 [.int .i64 k1, .int .i64 k2, .int .i64 k3] 84) (trs_one1 _) (by omega) (by simp; omega) ?_; intro v8 w8 hown hgrow hloc; have A8 := hide ((unhide A9).grow hgrow hown rfl); obtain ⟨a8, c8, e8, -⟩ := (unhide A8).form; subst e8; clear hown hgrow hloc A9)
      go_roundw
      case rel => exact ⟨j - 1, l ++ [(k1, k2, k3)], a8, c8, by go_num, by simp, by simp; omega, hide ((unhide A8).step ((unhide A8).src.more (by omega)) (Out.refl _ _))⟩
      case measure => simp [intOf]; omega
    · have hj1 : j = 0 := by omega
      have HJ := hide hj1
      clear hj1
      go_wp2_with fail
      refine (chanceTo W.heap.size a n c _ 40 _ (unhide HA).src (by omega) (by omega) (by omega)).mono ?_
      rintro r w5 ⟨⟨b, rfl⟩, hs5, ho5⟩
      have A5 := hide ((unhide HA).step hs5 ho5)
      clear hs5 ho5 HA hdz
      cases b
      case false =>
        have d0 := (unhide A5).dev.cell 0
        have d1 := (unhide A5).dev.cell 1
        have d2 := (unhide A5).dev.cell 2
        have q0 := (unhide A5).ans.cell 0
        have q1 := (unhide A5).ans.cell 1
        have q2 := (unhide A5).ans.cell 2
        have f0 := (unhide A5).ans.frozen 0
        have f1 := (unhide A5).ans.frozen 1
        have f2 := (unhide A5).ans.frozen 2
        simp only [List.getElem?_cons_zero, List.getElem?_cons_succ] at d0 d1 d2 q0 q1 q2
        go_wp2_with fail
        clear d0 d1 d2 q0 q1 q2 f0 f1 f2
        generalize hU : ((w5.setCell _ _).setCell _ _).setCell _ _ = U at *
        obtain ⟨XU, OU⟩ := store3' (unhide A5).ans hU
        have g1 := (unhide A5).q1
        have g2 := (unhide A5).q2
        have g3 := (unhide A5).q3
        have g4 := (unhide A5).q4
        have zU := (unhide OU).size
        have BU := hide ((unhide OU).below (unhide A5).bel (Nat.le_refl _) (fun q hq e => by omega))
        have RU := hide (((unhide A5).rd.out (unhide OU) (fun q h1 h2 e => by omega)).wide (lo' := w.heap.size) (hi' := U.heap.size) (by omega) (by omega))
        have TU : Hid (TripsAt U av l) := hide (tripsAt_slice ((unhide OU).own (unhide A5).row (fun q hq e => by have := ((unhide A5).row.lt q hq).1; omega)))
        clear hU OU
        refine bodyPost_ret (resCT Try.results29 _ U w.heap.size 27 _ (0, 0) _ _ rfl rfl (unhide XU) Try.underlying27 rfl (by kernel_rfl)) rfl ⟨⟨_, _, _, _, _, _, D, av, cv, l, rfl, unhide RU, unhide F2, unhide TU, by omega, (own_cap (unhide A5).row).1, (own_cap (unhide A5).row).2⟩, unhide BU⟩
      case true =>
        go_wp2_with fail
        refine (pickTo W.heap.size a n c _ (fun v => v = 500 ∨ v = 501) _ _ 2 w5 (unhide A5).src (by omega) rfl (by omega) (by omega) (by simp)).mono ?_
        rintro r w6 ⟨⟨y, hy, rfl⟩, hs6, ho6⟩
        obtain ⟨N, rfl⟩ : ∃ N : Nat, y = (N : Int) := ⟨y.toNat, by omega⟩
        have hN : N ≤ 501 := by omega
        have hN8 : 8 ≤ N := by omega
        have A6 := hide ((unhide A5).step hs6 ho6)
        clear hs6 ho6 A5 hy
        go_wp2_with fail
        obtain ⟨wo, rfl⟩ : ∃ wo : World, wo = wr := ⟨_, rfl⟩
        go_loopw [6] (fun v wr => ∃ (l : List Trip) (av : Option Addr) (cv : Nat), v = .slice av l.length cv ∧ l.length ≤ N ∧ Hid (AD w W.heap.size W1.heap.size w2.heap.size a n c a1 a2 a3 c1 c2 c3 D (0 + 71 + 6 * (8 - j) + 1 + 1) (.slice av l.length cv) (l) wr)) (fun v _ => N - lenV v)
        case atStart => exact ⟨l, av, cv, rfl, by omega, A6⟩
        case round =>
          obtain ⟨l, av, cv, rfl, hlN, HA⟩ := hrel
          clear A6
          by_cases hln : l.length < N
          · have hln' : (l.length : Int) < N := by omega
            have A7 := hide ((unhide HA).below (Below.alloc (Below.refl _ _) (Nat.le_refl _) (.cells #[.int .i64 3, .int .i64 0, .int .i64 0] 84)))
            have hdz := (unhide HA).q4
            clear HA
            go_wp2_with (at_builtin; refine wpList_append_xs _ rfl _ _ 48 rfl (w2.heap.size + 1) 84 i0 _ 3 24 Try.underlying48 hi hz0 hz1 hz2 rfl (by decide) (by decide) (.slice av l.length cv) l.length (trs l) rfl (unhide A7).row _ 1 1 (trs [(3, 0, 0)]) rfl rfl (rowAt_fresh wr [.int .i64 3, .int .i64 0, .int .i64 0] 84) (trs_one1 _) (by omega) (by simp; omega) ?_; intro v8 w8 hown hgrow hloc; have A8 := hide ((unhide A7).grow hgrow hown rfl); obtain ⟨a8, c8, e8, -⟩ := (unhide A8).form; subst e8; clear hown hgrow hloc A7)
            go_roundw
            case rel => exact ⟨l ++ [(3, 0, 0)], a8, c8, by simp, by simp; omega, A8⟩
            case measure => simp [lenV]; omega
          · have hln' : ¬ (l.length : Int) < N := by omega
            have d0 := (unhide HA).dev.cell 0
            have d1 := (unhide HA).dev.cell 1
            have d2 := (unhide HA).dev.cell 2
            have q0 := (unhide HA).ans.cell 0
            have q1 := (unhide HA).ans.cell 1
            have q2 := (unhide HA).ans.cell 2
            have f0 := (unhide HA).ans.frozen 0
            have f1 := (unhide HA).ans.frozen 1
            have f2 := (unhide HA).ans.frozen 2
            simp only [List.getElem?_cons_zero, List.getElem?_cons_succ] at d0 d1 d2 q0 q1 q2
            go_wp2_with fail
            clear d0 d1 d2 q0 q1 q2 f0 f1 f2
            generalize hU : ((wr.setCell _ _).setCell _ _).setCell _ _ = U at *
            obtain ⟨XU, OU⟩ := store3' (unhide HA).ans hU
            have g1 := (unhide HA).q1
            have g2 := (unhide HA).q2
            have g3 := (unhide HA).q3
            have g4 := (unhide HA).q4
            have zU := (unhide OU).size
            have BU := hide ((unhide OU).below (unhide HA).bel (Nat.le_refl _) (fun q hq e => by omega))
            have RU := hide (((unhide HA).rd.out (unhide OU) (fun q h1 h2 e => by omega)).wide (lo' := w.heap.size) (hi' := U.heap.size) (by omega) (by omega))
            have TU : Hid (TripsAt U av l) := hide (tripsAt_slice ((unhide OU).own (unhide HA).row (fun q hq e => by have := ((unhide HA).row.lt q hq).1; omega)))
            clear hU OU
            refine bodyPost_ret (resCT Try.results29 _ U w.heap.size 27 _ (0, 0) _ _ rfl rfl (unhide XU) Try.underlying27 rfl (by kernel_rfl)) rfl ⟨⟨_, _, _, _, _, _, D, av, cv, l, rfl, unhide RU, unhide F2, unhide TU, by omega, (own_cap (unhide HA).row).1, (own_cap (unhide HA).row).2⟩, unhide BU⟩
end Go.Proofs.Ytgckkehlnahfmaa
/-
  What (*memory).do, doAll and impl.DoActs do.
-/
namespace Go.Proofs.Ytgckkehlnahfmaa
open Go.RowKit
set_option linter.unusedVariables false

theorem Chg.pre {m : Nat} {wv fo oo : Value} {fm om : Nat} {w W w' : World} {D' : Dev} (h : Chg m wv fo oo fm om W w' D') (hz : w.heap.size ≤ W.heap.size) : Chg m wv fo oo fm om w w' D' := by
  obtain ⟨a, b, c, d, e, hM, hB⟩ := h
  exact ⟨a, b, c, d, e, hM, fun q hq => (hB q hq).imp id (fun h => Nat.le_trans hz h)⟩
theorem Out.pre {F : Nat → Prop} {w W w' : World} (h : Out F W w') (hb : Below w.heap.size w W) : Out F w w' := (Out.ofBelow hb).trans h (fun _ _ h => h)

set_option maxHeartbeats 2000000 in
theorem do_any (m : Nat) (wv fo oo : Value) (fm om : Nat) (D : Dev) (k a v : Int) (w : World) (h : Mem w m wv fo oo fm om D) (hg : Good D) (hn : cellsN D ≤ 1100000) :
    Calls Try.prog 95 #[.pointer (some ⟨m, 0, none⟩), .agg #[.int .i64 k, .int .i64 a, .int .i64 v]] w fun e w' => e = .returned (.int .i64 (actCode D (k, a, v))) ∧ (actCode D (k, a, v) = 0 → Chg m wv fo oo fm om w w' (actDev D (k, a, v))) ∧ Out (MemB m wv fo oo fm om) w w' := by
  have n2 : D.flights.length ≤ 1100000 := by unfold cellsN at hn; omega
  have n3 : D.over.length ≤ 1100000 := by unfold cellsN at hn; omega
  have hsz := hg.small
  have HG := hide hg
  have H := hide h
  clear h hg hn
  cases h1 : (k == 1)
  · have e1 : k ≠ 1 := by simpa using h1
    cases h2 : (k == 2 && v == 0)
    · have e2 : ¬ (k = 2 ∧ v = 0) := by simpa using h2
      cases h3 : (k == 3 && (a == 0 && v == 0))
      · have e3 : ¬ (k = 3 ∧ a = 0 ∧ v = 0) := by simpa using h3
        have HC : Hid (actCode D (k, a, v) = 1) := by simp only [Hid, actCode]; rw [if_neg e1, if_neg e2, if_neg e3]
        cases k2 : (k == 2)
        · cases k3 : (k == 3)
          · clear e1 e2 e3 h2 h3
            go_enter Try.func95, Try.ntmps95
            go_wp2
            go_ret
            exact ⟨ret_int (unhide HC).symm, (fun e => by rw [unhide HC] at e; cases e), Out.ofBelow ((Below.refl _ _).alloc (Nat.le_refl _) _)⟩
          · cases k4 : (a == 0)
            · clear e1 e2 e3 h2 h3
              go_enter Try.func95, Try.ntmps95
              go_wp2
              go_ret
              exact ⟨ret_int (unhide HC).symm, (fun e => by rw [unhide HC] at e; cases e), Out.ofBelow ((Below.refl _ _).alloc (Nat.le_refl _) _)⟩
            · have k5 : (v == 0) = false := by rw [k3, k4] at h3; simpa using h3
              clear e1 e2 e3 h2 h3
              go_enter Try.func95, Try.ntmps95
              go_wp2
              go_ret
              exact ⟨ret_int (unhide HC).symm, (fun e => by rw [unhide HC] at e; cases e), Out.ofBelow ((Below.refl _ _).alloc (Nat.le_refl _) _)⟩
        · have k5 : (v == 0) = false := by rw [k2] at h2; simpa using h2
          have k6 : (k == 3) = false := by
            have : k = 2 := by simpa using k2
            subst this; rfl
          clear e1 e2 e3 h2 h3
          go_enter Try.func95, Try.ntmps95
          go_wp2
          go_ret
          exact ⟨ret_int (unhide HC).symm, (fun e => by rw [unhide HC] at e; cases e), Out.ofBelow ((Below.refl _ _).alloc (Nat.le_refl _) _)⟩
      · have e3 : k = 3 ∧ a = 0 ∧ v = 0 := by simpa using h3
        have HC : Hid (actCode D (k, a, v) = 0 ∧ actDev D (k, a, v) = fenceDev D) := ⟨by simp only [actCode]; rw [if_neg e1, if_neg e2, if_pos e3], by simp only [actDev]; rw [if_neg e1, if_neg e2]⟩
        obtain ⟨rfl, rfl, rfl⟩ := e3
        clear e1 e2 h1 h2 h3
        go_enter Try.func95, Try.ntmps95
        go_wp2_with fail
        obtain ⟨W, hW, z1, hb, hx⟩ := boxes1 w [.int .i64 3, .int .i64 0, .int .i64 0] 84
        rw [← hW]
        clear hW
        refine (fence_any m wv fo oo fm om D _ ((unhide H).below (unhide hb)) (unhide HG) (by omega)).mono ?_
        rintro e w2 ⟨rfl, hC, hO⟩
        have C2 := hide ((hC rfl).pre (w := w) (by omega))
        have O2 := hide (hO.pre (unhide hb))
        clear hC hO hb hx
        go_wp2_with fail
        go_ret
        exact ⟨ret_int (unhide HC).1.symm, fun _ => by rw [(unhide HC).2]; exact unhide C2, unhide O2⟩
    · have e2 : k = 2 ∧ v = 0 := by simpa using h2
      have HC : Hid (actCode D (k, a, v) = flushCode D a ∧ actDev D (k, a, v) = flushDev D a) := ⟨by simp only [actCode]; rw [if_neg e1, if_pos e2], by simp only [actDev]; rw [if_neg e1, if_pos e2]⟩
      obtain ⟨rfl, rfl⟩ := e2
      clear e1 h1 h2
      go_enter Try.func95, Try.ntmps95
      go_wp2_with fail
      obtain ⟨W, hW, z1, hb, hx⟩ := boxes1 w [.int .i64 2, .int .i64 a, .int .i64 0] 84
      rw [← hW]
      clear hW
      refine (flush_any m wv fo oo fm om D a _ ((unhide H).below (unhide hb)) (unhide HG) n2 n3).mono ?_
      rintro e w2 ⟨rfl, hC, hO⟩
      have C2 := hide (fun h0 => (hC h0).pre (w := w) (by omega))
      have O2 := hide (hO.pre (unhide hb))
      clear hC hO hb hx
      generalize hq : flushCode D a = q at *
      have HQ := hide hq
      clear hq
      go_wp2_with fail
      go_ret
      exact ⟨ret_int (unhide HC).1.symm, fun h0 => by rw [(unhide HC).2]; exact unhide C2 (by rw [← (unhide HC).1]; exact h0), unhide O2⟩
  · have e1 : k = 1 := by simpa using h1
    have HC : Hid (actCode D (k, a, v) = storeCode D a v ∧ actDev D (k, a, v) = storeDev D a v) := ⟨by simp only [actCode]; rw [if_pos e1], by simp only [actDev]; rw [if_pos e1]⟩
    subst e1
    clear h1
    go_enter Try.func95, Try.ntmps95
    go_wp2_with fail
    obtain ⟨W, hW, z1, hb, hx⟩ := boxes1 w [.int .i64 1, .int .i64 a, .int .i64 v] 84
    rw [← hW]
    clear hW
    refine (store_any m wv fo oo fm om D a v _ ((unhide H).below (unhide hb)) hsz.1 (by omega)).mono ?_
    rintro e w2 ⟨rfl, hC, hO⟩
    have C2 := hide (fun h0 => (hC h0).pre (w := w) (by omega))
    have O2 := hide (hO.pre (unhide hb))
    clear hC hO hb hx
    generalize hq : storeCode D a v = q at *
    have HQ := hide hq
    clear hq
    go_wp2_with fail
    go_ret
    exact ⟨ret_int (unhide HC).1.symm, fun h0 => by rw [(unhide HC).2]; exact unhide C2 (by rw [← (unhide HC).1]; exact h0), unhide O2⟩

set_option maxHeartbeats 2000000 in
theorem doAll_any (m : Nat) (wv fo oo : Value) (fm om : Nat) (D : Dev) (al : Option Addr) (cl : Nat) (l : List Trip) (w : World) (h : Mem w m wv fo oo fm om D) (hg : Good D) (ht : TripsAt w al l) (hsep : l ≠ [] → ∀ x, al = some x → ¬ MemB m wv fo oo fm om x.block) (hn : cellsN D ≤ 1050000) (hl : l.length ≤ 1100000) :
    Calls Try.prog 71 #[.pointer (some ⟨m, 0, none⟩), .slice al l.length cl] w fun e w' => e = .returned (.int .i64 (actsCode D l)) ∧ (actsCode D l = 0 → Chg m wv fo oo fm om w w' (actsDev D l)) ∧ Out (MemB m wv fo oo fm om) w w' := by
  have H := hide h
  have HG := hide hg
  have HT := hide ht
  have HSEP := hide hsep
  clear h hg ht hsep
  by_cases hbig : (500 : Int) < l.length
  · have HC : Hid (actsCode D l = 2) := by simp only [Hid, actsCode]; rw [if_neg (by omega)]
    go_enter Try.func71, Try.ntmps71
    go_wp2_with fail
    go_ret
    exact ⟨ret_int (unhide HC).symm, (fun e => by rw [unhide HC] at e; cases e), Out.refl _ _⟩
  have hle : l.length ≤ 500 := by omega
  have HC : Hid (actsCode D l = (actsRun l D).1) := by simp only [Hid, actsCode]; rw [if_pos hle]
  have hmz := fun q hq => Mem.lt (q := q) (unhide H) hq
  have HMZ := hide hmz
  clear hmz
  go_enter Try.func71, Try.ntmps71
  go_wp2_with fail
  go_loopw [13] (fun i wr => ∃ (k : Nat) (wv' fo' oo' : Value) (fm' om' : Nat) (Dk : Dev), k ≤ l.length ∧ i = .int .i64 k ∧ Hid (Mem wr m wv' fo' oo' fm' om' Dk) ∧ Hid (Good Dk) ∧ Hid (cellsN Dk ≤ cellsN D + k) ∧ Hid (actsRun (l.drop k) Dk = actsRun l D) ∧ Hid (∀ q, MemB m wv' fo' oo' fm' om' q → MemB m wv fo oo fm om q ∨ w.heap.size ≤ q) ∧ Hid (Out (MemB m wv fo oo fm om) w wr) ∧ Hid (TripsAt wr al l)) (fun i _ => l.length - (intOf i).toNat)
  case atStart => exact ⟨0, wv, fo, oo, fm, om, D, Nat.zero_le _, rfl, H, HG, Nat.le_refl _, rfl, fun q hq => .inl hq, Out.refl _ _, HT⟩
  case round =>
    obtain ⟨k, wv', fo', oo', fm', om', Dk, hk, rfl, HM, HGk, HN, HR, HB, HU, HTr⟩ := hrel
    have zr : w.heap.size ≤ wr.heap.size := (unhide HU).size
    by_cases hlt : k < l.length
    · obtain ⟨b, o, rfl, lb, hc⟩ := (unhide HTr).at hlt
      obtain ⟨hc0, hc1, hc2⟩ := hc k hlt
      clear hc
      have hdrop : Hid (actsRun (l.drop k) Dk = actsRun ((l[k].1, l[k].2.1, l[k].2.2) :: l.drop (k + 1)) Dk) := by rw [Hid, List.drop_eq_getElem_cons hlt]
      generalize l[k].1 = x1 at *
      generalize l[k].2.1 = x2 at *
      generalize l[k].2.2 = x3 at *
      go_wp2_with fail
      obtain ⟨W, hW, z2, hb, hx⟩ := boxes1 wr [.int .i64 x1, .int .i64 x2, .int .i64 x3] 84
      rw [← hW]
      clear hW
      refine (do_any m wv' fo' oo' fm' om' Dk x1 x2 x3 _ ((unhide HM).below (unhide hb)) (unhide HGk) (by have := unhide HN; omega)).mono ?_
      rintro e w3 ⟨rfl, hC, hO⟩
      have z3 : W.heap.size ≤ w3.heap.size := hO.size
      have O3 := hide ((unhide HU).trans (hO.pre (unhide hb)) (fun q hq e => (unhide HB q e).elim id (fun h => by omega)))
      have T3 := hide ((hO.pre (unhide hb)).trips (unhide HTr) (fun hl x hx e => by
        have hxb : x.block < w.heap.size := by
          rcases unhide HT with h | ⟨b', o', e', lb', -⟩
          · exact absurd h hl
          · rw [e'] at hx; injection hx with hx; subst hx; exact lb'
        rcases unhide HB _ e with e | e
        · exact unhide HSEP hl x hx e
        · omega))
      by_cases h0 : actCode Dk (x1, x2, x3) = 0
      · obtain ⟨wv2, fo2, oo2, fm2, om2, hM2, hB2⟩ := hC h0
        have M3 := hide hM2
        have G3 := hide ((unhide HGk).act h0)
        have N3 : Hid (cellsN (actDev Dk (x1, x2, x3)) ≤ cellsN D + (k + 1)) := by have h1 := cellsN_act Dk (x1, x2, x3); have h2 := unhide HN; exact hide (by omega)
        have R3 : Hid (actsRun (l.drop (k + 1)) (actDev Dk (x1, x2, x3)) = actsRun l D) := by rw [Hid, ← unhide HR, unhide hdrop, actsRun_cons h0]
        have B3 : Hid (∀ q, MemB m wv2 fo2 oo2 fm2 om2 q → MemB m wv fo oo fm om q ∨ w.heap.size ≤ q) := fun q hq => by
          rcases hB2 q hq with h | h
          · exact unhide HB q h
          · exact .inr (by omega)
        rw [h0]
        clear hM2 hB2 hC hO hb hx HM HGk HN HR HB HU HTr hc0 hc1 hc2 h0 hdrop
        go_wp2_with fail
        go_roundw
        case rel => exact ⟨k + 1, wv2, fo2, oo2, fm2, om2, _, by omega, by go_num, M3, G3, N3, R3, B3, O3, T3⟩
        case measure => simp [intOf]; omega
      · have h0b : (actCode Dk (x1, x2, x3) != 0) = true := by simpa using h0
        have R3 : Hid ((actsRun l D).1 = actCode Dk (x1, x2, x3)) := by rw [Hid, ← unhide HR, unhide hdrop, actsRun_stop h0]
        have H0 := hide h0
        generalize hq : actCode Dk (x1, x2, x3) = q at *
        clear hC hO hb hx HM HGk HN HR HB HU HTr hc0 hc1 hc2 h0 hdrop hq
        go_wp2_with fail
        go_ret
        refine ⟨ret_int ((unhide HC).trans (unhide R3)).symm, (fun e => by rw [unhide HC, unhide R3] at e; exact absurd e (unhide H0)), unhide O3⟩
    · have hke : k = l.length := by omega
      have R3 : Hid (actsRun l D = (0, Dk)) := by rw [Hid, ← unhide HR, hke, List.drop_length]; rfl
      clear HR
      go_wp2_with fail
      go_ret
      refine ⟨ret_int (by rw [unhide HC, unhide R3]), fun _ => ⟨wv', fo', oo', fm', om', ?_, unhide HB⟩, unhide HU⟩
      rw [actsDev, unhide R3]
      exact unhide HM
end Go.Proofs.Ytgckkehlnahfmaa
/-
  What impl.DoActs answers.
-/
namespace Go.Proofs.Ytgckkehlnahfmaa
open Go.RowKit
set_option linter.unusedVariables false

set_option maxHeartbeats 2000000 in
theorem changed_acts (a1 a2 a3 : Option Addr) (c1 c2 c3 : Nat) (D D' : Dev) (code : Int) (p0 : Nat) (w : World) (h : DevAt w a1 a2 a3 D) (n1 : D.words.length ≤ 1048576) (n2 : D.flights.length ≤ 1048576) (n3 : D.over.length ≤ 1048576) (m2 : D'.flights.length ≤ 10000000) (m3 : D'.over.length ≤ 10000000)
    (hch : Good D → ∀ w2, Below w.heap.size w w2 → ∀ m wv fo oo fm om, Mem w2 m wv fo oo fm om D → (∀ q, MemB m wv fo oo fm om q → w.heap.size ≤ q) → Calls Try.prog 70 #[.pointer (some ⟨m, 0, none⟩), .pointer (some ⟨p0, 0, none⟩)] w2 fun e w3 => e = .returned (.int .i64 code) ∧ (code = 0 → Chg m wv fo oo fm om w2 w3 D') ∧ Out (MemB m wv fo oo fm om) w2 w3) :
    Calls Try.prog 40 #[.agg #[.slice a1 D.words.length c1, .slice a2 D.flights.length c2, .slice a3 D.over.length c3], .func (.func 70) #[] #[.pointer (some ⟨p0, 0, none⟩)]] w fun e w' => ResIs e w.heap.size w' (chgCode D code) (chgDev D code D') ∧ Below w.heap.size w w' := by
  have H := hide h
  have HCH := hide hch
  clear h hch
  go_enter Try.func40, Try.ntmps40
  go_wp2_with fail
  obtain ⟨W, hW, z1, hb, hx, hy⟩ := boxes2 w [.slice a1 D.words.length c1, .slice a2 D.flights.length c2, .slice a3 D.over.length c3] [.int .i64 0, .slice none 0 0, .slice none 0 0, .slice none 0 0] 27 31
  rw [← hW]
  clear hW
  refine (openedDevice_any a1 a2 a3 c1 c2 c3 D _ ((unhide H).below (unhide hb)) n1 n2 n3).mono ?_
  rintro e w2 ⟨hor, hb2⟩
  have z2 : W.heap.size ≤ w2.heap.size := hb2.size
  have B2 := hide (below_step (unhide hb) hb2 (by omega))
  have Y2 := hide ((unhide hy).below hb2)
  have y0 := (unhide Y2).cell 0
  have y1 := (unhide Y2).cell 1
  have y2 := (unhide Y2).cell 2
  have y3 := (unhide Y2).cell 3
  have f0 := (unhide Y2).frozen 0
  have f1 := (unhide Y2).frozen 1
  have f2 := (unhide Y2).frozen 2
  have f3 := (unhide Y2).frozen 3
  simp at y0 y1 y2 y3
  clear hb2 hb hx hy H
  rcases hor with ⟨hg, m, wv, fo, oo, fm, om, rfl, hM, hL⟩ | ⟨hf, rfl⟩
  case inr =>
    have hfb : (devFault D != 0) = true := by simpa using hf
    have HC : Hid (chgCode D code = devFault D ∧ chgDev D code D' = none') := by simp [Hid, chgCode, chgDev, hf]
    clear hf
    go_wp2_with fail
    clear y0 y1 y2 y3 f0 f1 f2 f3
    generalize hU : (((w2.setCell _ _).setCell _ _).setCell _ _).setCell _ _ = U
    obtain ⟨XU, OU⟩ := store4' (unhide Y2) hU
    have t0 := (unhide XU).cell 0
    have t1 := (unhide XU).cell 1
    have t2 := (unhide XU).cell 2
    have t3 := (unhide XU).cell 3
    simp at t0 t1 t2 t3
    refine bodyPost_ret (v := .agg #[.int .i64 (devFault D), .slice none 0 0, .slice none 0 0, .slice none 0 0]) (by simp [results, Try.results40, go_sem, t0, t1, t2, t3]) rfl ⟨⟨_, _, _, by rw [(unhide HC).1], by rw [(unhide HC).2]; exact ownNone _ _⟩, (unhide OU).below (unhide B2) (Nat.le_refl _) (fun q hq e => by omega)⟩
  have HD0 := hide (devFault_good hg)
  have HG := hide hg
  have HM := hide hM
  have HL := hide hL
  clear hg hM hL
  go_wp2_with fail
  refine (unhide HCH (unhide HG) _ (unhide B2) m wv fo oo fm om (unhide HM) (fun q hq => by have := unhide HL q hq; omega)).mono ?_
  rintro e w3 ⟨rfl, hC, hO⟩
  have z3 : w2.heap.size ≤ w3.heap.size := hO.size
  have B3 := hide (hO.below (unhide B2) (Nat.le_refl _) (fun q hq e => by have := unhide HL q e; omega))
  have Y3 := hide ((unhide Y2).out hO (fun e => by have := unhide HL _ e; omega))
  clear hO y0 y1 y2 y3 f0 f1 f2 f3 Y2 B2
  have y0 := (unhide Y3).cell 0
  have y1 := (unhide Y3).cell 1
  have y2 := (unhide Y3).cell 2
  have y3 := (unhide Y3).cell 3
  have f0 := (unhide Y3).frozen 0
  have f1 := (unhide Y3).frozen 1
  have f2 := (unhide Y3).frozen 2
  have f3 := (unhide Y3).frozen 3
  simp at y0 y1 y2 y3
  by_cases hc : code = 0
  case neg =>
    have hcb : (code != 0) = true := by simpa using hc
    have HC : Hid (chgCode D code = code ∧ chgDev D code D' = none') := by simp [Hid, chgCode, chgDev, hc, unhide HD0]
    clear hc hC
    go_wp2_with fail
    clear y0 y1 y2 y3 f0 f1 f2 f3
    generalize hU : (((w3.setCell _ _).setCell _ _).setCell _ _).setCell _ _ = U
    obtain ⟨XU, OU⟩ := store4' (unhide Y3) hU
    have t0 := (unhide XU).cell 0
    have t1 := (unhide XU).cell 1
    have t2 := (unhide XU).cell 2
    have t3 := (unhide XU).cell 3
    simp at t0 t1 t2 t3
    refine bodyPost_ret (v := .agg #[.int .i64 code, .slice none 0 0, .slice none 0 0, .slice none 0 0]) (by simp [results, Try.results40, go_sem, t0, t1, t2, t3]) rfl ⟨⟨_, _, _, by rw [(unhide HC).1], by rw [(unhide HC).2]; exact ownNone _ _⟩, (unhide OU).below (unhide B3) (Nat.le_refl _) (fun q hq e => by omega)⟩
  obtain ⟨wv', fo', oo', fm', om', hM', hL'⟩ := hC hc
  have HC : Hid (chgCode D code = 0 ∧ chgDev D code D' = D') := by simp [Hid, chgCode, chgDev, hc, unhide HD0]
  rw [hc]
  clear hc hC
  have HM' := hide hM'
  have HL' : Hid (∀ q, MemB m wv' fo' oo' fm' om' q → W.heap.size ≤ q) := fun q hq => by
    rcases hL' q hq with h | h
    · exact unhide HL q h
    · omega
  clear hM' hL'
  go_wp2_with fail
  refine (device_any m wv' fo' oo' fm' om' D' W.heap.size _ (unhide HM') (unhide HL') (by omega) m2 m3).mono ?_
  rintro e w4 ⟨⟨s1, d1, s2, d2, s3, d3, rfl, hOD⟩, hb4⟩
  have z4 : w3.heap.size ≤ w4.heap.size := hb4.size
  have B4 := hide (below_step (unhide B3) hb4 (by omega))
  have Y4 := hide ((unhide Y3).below hb4)
  have OD := hide hOD
  clear hb4 hOD y0 y1 y2 y3 f0 f1 f2 f3 B3 Y3
  have y0 := (unhide Y4).cell 0
  have y1 := (unhide Y4).cell 1
  have y2 := (unhide Y4).cell 2
  have y3 := (unhide Y4).cell 3
  have f0 := (unhide Y4).frozen 0
  have f1 := (unhide Y4).frozen 1
  have f2 := (unhide Y4).frozen 2
  have f3 := (unhide Y4).frozen 3
  simp at y0 y1 y2 y3
  go_wp2_with fail
  clear y0 y1 y2 y3 f0 f1 f2 f3
  generalize hU : (((w4.setCell _ _).setCell _ _).setCell _ _).setCell _ _ = U
  obtain ⟨XU, OU⟩ := store4' (unhide Y4) hU
  have t0 := (unhide XU).cell 0
  have t1 := (unhide XU).cell 1
  have t2 := (unhide XU).cell 2
  have t3 := (unhide XU).cell 3
  simp at t0 t1 t2 t3
  have OD4 := (unhide OD).out (unhide OU) (fun q hq e => by have := ((unhide OD).lt hq).1; omega)
  have OD5 : OwnDev U w.heap.size (.slice s1 D'.words.length d1) (.slice s2 D'.flights.length d2) (.slice s3 D'.over.length d3) D' := ⟨own_base OD4.o1 (fun q hq => by have := (OD4.lt (.inl hq)).1; omega), own_base OD4.o2 (fun q hq => by have := (OD4.lt (.inr (.inl hq))).1; omega), own_base OD4.o3 (fun q hq => by have := (OD4.lt (.inr (.inr hq))).1; omega), OD4.n12, OD4.n13, OD4.n23⟩
  refine bodyPost_ret (v := .agg #[.int .i64 0, .slice s1 D'.words.length d1, .slice s2 D'.flights.length d2, .slice s3 D'.over.length d3]) (by simp [results, Try.results40, go_sem, t0, t1, t2, t3]) rfl ⟨⟨_, _, _, by rw [(unhide HC).1], by rw [(unhide HC).2]; exact OD5⟩, (unhide OU).below (unhide B4) (Nat.le_refl _) (fun q hq e => by omega)⟩

set_option maxHeartbeats 1000000 in
theorem actsFn_any (m : Nat) (wv fo oo : Value) (fm om : Nat) (D : Dev) (af : Option Addr) (cf : Nat) (l : List Trip) (p0 : Nat) (w : World) (h : Mem w m wv fo oo fm om D) (hg : Good D) (hI : TripsAt w af l) (hsep : l ≠ [] → ∀ x, af = some x → ¬ MemB m wv fo oo fm om x.block) (hcn : cellsN D ≤ 1050000) (n4 : l.length ≤ 1100000) (h0 : w.cell? ⟨p0, 0, none⟩ = some (.slice af l.length cf)) :
    Calls Try.prog 70 #[.pointer (some ⟨m, 0, none⟩), .pointer (some ⟨p0, 0, none⟩)] w fun e w' => e = .returned (.int .i64 (actsCode D l)) ∧ (actsCode D l = 0 → Chg m wv fo oo fm om w w' (actsDev D l)) ∧ Out (MemB m wv fo oo fm om) w w' := by
  have H := hide h
  have HI := hide hI
  have HS := hide hsep
  clear h hI hsep
  go_enter Try.func70, Try.ntmps70
  go_wp2_with fail
  refine (doAll_any m wv fo oo fm om D af cf l _ (unhide H) hg (unhide HI) (unhide HS) hcn n4).mono ?_
  rintro e w2 ⟨rfl, hC, hO⟩
  have HC := hide hC
  have HO := hide hO
  clear hC hO
  generalize hk : actsCode D l = k at *
  have HK := hide hk
  clear hk
  go_wp2_with fail
  go_ret
  exact ⟨ret_int (unhide HK).symm, fun e => unhide HC (by rw [← unhide HK]; exact e), unhide HO⟩
set_option maxHeartbeats 2000000 in
theorem implDoActs_any (a1 a2 a3 : Option Addr) (c1 c2 c3 : Nat) (D : Dev) (af : Option Addr) (cf : Nat) (l : List Trip) (w : World) (h : DevAt w a1 a2 a3 D) (hI : TripsAt w af l) (n1 : D.words.length ≤ 1048576) (n2 : D.flights.length ≤ 1048576) (n3 : D.over.length ≤ 1048576) (n4 : l.length ≤ 1048576) (hcn : cellsN D ≤ 1050000) :
    Calls Try.prog 30 #[.agg #[.slice a1 D.words.length c1, .slice a2 D.flights.length c2, .slice a3 D.over.length c3], .slice af l.length cf] w fun e w' => ResIs e w.heap.size w' (chgCode D (actsCode D l)) (chgDev D (actsCode D l) (actsDev D l)) ∧ Below w.heap.size w w' := by
  have hmf : ∀ (fn : Fn) (first cap : Array Value) (w : World), (Instr.makeFunc fn first cap).run Try.prog w = .ok (.func fn first cap) w := fun _ _ _ _ => rfl
  have H := hide h
  have HI := hide hI
  clear h hI
  go_enter Try.func30, Try.ntmps30
  go_wp2_with fail
  obtain ⟨W, hW, z1, hb, hx, hp, hy⟩ := boxes3 w [.slice a1 D.words.length c1, .slice a2 D.flights.length c2, .slice a3 D.over.length c3] [.slice af l.length cf] [.int .i64 0, .slice none 0 0, .slice none 0 0, .slice none 0 0] 27 48 31
  rw [← hW]
  clear hW
  refine (changed_acts a1 a2 a3 c1 c2 c3 D (actsDev D l) (actsCode D l) _ _ ((unhide H).below (unhide hb)) n1 n2 n3 (by have h1 := (actsRun_len l D).1; unfold cellsN at h1; unfold actsDev; omega) (by have h1 := (actsRun_len l D).1; unfold cellsN at h1; unfold actsDev; omega) (fun hg w2 hb2 m wv fo oo fm om hM hz => actsFn_any m wv fo oo fm om D af cf l _ w2 hM hg ((unhide HI).below (below_step (unhide hb) hb2 (by omega))) (fun hne x hx e => by have h2 := hz _ e; rcases unhide HI with e | ⟨b, o, e, lb, _⟩; (exact absurd e hne); rw [e] at hx; injection hx with hx; subst hx; change W.heap.size ≤ b at h2; omega) hcn (by omega) (((unhide hp).below hb2).cell 0))).mono ?_
  rintro e w2 ⟨⟨v1, v2, v3, rfl, hOD⟩, hb2⟩
  obtain ⟨s1, d1, s2, d2, s3, d3, e1, e2, e3, -⟩ := hOD.form
  subst e1 e2 e3
  have z2 : W.heap.size ≤ w2.heap.size := hb2.size
  have B2 := hide (below_step (unhide hb) hb2 (by omega))
  have Y2 := hide ((unhide hy).below hb2)
  have OD := hide hOD
  have y0 := (unhide Y2).cell 0
  have y1 := (unhide Y2).cell 1
  have y2 := (unhide Y2).cell 2
  have y3 := (unhide Y2).cell 3
  have f0 := (unhide Y2).frozen 0
  have f1 := (unhide Y2).frozen 1
  have f2 := (unhide Y2).frozen 2
  have f3 := (unhide Y2).frozen 3
  simp at y0 y1 y2 y3
  clear hb2 hOD hb hx hp hy
  go_wp2_with fail
  clear y0 y1 y2 y3 f0 f1 f2 f3
  generalize hU : (((w2.setCell _ _).setCell _ _).setCell _ _).setCell _ _ = U
  obtain ⟨XU, OU⟩ := store4' (unhide Y2) hU
  have t0 := (unhide XU).cell 0
  have t1 := (unhide XU).cell 1
  have t2 := (unhide XU).cell 2
  have t3 := (unhide XU).cell 3
  simp at t0 t1 t2 t3
  have OD4 := (unhide OD).out (unhide OU) (fun q hq e => by have := ((unhide OD).lt hq).1; omega)
  have OD5 := OD4.base (base' := w.heap.size) (by omega)
  refine bodyPost_ret (by simp [results, Try.results30, go_sem, t0, t1, t2, t3]) rfl ⟨⟨_, _, _, rfl, OD5⟩, (unhide OU).below (unhide B2) (Nat.le_refl _) (fun q hq e => by omega)⟩
end Go.Proofs.Ytgckkehlnahfmaa
/-
  Two rows of numbers, two rows of pairs: are they the same?
-/
namespace Go.Proofs.Ytgckkehlnahfmaa
open Go.RowKit

theorem neq_cell (x y x' y' : Int) (w : World) : (binOp .neq 47 (.agg #[.int .i64 x, .int .i64 y]) (.agg #[.int .i64 x', .int .i64 y'])).run Try.prog w = .ok (.bool (!(x == x' && y == y'))) w := by
  have hS : Try.prog.underlying 47 = some (.struct (Try.prog.fieldsOf 47)) := by kernel_rfl
  have hp : Try.prog.stoodInHeld 47 = false := by kernel_rfl
  have u3 := Try.underlying2
  have a3 := Try.isAgg2
  have z3 := Try.sizeOf2
  rw [run_neq_struct, show (10000 : Nat) = 9999 + 1 from rfl, run_equalIn_agg w 9999 47 _ _ hS hp]
  simp only [Program.fieldsOf, Try.underlying47]
  go_simp
  by_cases h1 : x = x' <;> by_cases h2 : y = y' <;> simp [h1, h2]

set_option maxHeartbeats 1000000 in
theorem l1Same_any (a b : Option Addr) (c d : Nat) (l m : List Int) (w : World) (h : IntsAt w a l) (h2 : IntsAt w b m) (hn : l.length ≤ 1048576) :
    Calls Try.prog 75 #[.slice a l.length c, .slice b m.length d] w fun e w' => e = .returned (.bool (decide (l = m))) ∧ Below w.heap.size w w' := by
  by_cases hl : l.length = m.length
  case neg =>
    have hne : ((l.length : Int) != (m.length : Int)) = true := by simp; omega
    have HR : Hid (decide (l = m) = false) := decide_eq_false (fun e => hl (by rw [e]))
    clear h h2
    go_enter Try.func75, Try.ntmps75
    go_wp2
    go_ret
    exact ⟨ret_bool (unhide HR).symm, Below.refl _ _⟩
  have hne : ((l.length : Int) != (m.length : Int)) = false := by simp; omega
  go_enter Try.func75, Try.ntmps75
  go_wp2
  go_loopw [5] (fun i wr => ∃ (k n : Nat), k ≤ l.length ∧ i = .int .i64 k ∧ wr = w.drewN n ∧ Hid (∀ j, j < k → l[j]? = m[j]?)) (fun i _ => l.length - (intOf i).toNat)
  case atStart => exact ⟨0, 0, Nat.zero_le _, rfl, rfl, fun j hj => absurd hj (Nat.not_lt_zero j)⟩
  case round =>
    obtain ⟨k, n, hk, rfl, rfl, HX⟩ := hrel
    by_cases hlt : k < l.length
    · have hltm : k < m.length := by omega
      obtain ⟨b1, o1, rfl, _, hc1⟩ := h.at hlt
      obtain ⟨b2, o2, rfl, _, hc2⟩ := h2.at hltm
      have hk1 := hc1 k hlt
      have hk2 := hc2 k hltm
      have hlt' : (k : Int) < l.length := by omega
      have hltm' : (k : Int) < m.length := by omega
      clear hc1 hc2 h h2
      by_cases he : l[k] = m[k]
      · have HX2 : Hid (∀ j, j < k + 1 → l[j]? = m[j]?) := by
          intro j hj
          by_cases e : j = k
          · subst e; rw [List.getElem?_eq_getElem hlt, List.getElem?_eq_getElem hltm, he]
          · exact unhide HX j (by omega)
        have hq : (l[k] != m[k]) = false := by rw [he]; simp
        clear HX
        generalize l[k] = x at *
        generalize m[k] = y at *
        clear he
        go_wp2
        go_quiet (fail)
        go_wp2
        exact ⟨⟨k + 1, _, by omega, by go_num, rfl, HX2⟩, by simp [intOf]; omega⟩
      · have HR : Hid (decide (l = m) = false) := decide_eq_false (fun e => he (by simp [e]))
        have hq : (l[k] != m[k]) = true := by simpa using he
        clear HX he
        generalize l[k] = x at *
        generalize m[k] = y at *
        go_wp2
        go_quiet (fail)
        go_wp2
        go_ret
        exact ⟨ret_bool (unhide HR).symm, below_drewN (below_drewN (Below.refl _ _) _) _⟩
    · have HR : Hid (decide (l = m) = true) := decide_eq_true (by
        apply List.ext_getElem?
        intro j
        by_cases hj : j < k
        · exact unhide HX j hj
        · rw [List.getElem?_eq_none (by omega), List.getElem?_eq_none (by omega)])
      clear HX h h2
      go_wp2
      go_ret
      exact ⟨ret_bool (unhide HR).symm, below_drewN (Below.refl _ _) _⟩

set_option maxHeartbeats 1000000 in
theorem eqInts_any (a b : Option Addr) (c d : Nat) (l m : List Int) (w : World) (h : IntsAt w a l) (h2 : IntsAt w b m) (hn : l.length ≤ 1048576) :
    Calls Try.prog 73 #[.slice a l.length c, .slice b m.length d] w fun e w' => e = .returned (.bool (decide (l = m))) ∧ Below w.heap.size w w' := by
  by_cases hl : l.length = m.length
  case neg =>
    have hne : ((l.length : Int) != (m.length : Int)) = true := by simp; omega
    have HR : Hid (decide (l = m) = false) := decide_eq_false (fun e => hl (by rw [e]))
    clear h h2
    go_enter Try.func73, Try.ntmps73
    go_wp2
    go_ret
    exact ⟨ret_bool (unhide HR).symm, Below.refl _ _⟩
  have hne : ((l.length : Int) != (m.length : Int)) = false := by simp; omega
  go_enter Try.func73, Try.ntmps73
  go_wp2
  go_loopw [13] (fun i wr => ∃ (k n : Nat), k ≤ l.length ∧ i = .int .i64 k ∧ wr = w.drewN n ∧ Hid (∀ j, j < k → l[j]? = m[j]?)) (fun i _ => l.length - (intOf i).toNat)
  case atStart => exact ⟨0, 0, Nat.zero_le _, rfl, rfl, fun j hj => absurd hj (Nat.not_lt_zero j)⟩
  case round =>
    obtain ⟨k, n, hk, rfl, rfl, HX⟩ := hrel
    by_cases hlt : k < l.length
    · have hltm : k < m.length := by omega
      obtain ⟨b1, o1, rfl, _, hc1⟩ := h.at hlt
      obtain ⟨b2, o2, rfl, _, hc2⟩ := h2.at hltm
      have hk1 := hc1 k hlt
      have hk2 := hc2 k hltm
      have hlt' : (k : Int) < l.length := by omega
      have hltm' : (k : Int) < m.length := by omega
      clear hc1 hc2 h h2
      by_cases he : l[k] = m[k]
      · have HX2 : Hid (∀ j, j < k + 1 → l[j]? = m[j]?) := by
          intro j hj
          by_cases e : j = k
          · subst e; rw [List.getElem?_eq_getElem hlt, List.getElem?_eq_getElem hltm, he]
          · exact unhide HX j (by omega)
        have hq : (l[k] != m[k]) = false := by rw [he]; simp
        clear HX
        generalize l[k] = x at *
        generalize m[k] = y at *
        clear he
        go_wp2
        go_quiet (fail)
        go_wp2
        exact ⟨⟨k + 1, _, by omega, by go_num, rfl, HX2⟩, by simp [intOf]; omega⟩
      · have HR : Hid (decide (l = m) = false) := decide_eq_false (fun e => he (by simp [e]))
        have hq : (l[k] != m[k]) = true := by simpa using he
        clear HX he
        generalize l[k] = x at *
        generalize m[k] = y at *
        go_wp2
        go_quiet (fail)
        go_wp2
        go_ret
        exact ⟨ret_bool (unhide HR).symm, below_drewN (below_drewN (Below.refl _ _) _) _⟩
    · have HR : Hid (decide (l = m) = true) := decide_eq_true (by
        apply List.ext_getElem?
        intro j
        by_cases hj : j < k
        · exact unhide HX j hj
        · rw [List.getElem?_eq_none (by omega), List.getElem?_eq_none (by omega)])
      clear HX h h2
      go_wp2
      go_ret
      exact ⟨ret_bool (unhide HR).symm, below_drewN (Below.refl _ _) _⟩

set_option maxHeartbeats 1000000 in
theorem l2SameCells_any (a b : Option Addr) (c d : Nat) (l m : List (Int × Int)) (w : World) (h : PairsAt w a l) (h2 : PairsAt w b m) (hn : l.length ≤ 1048576) :
    Calls Try.prog 76 #[.slice a l.length c, .slice b m.length d] w fun e w' => e = .returned (.bool (decide (l = m))) ∧ Below w.heap.size w w' := by
  by_cases hl : l.length = m.length
  case neg =>
    have hne : ((l.length : Int) != (m.length : Int)) = true := by simp; omega
    have HR : Hid (decide (l = m) = false) := decide_eq_false (fun e => hl (by rw [e]))
    clear h h2
    go_enter Try.func76, Try.ntmps76
    go_wp2
    go_ret
    exact ⟨ret_bool (unhide HR).symm, Below.refl _ _⟩
  have hne : ((l.length : Int) != (m.length : Int)) = false := by simp; omega
  have hgd : Try.prog.eqGuardType Try.prog.depth 47 = false := by kernel_rfl
  go_enter Try.func76, Try.ntmps76
  go_wp2
  go_loopw [5] (fun i wr => ∃ (k n : Nat), k ≤ l.length ∧ i = .int .i64 k ∧ wr = w.drewN n ∧ Hid (∀ j, j < k → l[j]? = m[j]?)) (fun i _ => l.length - (intOf i).toNat)
  case atStart => exact ⟨0, 0, Nat.zero_le _, rfl, rfl, fun j hj => absurd hj (Nat.not_lt_zero j)⟩
  case round =>
    obtain ⟨k, n, hk, rfl, rfl, HX⟩ := hrel
    by_cases hlt : k < l.length
    · have hltm : k < m.length := by omega
      obtain ⟨b1, o1, rfl, _, hc1⟩ := h.at hlt
      obtain ⟨b2, o2, rfl, _, hc2⟩ := h2.at hltm
      obtain ⟨hk1, hj1⟩ := hc1 k hlt
      obtain ⟨hk2, hj2⟩ := hc2 k hltm
      have hlt' : (k : Int) < l.length := by omega
      have hltm' : (k : Int) < m.length := by omega
      clear hc1 hc2 h h2
      by_cases he : l[k] = m[k]
      · have HX2 : Hid (∀ j, j < k + 1 → l[j]? = m[j]?) := by
          intro j hj
          by_cases e : j = k
          · subst e; rw [List.getElem?_eq_getElem hlt, List.getElem?_eq_getElem hltm, he]
          · exact unhide HX j (by omega)
        have hq := neq_cell l[k].1 l[k].2 m[k].1 m[k].2
        rw [show (l[k].1 == m[k].1 && l[k].2 == m[k].2) = true by rw [he]; simp, Bool.not_true] at hq
        clear HX
        generalize l[k] = x at *
        generalize m[k] = y at *
        obtain ⟨x0, x1⟩ := x
        obtain ⟨y0, y1⟩ := y
        dsimp only at hk1 hj1 hk2 hj2 hq
        clear he
        go_wp2
        go_quiet (fail)
        go_wp2
        exact ⟨⟨k + 1, _, by omega, by go_num, rfl, HX2⟩, by simp [intOf]; omega⟩
      · have HR : Hid (decide (l = m) = false) := decide_eq_false (fun e => he (by simp [e]))
        have hq := neq_cell l[k].1 l[k].2 m[k].1 m[k].2
        rw [show (l[k].1 == m[k].1 && l[k].2 == m[k].2) = false by rw [Bool.and_eq_false_iff]; by_cases h1 : l[k].1 = m[k].1; (right; simp; exact fun h2 => he (Prod.ext h1 h2)); left; simpa using h1, Bool.not_false] at hq
        clear HX he
        generalize l[k] = x at *
        generalize m[k] = y at *
        obtain ⟨x0, x1⟩ := x
        obtain ⟨y0, y1⟩ := y
        dsimp only at hk1 hj1 hk2 hj2 hq
        go_wp2
        go_quiet (fail)
        go_wp2
        go_ret
        exact ⟨ret_bool (unhide HR).symm, below_drewN (below_drewN (Below.refl _ _) _) _⟩
    · have HR : Hid (decide (l = m) = true) := decide_eq_true (by
        apply List.ext_getElem?
        intro j
        by_cases hj : j < k
        · exact unhide HX j hj
        · rw [List.getElem?_eq_none (by omega), List.getElem?_eq_none (by omega)])
      clear HX h h2 hgd
      go_wp2
      go_ret
      exact ⟨ret_bool (unhide HR).symm, below_drewN (Below.refl _ _) _⟩

set_option maxHeartbeats 1000000 in
theorem eqCells_any (a b : Option Addr) (c d : Nat) (l m : List (Int × Int)) (w : World) (h : PairsAt w a l) (h2 : PairsAt w b m) (hn : l.length ≤ 1048576) :
    Calls Try.prog 74 #[.slice a l.length c, .slice b m.length d] w fun e w' => e = .returned (.bool (decide (l = m))) ∧ Below w.heap.size w w' := by
  by_cases hl : l.length = m.length
  case neg =>
    have hne : ((l.length : Int) != (m.length : Int)) = true := by simp; omega
    have HR : Hid (decide (l = m) = false) := decide_eq_false (fun e => hl (by rw [e]))
    clear h h2
    go_enter Try.func74, Try.ntmps74
    go_wp2
    go_ret
    exact ⟨ret_bool (unhide HR).symm, Below.refl _ _⟩
  have hne : ((l.length : Int) != (m.length : Int)) = false := by simp; omega
  have hgd : Try.prog.eqGuardType Try.prog.depth 47 = false := by kernel_rfl
  go_enter Try.func74, Try.ntmps74
  go_wp2
  go_loopw [13] (fun i wr => ∃ (k n : Nat), k ≤ l.length ∧ i = .int .i64 k ∧ wr = w.drewN n ∧ Hid (∀ j, j < k → l[j]? = m[j]?)) (fun i _ => l.length - (intOf i).toNat)
  case atStart => exact ⟨0, 0, Nat.zero_le _, rfl, rfl, fun j hj => absurd hj (Nat.not_lt_zero j)⟩
  case round =>
    obtain ⟨k, n, hk, rfl, rfl, HX⟩ := hrel
    by_cases hlt : k < l.length
    · have hltm : k < m.length := by omega
      obtain ⟨b1, o1, rfl, _, hc1⟩ := h.at hlt
      obtain ⟨b2, o2, rfl, _, hc2⟩ := h2.at hltm
      obtain ⟨hk1, hj1⟩ := hc1 k hlt
      obtain ⟨hk2, hj2⟩ := hc2 k hltm
      have hlt' : (k : Int) < l.length := by omega
      have hltm' : (k : Int) < m.length := by omega
      clear hc1 hc2 h h2
      by_cases he : l[k] = m[k]
      · have HX2 : Hid (∀ j, j < k + 1 → l[j]? = m[j]?) := by
          intro j hj
          by_cases e : j = k
          · subst e; rw [List.getElem?_eq_getElem hlt, List.getElem?_eq_getElem hltm, he]
          · exact unhide HX j (by omega)
        have hq := neq_cell l[k].1 l[k].2 m[k].1 m[k].2
        rw [show (l[k].1 == m[k].1 && l[k].2 == m[k].2) = true by rw [he]; simp, Bool.not_true] at hq
        clear HX
        generalize l[k] = x at *
        generalize m[k] = y at *
        obtain ⟨x0, x1⟩ := x
        obtain ⟨y0, y1⟩ := y
        dsimp only at hk1 hj1 hk2 hj2 hq
        clear he
        go_wp2
        go_quiet (fail)
        go_wp2
        exact ⟨⟨k + 1, _, by omega, by go_num, rfl, HX2⟩, by simp [intOf]; omega⟩
      · have HR : Hid (decide (l = m) = false) := decide_eq_false (fun e => he (by simp [e]))
        have hq := neq_cell l[k].1 l[k].2 m[k].1 m[k].2
        rw [show (l[k].1 == m[k].1 && l[k].2 == m[k].2) = false by rw [Bool.and_eq_false_iff]; by_cases h1 : l[k].1 = m[k].1; (right; simp; exact fun h2 => he (Prod.ext h1 h2)); left; simpa using h1, Bool.not_false] at hq
        clear HX he
        generalize l[k] = x at *
        generalize m[k] = y at *
        obtain ⟨x0, x1⟩ := x
        obtain ⟨y0, y1⟩ := y
        dsimp only at hk1 hj1 hk2 hj2 hq
        go_wp2
        go_quiet (fail)
        go_wp2
        go_ret
        exact ⟨ret_bool (unhide HR).symm, below_drewN (below_drewN (Below.refl _ _) _) _⟩
    · have HR : Hid (decide (l = m) = true) := decide_eq_true (by
        apply List.ext_getElem?
        intro j
        by_cases hj : j < k
        · exact unhide HX j hj
        · rw [List.getElem?_eq_none (by omega), List.getElem?_eq_none (by omega)])
      clear HX h h2 hgd
      go_wp2
      go_ret
      exact ⟨ret_bool (unhide HR).symm, below_drewN (Below.refl _ _) _⟩

end Go.Proofs.Ytgckkehlnahfmaa
/-
  What spec.SameDevices and impl.SameDevices answer.
-/
namespace Go.Proofs.Ytgckkehlnahfmaa
open Go.RowKit

def sameDev (D E : Dev) : Bool := decide (D.words = E.words) && decide (D.flights = E.flights) && decide (D.over = E.over)

set_option maxHeartbeats 1000000 in
theorem specSameDevices_any (a1 a2 a3 b1 b2 b3 : Option Addr) (c1 c2 c3 d1 d2 d3 : Nat) (D E : Dev) (w : World) (h : DevAt w a1 a2 a3 D) (h' : DevAt w b1 b2 b3 E) (n1 : D.words.length ≤ 1048576) (n2 : D.flights.length ≤ 1048576) (n3 : D.over.length ≤ 1048576) :
    Calls Try.prog 34 #[.agg #[.slice a1 D.words.length c1, .slice a2 D.flights.length c2, .slice a3 D.over.length c3], .agg #[.slice b1 E.words.length d1, .slice b2 E.flights.length d2, .slice b3 E.over.length d3]] w fun e w' => e = .returned (.bool (sameDev D E)) ∧ Below w.heap.size w w' := by
  have H := hide h
  have H' := hide h'
  clear h h'
  go_enter Try.func34, Try.ntmps34
  go_wp2_with fail
  obtain ⟨W, hW, z1, b, x, y⟩ := boxes2 w [.slice a1 D.words.length c1, .slice a2 D.flights.length c2, .slice a3 D.over.length c3] [.slice b1 E.words.length d1, .slice b2 E.flights.length d2, .slice b3 E.over.length d3] 27 27
  rw [← hW]
  clear hW
  refine (l1Same_any a1 b1 c1 d1 D.words E.words _ ((unhide H).below (unhide b)).r1 ((unhide H').below (unhide b)).r1 n1).mono ?_
  rintro e w2 ⟨rfl, hb2⟩
  have z2 : W.heap.size ≤ w2.heap.size := hb2.size
  have B2 := hide (below_step (unhide b) hb2 (by omega))
  have x2 := (unhide x).below hb2
  have y2 := (unhide y).below hb2
  have q1 := x2.cell 1
  have q2 := y2.cell 1
  have X2 := hide x2
  have Y2 := hide y2
  simp at q1 q2
  clear hb2 b x y x2 y2
  cases hw : decide (D.words = E.words)
  · have HR : Hid (sameDev D E = false) := by simp [Hid, sameDev, hw]
    clear hw
    go_wp2_with fail
    go_ret
    exact ⟨ret_bool (unhide HR).symm, unhide B2⟩
  have HW := hide hw
  clear hw
  go_wp2_with fail
  refine (l2SameCells_any a2 b2 c2 d2 D.flights E.flights _ ((unhide H).below (unhide B2)).r2 ((unhide H').below (unhide B2)).r2 n2).mono ?_
  rintro e w3 ⟨rfl, hb3⟩
  have z3 : w2.heap.size ≤ w3.heap.size := hb3.size
  have B3 := hide (below_step (unhide B2) hb3 (by omega))
  have x3 := (unhide X2).below hb3
  have y3 := (unhide Y2).below hb3
  have q3 := x3.cell 2
  have q4 := y3.cell 2
  simp at q3 q4
  clear hb3 x3 y3 X2 Y2 B2 q1 q2
  cases hw : decide (D.flights = E.flights)
  · have HR : Hid (sameDev D E = false) := by simp [Hid, sameDev, hw]
    clear hw
    go_wp2_with fail
    go_ret
    exact ⟨ret_bool (unhide HR).symm, unhide B3⟩
  have HF := hide hw
  clear hw
  go_wp2_with fail
  refine (l2SameCells_any a3 b3 c3 d3 D.over E.over _ ((unhide H).below (unhide B3)).r3 ((unhide H').below (unhide B3)).r3 n3).mono ?_
  rintro e w4 ⟨rfl, hb4⟩
  have B4 := hide (below_step (unhide B3) hb4 (by omega))
  clear hb4
  have HR : Hid (sameDev D E = decide (D.over = E.over)) := by
    have h1 := unhide HW
    have h2 := unhide HF
    simp only [Hid, sameDev, h1, h2, Bool.true_and]
  generalize decide (D.over = E.over) = r at *
  go_wp2_with fail
  go_ret
  exact ⟨ret_bool (unhide HR).symm, unhide B4⟩

set_option maxHeartbeats 1000000 in
theorem implSameDevices_any (a1 a2 a3 b1 b2 b3 : Option Addr) (c1 c2 c3 d1 d2 d3 : Nat) (D E : Dev) (w : World) (h : DevAt w a1 a2 a3 D) (h' : DevAt w b1 b2 b3 E) (n1 : D.words.length ≤ 1048576) (n2 : D.flights.length ≤ 1048576) (n3 : D.over.length ≤ 1048576) :
    Calls Try.prog 33 #[.agg #[.slice a1 D.words.length c1, .slice a2 D.flights.length c2, .slice a3 D.over.length c3], .agg #[.slice b1 E.words.length d1, .slice b2 E.flights.length d2, .slice b3 E.over.length d3]] w fun e w' => e = .returned (.bool (sameDev D E)) ∧ Below w.heap.size w w' := by
  have H := hide h
  have H' := hide h'
  clear h h'
  go_enter Try.func33, Try.ntmps33
  go_wp2_with fail
  obtain ⟨W, hW, z1, b, x, y⟩ := boxes2 w [.slice a1 D.words.length c1, .slice a2 D.flights.length c2, .slice a3 D.over.length c3] [.slice b1 E.words.length d1, .slice b2 E.flights.length d2, .slice b3 E.over.length d3] 27 27
  rw [← hW]
  clear hW
  refine (eqInts_any a1 b1 c1 d1 D.words E.words _ ((unhide H).below (unhide b)).r1 ((unhide H').below (unhide b)).r1 n1).mono ?_
  rintro e w2 ⟨rfl, hb2⟩
  have z2 : W.heap.size ≤ w2.heap.size := hb2.size
  have B2 := hide (below_step (unhide b) hb2 (by omega))
  have x2 := (unhide x).below hb2
  have y2 := (unhide y).below hb2
  have q1 := x2.cell 1
  have q2 := y2.cell 1
  have X2 := hide x2
  have Y2 := hide y2
  simp at q1 q2
  clear hb2 b x y x2 y2
  cases hw : decide (D.words = E.words)
  · have HR : Hid (sameDev D E = false) := by simp [Hid, sameDev, hw]
    clear hw
    go_wp2_with fail
    go_ret
    exact ⟨ret_bool (unhide HR).symm, unhide B2⟩
  have HW := hide hw
  clear hw
  go_wp2_with fail
  refine (eqCells_any a2 b2 c2 d2 D.flights E.flights _ ((unhide H).below (unhide B2)).r2 ((unhide H').below (unhide B2)).r2 n2).mono ?_
  rintro e w3 ⟨rfl, hb3⟩
  have z3 : w2.heap.size ≤ w3.heap.size := hb3.size
  have B3 := hide (below_step (unhide B2) hb3 (by omega))
  have x3 := (unhide X2).below hb3
  have y3 := (unhide Y2).below hb3
  have q3 := x3.cell 2
  have q4 := y3.cell 2
  simp at q3 q4
  clear hb3 x3 y3 X2 Y2 B2 q1 q2
  cases hw : decide (D.flights = E.flights)
  · have HR : Hid (sameDev D E = false) := by simp [Hid, sameDev, hw]
    clear hw
    go_wp2_with fail
    go_ret
    exact ⟨ret_bool (unhide HR).symm, unhide B3⟩
  have HF := hide hw
  clear hw
  go_wp2_with fail
  refine (eqCells_any a3 b3 c3 d3 D.over E.over _ ((unhide H).below (unhide B3)).r3 ((unhide H').below (unhide B3)).r3 n3).mono ?_
  rintro e w4 ⟨rfl, hb4⟩
  have B4 := hide (below_step (unhide B3) hb4 (by omega))
  clear hb4
  have HR : Hid (sameDev D E = decide (D.over = E.over)) := by
    have h1 := unhide HW
    have h2 := unhide HF
    simp only [Hid, sameDev, h1, h2, Bool.true_and]
  generalize decide (D.over = E.over) = r at *
  go_wp2_with fail
  go_ret
  exact ⟨ret_bool (unhide HR).symm, unhide B4⟩

end Go.Proofs.Ytgckkehlnahfmaa
/-
  laws.lwAt: a choice out of m that the bytes make.
-/
namespace Go.Proofs.Ytgckkehlnahfmaa
open Go.RowKit
set_option linter.unusedVariables false

set_option maxRecDepth 20000 in
set_option maxHeartbeats 2000000 in
theorem lwAt_any (a : Option Addr) (n c p : Nat) (m : Int) (w : World) (h : CodeAt w a n) (hn : n ≤ 1048576) (hp : p ≤ 1000) (hm1 : 1 ≤ m) (hm2 : m ≤ 100000) :
    Calls Try.prog 32 #[.slice a n c, .int .i64 p, .int .i64 m] w fun r w' => (∃ v : Int, r = .returned (.int .i64 v) ∧ 0 ≤ v ∧ v < m) ∧ Below w.heap.size w w' := by
  by_cases hm : m ≤ 1
  · clear h
    go_enter Try.func32, Try.ntmps32
    go_wp2
    go_ret
    exact ⟨⟨0, rfl, by omega, by omega⟩, Below.refl _ _⟩
  have em : ∀ t : Int, 0 ≤ t → 0 ≤ t % m ∧ t % m < m := fun t _ => ⟨Int.emod_nonneg _ (by omega), Int.emod_lt_of_pos _ (by omega)⟩
  have hmz : (m == 0) = false := by simp; omega
  by_cases hn0 : n = 0
  · subst hn0
    clear h
    have t1 : ((p : Int) * 7).tmod m = ((p : Int) * 7) % m := Int.tmod_eq_emod_of_nonneg (by omega)
    have e1 := em ((p : Int) * 7) (by omega)
    have wm : IntKind.i64.wrap ((p : Int) * 7) = (p : Int) * 7 := by rw [IntKind.wrap_i64]; omega
    have wr : IntKind.i64.wrap ((p : Int) * 7 % m) = (p : Int) * 7 % m := by rw [IntKind.wrap_i64]; omega
    have E1 := hide e1
    clear em e1
    go_enter Try.func32, Try.ntmps32
    go_wp2
    go_ret
    exact ⟨⟨_, rfl, (unhide E1).1, (unhide E1).2⟩, Below.refl _ _⟩
  rcases h with h | ⟨b, o, rfl, hb, hc⟩
  · exact absurd h hn0
  have hn1 : (1 : Int) ≤ n := by omega
  have hnz : ((n : Int) == 0) = false := by simp; omega
  have idx : ∀ q : Int, 0 ≤ q → 0 ≤ q % (n : Int) ∧ q % (n : Int) < n ∧ 0 ≤ q / (n : Int) ∧ q / (n : Int) ≤ q ∧ ∃ z : Int, 0 ≤ z ∧ z ≤ 255 ∧ w.cell? ⟨b, o + (q % (n : Int)).toNat, none⟩ = some (.int .u8 z) := by
    intro q hq
    have e1 : 0 ≤ q % (n : Int) := Int.emod_nonneg _ (by omega)
    have e2 : q % (n : Int) < n := Int.emod_lt_of_pos _ (by omega)
    have e3 : 0 ≤ q / (n : Int) := Int.ediv_nonneg hq (by omega)
    have e4 : q / (n : Int) ≤ q := Int.ediv_le_self _ hq
    obtain ⟨z, z0, z1, hz⟩ := hc (q % (n : Int)).toNat (by omega)
    exact ⟨e1, e2, e3, e4, z, z0, z1, hz⟩
  obtain ⟨i0, i1, i2, i3, z, z0, z1, hz⟩ := idx p (by omega)
  obtain ⟨j0, j1, _, _, y, y0, y1, hy⟩ := idx (p + 1) (by omega)
  have hye : (((p : Int) + 1) % (n : Int)).toNat = (p + 1) % n := by rw [show (p : Int) + 1 = ((p + 1 : Nat) : Int) by simp, ← Int.natCast_emod, Int.toNat_natCast]
  have hy' := hy
  rw [hye] at hy'
  clear hye
  have q3 : (p : Int) / (n : Int) ≤ 1000 := by omega
  have EM := hide em
  have t1 : (p : Int).tmod (n : Int) = (p : Int) % (n : Int) := Int.tmod_eq_emod_of_nonneg (by omega)
  have t2 : ((p : Int) + 1).tmod (n : Int) = ((p : Int) + 1) % (n : Int) := Int.tmod_eq_emod_of_nonneg (by omega)
  have d1 : (p : Int).tdiv (n : Int) = (p : Int) / (n : Int) := Int.tdiv_eq_ediv_of_nonneg (by omega)
  have wz : IntKind.i64.wrap z = z := by rw [IntKind.wrap_i64]; omega
  have wy : IntKind.i64.wrap y = y := by rw [IntKind.wrap_i64]; omega
  have wd : IntKind.i64.wrap ((p : Int) / (n : Int)) = ((p : Int) / (n : Int)) := by rw [IntKind.wrap_i64]; omega
  have wm : IntKind.i64.wrap ((p : Int) / (n : Int) * 3) = ((p : Int) / (n : Int) * 3) := by rw [IntKind.wrap_i64]; omega
  have wv : IntKind.i64.wrap (z + (p : Int) / (n : Int) * 3) = (z + (p : Int) / (n : Int) * 3) := by rw [IntKind.wrap_i64]; omega
  have wa : IntKind.i64.wrap ((z + (p : Int) / (n : Int) * 3) * 251) = ((z + (p : Int) / (n : Int) * 3) * 251) := by rw [IntKind.wrap_i64]; omega
  have wc : IntKind.i64.wrap ((z + (p : Int) / (n : Int) * 3) * 251 + y) = ((z + (p : Int) / (n : Int) * 3) * 251 + y) := by rw [IntKind.wrap_i64]; omega
  have wp1 : IntKind.i64.wrap ((p : Int) + 1) = ((p : Int) + 1) := by rw [IntKind.wrap_i64]; omega
  have wr1 : IntKind.i64.wrap ((p : Int) % (n : Int)) = ((p : Int) % (n : Int)) := by rw [IntKind.wrap_i64]; omega
  have wr2 : IntKind.i64.wrap (((p : Int) + 1) % (n : Int)) = (((p : Int) + 1) % (n : Int)) := by rw [IntKind.wrap_i64]; omega
  have r1 := em (z + (p : Int) / (n : Int) * 3) (by omega)
  have r2 := em ((z + (p : Int) / (n : Int) * 3) * 251 + y) (by omega)
  have ws1 : IntKind.i64.wrap ((z + (p : Int) / (n : Int) * 3) % m) = (z + (p : Int) / (n : Int) * 3) % m := by rw [IntKind.wrap_i64]; omega
  have ws2 : IntKind.i64.wrap (((z + (p : Int) / (n : Int) * 3) * 251 + y) % m) = ((z + (p : Int) / (n : Int) * 3) * 251 + y) % m := by rw [IntKind.wrap_i64]; omega
  have tm1 : (z + (p : Int) / (n : Int) * 3).tmod m = (z + (p : Int) / (n : Int) * 3) % m := Int.tmod_eq_emod_of_nonneg (by omega)
  have tm2 : ((z + (p : Int) / (n : Int) * 3) * 251 + y).tmod m = ((z + (p : Int) / (n : Int) * 3) * 251 + y) % m := Int.tmod_eq_emod_of_nonneg (by omega)
  have R1 := hide r1
  have R2 := hide r2
  clear idx hc em i3 r1 r2
  by_cases h200 : 200 < m
  · go_enter Try.func32, Try.ntmps32
    go_wp2
    go_quiet (fail)
    go_wp2
    go_ret
    exact ⟨⟨_, rfl, (unhide R2).1, (unhide R2).2⟩, below_drewN (Below.refl _ _) _⟩
  · go_enter Try.func32, Try.ntmps32
    go_wp2
    go_quiet (fail)
    go_wp2
    go_ret
    exact ⟨⟨_, rfl, (unhide R1).1, (unhide R1).2⟩, below_drewN (Below.refl _ _) _⟩
end Go.Proofs.Ytgckkehlnahfmaa
/-
  The walk of laws.FnActs: it returns true, and writes nothing that was there.
-/
namespace Go.Proofs.Ytgckkehlnahfmaa
open Go.RowKit
set_option linter.unusedVariables false

theorem sleft' {W0 w' : World} {p : Prop} (h : Below W0.heap.size W0 w' ∧ p) : Below W0.heap.size W0 w' := h.1
theorem sameDev_self (D : Dev) : sameDev D D = true := by simp [sameDev]
def LenOk (D : Dev) : Prop := D.words.length ≤ 1048576 ∧ D.flights.length ≤ 1048576 ∧ D.over.length ≤ 1048576
theorem own_blk {w : World} {base n m c : Nat} {e : TypeId} {k : Nat} {a : Option Addr} {xs : List Value} (h : w.ownsRow base e k (.slice a n c) m xs) : ∀ x, a = some x → base ≤ x.block ∧ x.block < w.heap.size := by
  intro x hx
  rcases h.2 with ⟨e, _⟩ | ⟨g, cap, cur, e, hg, hh, _⟩
  · cases e
    cases hx
  · cases e
    cases hx
    exact ⟨hg, (Array.getElem?_eq_some_iff.1 hh).1⟩
theorem resIs_rd {e : Ending} {base : Nat} {w : World} {code : Int} {D : Dev} (h : ResIs e base w code D) :
    ∃ a1 c1 a2 c2 a3 c3, e = .returned (.agg #[.int .i64 code, .slice a1 D.words.length c1, .slice a2 D.flights.length c2, .slice a3 D.over.length c3]) ∧ RDev w base w.heap.size a1 a2 a3 D := by
  obtain ⟨v1, v2, v3, rfl, ho⟩ := h
  obtain ⟨a1, c1, a2, c2, a3, c3, rfl, rfl, rfl, hr, -⟩ := ho.form
  exact ⟨_, _, _, _, _, _, rfl, hr, fun _ => own_blk ho.o1, fun _ => own_blk ho.o2, fun _ => own_blk ho.o3⟩
theorem acts_parts {D : Dev} {l : List Trip} (h : actsCode D l = 0) (j : Nat) : l.length ≤ 500 ∧ actsCode D (l.take j) = 0 ∧ actsCode (actsDev D (l.take j)) (l.drop j) = 0 ∧ actsDev (actsDev D (l.take j)) (l.drop j) = actsDev D l := by
  unfold actsCode at h
  by_cases hl : l.length ≤ 500
  · rw [if_pos hl] at h
    have ha := actsRun_append (l.take j) (l.drop j) D
    rw [List.take_append_drop] at ha
    have h1 : (l.take j).length ≤ 500 := by rw [List.length_take]; omega
    have h2 : (l.drop j).length ≤ 500 := by rw [List.length_drop]; omega
    unfold actsCode actsDev
    rw [if_pos h1, if_pos h2]
    by_cases hc : (actsRun (l.take j) D).1 = 0
    · rw [if_pos hc] at ha
      rw [ha] at h ⊢
      exact ⟨hl, hc, h, rfl⟩
    · rw [if_neg hc] at ha
      rw [ha] at h
      exact absurd h hc
  · rw [if_neg hl] at h
    exact absurd h (by decide)
theorem act_cut (av : Option Addr) (n cv j : Nat) (hj : j ≤ n) (hc : n ≤ cv) : ∃ A1 A2 : Option Addr,
    ((∀ w : World, (Instr.slice 48 (.slice av n cv) none (some (.int .i64 (j : Int))) none).run Try.prog w = .ok (.slice A1 j cv) w) ∧ ∀ w : World, (Instr.sliceAt 48 (.slice av n cv) none (some (.int .i64 (j : Int))) none).run Try.prog w = .ok (.slice A1 j cv) w) ∧
    ((∀ w : World, (Instr.slice 48 (.slice av n cv) (some (.int .i64 (j : Int))) none none).run Try.prog w = .ok (.slice A2 (n - j) (cv - j)) w) ∧ ∀ w : World, (Instr.sliceAt 48 (.slice av n cv) (some (.int .i64 (j : Int))) none none).run Try.prog w = .ok (.slice A2 (n - j) (cv - j)) w) ∧
    A1 = (if cv = 0 then av else av.map (·.add 0)) ∧ A2 = (if cv = j then av else av.map (·.add (j * 3))) := by
  have hT : Try.prog.underlying 48 = some (.slice (Try.prog.elem 48)) := by kernel_rfl
  have hE : Try.prog.elem 48 = 84 := by kernel_rfl
  have hz := Try.sizeOf84
  have e1 : ∀ w : World, (Instr.slice 48 (.slice av n cv) none (some (.int .i64 (j : Int))) none).run Try.prog w = .ok (.slice (if cv = 0 then av else av.map (·.add 0)) j cv) w := fun w => by
    rw [run_slice_h w _ av n cv hT .i64 j (by omega) (by omega), hE]
    simp [go_sem, sliced, hz]
  have e2 : ∀ w : World, (Instr.slice 48 (.slice av n cv) (some (.int .i64 (j : Int))) none none).run Try.prog w = .ok (.slice (if cv = j then av else av.map (·.add (j * 3))) (n - j) (cv - j)) w := fun w => by
    rw [run_slice_l w _ av n cv hT .i64 j (by omega) (by omega), hE]
    simp [go_sem, sliced, hz]
  exact ⟨_, _, ⟨e1, fun w => (run_sliceAt_slice w _ _ _ _ _ hT).trans (e1 w)⟩, ⟨e2, fun w => (run_sliceAt_slice w _ _ _ _ _ hT).trans (e2 w)⟩, rfl, rfl⟩
theorem trips_take {w : World} {av A1 : Option Addr} {l : List Trip} {cv j : Nat} (h : TripsAt w av l) (hj : j ≤ l.length) (hc : l.length ≤ cv) (hA : A1 = (if cv = 0 then av else av.map (·.add 0))) : TripsAt w A1 (l.take j) := by
  by_cases hl : l.take j = []
  · exact .inl hl
  · have hl0 : 0 < l.length := by
      rcases Nat.eq_zero_or_pos l.length with h0 | h0
      · exact absurd (by rw [List.length_eq_zero_iff.1 h0]; simp) hl
      · exact h0
    obtain ⟨b, o, rfl, hb, hcs⟩ := h.at hl0
    rw [if_neg (by omega)] at hA
    refine .inr ⟨b, o, by rw [hA]; simp [Addr.add], hb, fun i hi => ?_⟩
    rw [List.length_take] at hi
    have := hcs i (by omega)
    rw [List.getElem_take]
    exact this
theorem trips_drop {w : World} {av A2 : Option Addr} {l : List Trip} {cv j : Nat} (h : TripsAt w av l) (hj : j ≤ l.length) (hc : l.length ≤ cv) (hA : A2 = (if cv = j then av else av.map (·.add (j * 3)))) : TripsAt w A2 (l.drop j) := by
  by_cases hl : l.drop j = []
  · exact .inl hl
  · have hl0 : j < l.length := by
      rcases Nat.lt_or_ge j l.length with h0 | h0
      · exact h0
      · exact absurd (List.drop_eq_nil_of_le h0) hl
    obtain ⟨b, o, rfl, hb, hcs⟩ := h.at hl0
    rw [if_neg (by omega)] at hA
    refine .inr ⟨b, o + j * 3, by rw [hA]; simp [Addr.add], hb, fun i hi => ?_⟩
    rw [List.length_drop] at hi
    have := hcs (j + i) (by omega)
    rw [List.getElem_drop]
    rw [show o + j * 3 + i * 3 = o + (j + i) * 3 by omega]
    exact this
theorem devRd_acts {w : World} {a1 a2 a3 f1 f2 f3 : Option Addr} {D F : Dev} {l : List Trip} (hF : F = actsDev D l) (hD : DevRd w a1 a2 a3 D) (h : DevAt w f1 f2 f3 F) (hc : cellsN D ≤ 200) (hl : l.length ≤ 501) : DevRd w f1 f2 f3 F := by
  have h1 := actsRun_len l D
  have h2 := hD.n1
  have e : (actsRun l D).2 = F := hF.symm
  rw [e] at h1
  unfold cellsN at h1 hc
  exact ⟨h, by omega, by omega, by omega⟩
theorem implActs_good (a1 a2 a3 : Option Addr) (c1 c2 c3 : Nat) (D : Dev) (af : Option Addr) (cf : Nat) (l : List Trip) (w : World) (h : DevRd w a1 a2 a3 D) (hI : TripsAt w af l) (hg : Good D) (hc : actsCode D l = 0) (hcn : cellsN D ≤ 1000) (hl : l.length ≤ 1000) {m : Nat} (hm : m = l.length) :
    Calls Try.prog 30 #[.agg #[.slice a1 D.words.length c1, .slice a2 D.flights.length c2, .slice a3 D.over.length c3], .slice af m cf] w fun e w' => (∃ b1 d1 b2 d2 b3 d3, e = .returned (.agg #[.int .i64 0, .slice b1 (Dev.words (actsDev D l)).length d1, .slice b2 (Dev.flights (actsDev D l)).length d2, .slice b3 (Dev.over (actsDev D l)).length d3]) ∧ RDev w' w.heap.size w'.heap.size b1 b2 b3 (actsDev D l) ∧ LenOk (actsDev D l)) ∧ Below w.heap.size w w' := by
  subst hm
  refine (implDoActs_any a1 a2 a3 c1 c2 c3 D af cf l w h.r hI h.n1 h.n2 h.n3 (by omega) (by omega)).mono ?_
  rintro e w' ⟨hr, hb⟩
  have hk : chgCode D (actsCode D l) = 0 := by rw [chgCode_good hg]; exact hc
  rw [hk, chgDev_ok hk] at hr
  obtain ⟨b1, d1, b2, d2, b3, d3, rfl, hd⟩ := resIs_rd hr
  have h1 := actsRun_len l D
  have h2 := h.n1
  unfold cellsN at h1 hcn
  exact ⟨⟨b1, d1, b2, d2, b3, d3, rfl, hd, by unfold actsDev; omega, by unfold actsDev; omega, by unfold actsDev; omega⟩, hb⟩
theorem specActs_good (a1 a2 a3 : Option Addr) (c1 c2 c3 : Nat) (D : Dev) (af : Option Addr) (cf : Nat) (l : List Trip) (w : World) (h : DevRd w a1 a2 a3 D) (hI : TripsAt w af l) (hg : Good D) (hc : actsCode D l = 0) (hcn : cellsN D ≤ 200) (hl : l.length ≤ 501) :
    Calls Try.prog 31 #[.agg #[.slice a1 D.words.length c1, .slice a2 D.flights.length c2, .slice a3 D.over.length c3], .slice af l.length cf] w fun e w' => (∃ b1 d1 b2 d2 b3 d3, e = .returned (.agg #[.int .i64 0, .slice b1 (Dev.words (actsDev D l)).length d1, .slice b2 (Dev.flights (actsDev D l)).length d2, .slice b3 (Dev.over (actsDev D l)).length d3]) ∧ DevAt w' b1 b2 b3 (actsDev D l)) ∧ Below w.heap.size w w' := by
  refine (specDoActs_any a1 a2 a3 c1 c2 c3 D af cf l w h.r h.n1 h.n2 h.n3 hI (by omega) (by omega)).mono ?_
  rintro e w' ⟨⟨b1, d1, b2, d2, b3, d3, rfl, hd⟩, hb⟩
  have hk : chgCode D (actsCode D l) = 0 := by rw [chgCode_good hg]; exact hc
  rw [hk]
  have hd := hd.r
  rw [chgDev_ok hk] at hd ⊢
  exact ⟨⟨b1, d1, b2, d2, b3, d3, rfl, hd⟩, hb⟩
theorem keepC4 {W0 w' w1 : World} {b0 b1 b2 b3 o0 o1 o2 o3 : Nat} {v0 v1 v2 v3 : Value} (h0 : b0 < W0.heap.size) (h1 : b1 < W0.heap.size) (h2 : b2 < W0.heap.size) (h3 : b3 < W0.heap.size) (hS : Below W0.heap.size W0 w' ∧ w'.cell? ⟨b0, o0, none⟩ = some v0 ∧ w'.cell? ⟨b1, o1, none⟩ = some v1 ∧ w'.cell? ⟨b2, o2, none⟩ = some v2 ∧ w'.cell? ⟨b3, o3, none⟩ = some v3) (hb : Below w'.heap.size w' w1) : Below W0.heap.size W0 w1 ∧ w1.cell? ⟨b0, o0, none⟩ = some v0 ∧ w1.cell? ⟨b1, o1, none⟩ = some v1 ∧ w1.cell? ⟨b2, o2, none⟩ = some v2 ∧ w1.cell? ⟨b3, o3, none⟩ = some v3 := by
  obtain ⟨h, d0, d1, d2, d3⟩ := hS
  have hz := h.size
  exact ⟨h.trans (hb.mono hz), ((bcell hb).1 _ _ (by omega)).trans d0, ((bcell hb).1 _ _ (by omega)).trans d1, ((bcell hb).1 _ _ (by omega)).trans d2, ((bcell hb).1 _ _ (by omega)).trans d3⟩
theorem keepC11 {W0 w' w1 : World} {b0 b1 b2 b3 b4 b5 b6 b7 b8 b9 b10 o0 o1 o2 o3 o4 o5 o6 o7 o8 o9 o10 : Nat} {v0 v1 v2 v3 v4 v5 v6 v7 v8 v9 v10 : Value} (h0 : b0 < W0.heap.size) (h1 : b1 < W0.heap.size) (h2 : b2 < W0.heap.size) (h3 : b3 < W0.heap.size) (h4 : b4 < W0.heap.size) (h5 : b5 < W0.heap.size) (h6 : b6 < W0.heap.size) (h7 : b7 < W0.heap.size) (h8 : b8 < W0.heap.size) (h9 : b9 < W0.heap.size) (h10 : b10 < W0.heap.size) (hS : Below W0.heap.size W0 w' ∧ w'.cell? ⟨b0, o0, none⟩ = some v0 ∧ w'.cell? ⟨b1, o1, none⟩ = some v1 ∧ w'.cell? ⟨b2, o2, none⟩ = some v2 ∧ w'.cell? ⟨b3, o3, none⟩ = some v3 ∧ w'.cell? ⟨b4, o4, none⟩ = some v4 ∧ w'.cell? ⟨b5, o5, none⟩ = some v5 ∧ w'.cell? ⟨b6, o6, none⟩ = some v6 ∧ w'.cell? ⟨b7, o7, none⟩ = some v7 ∧ w'.cell? ⟨b8, o8, none⟩ = some v8 ∧ w'.cell? ⟨b9, o9, none⟩ = some v9 ∧ w'.cell? ⟨b10, o10, none⟩ = some v10) (hb : Below w'.heap.size w' w1) : Below W0.heap.size W0 w1 ∧ w1.cell? ⟨b0, o0, none⟩ = some v0 ∧ w1.cell? ⟨b1, o1, none⟩ = some v1 ∧ w1.cell? ⟨b2, o2, none⟩ = some v2 ∧ w1.cell? ⟨b3, o3, none⟩ = some v3 ∧ w1.cell? ⟨b4, o4, none⟩ = some v4 ∧ w1.cell? ⟨b5, o5, none⟩ = some v5 ∧ w1.cell? ⟨b6, o6, none⟩ = some v6 ∧ w1.cell? ⟨b7, o7, none⟩ = some v7 ∧ w1.cell? ⟨b8, o8, none⟩ = some v8 ∧ w1.cell? ⟨b9, o9, none⟩ = some v9 ∧ w1.cell? ⟨b10, o10, none⟩ = some v10 := by
  obtain ⟨h, d0, d1, d2, d3, d4, d5, d6, d7, d8, d9, d10⟩ := hS
  have hz := h.size
  exact ⟨h.trans (hb.mono hz), ((bcell hb).1 _ _ (by omega)).trans d0, ((bcell hb).1 _ _ (by omega)).trans d1, ((bcell hb).1 _ _ (by omega)).trans d2, ((bcell hb).1 _ _ (by omega)).trans d3, ((bcell hb).1 _ _ (by omega)).trans d4, ((bcell hb).1 _ _ (by omega)).trans d5, ((bcell hb).1 _ _ (by omega)).trans d6, ((bcell hb).1 _ _ (by omega)).trans d7, ((bcell hb).1 _ _ (by omega)).trans d8, ((bcell hb).1 _ _ (by omega)).trans d9, ((bcell hb).1 _ _ (by omega)).trans d10⟩

namespace fnActs
set_option maxRecDepth 20000 in
theorem no (a : Option Addr) (n c : Nat) (w : World) (hn : ¬ (n : Int) ≤ 1048576) :
    Calls Try.prog 6 #[.slice a n c] w fun r w' => r = .returned (.bool true) ∧ Below w.heap.size w w' := by
  go_enter Try.func6, Try.ntmps6
  go_wp2_with (go_at_call 7; go_in)
  go_ret
  exact ⟨rfl, Below.refl _ _⟩

set_option maxRecDepth 20000 in
set_option maxHeartbeats 4000000 in
theorem yes (a : Option Addr) (n c : Nat) (w : World) (h : CodeAt w a n) (hn : n ≤ 1048576) :
    Calls Try.prog 6 #[.slice a n c] w fun r w' => r = .returned (.bool true) ∧ Below w.heap.size w w' := by
  have hn' : ¬ (1048576 : Int) < n := by omega
  have AZ := hide h
  clear h
  go_enter Try.func6, Try.ntmps6
  go_wp2_with (go_at_call 7; go_in)
  refine (drawDoActs_any a n c _ (unhide AZ) hn).mono ?_
  rintro e w1 ⟨⟨a1, c1, a2, c2, a3, c3, D, av, cv, l, rfl, hR, hF, hT, hl, hcap, hcm⟩, hb⟩
  have z1 : w.heap.size ≤ w1.heap.size := hb.size
  have A1 := hide ((unhide AZ).below hb)
  have B1 := hide hb
  clear hb AZ
  obtain ⟨hF1, hF2, hF3⟩ := hF
  have DX : Hid (DevRd w1 a1 a2 a3 D) := hide ⟨hR.r, by omega, by omega, by omega⟩
  have TX := hide hT
  have n1 := (unhide DX).n1
  have n2 := (unhide DX).n2
  have n3 := (unhide DX).n3
  have n4 : l.length ≤ 1048576 := by omega
  have hcn : cellsN D ≤ 200 := by unfold cellsN; omega
  have HCN := hide hcn
  clear hR hF1 hF2 hF3 hT hcn
  go_wp2_with fail
  obtain ⟨W2, hW, z2, hbx, hx⟩ := boxes1 w1 [.slice a1 D.words.length c1, .slice a2 D.flights.length c2, .slice a3 D.over.length c3] 27
  rw [← hW]
  clear hW
  have A2 := hide ((unhide A1).below (unhide hbx))
  have D2 := hide ((unhide DX).below (unhide hbx))
  have T2 := hide ((unhide TX).below (unhide hbx))
  have B2 := hide (below_step (unhide B1) (unhide hbx) (by omega))
  have P2 := hx
  clear hbx hx A1 DX TX B1
  have u2 : w1.heap.size < W2.heap.size := by omega
  generalize w1.heap.size = b2 at *
  refine (implDoActs_any a1 a2 a3 c1 c2 c3 D av cv l _ (unhide D2).r (unhide T2) n1 n2 n3 n4 (by have := unhide HCN; omega)).mono ?_
  rintro e w3 ⟨hres, hb⟩
  obtain ⟨f1, g1, f2, g2, f3, g3, rfl, hf⟩ := resIs_at hres
  clear hres
  obtain ⟨cd, hcd⟩ : ∃ cd, cd = chgCode D (actsCode D l) := ⟨_, rfl⟩
  obtain ⟨F, hFD⟩ : ∃ F, F = chgDev D (actsCode D l) (actsDev D l) := ⟨_, rfl⟩
  rw [← hFD] at hf
  rw [← hcd, ← hFD]
  have HCD := hide hcd
  have HFD := hide hFD
  clear hcd hFD
  have z3 : W2.heap.size ≤ w3.heap.size := hb.size
  have A3 := hide ((unhide A2).below hb)
  have D3 := hide ((unhide D2).below hb)
  have T3 := hide ((unhide T2).below hb)
  have P3 := hide ((unhide P2).below hb)
  have B3 := hide (below_step (unhide B2) hb (by omega))
  clear hb A2 D2 T2 P2 B2
  have FX := hide hf
  clear hf
  go_wp2_with fail
  obtain ⟨W4, hW, z4, hbx, hx⟩ := boxes1 w3 [.int .i64 cd, .slice f1 F.words.length g1, .slice f2 F.flights.length g2, .slice f3 F.over.length g3] 31
  rw [← hW]
  clear hW
  have A4 := hide ((unhide A3).below (unhide hbx))
  have D4 := hide ((unhide D3).below (unhide hbx))
  have T4 := hide ((unhide T3).below (unhide hbx))
  have P4 := hide ((unhide P3).below (unhide hbx))
  have F4 := hide ((unhide FX).below (unhide hbx))
  have B4 := hide (below_step (unhide B3) (unhide hbx) (by omega))
  have R4 := hx
  clear hbx hx A3 D3 T3 P3 FX B3
  have u4 : w3.heap.size < W4.heap.size := by omega
  generalize w3.heap.size = b4 at *
  have hfd : ∀ (x : Int) (v1 v2 v3 : Value) (w : World), (Instr.field 31 (.agg #[.int .i64 x, v1, v2, v3]) 0).run Try.prog w = .ok (.int .i64 x) w := fun x v1 v2 v3 w => by kernel_rfl
  have hne := int_neq_self cd
  have R_0 := (unhide R4).cell 0
  have m_R : b4 < W4.heap.size := by omega
  have P_0 := (unhide P4).cell 0
  have P_1 := (unhide P4).cell 1
  have P_2 := (unhide P4).cell 2
  have m_P : b2 < W4.heap.size := by omega
  simp at R_0 P_0 P_1 P_2
  have hD : (fun w' => Below W4.heap.size W4 w' ∧ w'.cell? ⟨b4, 0, none⟩ = some (.int .i64 cd) ∧ w'.cell? ⟨b2, 0, none⟩ = some (.slice a1 D.words.length c1) ∧ w'.cell? ⟨b2, 1, none⟩ = some (.slice a2 D.flights.length c2) ∧ w'.cell? ⟨b2, 2, none⟩ = some (.slice a3 D.over.length c3)) W4.drew := ⟨(Below.refl _ _).drew, R_0, P_0, P_1, P_2⟩
  have HD := hide hD
  clear hD R_0 P_0 P_1 P_2
  go_region_held3 (fun w' => Below W4.heap.size W4 w' ∧ w'.cell? ⟨b4, 0, none⟩ = some (.int .i64 cd) ∧ w'.cell? ⟨b2, 0, none⟩ = some (.slice a1 D.words.length c1) ∧ w'.cell? ⟨b2, 1, none⟩ = some (.slice a2 D.flights.length c2) ∧ w'.cell? ⟨b2, 2, none⟩ = some (.slice a3 D.over.length c3)) (first | exact unhide HD | assumption | exact keepC4 m_R m_P m_P m_P (by assumption) (by assumption))
    (first
      | (go_at_call 31; refine (specDoActs_any a1 a2 a3 c1 c2 c3 D av cv l _ ((unhide D4).below (sleft' (by assumption))).r n1 n2 n3 ((unhide T4).below (sleft' (by assumption))) n4 (by have := unhide HCN; omega)).mono ?_; rintro r w5 ⟨⟨p1, q1, p2, q2, p3, q3, rfl, -⟩, hb5⟩; rw [← unhide HCD]))
  rename_i hSF
  have hbS := hSF.1
  clear hSF HD m_P m_R
  generalize hwn : w5 = w205 at *
  clear hwn
  have z5 : W4.heap.size ≤ w205.heap.size := hbS.size
  have A5 := hide ((unhide A4).below hbS)
  have D5 := hide ((unhide D4).below hbS)
  have T5 := hide ((unhide T4).below hbS)
  have P5 := hide ((unhide P4).below hbS)
  have F5 := hide ((unhide F4).below hbS)
  have R5 := hide ((unhide R4).below hbS)
  have B5 := hide (below_step (unhide B4) hbS (by omega))
  clear hbS A4 D4 T4 P4 F4 R4 B4
  clear hne
  by_cases hc0 : cd = 0
  · skip
    have e0 : (cd != 0) = false := by simpa using hc0
    have hch : chgCode D (actsCode D l) = 0 := (unhide HCD).symm.trans hc0
    have hFl : F = actsDev D l := (unhide HFD).trans (chgDev_ok hch)
    have HG : Hid (Good D) := hide (chg_ok hch).1
    have HAC := hide (chg_ok hch).2
    have HFl := hide hFl
    clear hFl hch hc0 HCD HFD
    have cr0 := (unhide R5).cell 0
    simp at cr0
    have lcr : b4 < w205.heap.size := by omega
    have hlw : IntKind.i64.wrap ((l.length : Int) + 1) = (l.length : Int) + 1 := by rw [IntKind.wrap_i64]; omega
    go_wp2_with fail
    clear cr0 lcr
    refine (lwAt_any a n c 2 ((l.length : Int) + 1) _ (unhide A5) hn (by omega) (by omega) (by omega)).mono ?_
    rintro e w6 ⟨⟨v, rfl, hv0, hv1⟩, hb⟩
    have z6 : w205.heap.size ≤ w6.heap.size := hb.size
    have A6 := hide ((unhide A5).below hb)
    have D6 := hide ((unhide D5).below hb)
    have T6 := hide ((unhide T5).below hb)
    have P6 := hide ((unhide P5).below hb)
    have F6 := hide ((unhide F5).below hb)
    have R6 := hide ((unhide R5).below hb)
    have B6 := hide (below_step (unhide B5) hb (by omega))
    clear hb A5 D5 T5 P5 F5 R5 B5
    obtain ⟨j, rfl⟩ : ∃ j : Nat, v = (j : Int) := ⟨v.toNat, by omega⟩
    have hj : j ≤ l.length := by omega
    clear hv0 hv1
    clear hlw A6
    obtain ⟨hlen, hT0, hE0⟩ := acts_parts (unhide HAC) j
    obtain ⟨E, hE⟩ : ∃ E, E = actsDev D (l.take j) := ⟨_, rfl⟩
    rw [← hE] at hE0
    have hGE : Good E := by rw [hE]; exact (unhide HG).acts _
    have hNE : cellsN E ≤ 701 ∧ E.words.length = D.words.length := by rw [hE]; have h1 := actsRun_len (l.take j) D; have h2 := unhide HCN; rw [List.length_take] at h1; exact ⟨by unfold actsDev; omega, h1.2⟩
    have htl : (l.take j).length = j := by rw [List.length_take]; omega
    have hdl : (l.drop j).length = l.length - j := List.length_drop
    obtain ⟨A1, A2, hs1, hs2, hA1, hA2⟩ := act_cut av l.length cv j hj hcap
    obtain ⟨hs1a, hs1b⟩ := hs1
    obtain ⟨hs2a, hs2b⟩ := hs2
    have T1 : Hid (TripsAt w6 A1 (l.take j)) := hide (trips_take (unhide T6) hj hcap hA1)
    have T2 : Hid (TripsAt w6 A2 (l.drop j)) := hide (trips_drop (unhide T6) hj hcap hA2)
    have HG_S := HG
    have HC_S := hide hT0
    have HN_S : Hid (cellsN D ≤ 1000) := hide (by have := unhide HCN; omega)
    have HT_S : Hid ((l.take j).length ≤ 1000) := hide (by omega)
    have HM_S := hide htl.symm
    have HG_Q := hide hGE
    have HC_Q := hide hE0.1
    have HN_Q : Hid (cellsN E ≤ 1000) := hide (by omega)
    have HT_Q : Hid ((l.drop j).length ≤ 1000) := hide (by omega)
    have HM_Q := hide hdl.symm
    have HEF : Hid (actsDev E (l.drop j) = F) := hide (hE0.2.trans (unhide HFl).symm)
    have HGF : Hid (Good F) := hide (by rw [unhide HFl]; exact (unhide HG).acts _)
    have FR : Hid (DevRd w6 f1 f2 f3 F) := hide (devRd_acts (unhide HFl) (unhide D6) (unhide F6) (unhide HCN) hl)
    have HE := hide hE
    clear hlen hT0 hE0 hGE hNE htl hdl hA1 hA2 hE F6
    have CK : Hid (Calls Try.prog 30 #[.agg #[.slice a1 D.words.length c1, .slice a2 D.flights.length c2, .slice a3 D.over.length c3], .slice A1 (j) cv] (w6.drew) fun e w' => (∃ k7a j7a k7b j7b k7c j7c, e = .returned (.agg #[.int .i64 0, .slice k7a (Dev.words (actsDev D (l.take j))).length j7a, .slice k7b (Dev.flights (actsDev D (l.take j))).length j7b, .slice k7c (Dev.over (actsDev D (l.take j))).length j7c]) ∧ RDev w' (w6.drew).heap.size w'.heap.size k7a k7b k7c (actsDev D (l.take j)) ∧ LenOk (actsDev D (l.take j))) ∧ Below (w6.drew).heap.size (w6.drew) w') := hide (implActs_good _ _ _ _ _ _ D _ _ (l.take j) _ ((unhide D6).below ((Below.refl _ _).drew)) ((unhide T1).below ((Below.refl _ _).drew)) (unhide HG_S) (unhide HC_S) (unhide HN_S) (unhide HT_S) (unhide HM_S))
    have CL : Hid (Calls Try.prog 30 #[.agg #[.slice a1 D.words.length c1, .slice a2 D.flights.length c2, .slice a3 D.over.length c3], .slice A1 (j) cv] ((w6.alloc (.cells #[.int .i64 0, .slice none 0 0, .slice none 0 0, .slice none 0 0] 31)).drew) fun e w' => (∃ k7a j7a k7b j7b k7c j7c, e = .returned (.agg #[.int .i64 0, .slice k7a (Dev.words (actsDev D (l.take j))).length j7a, .slice k7b (Dev.flights (actsDev D (l.take j))).length j7b, .slice k7c (Dev.over (actsDev D (l.take j))).length j7c]) ∧ RDev w' ((w6.alloc (.cells #[.int .i64 0, .slice none 0 0, .slice none 0 0, .slice none 0 0] 31)).drew).heap.size w'.heap.size k7a k7b k7c (actsDev D (l.take j)) ∧ LenOk (actsDev D (l.take j))) ∧ Below ((w6.alloc (.cells #[.int .i64 0, .slice none 0 0, .slice none 0 0, .slice none 0 0] 31)).drew).heap.size ((w6.alloc (.cells #[.int .i64 0, .slice none 0 0, .slice none 0 0, .slice none 0 0] 31)).drew) w') := hide (implActs_good _ _ _ _ _ _ D _ _ (l.take j) _ ((unhide D6).below (((Below.refl _ _).alloc (Nat.le_refl _) _).drew)) ((unhide T1).below (((Below.refl _ _).alloc (Nat.le_refl _) _).drew)) (unhide HG_S) (unhide HC_S) (unhide HN_S) (unhide HT_S) (unhide HM_S))
    go_upto_region 10 with fail
    have cp0 := (unhide P6).cell 0
    have cp1 := (unhide P6).cell 1
    have cp2 := (unhide P6).cell 2
    simp at cp0 cp1 cp2
    have lcp : b2 < w6.heap.size := by omega
    go_cut [7] from 34 (fun s7 wx => ∃ bx k7a j7a k7b j7b k7c j7c, s7 = .pointer (some ⟨bx, 0, none⟩) ∧ Hid (Box wx bx [.int .i64 0, .slice k7a (Dev.words (actsDev D (l.take j))).length j7a, .slice k7b (Dev.flights (actsDev D (l.take j))).length j7b, .slice k7c (Dev.over (actsDev D (l.take j))).length j7c] 31) ∧ Hid (DevRd wx k7a k7b k7c (actsDev D (l.take j))) ∧ Hid (Below w6.heap.size w6 wx) ∧ bx < wx.heap.size)
    case first =>
      have BZ : Hid (Box (w6.alloc (.cells #[.int .i64 0, .slice none 0 0, .slice none 0 0, .slice none 0 0] 31)).drew w6.heap.size [.int .i64 0, .slice none 0 0, .slice none 0 0, .slice none 0 0] 31) := hide (box_new w6 [.int .i64 0, .slice none 0 0, .slice none 0 0, .slice none 0 0] _).drew
      have HSZ : Hid ((w6.alloc (.cells #[.int .i64 0, .slice none 0 0, .slice none 0 0, .slice none 0 0] 31)).drew.heap.size = w6.heap.size + 1) := hide (by show (w6.alloc (.cells #[.int .i64 0, .slice none 0 0, .slice none 0 0, .slice none 0 0] 31)).heap.size = _; simp)
      have BZW : Hid (Below w6.heap.size w6 (w6.alloc (.cells #[.int .i64 0, .slice none 0 0, .slice none 0 0, .slice none 0 0] 31)).drew) := hide ((Below.refl _ _).alloc (Nat.le_refl _) _).drew
      go_region_with (first
        | (go_at_call 30; (with_reducible refine (unhide CK).mono ?_); rintro r w5 ⟨⟨k7a, j7a, k7b, j7b, k7c, j7c, rfl, hE, hLO⟩, hb5⟩; have E5 := hide hE; have L5 := hide hLO; have B5 := hide (below_step (Below.refl w6.heap.size w6).drew hb5 (Nat.le_refl _)); have z5 : w6.heap.size ≤ w5.heap.size := hb5.size; clear hE hLO hb5)
        | (go_at_call 30; (with_reducible refine (unhide CL).mono ?_); rintro r w5 ⟨⟨k7a, j7a, k7b, j7b, k7c, j7c, rfl, hE, hLO⟩, hb5⟩; have E5 := hide hE; have L5 := hide hLO; have B5 := hide (below_step (unhide BZW) hb5 (by rw [unhide HSZ]; omega)); have X5 := hide ((unhide BZ).below hb5); have z5 : w6.heap.size < w5.heap.size := (by have h5 := hb5.size; rw [unhide HSZ] at h5; omega); have x0 := (unhide X5).cell 0; have x1 := (unhide X5).cell 1; have x2 := (unhide X5).cell 2; have x3 := (unhide X5).cell 3; have y0 := (unhide X5).frozen 0; have y1 := (unhide X5).frozen 1; have y2 := (unhide X5).frozen 2; have y3 := (unhide X5).frozen 3; simp only [List.getElem?_cons_zero, List.getElem?_cons_succ] at x0 x1 x2 x3; clear hE hLO hb5))
      all_goals go_wp2_with fail
      all_goals go_meet
      all_goals first
        | (have _t := X5; refine ⟨w6.heap.size, k7a, j7a, k7b, j7b, k7c, j7c, rfl, ?_⟩; generalize hU : (((w5.setCell _ _).setCell _ _).setCell _ _).setCell _ _ = U; obtain ⟨XU, OU⟩ := store4' (unhide X5) hU; exact ⟨XU, hide ⟨((unhide E5).out (unhide OU) (fun q h1 h2 e => by rw [unhide HSZ] at h1; omega)).r, (unhide L5).1, (unhide L5).2.1, (unhide L5).2.2⟩, hide ((unhide OU).below (unhide B5) (Nat.le_refl _) (fun q hq e => by omega)), by have := (unhide OU).size; omega⟩)
        | exact ⟨w5.heap.size, k7a, j7a, k7b, j7b, k7c, j7c, rfl, hide (box_new w5 [.int .i64 0, .slice k7a (Dev.words (actsDev D (l.take j))).length j7a, .slice k7b (Dev.flights (actsDev D (l.take j))).length j7b, .slice k7c (Dev.over (actsDev D (l.take j))).length j7c] _), hide ⟨(unhide E5).r.below ((Below.refl _ _).alloc (Nat.le_refl _) _), (unhide L5).1, (unhide L5).2.1, (unhide L5).2.2⟩, hide ((unhide B5).alloc z5 _), by simp⟩
    case rest =>
    clear cp0 cp1 cp2 lcp
    obtain ⟨b7, k7a, j7a, k7b, j7b, k7c, j7c, rfl, XX, EE, BB, hbx7⟩ := hcut
    clear CK CL
    obtain ⟨w7, rfl⟩ : ∃ x : World, x = wc := ⟨_, rfl⟩
    have z7 : w6.heap.size ≤ w7.heap.size := (unhide BB).size
    have D7 := hide ((unhide D6).below (unhide BB))
    have T7 := hide ((unhide T6).below (unhide BB))
    have P7 := hide ((unhide P6).below (unhide BB))
    have R7 := hide ((unhide R6).below (unhide BB))
    have U7 := hide ((unhide T1).below (unhide BB))
    have V7 := hide ((unhide T2).below (unhide BB))
    have F7 := hide ((unhide FR).below (unhide BB))
    have B7 := hide (below_step (unhide B6) (unhide BB) (by omega))
    have SX7 := XX
    have SD7 := EE
    clear XX EE BB D6 T6 P6 R6 T1 T2 FR B6
    rw [← unhide HE] at SX7 SD7
    have CK : Hid (Calls Try.prog 30 #[.agg #[.slice k7a E.words.length j7a, .slice k7b E.flights.length j7b, .slice k7c E.over.length j7c], .slice A2 (l.length - j) (cv - j)] (w7.drew) fun e w' => (∃ k8a j8a k8b j8b k8c j8c, e = .returned (.agg #[.int .i64 0, .slice k8a (Dev.words (actsDev E (l.drop j))).length j8a, .slice k8b (Dev.flights (actsDev E (l.drop j))).length j8b, .slice k8c (Dev.over (actsDev E (l.drop j))).length j8c]) ∧ RDev w' (w7.drew).heap.size w'.heap.size k8a k8b k8c (actsDev E (l.drop j)) ∧ LenOk (actsDev E (l.drop j))) ∧ Below (w7.drew).heap.size (w7.drew) w') := hide (implActs_good _ _ _ _ _ _ E _ _ (l.drop j) _ ((unhide SD7).below ((Below.refl _ _).drew)) ((unhide V7).below ((Below.refl _ _).drew)) (unhide HG_Q) (unhide HC_Q) (unhide HN_Q) (unhide HT_Q) (unhide HM_Q))
    have CL : Hid (Calls Try.prog 30 #[.agg #[.slice k7a E.words.length j7a, .slice k7b E.flights.length j7b, .slice k7c E.over.length j7c], .slice A2 (l.length - j) (cv - j)] ((w7.alloc (.cells #[.int .i64 0, .slice none 0 0, .slice none 0 0, .slice none 0 0] 31)).drew) fun e w' => (∃ k8a j8a k8b j8b k8c j8c, e = .returned (.agg #[.int .i64 0, .slice k8a (Dev.words (actsDev E (l.drop j))).length j8a, .slice k8b (Dev.flights (actsDev E (l.drop j))).length j8b, .slice k8c (Dev.over (actsDev E (l.drop j))).length j8c]) ∧ RDev w' ((w7.alloc (.cells #[.int .i64 0, .slice none 0 0, .slice none 0 0, .slice none 0 0] 31)).drew).heap.size w'.heap.size k8a k8b k8c (actsDev E (l.drop j)) ∧ LenOk (actsDev E (l.drop j))) ∧ Below ((w7.alloc (.cells #[.int .i64 0, .slice none 0 0, .slice none 0 0, .slice none 0 0] 31)).drew).heap.size ((w7.alloc (.cells #[.int .i64 0, .slice none 0 0, .slice none 0 0, .slice none 0 0] 31)).drew) w') := hide (implActs_good _ _ _ _ _ _ E _ _ (l.drop j) _ ((unhide SD7).below (((Below.refl _ _).alloc (Nat.le_refl _) _).drew)) ((unhide V7).below (((Below.refl _ _).alloc (Nat.le_refl _) _).drew)) (unhide HG_Q) (unhide HC_Q) (unhide HN_Q) (unhide HT_Q) (unhide HM_Q))
    go_upto_region 11 with fail
    have cs0 := (unhide SX7).cell 0
    have cs1 := (unhide SX7).cell 1
    have cs2 := (unhide SX7).cell 2
    have cs3 := (unhide SX7).cell 3
    simp at cs0 cs1 cs2 cs3
    have lcs : b7 < w7.heap.size := by omega
    go_cut [8] from 39 (fun s8 wx => ∃ bx k8a j8a k8b j8b k8c j8c, s8 = .pointer (some ⟨bx, 0, none⟩) ∧ Hid (Box wx bx [.int .i64 0, .slice k8a (Dev.words (actsDev E (l.drop j))).length j8a, .slice k8b (Dev.flights (actsDev E (l.drop j))).length j8b, .slice k8c (Dev.over (actsDev E (l.drop j))).length j8c] 31) ∧ Hid (DevRd wx k8a k8b k8c (actsDev E (l.drop j))) ∧ Hid (Below w7.heap.size w7 wx) ∧ bx < wx.heap.size)
    case first =>
      have BZ : Hid (Box (w7.alloc (.cells #[.int .i64 0, .slice none 0 0, .slice none 0 0, .slice none 0 0] 31)).drew w7.heap.size [.int .i64 0, .slice none 0 0, .slice none 0 0, .slice none 0 0] 31) := hide (box_new w7 [.int .i64 0, .slice none 0 0, .slice none 0 0, .slice none 0 0] _).drew
      have HSZ : Hid ((w7.alloc (.cells #[.int .i64 0, .slice none 0 0, .slice none 0 0, .slice none 0 0] 31)).drew.heap.size = w7.heap.size + 1) := hide (by show (w7.alloc (.cells #[.int .i64 0, .slice none 0 0, .slice none 0 0, .slice none 0 0] 31)).heap.size = _; simp)
      have BZW : Hid (Below w7.heap.size w7 (w7.alloc (.cells #[.int .i64 0, .slice none 0 0, .slice none 0 0, .slice none 0 0] 31)).drew) := hide ((Below.refl _ _).alloc (Nat.le_refl _) _).drew
      go_region_with (first
        | (go_at_call 30; (with_reducible refine (unhide CK).mono ?_); rintro r w5 ⟨⟨k8a, j8a, k8b, j8b, k8c, j8c, rfl, hE, hLO⟩, hb5⟩; have E5 := hide hE; have L5 := hide hLO; have B5 := hide (below_step (Below.refl w7.heap.size w7).drew hb5 (Nat.le_refl _)); have z5 : w7.heap.size ≤ w5.heap.size := hb5.size; clear hE hLO hb5)
        | (go_at_call 30; (with_reducible refine (unhide CL).mono ?_); rintro r w5 ⟨⟨k8a, j8a, k8b, j8b, k8c, j8c, rfl, hE, hLO⟩, hb5⟩; have E5 := hide hE; have L5 := hide hLO; have B5 := hide (below_step (unhide BZW) hb5 (by rw [unhide HSZ]; omega)); have X5 := hide ((unhide BZ).below hb5); have z5 : w7.heap.size < w5.heap.size := (by have h5 := hb5.size; rw [unhide HSZ] at h5; omega); have x0 := (unhide X5).cell 0; have x1 := (unhide X5).cell 1; have x2 := (unhide X5).cell 2; have x3 := (unhide X5).cell 3; have y0 := (unhide X5).frozen 0; have y1 := (unhide X5).frozen 1; have y2 := (unhide X5).frozen 2; have y3 := (unhide X5).frozen 3; simp only [List.getElem?_cons_zero, List.getElem?_cons_succ] at x0 x1 x2 x3; clear hE hLO hb5))
      all_goals go_wp2_with fail
      all_goals go_meet
      all_goals first
        | (have _t := X5; refine ⟨w7.heap.size, k8a, j8a, k8b, j8b, k8c, j8c, rfl, ?_⟩; generalize hU : (((w5.setCell _ _).setCell _ _).setCell _ _).setCell _ _ = U; obtain ⟨XU, OU⟩ := store4' (unhide X5) hU; exact ⟨XU, hide ⟨((unhide E5).out (unhide OU) (fun q h1 h2 e => by rw [unhide HSZ] at h1; omega)).r, (unhide L5).1, (unhide L5).2.1, (unhide L5).2.2⟩, hide ((unhide OU).below (unhide B5) (Nat.le_refl _) (fun q hq e => by omega)), by have := (unhide OU).size; omega⟩)
        | exact ⟨w5.heap.size, k8a, j8a, k8b, j8b, k8c, j8c, rfl, hide (box_new w5 [.int .i64 0, .slice k8a (Dev.words (actsDev E (l.drop j))).length j8a, .slice k8b (Dev.flights (actsDev E (l.drop j))).length j8b, .slice k8c (Dev.over (actsDev E (l.drop j))).length j8c] _), hide ⟨(unhide E5).r.below ((Below.refl _ _).alloc (Nat.le_refl _) _), (unhide L5).1, (unhide L5).2.1, (unhide L5).2.2⟩, hide ((unhide B5).alloc z5 _), by simp⟩
    case rest =>
    clear cs0 cs1 cs2 cs3 lcs
    obtain ⟨b8, k8a, j8a, k8b, j8b, k8c, j8c, rfl, XX, EE, BB, hbx8⟩ := hcut
    clear CK CL
    obtain ⟨w8, rfl⟩ : ∃ x : World, x = wc := ⟨_, rfl⟩
    have z8 : w7.heap.size ≤ w8.heap.size := (unhide BB).size
    have D8 := hide ((unhide D7).below (unhide BB))
    have T8 := hide ((unhide T7).below (unhide BB))
    have P8 := hide ((unhide P7).below (unhide BB))
    have R8 := hide ((unhide R7).below (unhide BB))
    have U8 := hide ((unhide U7).below (unhide BB))
    have V8 := hide ((unhide V7).below (unhide BB))
    have F8 := hide ((unhide F7).below (unhide BB))
    have S8 := hide ((unhide SX7).below (unhide BB))
    have SD8 := hide ((unhide SD7).below (unhide BB))
    have B8 := hide (below_step (unhide B7) (unhide BB) (by omega))
    have QX8 := XX
    have QD8 := EE
    clear XX EE BB D7 T7 P7 R7 U7 V7 F7 SX7 SD7 B7
    rw [unhide HEF] at QX8 QD8
    clear hs1a hs1b hs2a hs2b
    have hsd := sameDev_self F
    have hfe : ∀ (x : Int) (v1 v2 v3 : Value) (w : World), (Instr.field 31 (.agg #[.int .i64 x, v1, v2, v3]) 1).run Try.prog w = .ok (.agg #[v1, v2, v3]) w := fun x v1 v2 v3 w => by kernel_rfl
    have SR : Hid (∃ G, G = F) := hide ⟨F, rfl⟩
    go_wp2_with fail
    have S_0 := (unhide S8).cell 0
    have m_S : b7 < w8.heap.size := by omega
    have Q_0 := (unhide QX8).cell 0
    have Q_1 := (unhide QX8).cell 1
    have Q_2 := (unhide QX8).cell 2
    have Q_3 := (unhide QX8).cell 3
    have m_Q : b8 < w8.heap.size := by omega
    have R_1 := (unhide R8).cell 1
    have R_2 := (unhide R8).cell 2
    have R_3 := (unhide R8).cell 3
    have m_R : b4 < w8.heap.size := by omega
    have P_0 := (unhide P8).cell 0
    have P_1 := (unhide P8).cell 1
    have P_2 := (unhide P8).cell 2
    have m_P : b2 < w8.heap.size := by omega
    simp at S_0 Q_0 Q_1 Q_2 Q_3 R_1 R_2 R_3 P_0 P_1 P_2
    have hD : (fun w' => Below w8.heap.size w8 w' ∧ w'.cell? ⟨b7, 0, none⟩ = some (.int .i64 0) ∧ w'.cell? ⟨b8, 0, none⟩ = some (.int .i64 0) ∧ w'.cell? ⟨b8, 1, none⟩ = some (.slice k8a F.words.length j8a) ∧ w'.cell? ⟨b8, 2, none⟩ = some (.slice k8b F.flights.length j8b) ∧ w'.cell? ⟨b8, 3, none⟩ = some (.slice k8c F.over.length j8c) ∧ w'.cell? ⟨b4, 1, none⟩ = some (.slice f1 F.words.length g1) ∧ w'.cell? ⟨b4, 2, none⟩ = some (.slice f2 F.flights.length g2) ∧ w'.cell? ⟨b4, 3, none⟩ = some (.slice f3 F.over.length g3) ∧ w'.cell? ⟨b2, 0, none⟩ = some (.slice a1 D.words.length c1) ∧ w'.cell? ⟨b2, 1, none⟩ = some (.slice a2 D.flights.length c2) ∧ w'.cell? ⟨b2, 2, none⟩ = some (.slice a3 D.over.length c3)) w8.drew := ⟨(Below.refl _ _).drew, S_0, Q_0, Q_1, Q_2, Q_3, R_1, R_2, R_3, P_0, P_1, P_2⟩
    have HD := hide hD
    clear hD S_0 Q_0 Q_1 Q_2 Q_3 R_1 R_2 R_3 P_0 P_1 P_2
    go_region_held3 (fun w' => Below w8.heap.size w8 w' ∧ w'.cell? ⟨b7, 0, none⟩ = some (.int .i64 0) ∧ w'.cell? ⟨b8, 0, none⟩ = some (.int .i64 0) ∧ w'.cell? ⟨b8, 1, none⟩ = some (.slice k8a F.words.length j8a) ∧ w'.cell? ⟨b8, 2, none⟩ = some (.slice k8b F.flights.length j8b) ∧ w'.cell? ⟨b8, 3, none⟩ = some (.slice k8c F.over.length j8c) ∧ w'.cell? ⟨b4, 1, none⟩ = some (.slice f1 F.words.length g1) ∧ w'.cell? ⟨b4, 2, none⟩ = some (.slice f2 F.flights.length g2) ∧ w'.cell? ⟨b4, 3, none⟩ = some (.slice f3 F.over.length g3) ∧ w'.cell? ⟨b2, 0, none⟩ = some (.slice a1 D.words.length c1) ∧ w'.cell? ⟨b2, 1, none⟩ = some (.slice a2 D.flights.length c2) ∧ w'.cell? ⟨b2, 2, none⟩ = some (.slice a3 D.over.length c3)) (first | exact unhide HD | assumption | exact keepC11 m_S m_Q m_Q m_Q m_Q m_R m_R m_R m_P m_P m_P (by assumption) (by assumption))
      (first
        | (go_at_call 33; refine (implSameDevices_any _ _ _ _ _ _ _ _ _ _ _ _ F F _ ((unhide QD8).below (sleft' (by assumption))).r ((unhide F8).below (sleft' (by assumption))).r (unhide F8).n1 (unhide F8).n2 (unhide F8).n3).mono ?_; rintro r w5 ⟨rfl, hb5⟩; rw [hsd])
        | (go_at_call 14; refine (implFault_good _ _ _ _ _ _ _ _ _ F _ ((unhide F8).below (sleft' (by assumption))) rfl rfl rfl (unhide HGF)).mono ?_; rintro r w5 ⟨rfl, hb5⟩)
        | (go_at_call 31; refine (specActs_good a1 a2 a3 c1 c2 c3 D av cv l _ ((unhide D8).below (sleft' (by assumption))) ((unhide T8).below (sleft' (by assumption))) (unhide HG) (unhide HAC) (unhide HCN) hl).mono ?_; rintro r w5 ⟨⟨p1, q1, p2, q2, p3, q3, rfl, hG5⟩, hb5⟩; rw [← unhide HFl] at hG5 ⊢; have G5 := hide hG5; clear hG5)
        | (go_at_call 34; refine (specSameDevices_any _ _ _ _ _ _ _ _ _ _ _ _ F F _ ((unhide F8).below (sleft' (by assumption))).r (unhide G5) (unhide F8).n1 (unhide F8).n2 (unhide F8).n3).mono ?_; rintro r w5 ⟨rfl, hb5⟩; rw [hsd]))
    rename_i hSF
    have hbS := hSF.1
    clear hSF HD m_P m_Q m_R m_S
    generalize hwn : w5 = w209 at *
    clear hwn
    have z9 : w8.heap.size ≤ w209.heap.size := hbS.size
    have D9 := hide ((unhide D8).below hbS)
    have T9 := hide ((unhide T8).below hbS)
    have P9 := hide ((unhide P8).below hbS)
    have R9 := hide ((unhide R8).below hbS)
    have U9 := hide ((unhide U8).below hbS)
    have V9 := hide ((unhide V8).below hbS)
    have F9 := hide ((unhide F8).below hbS)
    have S9 := hide ((unhide S8).below hbS)
    have SD9 := hide ((unhide SD8).below hbS)
    have Q9 := hide ((unhide QX8).below hbS)
    have QD9 := hide ((unhide QD8).below hbS)
    have B9 := hide (below_step (unhide B8) hbS (by omega))
    clear hbS D8 T8 P8 R8 U8 V8 F8 S8 SD8 QX8 QD8 B8
    go_wp2_with fail
    go_ret
    exact ⟨rfl, unhide B9⟩
  · skip
    have e0 : (cd != 0) = true := by simpa using hc0
    clear hc0 hfd
    have cr0 := (unhide R5).cell 0
    simp at cr0
    have lcr : b4 < w205.heap.size := by omega
    go_wp2_with fail
    clear cr0 lcr
    go_ret
    exact ⟨rfl, unhide B5⟩
end fnActs
end Go.Proofs.Ytgckkehlnahfmaa
/-
  A row of bytes that came in is a code.
-/
namespace Go.Proofs.Ytgckkehlnahfmaa
open Go.RowKit

theorem codeAt_row {w : World} {a : Option Addr} {len cap : Nat} {zs : List Int}
    (h : (a = none ∧ len = 0 ∧ cap = 0 ∧ zs = []) ∨ ∃ x, a = some x ∧ len ≤ cap ∧ cap ≤ maxLen ∧ zs.length = cap ∧ (∀ i, i < zs.length → w.cell? (x.add i) = some (.int .u8 (zs.getD i 0))) ∧ ∀ n ∈ zs, (Lit.int .u8 n).wf = true) : CodeAt w a len := by
  rcases h with ⟨rfl, rfl, rfl, rfl⟩ | ⟨x, rfl, hl, hm, hz, hc, hw⟩
  · exact .inl rfl
  · by_cases h0 : len = 0
    · exact .inl h0
    · right
      have c0 := hc 0 (by omega)
      obtain ⟨b, off, spot⟩ := x
      have hspot : spot = none := by simpa [Addr.add] using World.cell?_spot c0
      subst hspot
      have hlt : b < w.heap.size := by
        have c0' : w.cell? ⟨b, off, none⟩ = some (.int .u8 (zs.getD 0 0)) := by simpa [Addr.add] using c0
        unfold World.cell? at c0'
        by_cases hb : b < w.heap.size
        · exact hb
        · rw [Array.getElem?_eq_none (by show w.heap.size ≤ b; omega)] at c0'
          simp at c0'
      refine ⟨b, off, rfl, hlt, fun i hi => ⟨zs.getD i 0, ?_⟩⟩
      have hi' : i < zs.length := by omega
      have := hc i hi'
      rw [Go.WideShapes.add_plain] at this
      have hb := hw (zs.getD i 0) (by simp [List.getD_eq_getElem?_getD, List.getElem?_eq_getElem hi'])
      have hb2 : 0 ≤ zs.getD i 0 ∧ zs.getD i 0 ≤ 255 := by simpa [Lit.wf, IntKind.min, IntKind.max, IntKind.signed, IntKind.bits] using hb
      exact ⟨hb2.1, hb2.2, this⟩
end Go.Proofs.Ytgckkehlnahfmaa
/-
  laws.FnActs, at every code.
-/
namespace Go.Proofs.Ytgckkehlnahfmaa.fnActs
open Go.RowKit
/-- What the walk is told of a slice of integers that came in. -/
def IsRow (k : IntKind) (w : World) (a : Option Addr) (len cap : Nat) (zs : List Int) : Prop :=
  (a = none ∧ len = 0 ∧ cap = 0 ∧ zs = []) ∨
  ∃ x, a = some x ∧ len ≤ cap ∧ cap ≤ maxLen ∧ zs.length = cap ∧ (∀ i, i < zs.length → w.cell? (x.add i) = some (.int k (zs.getD i 0))) ∧ ∀ n ∈ zs, (Lit.int k n).wf = true

theorem walk (a : Option Addr) (len cap : Nat) (zs : List Int) (w : World) (w0 : IsRow .u8 w a len cap zs) :
    Calls Try.prog 6 #[.slice a len cap] w fun r w' => r = .returned (.bool true) ∧ Below w.heap.size w w' := by
  by_cases hn : len ≤ 1048576
  · exact yes a len cap w (codeAt_row w0) hn
  · exact no a len cap w (by omega)
end Go.Proofs.Ytgckkehlnahfmaa.fnActs
