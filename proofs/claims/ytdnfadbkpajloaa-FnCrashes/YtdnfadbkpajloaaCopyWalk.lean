/-
  What spec.l2Copy answers: a new device, the same. (A list without cells may keep the empty slice that it was begun with.)
-/
import Derived.Test.YtdnfadbkpajloaaAppSrc
import Derived.Test.YtdnfadbkpajloaaCloneWalk
import Derived.Test.YtdnfadbkpajloaaOwnDev
import Derived.BigQuiet
import Derived.Deep.QuietTactic
import Derived.Deep.RegionHeld3
namespace Go.Proofs.Ytdnfadbkpajloaa
open Go.RowKit
set_option linter.unusedVariables false

/-- Pairs in a row of our own, or none at all. -/
def RowW (w : World) (base : Nat) (v : Value) (l : List (Int × Int)) : Prop :=
  (l = [] ∧ ∃ a, v = .slice a 0 0 ∧ (a = none ∨ ∃ g, a = some ⟨g, 0, none⟩)) ∨ (l ≠ [] ∧ w.ownsRow base 42 2 v l.length (prs l))
theorem RowW.stay {w w' : World} {base : Nat} {v : Value} {l : List (Int × Int)} (h : RowW w base v l) (hk : l ≠ [] → ∀ q, v.ownBlock = some q → q < w.heap.size → w'.heap[q]? = w.heap[q]?) : RowW w' base v l := by
  rcases h with h | ⟨hl, h⟩
  · exact .inl h
  · exact .inr ⟨hl, own_stay h (hk hl)⟩
theorem RowW.below {w w' : World} {base : Nat} {v : Value} {l : List (Int × Int)} (h : RowW w base v l) (hb : Below w.heap.size w w') : RowW w' base v l := h.stay fun _ q _ hq => hb.block q hq
theorem RowW.out {F : Nat → Prop} {w w' : World} {base : Nat} {v : Value} {l : List (Int × Int)} (h : RowW w base v l) (ho : Out F w w') (hF : l ≠ [] → ∀ q, v.ownBlock = some q → ¬ F q) : RowW w' base v l := h.stay fun hl q hq hz => ho.block q hz (hF hl q hq)
theorem RowW.lt {w : World} {base : Nat} {v : Value} {l : List (Int × Int)} (h : RowW w base v l) (hl : l ≠ []) : ∀ q, v.ownBlock = some q → base ≤ q ∧ q < w.heap.size := by
  rcases h with h | ⟨_, h⟩
  · exact absurd h.1 hl
  · exact h.lt
theorem RowW.form {w : World} {base : Nat} {v : Value} {l : List (Int × Int)} (h : RowW w base v l) : ∃ a c, v = .slice a l.length c ∧ PairsAt w a l ∧ (l ≠ [] → ∀ x, a = some x → base ≤ x.block ∧ x.block < w.heap.size) ∧ (l ≠ [] → ∃ g, a = some ⟨g, 0, none⟩) := by
  rcases h with ⟨rfl, a, rfl, _⟩ | ⟨hl, h⟩
  · exact ⟨a, 0, rfl, .inl rfl, fun h => absurd rfl h, fun h => absurd rfl h⟩
  · obtain ⟨a, c, e, -, hp, -⟩ := pairsAt_own h
    refine ⟨a, c, e, hp, fun _ x hx => ?_, fun hl => ?_⟩
    · subst hx; subst e; exact h.lt x.block rfl
    · rcases h.2 with ⟨e2, h0⟩ | ⟨g, cap, cur, e2, _⟩
      · exact absurd (List.length_eq_zero_iff.1 h0) hl
      · rw [e] at e2; injection e2 with e2; exact ⟨g, e2⟩

/-- What append onto an empty slice without room leaves: nothing old is turned. -/
theorem run_append_fresh {P : Program} (w : World) (t ty e : TypeId) (i : TypeInfo) (z : Value) (ht : P.underlying t = some (.slice e)) (hi : P.info? e = some i) (hz : i.zero = some z) (hsize : i.size = 2) (hby : i.bytes = 16) (hzs : z.cells.size = 2)
    (g : Nat) (a : Option Addr) (c : Nat) (l : List (Int × Int)) (hp : PairsAt w a l) (hn : l.length ≤ 100000000) :
    ∃ v' w', (Builtin.append_ #[t, t] ty #[.slice (some ⟨g, 0, none⟩) 0 0, .slice a l.length c]).run P w = .ok v' w' ∧ ((l = [] ∧ v' = .slice (some ⟨g, 0, none⟩) 0 0) ∨ (l ≠ [] ∧ w'.ownsRow w.heap.size e 2 v' l.length (prs l))) ∧ Below w.heap.size w w' := by
  by_cases hl : l = []
  · subst hl
    refine ⟨.slice (some ⟨g, 0, none⟩) 0 0, w, ?_, .inl ⟨rfl, rfl⟩, Below.refl _ _⟩
    cases a with
    | none => simp [Builtin.append_, run_underlying ht, sizeOf, typeInfo, hi, Builtin.lenOf, Builtin.firstCells, storeCells]
    | some ad =>
      have hf := run_firstCells_some (P := P) w i.size 0 ad 0 c [] (by simp) (by simp)
      simp only [List.length_nil]
      simp [Builtin.append_, run_underlying ht, sizeOf, typeInfo, hi, Builtin.lenOf, hf, storeCells]
  · have hpos : 0 < l.length := List.length_pos_iff.2 hl
    rcases hp with h | ⟨b, o, rfl, hb, hc⟩
    · exact absurd h hl
    obtain ⟨v', w', hr, h2, h3⟩ := run_append_arg_grows (P := P) w t ty e i z 2 16 ht hi hz hsize hby hzs (by decide) ⟨g, 0, none⟩ 0 0 [] (by simp) (by simp) ⟨b, o, none⟩ l.length c (prs l) (prs_length l) (fun j u hj => prs_cell hc hj) (by omega) (by unfold maxLen; omega) (by omega)
    refine ⟨v', w', hr, .inr ⟨hl, by simpa using h2⟩, ⟨h3.os, h3.tape, h3.output, h3.size, fun k hk => h3.block k hk (by simp)⟩⟩
theorem step_append_fresh {P : Program} (w : World) {ops : Array Oper} {o : Oper} {a : Act} {K : Act → World → Prop} {Q : Exit → Act → World → Prop} {E : Prop} (hgd : o.guard = none) (s x : Operand) (t : TypeId)
    (ho : o.op = .call { callee := .builtin .append, args := #[s, x], argTypes := #[t, t] })
    (e : TypeId) (i : TypeInfo) (z : Value) (ht : P.underlying t = some (.slice e)) (hi : P.info? e = some i) (hz : i.zero = some z) (hsize : i.size = 2) (hby : i.bytes = 16) (hzs : z.cells.size = 2)
    (g : Nat) (hs : a.eval s = .slice (some ⟨g, 0, none⟩) 0 0) (ad : Option Addr) (c : Nat) (l : List (Int × Int)) (hx : a.eval x = .slice ad l.length c) (hp : PairsAt w ad l) (hn : l.length ≤ 100000000)
    (h : ∀ a' c' w', ((l = [] ∧ Value.slice a' l.length c' = .slice (some ⟨g, 0, none⟩) 0 0) ∨ (l ≠ [] ∧ w'.ownsRow w.heap.size e 2 (.slice a' l.length c') l.length (prs l))) → Below w.heap.size w w' → K (a.put o.dst (.slice a' l.length c')) w') :
    if Region.wanted o (yielded ops a.tmps) = true then Oper.wp P o a w K Q else E := by
  have hw : Region.wanted o (yielded ops a.tmps) = true := by simp [Region.wanted, hgd]
  rw [if_pos hw]
  obtain ⟨v', w', hr, h2, h3⟩ := run_append_fresh w t o.type e i z ht hi hz hsize hby hzs g ad c l hp hn
  unfold Oper.wp execOp
  simp only [ho, resolve, invoke, builtin, Sem.run_bind, Sem.run_pure, Result.andThen_ok, List.map_toArray, List.map_cons, List.map_nil, hs, hx, hr]
  obtain ⟨a', c', e'⟩ : ∃ a' c', v' = .slice a' l.length c' := by
    rcases h2 with ⟨rfl, rfl⟩ | ⟨_, h2⟩
    · exact ⟨_, _, rfl⟩
    · obtain ⟨a', c', e', -⟩ := pairsAt_own h2
      exact ⟨a', c', e'⟩
  subst e'
  exact h a' c' w' h2 h3

set_option maxHeartbeats 1000000 in
theorem l1Ints_any (a : Option Addr) (c : Nat) (l : List Int) (w : World) (h : IntsAt w a l) (h0 : 0 < l.length) (hn : l.length ≤ 1048576) :
    Calls Try.prog 107 #[.slice a l.length c] w fun e w' => (∃ v, e = .returned v ∧ w'.ownsRow w.heap.size 2 1 v l.length (nums l)) ∧ Below w.heap.size w w' := by
  obtain ⟨b, o, rfl, hb, hc⟩ := h.at h0
  obtain ⟨i0, hi, hz0, hz1, hz2⟩ := info_parts infoInt64
  have HC := hide hc
  clear h hc
  go_enter Try.func107, Try.ntmps107
  go_wp2_with (at_builtin; refine wpList_append_own_at _ rfl _ _ 24 rfl w.heap.size 2 i0 (.int .i64 0) 1 8 Try.underlying24 hi hz0 hz1 hz2 rfl (by decide) (.slice (some ⟨w.heap.size, 0, none⟩) 0 0) 0 [] rfl (World.ownsRow_made w #[] 0 (Nat.le_refl _) (by unfold maxLen; omega) rfl) ⟨b, o, none⟩ l.length c (nums l) rfl (by rw [nums_length]; omega) (fun j u hj => nums_cell (unhide HC) hb hj) (nums_oneCell l) (by unfold maxLen; omega) (by omega) (by simp) ?_; intro v' w1 hown hgrow hnil hloc)
  have HO := hide hown
  have HG := hide (((Below.refl _ w).alloc (Nat.le_refl _) _).grown hgrow (by simp) (by intro k hk; simp [Value.ownBlock] at hk; omega))
  clear hown hgrow hnil hloc
  go_wp2
  go_ret
  exact ⟨⟨v', rfl, by simpa using unhide HO⟩, unhide HG⟩

/-- What a cell holds. -/
def cv (w : World) (b i : Nat) : Value := (w.cell? ⟨b, i, none⟩).getD undef
theorem cv_some {w : World} {b i : Nat} {v : Value} (h : w.cell? ⟨b, i, none⟩ = some v) : w.cell? ⟨b, i, none⟩ = some (cv w b i) := by rw [cv, h]; rfl

/-- What holds while an answer of three cells at r is put together out of what lies at d. -/
def RS (w : World) (d o0 o1 o2 r : Nat) (V0 V1 V2 : Value) (w' : World) : Prop :=
  Below w.heap.size w w' ∧ w'.cell? ⟨d, o0, none⟩ = some V0 ∧ w'.cell? ⟨d, o1, none⟩ = some V1 ∧ w'.cell? ⟨d, o2, none⟩ = some V2 ∧
  w'.cell? ⟨r, 0, none⟩ = some (cv w' r 0) ∧ w'.cell? ⟨r, 1, none⟩ = some (cv w' r 1) ∧ w'.cell? ⟨r, 2, none⟩ = some (cv w' r 2) ∧
  w'.frozen? ⟨r, 0, none⟩ = false ∧ w'.frozen? ⟨r, 1, none⟩ = false ∧ w'.frozen? ⟨r, 2, none⟩ = false ∧ r < w'.heap.size

theorem RS.below {w w' w1 : World} {d o0 o1 o2 r : Nat} {V0 V1 V2 : Value} (hd : d < w.heap.size) (h : RS w d o0 o1 o2 r V0 V1 V2 w') (hb : Below w'.heap.size w' w1) : RS w d o0 o1 o2 r V0 V1 V2 w1 := by
  obtain ⟨h0, c0, c1, c2, r0, r1, r2, f0, f1, f2, hr⟩ := h
  have hz := h0.size
  have hc := (bcell hb).1
  have hf := (bcell hb).2
  exact ⟨h0.trans (hb.mono hz), (hc _ _ (by omega)).trans c0, (hc _ _ (by omega)).trans c1, (hc _ _ (by omega)).trans c2, cv_some ((hc _ _ hr).trans r0), cv_some ((hc _ _ hr).trans r1), cv_some ((hc _ _ hr).trans r2), (hf _ _ hr).trans f0, (hf _ _ hr).trans f1, (hf _ _ hr).trans f2, Nat.lt_of_lt_of_le hr hb.size⟩
theorem RS.alloc {w w' : World} {d o0 o1 o2 r : Nat} {V0 V1 V2 : Value} (hd : d < w.heap.size) (h : RS w d o0 o1 o2 r V0 V1 V2 w') (o : Obj) : RS w d o0 o1 o2 r V0 V1 V2 (w'.alloc o) := h.below hd ((Below.refl _ _).alloc (Nat.le_refl _) _)
theorem RS.store {w w' : World} {d o0 o1 o2 r : Nat} {V0 V1 V2 a b c : Value} (hd : d < w.heap.size) (hr' : w.heap.size ≤ r) (h : RS w d o0 o1 o2 r V0 V1 V2 w') : RS w d o0 o1 o2 r V0 V1 V2 (((w'.setCell ⟨r, 0, none⟩ a).setCell ⟨r, 1, none⟩ b).setCell ⟨r, 2, none⟩ c) := by
  obtain ⟨h0, c0, c1, c2, r0, r1, r2, f0, f1, f2, hr⟩ := h
  have hk : ∀ q, q ≠ r → (((w'.setCell ⟨r, 0, none⟩ a).setCell ⟨r, 1, none⟩ b).setCell ⟨r, 2, none⟩ c).heap[q]? = w'.heap[q]? := fun q hq => (Below.heap_setCell _ _ _ q hq).trans ((Below.heap_setCell _ _ _ q hq).trans (Below.heap_setCell _ _ _ q hq))
  have hdc : ∀ i, (((w'.setCell ⟨r, 0, none⟩ a).setCell ⟨r, 1, none⟩ b).setCell ⟨r, 2, none⟩ c).cell? ⟨d, i, none⟩ = w'.cell? ⟨d, i, none⟩ := fun i => World.cell?_of_block (a := ⟨d, i, none⟩) (hk d (by omega))
  have hex : ∀ (W : World) (p : Addr) (v : Value) (i : Nat) (x : Value), W.cell? ⟨r, i, none⟩ = some x → ∃ y, (W.setCell p v).cell? ⟨r, i, none⟩ = some y := fun W p v i x hx => by
    by_cases e : p = ⟨r, i, none⟩
    · subst e; exact ⟨v, World.cell?_setCell_same _ _ _ hx⟩
    · exact ⟨x, by rw [World.cell?_setCell_other _ _ _ _ e]; exact hx⟩
  have hch : ∀ i x, w'.cell? ⟨r, i, none⟩ = some x → (((w'.setCell ⟨r, 0, none⟩ a).setCell ⟨r, 1, none⟩ b).setCell ⟨r, 2, none⟩ c).cell? ⟨r, i, none⟩ = some (cv (((w'.setCell ⟨r, 0, none⟩ a).setCell ⟨r, 1, none⟩ b).setCell ⟨r, 2, none⟩ c) r i) := fun i x hx => by
    obtain ⟨y1, h1⟩ := hex _ ⟨r, 0, none⟩ a i _ hx
    obtain ⟨y2, h2⟩ := hex _ ⟨r, 1, none⟩ b i _ h1
    obtain ⟨y3, h3⟩ := hex _ ⟨r, 2, none⟩ c i _ h2
    exact cv_some h3
  refine ⟨((h0.setCell (p := ⟨r, 0, none⟩) hr' a).setCell (p := ⟨r, 1, none⟩) hr' b).setCell (p := ⟨r, 2, none⟩) hr' c, (hdc _).trans c0, (hdc _).trans c1, (hdc _).trans c2, hch 0 _ r0, hch 1 _ r1, hch 2 _ r2, ?_, ?_, ?_, ?_⟩
  · rw [World.frozen?_setCell, World.frozen?_setCell, World.frozen?_setCell]; exact f0
  · rw [World.frozen?_setCell, World.frozen?_setCell, World.frozen?_setCell]; exact f1
  · rw [World.frozen?_setCell, World.frozen?_setCell, World.frozen?_setCell]; exact f2
  · simpa [World.setCell] using hr

theorem keepR_below {w w' w1 : World} {d o0 o1 o2 r : Nat} {V0 V1 V2 : Value} (hd : d < w.heap.size) (h : Below w.heap.size w w' ∧ w'.cell? ⟨d, o0, none⟩ = some V0 ∧ w'.cell? ⟨d, o1, none⟩ = some V1 ∧ w'.cell? ⟨d, o2, none⟩ = some V2 ∧ w'.cell? ⟨r, 0, none⟩ = some (cv w' r 0) ∧ w'.cell? ⟨r, 1, none⟩ = some (cv w' r 1) ∧ w'.cell? ⟨r, 2, none⟩ = some (cv w' r 2) ∧ w'.frozen? ⟨r, 0, none⟩ = false ∧ w'.frozen? ⟨r, 1, none⟩ = false ∧ w'.frozen? ⟨r, 2, none⟩ = false ∧ r < w'.heap.size) (hb : Below w'.heap.size w' w1) : Below w.heap.size w w1 ∧ w1.cell? ⟨d, o0, none⟩ = some V0 ∧ w1.cell? ⟨d, o1, none⟩ = some V1 ∧ w1.cell? ⟨d, o2, none⟩ = some V2 ∧ w1.cell? ⟨r, 0, none⟩ = some (cv w1 r 0) ∧ w1.cell? ⟨r, 1, none⟩ = some (cv w1 r 1) ∧ w1.cell? ⟨r, 2, none⟩ = some (cv w1 r 2) ∧ w1.frozen? ⟨r, 0, none⟩ = false ∧ w1.frozen? ⟨r, 1, none⟩ = false ∧ w1.frozen? ⟨r, 2, none⟩ = false ∧ r < w1.heap.size := RS.below hd h hb
theorem keepR_alloc {w w' : World} {d o0 o1 o2 r : Nat} {V0 V1 V2 : Value} (hd : d < w.heap.size) (h : Below w.heap.size w w' ∧ w'.cell? ⟨d, o0, none⟩ = some V0 ∧ w'.cell? ⟨d, o1, none⟩ = some V1 ∧ w'.cell? ⟨d, o2, none⟩ = some V2 ∧ w'.cell? ⟨r, 0, none⟩ = some (cv w' r 0) ∧ w'.cell? ⟨r, 1, none⟩ = some (cv w' r 1) ∧ w'.cell? ⟨r, 2, none⟩ = some (cv w' r 2) ∧ w'.frozen? ⟨r, 0, none⟩ = false ∧ w'.frozen? ⟨r, 1, none⟩ = false ∧ w'.frozen? ⟨r, 2, none⟩ = false ∧ r < w'.heap.size) (o : Obj) : Below w.heap.size w (w'.alloc o) ∧ (w'.alloc o).cell? ⟨d, o0, none⟩ = some V0 ∧ (w'.alloc o).cell? ⟨d, o1, none⟩ = some V1 ∧ (w'.alloc o).cell? ⟨d, o2, none⟩ = some V2 ∧ (w'.alloc o).cell? ⟨r, 0, none⟩ = some (cv (w'.alloc o) r 0) ∧ (w'.alloc o).cell? ⟨r, 1, none⟩ = some (cv (w'.alloc o) r 1) ∧ (w'.alloc o).cell? ⟨r, 2, none⟩ = some (cv (w'.alloc o) r 2) ∧ (w'.alloc o).frozen? ⟨r, 0, none⟩ = false ∧ (w'.alloc o).frozen? ⟨r, 1, none⟩ = false ∧ (w'.alloc o).frozen? ⟨r, 2, none⟩ = false ∧ r < (w'.alloc o).heap.size := RS.alloc hd h o
theorem keepR_allocD {w w' : World} {d o0 o1 o2 r : Nat} {V0 V1 V2 : Value} (hd : d < w.heap.size) (h : Below w.heap.size w w'.drew ∧ w'.drew.cell? ⟨d, o0, none⟩ = some V0 ∧ w'.drew.cell? ⟨d, o1, none⟩ = some V1 ∧ w'.drew.cell? ⟨d, o2, none⟩ = some V2 ∧ w'.drew.cell? ⟨r, 0, none⟩ = some (cv w'.drew r 0) ∧ w'.drew.cell? ⟨r, 1, none⟩ = some (cv w'.drew r 1) ∧ w'.drew.cell? ⟨r, 2, none⟩ = some (cv w'.drew r 2) ∧ w'.drew.frozen? ⟨r, 0, none⟩ = false ∧ w'.drew.frozen? ⟨r, 1, none⟩ = false ∧ w'.drew.frozen? ⟨r, 2, none⟩ = false ∧ r < w'.drew.heap.size) (o : Obj) : Below w.heap.size w (w'.alloc o).drew ∧ (w'.alloc o).drew.cell? ⟨d, o0, none⟩ = some V0 ∧ (w'.alloc o).drew.cell? ⟨d, o1, none⟩ = some V1 ∧ (w'.alloc o).drew.cell? ⟨d, o2, none⟩ = some V2 ∧ (w'.alloc o).drew.cell? ⟨r, 0, none⟩ = some (cv (w'.alloc o).drew r 0) ∧ (w'.alloc o).drew.cell? ⟨r, 1, none⟩ = some (cv (w'.alloc o).drew r 1) ∧ (w'.alloc o).drew.cell? ⟨r, 2, none⟩ = some (cv (w'.alloc o).drew r 2) ∧ (w'.alloc o).drew.frozen? ⟨r, 0, none⟩ = false ∧ (w'.alloc o).drew.frozen? ⟨r, 1, none⟩ = false ∧ (w'.alloc o).drew.frozen? ⟨r, 2, none⟩ = false ∧ r < (w'.alloc o).drew.heap.size := RS.alloc (w' := w'.drew) hd h o
theorem rs_lt {w w' : World} {d o0 o1 o2 r : Nat} {V0 V1 V2 : Value} (h : Below w.heap.size w w' ∧ w'.cell? ⟨d, o0, none⟩ = some V0 ∧ w'.cell? ⟨d, o1, none⟩ = some V1 ∧ w'.cell? ⟨d, o2, none⟩ = some V2 ∧ w'.cell? ⟨r, 0, none⟩ = some (cv w' r 0) ∧ w'.cell? ⟨r, 1, none⟩ = some (cv w' r 1) ∧ w'.cell? ⟨r, 2, none⟩ = some (cv w' r 2) ∧ w'.frozen? ⟨r, 0, none⟩ = false ∧ w'.frozen? ⟨r, 1, none⟩ = false ∧ w'.frozen? ⟨r, 2, none⟩ = false ∧ r < w'.heap.size) : r + 1 ≤ w'.heap.size := h.2.2.2.2.2.2.2.2.2.2
theorem keepR_store {w w' : World} {d o0 o1 o2 r : Nat} {V0 V1 V2 a b c : Value} (hd : d < w.heap.size) (hr' : w.heap.size ≤ r) (h : Below w.heap.size w w' ∧ w'.cell? ⟨d, o0, none⟩ = some V0 ∧ w'.cell? ⟨d, o1, none⟩ = some V1 ∧ w'.cell? ⟨d, o2, none⟩ = some V2 ∧ w'.cell? ⟨r, 0, none⟩ = some (cv w' r 0) ∧ w'.cell? ⟨r, 1, none⟩ = some (cv w' r 1) ∧ w'.cell? ⟨r, 2, none⟩ = some (cv w' r 2) ∧ w'.frozen? ⟨r, 0, none⟩ = false ∧ w'.frozen? ⟨r, 1, none⟩ = false ∧ w'.frozen? ⟨r, 2, none⟩ = false ∧ r < w'.heap.size) : Below w.heap.size w (((w'.setCell ⟨r, 0, none⟩ a).setCell ⟨r, 1, none⟩ b).setCell ⟨r, 2, none⟩ c) ∧ (((w'.setCell ⟨r, 0, none⟩ a).setCell ⟨r, 1, none⟩ b).setCell ⟨r, 2, none⟩ c).cell? ⟨d, o0, none⟩ = some V0 ∧ (((w'.setCell ⟨r, 0, none⟩ a).setCell ⟨r, 1, none⟩ b).setCell ⟨r, 2, none⟩ c).cell? ⟨d, o1, none⟩ = some V1 ∧ (((w'.setCell ⟨r, 0, none⟩ a).setCell ⟨r, 1, none⟩ b).setCell ⟨r, 2, none⟩ c).cell? ⟨d, o2, none⟩ = some V2 ∧ (((w'.setCell ⟨r, 0, none⟩ a).setCell ⟨r, 1, none⟩ b).setCell ⟨r, 2, none⟩ c).cell? ⟨r, 0, none⟩ = some (cv (((w'.setCell ⟨r, 0, none⟩ a).setCell ⟨r, 1, none⟩ b).setCell ⟨r, 2, none⟩ c) r 0) ∧ (((w'.setCell ⟨r, 0, none⟩ a).setCell ⟨r, 1, none⟩ b).setCell ⟨r, 2, none⟩ c).cell? ⟨r, 1, none⟩ = some (cv (((w'.setCell ⟨r, 0, none⟩ a).setCell ⟨r, 1, none⟩ b).setCell ⟨r, 2, none⟩ c) r 1) ∧ (((w'.setCell ⟨r, 0, none⟩ a).setCell ⟨r, 1, none⟩ b).setCell ⟨r, 2, none⟩ c).cell? ⟨r, 2, none⟩ = some (cv (((w'.setCell ⟨r, 0, none⟩ a).setCell ⟨r, 1, none⟩ b).setCell ⟨r, 2, none⟩ c) r 2) ∧ (((w'.setCell ⟨r, 0, none⟩ a).setCell ⟨r, 1, none⟩ b).setCell ⟨r, 2, none⟩ c).frozen? ⟨r, 0, none⟩ = false ∧ (((w'.setCell ⟨r, 0, none⟩ a).setCell ⟨r, 1, none⟩ b).setCell ⟨r, 2, none⟩ c).frozen? ⟨r, 1, none⟩ = false ∧ (((w'.setCell ⟨r, 0, none⟩ a).setCell ⟨r, 1, none⟩ b).setCell ⟨r, 2, none⟩ c).frozen? ⟨r, 2, none⟩ = false ∧ r < (((w'.setCell ⟨r, 0, none⟩ a).setCell ⟨r, 1, none⟩ b).setCell ⟨r, 2, none⟩ c).heap.size := RS.store hd hr' h

/-- A device of the specification's own: its words, and its cells or none. -/
structure SDev (w : World) (base : Nat) (v1 v2 v3 : Value) (D : Dev) : Prop where
  o1 : w.ownsRow base 2 1 v1 D.words.length (nums D.words)
  o2 : RowW w base v2 D.flights
  o3 : RowW w base v3 D.over
  n12 : D.flights ≠ [] → ∀ q, v1.ownBlock = some q → v2.ownBlock ≠ some q
  n13 : D.over ≠ [] → ∀ q, v1.ownBlock = some q → v3.ownBlock ≠ some q
  n23 : D.flights ≠ [] → D.over ≠ [] → ∀ q, v2.ownBlock = some q → v3.ownBlock ≠ some q

theorem fresh_keep {w w' : World} {base base' : Nat} {g : Nat} {v : Value} {l : List (Int × Int)} (h : (l = [] ∧ v = .slice (some ⟨g, 0, none⟩) 0 0) ∨ (l ≠ [] ∧ w.ownsRow base 42 2 v l.length (prs l))) (hb : Below w.heap.size w w') (hbase : base' ≤ base) : RowW w' base' v l := by
  rcases h with ⟨h1, h2⟩ | ⟨h1, h⟩
  · exact .inl ⟨h1, _, h2, .inr ⟨g, rfl⟩⟩
  · exact .inr ⟨h1, own_base (own_below h hb) (fun q hq => Nat.le_trans hbase (h.lt q hq).1)⟩
theorem fresh_lt {w : World} {base : Nat} {g : Nat} {v : Value} {l : List (Int × Int)} (h : (l = [] ∧ v = .slice (some ⟨g, 0, none⟩) 0 0) ∨ (l ≠ [] ∧ w.ownsRow base 42 2 v l.length (prs l))) (hl : l ≠ []) : ∀ q, v.ownBlock = some q → base ≤ q ∧ q < w.heap.size := by
  rcases h with ⟨h1, _⟩ | ⟨_, h⟩
  · exact absurd h1 hl
  · exact h.lt

theorem below_undrew {w w' : World} (h : Below w.drew.heap.size w.drew w') : Below w.heap.size w w' := ⟨h.os, h.tape, h.output, h.size, h.block⟩
theorem fresh_base {w : World} {base base' : Nat} {g : Nat} {v : Value} {l : List (Int × Int)} (h : (l = [] ∧ v = .slice (some ⟨g, 0, none⟩) 0 0) ∨ (l ≠ [] ∧ w.ownsRow base 42 2 v l.length (prs l))) (hb : base' ≤ base) : (l = [] ∧ v = .slice (some ⟨g, 0, none⟩) 0 0) ∨ (l ≠ [] ∧ w.ownsRow base' 42 2 v l.length (prs l)) := by
  rcases h with h | ⟨h1, h⟩
  · exact .inl h
  · exact .inr ⟨h1, own_base h (fun q hq => Nat.le_trans hb (h.lt q hq).1)⟩
theorem fresh_after {w w' : World} {base : Nat} {g : Nat} {v : Value} {l : List (Int × Int)} (h : (l = [] ∧ v = .slice (some ⟨g, 0, none⟩) 0 0) ∨ (l ≠ [] ∧ w.ownsRow base 42 2 v l.length (prs l))) (hb : Below w.heap.size w w') : (l = [] ∧ v = .slice (some ⟨g, 0, none⟩) 0 0) ∨ (l ≠ [] ∧ w'.ownsRow base 42 2 v l.length (prs l)) := by
  rcases h with h | ⟨h1, h⟩
  · exact .inl h
  · exact .inr ⟨h1, own_below h hb⟩
theorem fresh_out {F : Nat → Prop} {w w' : World} {base base' : Nat} {g : Nat} {v : Value} {l : List (Int × Int)} (h : (l = [] ∧ v = .slice (some ⟨g, 0, none⟩) 0 0) ∨ (l ≠ [] ∧ w.ownsRow base 42 2 v l.length (prs l))) (ho : Out F w w') (hb : base' ≤ base) (hF : ∀ q, base ≤ q → ¬ F q) : RowW w' base' v l := by
  rcases h with ⟨h1, h2⟩ | ⟨h1, h⟩
  · exact .inl ⟨h1, _, h2, .inr ⟨g, rfl⟩⟩
  · exact .inr ⟨h1, own_base (ho.own h (fun q hq => hF q (h.lt q hq).1)) (fun q hq => Nat.le_trans hb (h.lt q hq).1)⟩

set_option maxRecDepth 20000 in
set_option maxHeartbeats 4000000 in
theorem l2Copy_any (d : Nat) (t : TypeId) (a1 a2 a3 : Option Addr) (c1 c2 c3 : Nat) (D : Dev) (w : World) (hx : Box w d [.slice a1 D.words.length c1, .slice a2 D.flights.length c2, .slice a3 D.over.length c3] t) (h : DevAt w a1 a2 a3 D) (h0 : 0 < D.words.length) (n1 : D.words.length ≤ 1048576) (n2 : D.flights.length ≤ 1048576) (n3 : D.over.length ≤ 1048576) :
    Calls Try.prog 78 #[.pointer (some ⟨d, 0, none⟩)] w fun e w' => (∃ v1 v2 v3, e = .returned (.agg #[v1, v2, v3]) ∧ SDev w' w.heap.size v1 v2 v3 D) ∧ Below w.heap.size w w' := by
  obtain ⟨i0, hi, hz0, hz1, hz2⟩ := info_parts infoCell
  have hlt := hx.lt
  have q0 := hx.cell 0
  have q1 := hx.cell 1
  have q2 := hx.cell 2
  simp at q0 q1 q2
  have H := hide h
  clear h
  obtain ⟨W, hW, z1, hb, hr⟩ := boxes1 w [.slice none 0 0, .slice none 0 0, .slice none 0 0] 27
  have hS : RS w d 0 1 2 w.heap.size (.slice a1 D.words.length c1) (.slice a2 D.flights.length c2) (.slice a3 D.over.length c3) W.drew :=
    ⟨(unhide hb).drew, ((bcell (unhide hb)).1 _ _ hlt).trans q0, ((bcell (unhide hb)).1 _ _ hlt).trans q1, ((bcell (unhide hb)).1 _ _ hlt).trans q2, cv_some (w := W.drew) ((unhide hr).cell 0), cv_some (w := W.drew) ((unhide hr).cell 1), cv_some (w := W.drew) ((unhide hr).cell 2), (unhide hr).frozen 0, (unhide hr).frozen 1, (unhide hr).frozen 2, (unhide hr).lt⟩
  have HS : Hid (Below w.heap.size w W.drew ∧ W.drew.cell? ⟨d, 0, none⟩ = some (.slice a1 D.words.length c1) ∧ W.drew.cell? ⟨d, 1, none⟩ = some (.slice a2 D.flights.length c2) ∧ W.drew.cell? ⟨d, 2, none⟩ = some (.slice a3 D.over.length c3) ∧ W.drew.cell? ⟨w.heap.size, 0, none⟩ = some (cv W.drew w.heap.size 0) ∧ W.drew.cell? ⟨w.heap.size, 1, none⟩ = some (cv W.drew w.heap.size 1) ∧ W.drew.cell? ⟨w.heap.size, 2, none⟩ = some (cv W.drew w.heap.size 2) ∧ W.drew.frozen? ⟨w.heap.size, 0, none⟩ = false ∧ W.drew.frozen? ⟨w.heap.size, 1, none⟩ = false ∧ W.drew.frozen? ⟨w.heap.size, 2, none⟩ = false ∧ w.heap.size < W.drew.heap.size) := hS
  have hsub : ∀ w', (Below w.heap.size w w' ∧ w'.cell? ⟨d, 0, none⟩ = some (.slice a1 D.words.length c1) ∧ w'.cell? ⟨d, 1, none⟩ = some (.slice a2 D.flights.length c2) ∧ w'.cell? ⟨d, 2, none⟩ = some (.slice a3 D.over.length c3) ∧ w'.cell? ⟨w.heap.size, 0, none⟩ = some (cv w' w.heap.size 0) ∧ w'.cell? ⟨w.heap.size, 1, none⟩ = some (cv w' w.heap.size 1) ∧ w'.cell? ⟨w.heap.size, 2, none⟩ = some (cv w' w.heap.size 2) ∧ w'.frozen? ⟨w.heap.size, 0, none⟩ = false ∧ w'.frozen? ⟨w.heap.size, 1, none⟩ = false ∧ w'.frozen? ⟨w.heap.size, 2, none⟩ = false ∧ w.heap.size < w'.heap.size) → DevAt w' a1 a2 a3 D := fun w' h => (unhide H).below h.1
  have HSUB := hide hsub
  clear hsub hS q0 q1 q2 hx
  go_enter Try.func78, Try.ntmps78
  go_wp2_with fail
  rw [← hW]
  clear hW
  go_region_held3 (fun w' => Below w.heap.size w w' ∧ w'.cell? ⟨d, 0, none⟩ = some (.slice a1 D.words.length c1) ∧ w'.cell? ⟨d, 1, none⟩ = some (.slice a2 D.flights.length c2) ∧ w'.cell? ⟨d, 2, none⟩ = some (.slice a3 D.over.length c3) ∧ w'.cell? ⟨w.heap.size, 0, none⟩ = some (cv w' w.heap.size 0) ∧ w'.cell? ⟨w.heap.size, 1, none⟩ = some (cv w' w.heap.size 1) ∧ w'.cell? ⟨w.heap.size, 2, none⟩ = some (cv w' w.heap.size 2) ∧ w'.frozen? ⟨w.heap.size, 0, none⟩ = false ∧ w'.frozen? ⟨w.heap.size, 1, none⟩ = false ∧ w'.frozen? ⟨w.heap.size, 2, none⟩ = false ∧ w.heap.size < w'.heap.size) (first | with_reducible exact unhide HS | with_reducible exact keepR_below hlt (by assumption) (by assumption) | with_reducible exact keepR_alloc hlt (by assumption) _ | with_reducible exact keepR_allocD hlt (by assumption) _ | with_reducible exact keepR_store hlt (Nat.le_refl _) (by assumption))
    (first
      | (go_at_call 107; refine (l1Ints_any a1 c1 D.words _ (unhide HSUB _ (by assumption)).r1 h0 n1).mono ?_; rintro e w5 ⟨⟨u1, rfl, hO5⟩, hb5⟩; obtain ⟨p1, e1, ee, -⟩ := intsAt_own hO5; subst ee; have X5 : Hid (Below W.heap.size W w5) := (by first | exact below_undrew hb5 | exact below_step ((Below.refl _ W).alloc (Nat.le_refl _) _) (below_undrew hb5) (by simp) | exact below_step (((Below.refl _ W).alloc (Nat.le_refl _) _).alloc (by simp) _) (below_undrew hb5) (by simp; omega)); have G5 : Hid (w5.ownsRow (w.heap.size + 1) 2 1 (.slice p1 D.words.length e1) D.words.length (nums D.words)) := own_base hO5 (fun q hq => Nat.le_trans (rs_lt (by assumption)) (hO5.lt q hq).1); clear hO5)
      | (refine step_append_fresh _ rfl _ _ 25 rfl 42 i0 _ Try.underlying25 hi hz0 hz1 hz2 rfl _ rfl a2 c2 D.flights rfl (unhide HSUB _ (by assumption)).r2 (by omega) ?_; intro p2 e2 w6 hO6 hb6; have X6 : Hid (Below w5.heap.size w5 w6) := (by first | exact hb6 | exact below_step ((Below.refl _ w5).alloc (Nat.le_refl _) _) hb6 (by simp) | exact below_step (((Below.refl _ w5).alloc (Nat.le_refl _) _).alloc (by simp) _) hb6 (by simp; omega)); have G6 := hide (fresh_base (base' := w5.heap.size) hO6 (by first | exact Nat.le_refl _ | (simp; done) | (simp; omega))); clear hO6)
      | (refine step_append_fresh _ rfl _ _ 25 rfl 42 i0 _ Try.underlying25 hi hz0 hz1 hz2 rfl _ rfl a3 c3 D.over rfl (unhide HSUB _ (by assumption)).r3 (by omega) ?_; intro p3 e3 w7 hO7 hb7; have X7 : Hid (Below w6.heap.size w6 w7) := (by first | exact hb7 | exact below_step ((Below.refl _ w6).alloc (Nat.le_refl _) _) hb7 (by simp)); have G7 := hide (fresh_base (base' := w6.heap.size) hO7 (by first | exact Nat.le_refl _ | (simp; done) | (simp; omega))); clear hO7))
  all_goals
    rename_i hHF
    have BF := hide hHF.1
    clear hHF
    have z5 := (unhide X5).size
    have z6 := (unhide X6).size
    have z7 := (unhide X7).size
    have X57 := hide (below_step (unhide X6) (unhide X7) z6)
    have X7r := hide (((unhide hr).below (unhide X5)).below (unhide X57))
    generalize hU : ((w7.setCell _ _).setCell _ _).setCell _ _ = U at *
    obtain ⟨XU, OU⟩ := store3' (unhide X7r) hU
    clear hU
    have o1 := (unhide OU).own (own_below (unhide G5) (unhide X57)) (fun q hq e => by have := ((unhide G5).lt q hq).1; omega)
    have L1 := fun q hq => (unhide G5).lt q hq
    have L2 := fun hl => fresh_lt (unhide G6) hl
    have L3 := fun hl => fresh_lt (unhide G7) hl
    have t0 := (unhide XU).cell 0
    have t1 := (unhide XU).cell 1
    have t2 := (unhide XU).cell 2
    simp at t0 t1 t2
    have SD : Hid (SDev U w.heap.size (.slice p1 D.words.length e1) (.slice p2 D.flights.length e2) (.slice p3 D.over.length e3) D) := by
      refine ⟨own_base o1 (fun q hq => by have := (L1 q hq).1; omega), ?_, ?_, ?_, ?_, ?_⟩
      · exact fresh_out (fresh_base (base' := w5.heap.size) (fresh_after (unhide G6) (unhide X7)) (Nat.le_refl _)) (unhide OU) (by omega) (fun q hq e => by omega)
      · exact fresh_out (unhide G7) (unhide OU) (by omega) (fun q hq e => by omega)
      · exact fun hl q hq h2 => by have := (L2 hl q h2).1; have := (L1 q hq).2; omega
      · exact fun hl q hq h2 => by have := (L3 hl q h2).1; have := (L1 q hq).2; omega
      · exact fun hl hl3 q hq h2 => by have := (L3 hl3 q h2).1; have := (L2 hl q hq).2; omega
    clear o1 L1 L2 L3
    go_wp2_with fail
    refine bodyPost_ret (v := .agg #[.slice p1 D.words.length e1, .slice p2 D.flights.length e2, .slice p3 D.over.length e3]) (by simp [results, Try.results78, go_sem, t0, t1, t2]) rfl ⟨⟨_, _, _, rfl, unhide SD⟩, unhide BF⟩
end Go.Proofs.Ytdnfadbkpajloaa
