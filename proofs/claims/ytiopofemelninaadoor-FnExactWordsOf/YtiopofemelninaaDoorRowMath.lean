/-
  Rows of numbers and of pairs in memory, and what outlives which change (no Go in sight).
-/
import Derived.Test.YtiopofemelninaaDoorBase
import Derived.ProofKit
import Derived.OwnWalk
import Derived.Maps.OwnSet
namespace Go.Proofs.YtiopofemelninaaDoor
open Go.RowKit

def nums (l : List Int) : List Value := l.map (Value.int .i64)
def prs (l : List (Int × Int)) : List Value := l.flatMap fun c => [.int .i64 c.1, .int .i64 c.2]
theorem nums_length (l : List Int) : (nums l).length = l.length := by simp [nums]
theorem nums_at {l : List Int} {i : Nat} (h : i < l.length) : (nums l)[i]? = some (.int .i64 l[i]) := by simp [nums, h]
theorem nums_set (l : List Int) (i : Nat) (x : Int) : (nums l).set i (.int .i64 x) = nums (l.set i x) := by simp [nums, List.map_set]
theorem nums_append (l m : List Int) : nums (l ++ m) = nums l ++ nums m := by simp [nums]
theorem nums_one (x : Int) : nums [x] = [.int .i64 x] := rfl
theorem prs_nil : prs [] = [] := rfl
theorem prs_cons (c : Int × Int) (l : List (Int × Int)) : prs (c :: l) = .int .i64 c.1 :: .int .i64 c.2 :: prs l := by simp [prs]
theorem prs_one (c : Int × Int) : prs [c] = [.int .i64 c.1, .int .i64 c.2] := by simp [prs]
theorem prs_append (l m : List (Int × Int)) : prs (l ++ m) = prs l ++ prs m := by simp [prs]
theorem prs_length (l : List (Int × Int)) : (prs l).length = l.length * 2 := by
  induction l with
  | nil => rfl
  | cons c l ih => rw [prs_cons]; simp only [List.length_cons, ih]; omega
theorem prs_at {l : List (Int × Int)} : ∀ {i : Nat} (h : i < l.length), (prs l)[i * 2]? = some (.int .i64 l[i].1) ∧ (prs l)[i * 2 + 1]? = some (.int .i64 l[i].2) := by
  induction l with
  | nil => intro i h; simp at h
  | cons c l ih =>
    intro i h
    rw [prs_cons]
    cases i with
    | zero => simp
    | succ i =>
      have := ih (i := i) (by simpa using h)
      have e : (i + 1) * 2 = i * 2 + 1 + 1 := by omega
      rw [e]
      simpa using this
theorem prs_set {l : List (Int × Int)} : ∀ (i : Nat) (c : Int × Int), ((prs l).set (i * 2) (.int .i64 c.1)).set (i * 2 + 1) (.int .i64 c.2) = prs (l.set i c) := by
  induction l with
  | nil => intro i c; simp [prs]
  | cons d l ih =>
    intro i c
    rw [prs_cons]
    cases i with
    | zero => simp [prs_cons]
    | succ i =>
      have e : (i + 1) * 2 = i * 2 + 1 + 1 := by omega
      rw [e]
      simp only [List.set_cons_succ, prs_cons, ih]

/-- The numbers l lie at a (nothing is asked where there are none). -/
def IntsAt (w : World) (a : Option Addr) (l : List Int) : Prop :=
  l = [] ∨ ∃ b o, a = some ⟨b, o, none⟩ ∧ b < w.heap.size ∧ ∀ i (h : i < l.length), w.cell? ⟨b, o + i, none⟩ = some (.int .i64 l[i])
/-- The pairs l lie at a. -/
def PairsAt (w : World) (a : Option Addr) (l : List (Int × Int)) : Prop :=
  l = [] ∨ ∃ b o, a = some ⟨b, o, none⟩ ∧ b < w.heap.size ∧ ∀ i (h : i < l.length), w.cell? ⟨b, o + i * 2, none⟩ = some (.int .i64 l[i].1) ∧ w.cell? ⟨b, o + i * 2 + 1, none⟩ = some (.int .i64 l[i].2)

theorem IntsAt.at {w : World} {a : Option Addr} {l : List Int} (h : IntsAt w a l) {k : Nat} (hk : k < l.length) :
    ∃ b o, a = some ⟨b, o, none⟩ ∧ b < w.heap.size ∧ ∀ i (h : i < l.length), w.cell? ⟨b, o + i, none⟩ = some (.int .i64 l[i]) := by
  rcases h with rfl | h
  · simp at hk
  · exact h
theorem PairsAt.at {w : World} {a : Option Addr} {l : List (Int × Int)} (h : PairsAt w a l) {k : Nat} (hk : k < l.length) :
    ∃ b o, a = some ⟨b, o, none⟩ ∧ b < w.heap.size ∧ ∀ i (h : i < l.length), w.cell? ⟨b, o + i * 2, none⟩ = some (.int .i64 l[i].1) ∧ w.cell? ⟨b, o + i * 2 + 1, none⟩ = some (.int .i64 l[i].2) := by
  rcases h with rfl | h
  · simp at hk
  · exact h
theorem IntsAt.keep {w w' : World} {a : Option Addr} {l : List Int} (h : IntsAt w a l) (hz : w.heap.size ≤ w'.heap.size) (hk : ∀ x, a = some x → x.block < w.heap.size → w'.heap[x.block]? = w.heap[x.block]?) : IntsAt w' a l := by
  rcases h with rfl | ⟨b, o, rfl, hlt, hc⟩
  · exact .inl rfl
  · exact .inr ⟨b, o, rfl, by omega, fun i hi => (World.cell?_of_block (a := ⟨b, o + i, none⟩) (hk ⟨b, o, none⟩ rfl hlt)).trans (hc i hi)⟩
theorem PairsAt.keep {w w' : World} {a : Option Addr} {l : List (Int × Int)} (h : PairsAt w a l) (hz : w.heap.size ≤ w'.heap.size) (hk : ∀ x, a = some x → x.block < w.heap.size → w'.heap[x.block]? = w.heap[x.block]?) : PairsAt w' a l := by
  rcases h with rfl | ⟨b, o, rfl, hlt, hc⟩
  · exact .inl rfl
  · exact .inr ⟨b, o, rfl, by omega, fun i hi => ⟨(World.cell?_of_block (a := ⟨b, o + i * 2, none⟩) (hk ⟨b, o, none⟩ rfl hlt)).trans (hc i hi).1, (World.cell?_of_block (a := ⟨b, o + i * 2 + 1, none⟩) (hk ⟨b, o, none⟩ rfl hlt)).trans (hc i hi).2⟩⟩
theorem IntsAt.below {w w' : World} {a : Option Addr} {l : List Int} (h : IntsAt w a l) (hb : Below w.heap.size w w') : IntsAt w' a l := h.keep hb.size fun _ _ hx => hb.block _ hx
theorem PairsAt.below {w w' : World} {a : Option Addr} {l : List (Int × Int)} (h : PairsAt w a l) (hb : Below w.heap.size w w') : PairsAt w' a l := h.keep hb.size fun _ _ hx => hb.block _ hx

theorem intsAt_own {w : World} {base n : Nat} {e : TypeId} {v : Value} {l : List Int} (h : w.ownsRow base e 1 v n (nums l)) :
    ∃ a c, v = .slice a l.length c ∧ n = l.length ∧ IntsAt w a l ∧ l.length ≤ c ∧ c ≤ maxLen := by
  have hn : n = l.length := by have := h.1; rw [nums_length] at this; omega
  subst hn
  rcases h.2 with ⟨rfl, h0⟩ | ⟨g, cap, cur, rfl, hg, hh, hn, hc, hs, ht⟩
  · exact ⟨none, 0, by rw [h0], rfl, .inl (List.length_eq_zero_iff.1 h0), by omega, by omega⟩
  · refine ⟨_, cap, rfl, rfl, ?_, hn, hc⟩
    by_cases h0 : l = []
    · exact .inl h0
    · refine .inr ⟨g, 0, rfl, (Array.getElem?_eq_some_iff.1 hh).1, fun i hi => ?_⟩
      rw [Nat.zero_add, h.cellAt i (by omega)]
      exact nums_at hi
theorem intsAt_own1 {w : World} {base n m c : Nat} {e : TypeId} {a : Option Addr} {l : List Int} (h : w.ownsRow base e 1 (.slice a m c) n (nums l)) : IntsAt w a l := by
  obtain ⟨_, _, hv, _, hi, _⟩ := intsAt_own h
  cases hv
  exact hi
theorem pairsAt_own {w : World} {base n : Nat} {e : TypeId} {v : Value} {l : List (Int × Int)} (h : w.ownsRow base e 2 v n (prs l)) :
    ∃ a c, v = .slice a l.length c ∧ n = l.length ∧ PairsAt w a l ∧ l.length ≤ c ∧ c ≤ maxLen := by
  have hn : n = l.length := by have := h.1; rw [prs_length] at this; omega
  subst hn
  rcases h.2 with ⟨rfl, h0⟩ | ⟨g, cap, cur, rfl, hg, hh, hn, hc, hs, ht⟩
  · exact ⟨none, 0, by rw [h0], rfl, .inl (List.length_eq_zero_iff.1 h0), by omega, by omega⟩
  · refine ⟨_, cap, rfl, rfl, ?_, hn, hc⟩
    by_cases h0 : l = []
    · exact .inl h0
    · refine .inr ⟨g, 0, rfl, (Array.getElem?_eq_some_iff.1 hh).1, fun i hi => ?_⟩
      rw [Nat.zero_add, h.cellAt (i * 2) (by omega), h.cellAt (i * 2 + 1) (by omega)]
      exact prs_at hi

theorem own_stay {w w' : World} {base : Nat} {e : TypeId} {k : Nat} {v : Value} {n : Nat} {xs : List Value} (h : w.ownsRow base e k v n xs) (hk : ∀ q, v.ownBlock = some q → q < w.heap.size → w'.heap[q]? = w.heap[q]?) : w'.ownsRow base e k v n xs := by
  refine ⟨h.1, ?_⟩
  rcases h.2 with h2 | ⟨g, cap, cur, rfl, b, c, d⟩
  · exact .inl h2
  · exact .inr ⟨g, cap, cur, rfl, b, (hk g rfl (Array.getElem?_eq_some_iff.1 c).1).trans c, d⟩
theorem own_below {w w' : World} {base : Nat} {e : TypeId} {k : Nat} {v : Value} {n : Nat} {xs : List Value} (h : w.ownsRow base e k v n xs) (hb : Below w.heap.size w w') : w'.ownsRow base e k v n xs :=
  own_stay h fun q _ hq => hb.block q hq
theorem own_base {w : World} {base base' : Nat} {e : TypeId} {k : Nat} {v : Value} {n : Nat} {xs : List Value} (h : w.ownsRow base e k v n xs) (hb : ∀ q, v.ownBlock = some q → base' ≤ q) : w.ownsRow base' e k v n xs := by
  refine ⟨h.1, ?_⟩
  rcases h.2 with h2 | ⟨g, cap, cur, rfl, b, c, d⟩
  · exact .inl h2
  · exact .inr ⟨g, cap, cur, rfl, hb g rfl, c, d⟩

/-- Whatever was there outside F is as it was. -/
structure Out (F : Nat → Prop) (w w' : World) : Prop where
  os : w'.os = w.os
  tape : w'.tape = w.tape
  output : w'.output = w.output
  size : w.heap.size ≤ w'.heap.size
  block : ∀ q, q < w.heap.size → ¬ F q → w'.heap[q]? = w.heap[q]?
theorem Out.refl (F : Nat → Prop) (w : World) : Out F w w := ⟨rfl, rfl, rfl, Nat.le_refl _, fun _ _ _ => rfl⟩
theorem Out.trans {F G : Nat → Prop} {a b c : World} (h : Out F a b) (k : Out G b c) (hG : ∀ q, q < a.heap.size → G q → F q) : Out F a c :=
  ⟨k.os.trans h.os, k.tape.trans h.tape, k.output.trans h.output, Nat.le_trans h.size k.size, fun q hq hn => (k.block q (Nat.lt_of_lt_of_le hq h.size) (fun g => hn (hG q hq g))).trans (h.block q hq hn)⟩
theorem Out.weak {F G : Nat → Prop} {a b : World} (h : Out F a b) (hG : ∀ q, q < a.heap.size → F q → G q) : Out G a b := ⟨h.os, h.tape, h.output, h.size, fun q hq hn => h.block q hq (fun f => hn (hG q hq f))⟩
theorem Out.ofBelow {F : Nat → Prop} {w w' : World} (h : Below w.heap.size w w') : Out F w w' := ⟨h.os, h.tape, h.output, h.size, fun q hq _ => h.block q hq⟩
theorem Out.toBelow {F : Nat → Prop} {w w' : World} (h : Out F w w') {B : Nat} (hB : B ≤ w.heap.size) (hF : ∀ q, F q → B ≤ q) : Below B w w' :=
  ⟨h.os, h.tape, h.output, h.size, fun q hq => h.block q (by omega) (fun f => by have := hF q f; omega)⟩
theorem Out.ofGrown {w w' : World} {row : Option Nat} (h : w.grownBy w' row) : Out (fun q => some q = row) w w' := ⟨h.os, h.tape, h.output, h.size, fun q hq hn => h.block q hq hn⟩
theorem Out.cell {F : Nat → Prop} {w w' : World} (h : Out F w w') {b : Nat} (hb : b < w.heap.size) (hF : ¬ F b) (o : Nat) : w'.cell? ⟨b, o, none⟩ = w.cell? ⟨b, o, none⟩ := World.cell?_of_block (a := ⟨b, o, none⟩) (h.block b hb hF)
theorem Out.own {F : Nat → Prop} {w w' : World} (ho : Out F w w') {base : Nat} {e : TypeId} {k : Nat} {v : Value} {n : Nat} {xs : List Value} (h : w.ownsRow base e k v n xs) (hF : ∀ q, v.ownBlock = some q → ¬ F q) : w'.ownsRow base e k v n xs :=
  own_stay h fun q hq hl => ho.block q hl (hF q hq)
theorem Out.ints {F : Nat → Prop} {w w' : World} (ho : Out F w w') {a : Option Addr} {l : List Int} (h : IntsAt w a l) (hF : ∀ x, a = some x → ¬ F x.block) : IntsAt w' a l := h.keep ho.size fun x hx hl => ho.block _ hl (hF x hx)
theorem Out.pairs {F : Nat → Prop} {w w' : World} (ho : Out F w w') {a : Option Addr} {l : List (Int × Int)} (h : PairsAt w a l) (hF : ∀ x, a = some x → ¬ F x.block) : PairsAt w' a l := h.keep ho.size fun x hx hl => ho.block _ hl (hF x hx)
theorem Out.setCell {F : Nat → Prop} {w w' : World} (h : Out F w w') {p : Addr} (hp : F p.block ∨ w.heap.size ≤ p.block) (v : Value) : Out F w (w'.setCell p v) :=
  ⟨h.os, h.tape, h.output, by have := h.size; simp [World.setCell]; omega, fun q hq hn => (Below.heap_setCell w' p v q (by rintro rfl; rcases hp with hp | hp; (exact hn hp); omega)).trans (h.block q hq hn)⟩
theorem Out.alloc {F : Nat → Prop} {w w' : World} (h : Out F w w') (o : Obj) : Out F w (w'.alloc o) :=
  ⟨h.os, h.tape, h.output, by have := h.size; simp; omega, fun q hq hn => (Below.heap_alloc w' o q (Nat.lt_of_lt_of_le hq h.size)).trans (h.block q hq hn)⟩

theorem Out.undrew {F : Nat → Prop} {w w' : World} (h : Out F w.drew w') : Out F w w' := ⟨h.os, h.tape, h.output, h.size, h.block⟩
/-- A box: block b has just these cells. -/
def Box (w : World) (b : Nat) (cs : List Value) (t : TypeId) : Prop := w.heap[b]? = some (.cells cs.toArray t (0, 0))
theorem Box.lt {w : World} {b : Nat} {cs : List Value} {t : TypeId} (h : Box w b cs t) : b < w.heap.size := (Array.getElem?_eq_some_iff.1 h).1
theorem Box.cell {w : World} {b : Nat} {cs : List Value} {t : TypeId} (h : Box w b cs t) (i : Nat) : w.cell? ⟨b, i, none⟩ = cs[i]? := by
  unfold Box at h
  simp [World.cell?, h]
theorem Box.frozen {w : World} {b : Nat} {cs : List Value} {t : TypeId} (h : Box w b cs t) (i : Nat) : w.frozen? ⟨b, i, none⟩ = false := by
  unfold Box at h
  simp [World.frozen?, h]
theorem Box.keep {w w' : World} {b : Nat} {cs : List Value} {t : TypeId} (h : Box w b cs t) (hb : w'.heap[b]? = w.heap[b]?) : Box w' b cs t := hb.trans h
theorem Box.below {w w' : World} {b : Nat} {cs : List Value} {t : TypeId} (h : Box w b cs t) (hb : Below w.heap.size w w') : Box w' b cs t := h.keep (hb.block b h.lt)
theorem Box.out {F : Nat → Prop} {w w' : World} {b : Nat} {cs : List Value} {t : TypeId} (h : Box w b cs t) (hb : Out F w w') (hF : ¬ F b) : Box w' b cs t := h.keep (hb.block b h.lt hF)
theorem Box.grown {w w' : World} {row : Option Nat} {b : Nat} {cs : List Value} {t : TypeId} (h : Box w b cs t) (hg : w.grownBy w' row) (hne : row ≠ some b) : Box w' b cs t := h.keep (hg.block b h.lt (fun e => hne e.symm))
theorem Box.drew {w : World} {b : Nat} {cs : List Value} {t : TypeId} (h : Box w b cs t) : Box w.drew b cs t := h
theorem Box.set {w : World} {b : Nat} {cs : List Value} {t : TypeId} (h : Box w b cs t) (i : Nat) (v : Value) : Box (w.setCell ⟨b, i, none⟩ v) b (cs.set i v) t := by
  unfold Box at h ⊢
  rw [heap_setCell_same w b i _ t _ h]
  simp
theorem Box.set_other {w : World} {b : Nat} {cs : List Value} {t : TypeId} (h : Box w b cs t) {p : Addr} (hp : b ≠ p.block) (v : Value) : Box (w.setCell p v) b cs t := h.keep (Below.heap_setCell w p v b hp)
theorem box_new (w : World) (cs : List Value) (t : TypeId) : Box (w.alloc (.cells cs.toArray t)) w.heap.size cs t := heap_alloc_new w _
theorem Box.alloc {w : World} {b : Nat} {cs : List Value} {t : TypeId} (h : Box w b cs t) (o : Obj) : Box (w.alloc o) b cs t := h.keep (Below.heap_alloc w o b h.lt)

theorem Box.set' {w W : World} {b i : Nat} {v : Value} {cs : List Value} {t : TypeId} (h : Box w b cs t) (hW : w.setCell ⟨b, i, none⟩ v = W) : Box W b (cs.set i v) t := hW ▸ h.set i v
theorem Box.other' {w W : World} {b : Nat} {p : Addr} {v : Value} {cs : List Value} {t : TypeId} (h : Box w b cs t) (hW : w.setCell p v = W) (hp : b ≠ p.block) : Box W b cs t := hW ▸ h.set_other hp v
theorem below_set' {B : Nat} {w0 w W : World} {p : Addr} {v : Value} (h : Below B w0 w) (hW : w.setCell p v = W) (hp : B ≤ p.block) : Below B w0 W := hW ▸ h.setCell hp v
theorem own_set' {w W : World} {p : Addr} {u : Value} {base : Nat} {e : TypeId} {k : Nat} {v : Value} {n : Nat} {xs : List Value} (h : w.ownsRow base e k v n xs) (hW : w.setCell p u = W) (hp : v.ownBlock ≠ some p.block) : W.ownsRow base e k v n xs :=
  hW ▸ own_stay h fun q hq _ => Below.heap_setCell _ _ _ q (fun e => hp (by rw [hq, e]))
theorem size_set' {w W : World} {p : Addr} {v : Value} (hW : w.setCell p v = W) : w.heap.size ≤ W.heap.size := by subst hW; simp [World.setCell]
theorem out_set' {F : Nat → Prop} {w0 w W : World} {p : Addr} {v : Value} (h : Out F w0 w) (hW : w.setCell p v = W) (hp : F p.block ∨ w0.heap.size ≤ p.block) : Out F w0 W := hW ▸ h.setCell hp v

/-- A box written over whole. -/
theorem store2' {w1 U : World} {b : Nat} {x0 x1 v0 v1 : Value} {t : TypeId} (hx : Box w1 b [x0, x1] t) (hU : (w1.setCell ⟨b, 0, none⟩ v0).setCell ⟨b, 1, none⟩ v1 = U) : Hid (Box U b [v0, v1] t) ∧ Hid (Out (fun q => q = b) w1 U) := by
  subst hU
  exact ⟨(hx.set 0 v0).set 1 v1, hide (((Out.refl (fun q => q = b) w1).setCell (.inl rfl) _).setCell (.inl rfl) _)⟩
theorem store3' {w1 U : World} {b : Nat} {x0 x1 x2 v0 v1 v2 : Value} {t : TypeId} (hx : Box w1 b [x0, x1, x2] t) (hU : ((w1.setCell ⟨b, 0, none⟩ v0).setCell ⟨b, 1, none⟩ v1).setCell ⟨b, 2, none⟩ v2 = U) : Hid (Box U b [v0, v1, v2] t) ∧ Hid (Out (fun q => q = b) w1 U) := by
  subst hU
  exact ⟨((hx.set 0 v0).set 1 v1).set 2 v2, hide ((((Out.refl (fun q => q = b) w1).setCell (.inl rfl) _).setCell (.inl rfl) _).setCell (.inl rfl) _)⟩
theorem store4' {w1 U : World} {b : Nat} {x0 x1 x2 x3 v0 v1 v2 v3 : Value} {t : TypeId} (hx : Box w1 b [x0, x1, x2, x3] t) (hU : (((w1.setCell ⟨b, 0, none⟩ v0).setCell ⟨b, 1, none⟩ v1).setCell ⟨b, 2, none⟩ v2).setCell ⟨b, 3, none⟩ v3 = U) : Hid (Box U b [v0, v1, v2, v3] t) ∧ Hid (Out (fun q => q = b) w1 U) := by
  subst hU
  exact ⟨(((hx.set 0 v0).set 1 v1).set 2 v2).set 3 v3, hide (((((Out.refl (fun q => q = b) w1).setCell (.inl rfl) _).setCell (.inl rfl) _).setCell (.inl rfl) _).setCell (.inl rfl) _)⟩
theorem Out.below {F : Nat → Prop} {B : Nat} {w0 w1 U : World} (ho : Out F w1 U) (h : Below B w0 w1) (hB : B ≤ w0.heap.size) (hb : ∀ q, q < B → ¬ F q) : Below B w0 U :=
  ⟨ho.os.trans h.os, ho.tape.trans h.tape, ho.output.trans h.output, Nat.le_trans h.size ho.size, fun q hq => (ho.block q (by have := h.size; omega) (hb q hq)).trans (h.block q hq)⟩

/-- New boxes, one behind the other. -/
theorem boxes1 (w : World) (c1 : List Value) (t1 : TypeId) : ∃ W, W = w.alloc (.cells c1.toArray t1) ∧ w.heap.size + 1 ≤ W.heap.size ∧ Hid (Below w.heap.size w W) ∧ Hid (Box W w.heap.size c1 t1) :=
  ⟨_, rfl, by simp, (Below.refl _ _).alloc (Nat.le_refl _) _, box_new w _ _⟩
theorem boxes2 (w : World) (c1 c2 : List Value) (t1 t2 : TypeId) : ∃ W, W = (w.alloc (.cells c1.toArray t1)).alloc (.cells c2.toArray t2) ∧ w.heap.size + 2 ≤ W.heap.size ∧ Hid (Below w.heap.size w W) ∧ Hid (Box W w.heap.size c1 t1) ∧ Hid (Box W (w.heap.size + 1) c2 t2) :=
  ⟨_, rfl, by simp, ((Below.refl _ _).alloc (Nat.le_refl _) _).alloc (by simp) _, (box_new w _ _).alloc _, by
    have := box_new (w.alloc (.cells c1.toArray t1)) c2 t2
    rw [World.size_alloc] at this
    exact this⟩
theorem boxes3 (w : World) (c1 c2 c3 : List Value) (t1 t2 t3 : TypeId) : ∃ W, W = ((w.alloc (.cells c1.toArray t1)).alloc (.cells c2.toArray t2)).alloc (.cells c3.toArray t3) ∧ w.heap.size + 3 ≤ W.heap.size ∧ Hid (Below w.heap.size w W) ∧ Hid (Box W w.heap.size c1 t1) ∧ Hid (Box W (w.heap.size + 1) c2 t2) ∧ Hid (Box W (w.heap.size + 1 + 1) c3 t3) := by
  refine ⟨_, rfl, by simp, (((Below.refl _ _).alloc (Nat.le_refl _) _).alloc (by simp) _).alloc (by simp; omega) _, ((box_new w _ _).alloc _).alloc _, ?_, ?_⟩
  · have := box_new (w.alloc (.cells c1.toArray t1)) c2 t2
    rw [World.size_alloc] at this
    exact this.alloc _
  · have := box_new ((w.alloc (.cells c1.toArray t1)).alloc (.cells c2.toArray t2)) c3 t3
    rw [World.size_alloc, World.size_alloc] at this
    exact this
theorem boxes4 (w : World) (c1 c2 c3 c4 : List Value) (t1 t2 t3 t4 : TypeId) : ∃ W, W = (((w.alloc (.cells c1.toArray t1)).alloc (.cells c2.toArray t2)).alloc (.cells c3.toArray t3)).alloc (.cells c4.toArray t4) ∧ w.heap.size + 4 ≤ W.heap.size ∧ Hid (Below w.heap.size w W) ∧ Hid (Box W w.heap.size c1 t1) ∧ Hid (Box W (w.heap.size + 1) c2 t2) ∧ Hid (Box W (w.heap.size + 1 + 1) c3 t3) ∧ Hid (Box W (w.heap.size + 1 + 1 + 1) c4 t4) := by
  obtain ⟨W, hW, z, b, x, y, v⟩ := boxes3 w c1 c2 c3 t1 t2 t3
  refine ⟨W.alloc (.cells c4.toArray t4), by rw [hW], by simp; omega, (unhide b).alloc (by omega) _, (unhide x).alloc _, (unhide y).alloc _, (unhide v).alloc _, ?_⟩
  have := box_new W c4 t4
  rw [hW, World.size_alloc, World.size_alloc, World.size_alloc, ← hW] at this
  exact this

end Go.Proofs.YtiopofemelninaaDoor
