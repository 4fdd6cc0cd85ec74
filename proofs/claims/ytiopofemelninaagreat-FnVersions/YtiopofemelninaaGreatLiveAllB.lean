/-
  Several texts in one: MapK, NewMath, LiveEqA, CmpWalk, SortWalk, TreeMath, RangeK, AmongWalk, LiveEqB, TreeWalk, ShapeWalk, LiveEqC, LiveEq.
-/
import Derived.Test.YtiopofemelninaaGreatBase
import Derived.Test.YtiopofemelninaaGreatProg
import Derived.Test.YtiopofemelninaaGreatRowMath
import Derived.WalkKit
import Derived.Maps.OwnSet
import Derived.Maps.OwnIn
import Derived.Maps.RangeWalk
import Derived.DeepKeys4
import Derived.Test.YtiopofemelninaaGreatLiveAllA
import Derived.Test.YtiopofemelninaaGreatOrWalk
import Derived.Sort.Grow
import Derived.Deep.Draws
import Derived.Lib.Small
import Derived.Deep.RegionHeld3
import Derived.Test.YtiopofemelninaaGreatSortLay
import Derived.Test.YtiopofemelninaaGreatTakeWalk
/-
  Maps with keys of any type, by a reader that tells a value as it is; keys that are structs.
-/
namespace Go.Proofs.YtiopofemelninaaGreat
open Go.RowKit Go.Maps
set_option linter.unusedVariables false

abbrev DK := DataW Value
def vK : Value → Option (DK × List MemPlace) := fun v => some (.held v, [])
theorem vK_inv {v x : Value} {ps : List MemPlace} (h : vK v = some (.held x, ps)) : v = x := by
  have := Option.some.inj h
  injection this with h1 _
  injection h1
/-- What was stored, the last ahead. -/
def putsL : List (Lit × Value) → DK
  | [] => .map []
  | p :: l => (putsL l).put p.1 (.held p.2)
def lookL : List (Lit × Value) → Lit → Option Value
  | [], _ => none
  | p :: l, q => if p.1.sameKey q = true then some p.2 else lookL l q
/-- Keys that a map may have. -/
def KeysL (l : List (Lit × Value)) : Prop := ∀ p ∈ l, WideAt.IsKeyLit p.1
theorem putsL_isMap : ∀ l, IsMap (putsL l)
  | [] => ⟨[], rfl⟩
  | p :: l => (putsL_isMap l).put _ _
theorem putsL_has (q : Lit) : ∀ l, KeysL l → Maps.has (putsL l) q = (lookL l q).isSome
  | [], _ => rfl
  | p :: l, hk => by
    rw [putsL, lookL]
    by_cases h : p.1.sameKey q = true
    · rw [if_pos h, ← WideAt.sameKey_eq h, has_put_same (putsL_isMap l) (hk p (by simp))]
      rfl
    · rw [if_neg h, has_put_other (fun e => h (by rw [e]; exact WideAt.sameKey_self (hk p (by simp))))]
      exact putsL_has q l (fun x hx => hk x (by simp [hx]))
theorem putsL_at (q : Lit) (z : Value) : ∀ l, KeysL l → (putsL l).atKey q (.held z) = .held ((lookL l q).getD z)
  | [], _ => by simp [putsL, lookL, DataW.atKey]
  | p :: l, hk => by
    rw [putsL, lookL]
    by_cases h : p.1.sameKey q = true
    · rw [if_pos h, ← WideAt.sameKey_eq h, atKey_put_same (putsL_isMap l) (hk p (by simp))]
      rfl
    · rw [if_neg h, atKey_put_other (fun e => h (by rw [e]; exact WideAt.sameKey_self (hk p (by simp))))]
      exact putsL_at q z l (fun x hx => hk x (by simp [hx]))
theorem putsL_held {q : Lit} {v : Value} {l : List (Lit × Value)} (hk : KeysL l) (h : lookL l q ≠ none) (e : ∀ zd, (putsL l).atKey q zd = .held v) : lookL l q = some v := by
  have h1 := e (.held undef)
  rw [putsL_at q undef l hk] at h1
  injection h1 with h1
  cases hl : lookL l q with
  | none => exact absurd hl h
  | some x => rw [hl] at h1; simpa using h1
/-- How many keys. -/
def sizeL : List (Lit × Value) → Nat
  | [] => 0
  | p :: l => if (lookL l p.1).isSome = true then sizeL l else sizeL l + 1
theorem putsL_tidy : ∀ l, KeysL l → Tidy (putsL l)
  | [], _ => tidy_empty
  | p :: l, hk => (putsL_tidy l (fun x hx => hk x (by simp [hx]))).put (hk p (by simp)) _
theorem putsL_size : ∀ l, KeysL l → Maps.size (putsL l) = sizeL l
  | [], _ => rfl
  | p :: l, hk => by
    have hk' : KeysL l := fun x hx => hk x (by simp [hx])
    rw [putsL, sizeL, size_put (putsL_tidy l hk'), putsL_has _ l hk', putsL_size l hk']

/-- Block b is a map that holds what was stored. -/
def KMap (k : TypeId) (w : World) (b : Nat) (l : List (Lit × Value)) : Prop := w.ownsMap Tryz.prog k vK b l.length (putsL l)
variable {k : TypeId}
theorem KMap.stay {w w' : World} {b : Nat} {l : List (Lit × Value)} (h : KMap k w b l) (hb : w'.heap[b]? = w.heap[b]?) : KMap k w' b l := by
  obtain ⟨es, clock, h1, r⟩ := h
  exact ⟨es, clock, hb.trans h1, r⟩
theorem KMap.lt {w : World} {b : Nat} {l : List (Lit × Value)} (h : KMap k w b l) : b < w.heap.size := World.ownsMap.lt h
theorem KMap.below {w w' : World} {b : Nat} {l : List (Lit × Value)} (h : KMap k w b l) (hb : Below w.heap.size w w') : KMap k w' b l := h.stay (hb.block b h.lt)
theorem KMap.made (k : TypeId) (w : World) : KMap k (w.alloc (.map #[] 0)) w.heap.size [] := World.ownsMap_made w _ _ _
theorem KMap.look_ok {w : World} {b : Nat} {l : List (Lit × Value)} (h : KMap k w b l) (K : Keyed Tryz.prog k) (hk : KeysL l) {t e : TypeId} (ht : Tryz.prog.underlying t = some (.map k e)) {z : Value} (hz : (zeroValue e).run Tryz.prog w = .ok z w) {q : Value} {kl : Lit} (hq : keyOf Tryz.prog k q = some kl) :
    (Instr.lookup t (.map (some b)) q true).run Tryz.prog w = .ok (.tuple #[(lookL l kl).getD z, .bool (lookL l kl).isSome]) w := by
  obtain ⟨v, ps, hrun, hv⟩ := World.ownsMap.look_ok h K ht hz (zd := .held z) (zp := []) rfl hq
  rw [putsL_at _ _ _ hk] at hv
  rw [hrun, putsL_has _ _ hk, vK_inv hv]
theorem KMap.look_in {w : World} {b : Nat} {l : List (Lit × Value)} (h : KMap k w b l) (K : Keyed Tryz.prog k) (hk : KeysL l) {t e : TypeId} (ht : Tryz.prog.underlying t = some (.map k e)) {z : Value} (hz : (zeroValue e).run Tryz.prog w = .ok z w) {q : Value} {kl : Lit} (hq : keyOf Tryz.prog k q = some kl) :
    (Instr.lookup t (.map (some b)) q false).run Tryz.prog w = .ok ((lookL l kl).getD z) w := by
  obtain ⟨v, ps, hrun, hv⟩ := World.ownsMap.lookup h K ht hz (zd := .held z) (zp := []) rfl hq
  rw [putsL_at _ _ _ hk] at hv
  rw [hrun, vK_inv hv]
theorem KMap.put {w : World} {b : Nat} {l : List (Lit × Value)} (h : KMap k w b l) (K : Keyed Tryz.prog k) {t e : TypeId} (ht : Tryz.prog.underlying t = some (.map k e)) {q : Value} {kl : Lit} (hq : keyOf Tryz.prog k q = some kl) (v : Value) (hl : l.length < maxLen) :
    ∃ w', (Instr.mapUpdate t (.map (some b)) q v).run Tryz.prog w = .ok () w' ∧ KMap k w' b ((kl, v) :: l) ∧ w.grownBy w' (some b) := by
  obtain ⟨w', hrun, hown, hturn⟩ := World.ownsMap.store h K ht hl hq (d := .held v) (ps := []) (val := v) rfl
  exact ⟨w', hrun, hown, hturn.grown⟩
theorem KMap.len {w : World} {b : Nat} {l : List (Lit × Value)} (h : KMap k w b l) (hk : KeysL l) {t e : TypeId} (ht : Tryz.prog.underlying t = some (.map k e)) (ty : TypeId) : (Builtin.len_ #[t] ty #[.map (some b)]).run Tryz.prog w = .ok (.int .i64 (sizeL l)) w := by
  rw [World.ownsMap.len h ht ty, putsL_size l hk]

theorem keyOf_struct {P : Program} {k : TypeId} {fs : Array Field} {v : Value} {L : List Lit} (hu : P.underlying k = some (.struct fs)) (h1 : P.keyType k = true) (h2 : v.formed P k = true) (h3 : P.keyLits (P.types.size + 1) k v.cells.toList = some L) : keyOf P k v = some (.string (keyBytes L)) := by
  simp [keyOf, hu, h1, h2, h3]
theorem wf64 {x : Int} (h : -9223372036854775808 ≤ x ∧ x ≤ 9223372036854775807) : (Lit.int .i64 x).wf = true := WalkArith.wf_i64 (by omega)
def thingV (b : Bool) (u i : Int) : Value := .agg #[.bool b, .int .i64 u, .int .i64 i]
def thingL (b : Bool) (u i : Int) : Lit := .string (keyBytes [.bool b, .int .i64 u, .int .i64 i])
def momentV (b : Bool) (u i e : Int) : Value := .agg #[.bool b, .int .i64 u, .int .i64 i, .int .i64 e]
def momentL (b : Bool) (u i e : Int) : Lit := .string (keyBytes [.bool b, .int .i64 u, .int .i64 i, .int .i64 e])
theorem thingL_lit (b : Bool) (u i : Int) : WideAt.IsKeyLit (thingL b u i) := by simp [WideAt.IsKeyLit, thingL]
theorem momentL_lit (b : Bool) (u i e : Int) : WideAt.IsKeyLit (momentL b u i e) := by simp [WideAt.IsKeyLit, momentL]
theorem litsBool (d : Nat) (b : Bool) : Tryz.prog.keyLits (d + 1) 4 [.bool b] = some [.bool b] := by simp [Program.keyLits, Tryz.underlying4]
theorem litsInt (d : Nat) {x : Int} (hx : (Lit.int .i64 x).wf = true) : Tryz.prog.keyLits (d + 1) 2 [.int .i64 x] = some [.int .i64 x] := by simp [Program.keyLits, Tryz.underlying2, hx]
theorem cellsBool : Tryz.prog.cellsOf 4 = 1 := by kernel_rfl
theorem cellsInt : Tryz.prog.cellsOf 2 = 1 := by kernel_rfl
theorem typesMany : ∃ d, Tryz.prog.types.size + 1 = d + 4 := ⟨Tryz.prog.types.size - 3, by have : 4 ≤ Tryz.prog.types.size := of_decide_eq_true (by kernel_rfl); omega⟩
theorem lawThing : Keyed Tryz.prog 95 := Keyed.of_law (deep_law (m := 3) (by decide) (by kernel_rfl) (by kernel_rfl) (by kernel_rfl))
theorem litsThing (d : Nat) (b : Bool) {u i : Int} (hu : (Lit.int .i64 u).wf = true) (hi : (Lit.int .i64 i).wf = true) : Tryz.prog.keyLits (d + 2) 95 [.bool b, .int .i64 u, .int .i64 i] = some [.bool b, .int .i64 u, .int .i64 i] := by
  have c1 : Tryz.prog.cellsOf 95 = 3 := by kernel_rfl
  unfold Program.keyLits
  rw [Tryz.underlying95]
  simp [c1, cellsBool, cellsInt, litsBool, litsInt _ hu, litsInt _ hi]
theorem keyThing (b : Bool) {u i : Int} (hu : (Lit.int .i64 u).wf = true) (hi : (Lit.int .i64 i).wf = true) : keyOf Tryz.prog 95 (thingV b u i) = some (thingL b u i) := by
  obtain ⟨d, hd⟩ := typesMany
  exact keyOf_struct Tryz.underlying95 (by kernel_rfl) (by kernel_rfl) (by rw [hd]; exact litsThing (d + 2) b hu hi)
theorem thing_inj {b b' : Bool} {u i u' i' : Int} (hu : (Lit.int .i64 u).wf = true) (hi : (Lit.int .i64 i).wf = true) (hu' : (Lit.int .i64 u').wf = true) (hi' : (Lit.int .i64 i').wf = true) : thingL b u i = thingL b' u' i' ↔ b = b' ∧ u = u' ∧ i = i' := by
  refine ⟨fun h => ?_, fun ⟨h1, h2, h3⟩ => by rw [h1, h2, h3]⟩
  injection h with h
  have := keyLits_inj (litsThing 0 b hu hi) (litsThing 0 b' hu' hi') h
  simpa using this
theorem lawMoment : Keyed Tryz.prog 98 := Keyed.of_law (deep_law (m := 4) (by decide) (by kernel_rfl) (by kernel_rfl) (by kernel_rfl))
theorem litsMoment (d : Nat) (b : Bool) {u i e : Int} (hu : (Lit.int .i64 u).wf = true) (hi : (Lit.int .i64 i).wf = true) (he : (Lit.int .i64 e).wf = true) : Tryz.prog.keyLits (d + 3) 98 [.bool b, .int .i64 u, .int .i64 i, .int .i64 e] = some [.bool b, .int .i64 u, .int .i64 i, .int .i64 e] := by
  have c1 : Tryz.prog.cellsOf 98 = 4 := by kernel_rfl
  have c2 : Tryz.prog.cellsOf 95 = 3 := by kernel_rfl
  unfold Program.keyLits
  rw [Tryz.underlying98]
  simp [c1, c2, cellsInt, litsThing _ b hu hi, litsInt _ he]
theorem keyMoment (b : Bool) {u i e : Int} (hu : (Lit.int .i64 u).wf = true) (hi : (Lit.int .i64 i).wf = true) (he : (Lit.int .i64 e).wf = true) : keyOf Tryz.prog 98 (momentV b u i e) = some (momentL b u i e) := by
  obtain ⟨d, hd⟩ := typesMany
  exact keyOf_struct Tryz.underlying98 (by kernel_rfl) (by kernel_rfl) (by rw [hd]; exact litsMoment (d + 1) b hu hi he)
theorem moment_inj {b b' : Bool} {u i e u' i' e' : Int} (hu : (Lit.int .i64 u).wf = true) (hi : (Lit.int .i64 i).wf = true) (he : (Lit.int .i64 e).wf = true) (hu' : (Lit.int .i64 u').wf = true) (hi' : (Lit.int .i64 i').wf = true) (he' : (Lit.int .i64 e').wf = true) : momentL b u i e = momentL b' u' i' e' ↔ b = b' ∧ u = u' ∧ i = i' ∧ e = e' := by
  refine ⟨fun h => ?_, fun ⟨h1, h2, h3, h4⟩ => by rw [h1, h2, h3, h4]⟩
  injection h with h
  have := keyLits_inj (litsMoment 0 b hu hi he) (litsMoment 0 b' hu' hi' he') h
  simpa using this
end Go.Proofs.YtiopofemelninaaGreat
/-
  What the program's newest keeps (no Go in sight but the cells of versions).
-/
namespace Go.Proofs.YtiopofemelninaaGreat
open Go.RowKit
set_option linter.unusedVariables false

def thK (b : Blk) : Lit := thingL (decide (b.k = 2)) b.u b.i
def moK (b : Blk) : Lit := momentL (decide (b.k = 2)) b.u b.i b.e
def verZ : VerA := ⟨0, ⟨Blk.none, none, 0⟩⟩
def lookV : List (Lit × VerA) → Lit → Option VerA
  | [], _ => none
  | p :: l, q => if p.1.sameKey q = true then some p.2 else lookV l q
def verV (x : VerA) : Value := .agg x.cells.toArray
def entV (p : Lit × VerA) : Lit × Value := (p.1, verV p.2)
theorem look_entV (q : Lit) : ∀ l : List (Lit × VerA), lookL (l.map entV) q = (lookV l q).map verV
  | [] => rfl
  | p :: l => by
    rw [List.map_cons, lookL, lookV]
    by_cases h : p.1.sameKey q = true
    · rw [if_pos h, if_pos (show (entV p).1.sameKey q = true from h)]; rfl
    · rw [if_neg h, if_neg (show ¬ (entV p).1.sameKey q = true from h)]; exact look_entV q l
theorem look_zero (q : Lit) (l : List (Lit × VerA)) : (lookL (l.map entV) q).getD (verV verZ) = verV ((lookV l q).getD verZ) := by
  rw [look_entV]
  cases lookV l q <;> rfl
def newStep (clock : Int) (acc : List (Lit × VerA)) (x : VerA) : List (Lit × VerA) :=
  if x.x.b.e ≤ clock - 2 then (if ((lookV acc (thK x.x.b)).getD verZ).x.b.e < x.x.b.e then (thK x.x.b, x) :: acc else acc) else acc
def newM (clock : Int) (L : List VerA) : List (Lit × VerA) := L.foldl (newStep clock) []
def allStep (clock : Int) (acc : List (Lit × Value)) (x : VerA) : List (Lit × Value) := if x.x.b.e ≤ clock - 2 then (moK x.x.b, .int .i64 x.line) :: acc else acc
def allM (clock : Int) (L : List VerA) : List (Lit × Value) := L.foldl (allStep clock) []
theorem newM_succ {clock : Int} {L : List VerA} {i : Nat} (hi : i < L.length) : newM clock (L.take (i + 1)) = newStep clock (newM clock (L.take i)) L[i] := by
  rw [List.take_succ_eq_append_getElem hi, newM, List.foldl_append]; rfl
theorem allM_succ {clock : Int} {L : List VerA} {i : Nat} (hi : i < L.length) : allM clock (L.take (i + 1)) = allStep clock (allM clock (L.take i)) L[i] := by
  rw [List.take_succ_eq_append_getElem hi, allM, List.foldl_append]; rfl
theorem allM_keys (clock : Int) : ∀ (L : List VerA) (acc : List (Lit × Value)), KeysL acc → KeysL (L.foldl (allStep clock) acc)
  | [], acc, h => h
  | x :: L, acc, h => allM_keys clock L _ (by
    unfold allStep
    split
    · intro p hp
      rcases List.mem_cons.1 hp with rfl | hp
      · exact momentL_lit _ _ _ _
      · exact h p hp
    · exact h)
theorem allM_keysL (clock : Int) (L : List VerA) : KeysL (allM clock L) := allM_keys clock L [] (fun p hp => (by cases hp))
def KeysV (l : List (Lit × VerA)) : Prop := ∀ p ∈ l, WideAt.IsKeyLit p.1
theorem newM_keys (clock : Int) : ∀ (L : List VerA) (acc : List (Lit × VerA)), KeysV acc → KeysV (L.foldl (newStep clock) acc)
  | [], acc, h => h
  | x :: L, acc, h => newM_keys clock L _ (by
    unfold newStep
    split
    · split
      · intro p hp
        rcases List.mem_cons.1 hp with rfl | hp
        · exact thingL_lit _ _ _
        · exact h p hp
      · exact h
    · exact h)
theorem newM_keysV (clock : Int) (L : List VerA) : KeysV (newM clock L) := newM_keys clock L [] (fun p hp => (by cases hp))
theorem KeysV.ent {l : List (Lit × VerA)} (h : KeysV l) : KeysL (l.map entV) := by
  intro p hp
  obtain ⟨q, hq, rfl⟩ := List.mem_map.1 hp
  exact h q hq
theorem allM_len (clock : Int) : ∀ (L : List VerA) (acc : List (Lit × Value)), (L.foldl (allStep clock) acc).length ≤ acc.length + L.length
  | [], acc => by simp
  | x :: L, acc => by
    rw [List.foldl_cons]
    refine Nat.le_trans (allM_len clock L _) ?_
    unfold allStep
    split <;> simp <;> omega
theorem newM_len (clock : Int) : ∀ (L : List VerA) (acc : List (Lit × VerA)), (L.foldl (newStep clock) acc).length ≤ acc.length + L.length
  | [], acc => by simp
  | x :: L, acc => by
    rw [List.foldl_cons]
    refine Nat.le_trans (newM_len clock L _) ?_
    unfold newStep
    split
    · split <;> simp <;> omega
    · simp
theorem allM_small (clock : Int) (L : List VerA) : (allM clock L).length ≤ L.length := by have := allM_len clock L []; simpa [allM] using this
theorem newM_small (clock : Int) (L : List VerA) : (newM clock L).length ≤ L.length := by have := newM_len clock L []; simpa [newM] using this
/-- An image in memory: its clock, its versions. -/
structure ImgAt (w : World) (p : Nat) (clock : Int) (va : Option Addr) (vc : Nat) (fv : Value) (L : List VerA) : Prop where
  box : Box w p [.int .i64 clock, .slice va L.length vc, fv] 61
  vers : VersAt w va L
theorem ImgAt.below {w w' : World} {p : Nat} {clock : Int} {va : Option Addr} {vc : Nat} {fv : Value} {L : List VerA} (h : ImgAt w p clock va vc fv L) (hb : Below w.heap.size w w') : ImgAt w' p clock va vc fv L := ⟨h.box.below hb, h.vers.below hb⟩
/-- The moment of x was told before. -/
def toldB (clock : Int) (L : List VerA) (x : VerA) : Bool := decide (x.x.b.e ≤ clock - 2) && (lookL (allM clock L) (moK x.x.b)).isSome
end Go.Proofs.YtiopofemelninaaGreat
/-
  The program's newest versions are the specification's (no Go in sight).
-/
namespace Go.Proofs.YtiopofemelninaaGreat
open Go.RowKit
set_option linter.unusedVariables false

theorem wf999 {x : Int} (h : 0 ≤ x ∧ x ≤ 9999) : (Lit.int .i64 x).wf = true := wf64 (by omega)
theorem thK_inj {c : Int} {a b : Blk} (ha : GoodB c a) (hb : GoodB c b) : thK a = thK b ↔ keyOfB a = keyOfB b := by
  have a1 := ha.u; have a2 := ha.i; have a3 := ha.i0; have b1 := hb.u; have b2 := hb.i; have b3 := hb.i0
  unfold thK
  rw [thing_inj (wf999 (by omega)) (wf999 (by omega)) (wf999 (by omega)) (wf999 (by omega))]
  unfold keyOfB
  by_cases h1 : a.k = 2
  · by_cases h2 : b.k = 2
    · simp only [h1, h2, if_true, true_and]; omega
    · have := b3 h2
      simp only [h1, h2, if_true, if_false, decide_true, decide_false, Bool.true_eq_false, false_and, false_iff]; omega
  · by_cases h2 : b.k = 2
    · have := a3 h1
      simp only [h1, h2, if_true, if_false, decide_true, decide_false, Bool.false_eq_true, false_and, false_iff]; omega
    · have := a3 h1
      have := b3 h2
      simp only [h1, h2, if_false, decide_false, true_and]; omega
theorem moK_inj {c : Int} {a b : Blk} (ha : GoodB c a) (hb : GoodB c b) : moK a = moK b ↔ (keyOfB a = keyOfB b ∧ a.e = b.e) := by
  rw [← thK_inj ha hb]
  have a1 := ha.u; have a2 := ha.i; have a4 := ha.e; have b1 := hb.u; have b2 := hb.i; have b4 := hb.e
  unfold moK thK
  rw [moment_inj (wf999 (by omega)) (wf999 (by omega)) (wf999 (by omega)) (wf999 (by omega)) (wf999 (by omega)) (wf999 (by omega)), thing_inj (wf999 (by omega)) (wf999 (by omega)) (wf999 (by omega)) (wf999 (by omega))]
  constructor
  · rintro ⟨h1, h2, h3, h4⟩; exact ⟨⟨h1, h2, h3⟩, h4⟩
  · rintro ⟨⟨h1, h2, h3⟩, h4⟩; exact ⟨h1, h2, h3, h4⟩
theorem lookL_some (q : Lit) : ∀ l : List (Lit × Value), (lookL l q).isSome = l.any (fun p => p.1.sameKey q)
  | [] => rfl
  | p :: l => by
    rw [lookL, List.any_cons, ← lookL_some q l]
    by_cases h : p.1.sameKey q = true
    · rw [if_pos h, h]; rfl
    · rw [if_neg h]; simp [h]
theorem allM_rev (clock : Int) : ∀ (L : List VerA) (acc : List (Lit × Value)), L.foldl (allStep clock) acc = ((L.filter fun x => decide (x.x.b.e ≤ clock - 2)).map fun x => (moK x.x.b, Value.int .i64 x.line)).reverse ++ acc
  | [], acc => rfl
  | x :: L, acc => by
    rw [List.foldl_cons, allM_rev clock L, allStep]
    by_cases h : x.x.b.e ≤ clock - 2
    · simp [h]
    · simp [h]
theorem told_eq {clock : Int} {L : List VerA} {x : VerA} (hx : GoodB clock x.x.b) (hL : ∀ y ∈ L, GoodB clock y.x.b) : toldB clock L x = (blks L).any (hitV clock x.x.b) := by
  unfold toldB
  by_cases hs : x.x.b.e ≤ clock - 2
  · rw [decide_eq_true hs, Bool.true_and, lookL_some, allM, allM_rev, List.append_nil, Bool.eq_iff_iff, List.any_eq_true, List.any_eq_true]
    constructor
    · rintro ⟨p, hp, hq⟩
      obtain ⟨y, hy, rfl⟩ := List.mem_map.1 (List.mem_reverse.1 hp)
      obtain ⟨hy1, hy2⟩ := List.mem_filter.1 hy
      have e := (moK_inj (hL y hy1) hx).1 (WideAt.sameKey_eq hq)
      exact ⟨y.x.b, List.mem_map.2 ⟨y, hy1, rfl⟩, by simp [hitV, hs, e.1, e.2]⟩
    · rintro ⟨b, hb, hq⟩
      obtain ⟨y, hy, rfl⟩ := List.mem_map.1 hb
      simp only [hitV, Bool.and_eq_true, decide_eq_true_eq, beq_iff_eq] at hq
      have e := (moK_inj (hL y hy) hx).2 ⟨hq.2.symm, hq.1.2.symm⟩
      refine ⟨(moK y.x.b, .int .i64 y.line), List.mem_reverse.2 (List.mem_map.2 ⟨y, List.mem_filter.2 ⟨hy, by rw [decide_eq_true_eq, ← hq.1.2]; exact hs⟩, rfl⟩), ?_⟩
      rw [e]
      exact WideAt.sameKey_self (momentL_lit _ _ _ _)
  · rw [decide_eq_false hs, Bool.false_and]
    symm
    rw [List.any_eq_false]
    intro b _
    simp [hitV, hs]
theorem blks_take (L : List VerA) (i : Nat) : blks (L.take i) = (blks L).take i := by simp [blks, List.map_take]
theorem told_dup {clock : Int} {L : List VerA} (hL : ∀ y ∈ L, GoodB clock y.x.b) (h : ∃ i, ∃ h : i < L.length, toldB clock (L.take i) L[i] = true) : sameVers clock (blks L) = true := by
  obtain ⟨i, hi, ht⟩ := h
  rw [told_eq (hL _ (List.getElem_mem hi)) (fun y hy => hL y (List.mem_of_mem_take hy)), blks_take] at ht
  obtain ⟨b, hb, hh⟩ := List.any_eq_true.1 ht
  obtain ⟨k, hk, rfl⟩ := List.mem_take_iff_getElem.1 hb
  have hi2 : i < (blks L).length := by simpa [blks] using hi
  refine sameVers_true (i := i) (k := k) (by omega) hi2 ?_
  have : (blks L)[i] = L[i].x.b := by simp [blks]
  rw [this]
  exact hh
theorem told_nodup {clock : Int} {L : List VerA} (hL : ∀ y ∈ L, GoodB clock y.x.b) (h : ∀ i (h : i < L.length), toldB clock (L.take i) L[i] = false) : sameVers clock (blks L) = false := by
  refine sameVers_false (fun i hi => ?_)
  have hi2 : i < L.length := by simpa [blks] using hi
  have ht := h i hi2
  rw [told_eq (hL _ (List.getElem_mem hi2)) (fun y hy => hL y (List.mem_of_mem_take hy)), blks_take] at ht
  have : (blks L)[i] = L[i].x.b := by simp [blks]
  rw [this]
  exact ht
/-- insNew by recursion. -/
def insR : List VerA → VerA → List VerA
  | [], x => [x]
  | y :: out, x => if keyV y < keyV x then y :: insR out x else if keyV y = keyV x then (if y.x.b.e < x.x.b.e then x :: out else y :: out) else x :: y :: out
theorem insNew_eq : ∀ (out : List VerA) (x : VerA), insNew out x = insR out x
  | [], x => by simp [insNew, insR, posIn]
  | y :: out, x => by
    have ih := insNew_eq out x
    unfold insR
    by_cases h : keyV y < keyV x
    · rw [if_pos h, ← ih]
      have hp : posIn (keyV x) (y :: out) = posIn (keyV x) out + 1 := by simp [posIn, h]
      unfold insNew
      rw [hp, List.getElem?_cons_succ]
      cases hg : out[posIn (keyV x) out]? with
      | none => simp
      | some z =>
        simp only [List.take_succ_cons, List.drop_succ_cons, List.set_cons_succ]
        split
        · split <;> rfl
        · rfl
    · rw [if_neg h]
      have hp : posIn (keyV x) (y :: out) = 0 := by simp [posIn, h]
      unfold insNew
      rw [hp, List.getElem?_cons_zero]
      simp only [List.take_zero, List.drop_zero, List.nil_append, List.set_cons_zero]
theorem insR_sub {z x : VerA} : ∀ {out : List VerA}, z ∈ insR out x → z ∈ out ∨ z = x
  | [], h => .inr (List.mem_singleton.1 h)
  | y :: out, h => by
    unfold insR at h
    split at h
    · rcases List.mem_cons.1 h with rfl | h
      · simp
      · rcases insR_sub h with h | h
        · simp [h]
        · exact .inr h
    · split at h
      · split at h
        · rcases List.mem_cons.1 h with rfl | h
          · simp
          · simp [h]
        · exact .inl h
      · rcases List.mem_cons.1 h with rfl | h
        · simp
        · exact .inl h
def Asc (l : List VerA) : Prop := l.Pairwise (fun x y => keyV x < keyV y)
theorem insR_asc {x : VerA} : ∀ {out : List VerA}, Asc out → Asc (insR out x)
  | [], _ => List.pairwise_singleton _ _
  | y :: out, h => by
    obtain ⟨h1, h2⟩ := List.pairwise_cons.1 h
    unfold insR
    split
    · rename_i hlt
      refine List.pairwise_cons.2 ⟨fun z hz => ?_, insR_asc h2⟩
      rcases insR_sub hz with hz | rfl
      · exact h1 z hz
      · exact hlt
    · split
      · rename_i he
        split
        · exact List.pairwise_cons.2 ⟨fun z hz => by have := h1 z hz; omega, h2⟩
        · exact h
      · refine List.pairwise_cons.2 ⟨fun z hz => ?_, h⟩
        rcases List.mem_cons.1 hz with rfl | hz
        · omega
        · have := h1 z hz; omega
theorem insR_mem {x z : VerA} : ∀ {out : List VerA}, Asc out → (z ∈ insR out x ↔ (z ∈ out ∧ (keyV z ≠ keyV x ∨ ¬ z.x.b.e < x.x.b.e)) ∨ (z = x ∧ ∀ y ∈ out, keyV y = keyV x → y.x.b.e < x.x.b.e))
  | [], _ => by simp [insR]
  | y :: out, h => by
    obtain ⟨h1, h2⟩ := List.pairwise_cons.1 h
    have ih := insR_mem (x := x) (z := z) h2
    unfold insR
    by_cases hlt : keyV y < keyV x
    · rw [if_pos hlt, List.mem_cons, ih]
      constructor
      · rintro (rfl | ⟨hz, hc⟩ | ⟨rfl, ha⟩)
        · exact .inl ⟨by simp, .inl (by omega)⟩
        · exact .inl ⟨by simp [hz], hc⟩
        · refine .inr ⟨rfl, fun v hv he => ?_⟩
          rcases List.mem_cons.1 hv with rfl | hv
          · omega
          · exact ha v hv he
      · rintro (⟨hz, hc⟩ | ⟨rfl, ha⟩)
        · rcases List.mem_cons.1 hz with rfl | hz
          · exact .inl rfl
          · exact .inr (.inl ⟨hz, hc⟩)
        · exact .inr (.inr ⟨rfl, fun v hv he => ha v (by simp [hv]) he⟩)
    · rw [if_neg hlt]
      have hgt : ∀ v ∈ out, keyV x < keyV v := fun v hv => by have := h1 v hv; omega
      by_cases he : keyV y = keyV x
      · rw [if_pos he]
        by_cases hc : y.x.b.e < x.x.b.e
        · rw [if_pos hc, List.mem_cons]
          constructor
          · rintro (rfl | hz)
            · refine .inr ⟨rfl, fun v hv hv2 => ?_⟩
              rcases List.mem_cons.1 hv with rfl | hv
              · exact hc
              · have := hgt v hv; omega
            · exact .inl ⟨by simp [hz], .inl (by have := hgt z hz; omega)⟩
          · rintro (⟨hz, hc2⟩ | ⟨rfl, _⟩)
            · rcases List.mem_cons.1 hz with rfl | hz
              · rcases hc2 with hc2 | hc2
                · exact absurd he hc2
                · exact absurd hc hc2
              · exact .inr hz
            · exact .inl rfl
        · rw [if_neg hc, List.mem_cons]
          constructor
          · rintro (rfl | hz)
            · exact .inl ⟨by simp, .inr hc⟩
            · exact .inl ⟨by simp [hz], .inl (by have := hgt z hz; omega)⟩
          · rintro (⟨hz, _⟩ | ⟨rfl, ha⟩)
            · exact hz
            · exact absurd (ha y (by simp) he) hc
      · rw [if_neg he, List.mem_cons, List.mem_cons]
        constructor
        · rintro (rfl | rfl | hz)
          · refine .inr ⟨rfl, fun v hv hv2 => ?_⟩
            rcases List.mem_cons.1 hv with rfl | hv
            · exact absurd hv2 he
            · have := hgt v hv; omega
          · exact .inl ⟨by simp, .inl he⟩
          · exact .inl ⟨by simp [hz], .inl (by have := hgt z hz; omega)⟩
        · rintro (⟨hz, _⟩ | ⟨rfl, _⟩)
          · exact .inr hz
          · exact .inl rfl
/-- What the program keeps is the specification's list. -/
structure Newest (clock : Int) (acc : List (Lit × VerA)) (out : List VerA) : Prop where
  asc : Asc out
  good : ∀ z ∈ out, GoodB clock z.x.b
  look : ∀ q z, lookV acc q = some z ↔ (z ∈ out ∧ q = thK z.x.b)
theorem Newest.step {clock : Int} {acc : List (Lit × VerA)} {out : List VerA} {x : VerA} (h : Newest clock acc out) (hx : GoodB clock x.x.b) : Newest clock (newStep clock acc x) (newestStep clock out x) := by
  unfold newStep newestStep
  by_cases hs : x.x.b.e ≤ clock - 2
  case neg => rw [if_neg hs, if_neg hs]; exact h
  rw [if_pos hs, if_pos hs, insNew_eq]
  have hthk : ∀ z ∈ out, (thK z.x.b = thK x.x.b ↔ keyV z = keyV x) := fun z hz => thK_inj (h.good z hz) hx
  have hc : ((lookV acc (thK x.x.b)).getD verZ).x.b.e < x.x.b.e ↔ ∀ y ∈ out, keyV y = keyV x → y.x.b.e < x.x.b.e := by
    cases hl : lookV acc (thK x.x.b) with
    | none =>
      constructor
      · intro _ y hy he
        have := (h.look (thK x.x.b) y).2 ⟨hy, ((hthk y hy).2 he).symm⟩
        rw [hl] at this
        cases this
      · intro _
        have := hx.e
        show (0 : Int) < x.x.b.e
        omega
    | some y =>
      have hy := (h.look _ _).1 hl
      constructor
      · intro h1 v hv he
        have h2 := (h.look (thK x.x.b) v).2 ⟨hv, ((hthk v hv).2 he).symm⟩
        rw [hl] at h2
        injection h2 with h2
        subst h2
        exact h1
      · intro ha
        exact ha y hy.1 ((hthk y hy.1).1 hy.2.symm)
  refine ⟨insR_asc h.asc, fun z hz => ?_, fun q z => ?_⟩
  · rcases insR_sub hz with hz | rfl
    · exact h.good z hz
    · exact hx
  rw [insR_mem h.asc]
  by_cases hcc : ((lookV acc (thK x.x.b)).getD verZ).x.b.e < x.x.b.e
  · rw [if_pos hcc, lookV]
    have ha := hc.1 hcc
    by_cases hq : (thK x.x.b).sameKey q = true
    · have hq2 := WideAt.sameKey_eq hq
      rw [if_pos hq, ← hq2]
      constructor
      · intro e
        injection e with e
        subst e
        exact ⟨.inr ⟨rfl, ha⟩, rfl⟩
      · rintro ⟨⟨hz, hcz⟩ | ⟨rfl, _⟩, e⟩
        · have hk := (hthk z hz).1 e.symm
          rcases hcz with hcz | hcz
          · exact absurd hk hcz
          · exact absurd (ha z hz hk) hcz
        · rfl
    · rw [if_neg hq, h.look]
      have hne : q ≠ thK x.x.b := fun e => hq (by rw [e]; exact WideAt.sameKey_self (thingL_lit _ _ _))
      constructor
      · rintro ⟨hz, e⟩
        exact ⟨.inl ⟨hz, .inl (fun hk => hne (by rw [e]; exact (hthk z hz).2 hk))⟩, e⟩
      · rintro ⟨⟨hz, _⟩ | ⟨rfl, _⟩, e⟩
        · exact ⟨hz, e⟩
        · exact absurd e hne
  · rw [if_neg hcc, h.look]
    constructor
    · rintro ⟨hz, e⟩
      refine ⟨.inl ⟨hz, ?_⟩, e⟩
      by_cases hk : keyV z = keyV x
      · refine .inr (fun hlt => hcc ?_)
        have := (h.look (thK x.x.b) z).2 ⟨hz, ((hthk z hz).2 hk).symm⟩
        rw [this]
        exact hlt
      · exact .inl hk
    · rintro ⟨⟨hz, _⟩ | ⟨rfl, ha⟩, e⟩
      · exact ⟨hz, e⟩
      · exact absurd (hc.2 ha) hcc
theorem newest_is {clock : Int} : ∀ (L : List VerA) (acc : List (Lit × VerA)) (out : List VerA), Newest clock acc out → (∀ x ∈ L, GoodB clock x.x.b) → Newest clock (L.foldl (newStep clock) acc) (L.foldl (newestStep clock) out)
  | [], acc, out, h, _ => h
  | x :: L, acc, out, h, hL => newest_is L _ _ (h.step (hL x (by simp))) (fun y hy => hL y (by simp [hy]))
theorem newest_all {clock : Int} {L : List VerA} (hL : ∀ x ∈ L, GoodB clock x.x.b) : Newest clock (newM clock L) (newestOf clock L) :=
  newest_is L [] [] ⟨List.Pairwise.nil, fun z hz => (by cases hz), fun q z => by simp [lookV]⟩ hL
end Go.Proofs.YtiopofemelninaaGreat
/-
  What compareThings answers; that it leaves all as it was but for new memory.
-/
namespace Go.Proofs.YtiopofemelninaaGreat
open Go.RowKit Go.Sort
set_option linter.unusedVariables false

/-- New memory and draws alone. -/
def Gr (w w' : World) : Prop := ∃ q os, w' = grow (w.drewN q) os
theorem Gr.refl (w : World) : Gr w w := ⟨0, #[], by simp [grow, World.drewN]⟩
theorem Gr.drew {w w' : World} (h : Gr w w') : Gr w w'.drew := by
  obtain ⟨q, os, rfl⟩ := h
  exact ⟨q + 1, os, rfl⟩
theorem Gr.alloc {w w' : World} (h : Gr w w') (o : Obj) : Gr w (w'.alloc o) := by
  obtain ⟨q, os, rfl⟩ := h
  exact ⟨q, os ++ #[o], by rw [alloc_eq_grow, grow_grow]⟩
theorem Gr.trans {a b c : World} (h : Gr a b) (k : Gr b c) : Gr a c := by
  obtain ⟨q, os, rfl⟩ := h
  obtain ⟨q2, os2, rfl⟩ := k
  refine ⟨q + q2, os ++ os2, ?_⟩
  simp [grow, World.drewN, Nat.add_assoc]
theorem Gr.size {w w' : World} (h : Gr w w') : w.heap.size ≤ w'.heap.size := by
  obtain ⟨q, os, rfl⟩ := h
  simp [grow, World.drewN]
theorem Gr.heap {w w' : World} (h : Gr w w') {b : Nat} (hb : b < w.heap.size) : w'.heap[b]? = w.heap[b]? := by
  obtain ⟨q, os, rfl⟩ := h
  show (w.heap ++ os)[b]? = w.heap[b]?
  rw [Array.getElem?_append_left hb]
theorem Gr.below {w w' : World} (h : Gr w w') : Below w.heap.size w w' := by
  have hs := h.size
  have hh := fun b hb => h.heap (b := b) hb
  obtain ⟨q, os, rfl⟩ := h
  exact ⟨rfl, rfl, rfl, hs, hh⟩

def cmpB (x y : Blk) : Int := orI (Lib.compareInt x.u y.u) (Lib.compareInt x.i y.i)
set_option maxHeartbeats 1000000 in
theorem isNaN_any (x : Int) (w : World) : Calls Tryz.prog 120 #[.int .i64 x] w fun e w' => e = .returned (.bool false) ∧ w' = w := by
  go_enter Tryz.func120, Tryz.ntmps120
  go_wp2
  go_ret
  exact ⟨by simp, rfl⟩
set_option maxHeartbeats 1000000 in
theorem compare_any (x y : Int) (w : World) : Calls Tryz.prog 86 #[.int .i64 x, .int .i64 y] w fun e w' => e = .returned (.int .i64 (Lib.compareInt x y)) ∧ w' = w := by
  go_enter Tryz.func86, Tryz.ntmps86
  go_wp2_with (go_at_call 120; refine (isNaN_any _ _).mono ?_; rintro e w' ⟨rfl, hw⟩; rw [hw])
  all_goals (go_ret; refine ⟨?_, rfl⟩; unfold Lib.compareInt; (repeat' split) <;> first | rfl | (exfalso; omega))
set_option maxHeartbeats 1000000 in
theorem cmpOrI_any (a : Option Addr) (c : Nat) (x y : Int) (w : World) (h : IntsAt w a [x, y]) :
    Calls Tryz.prog 85 #[.slice a 2 c] w fun e w' => e = .returned (.int .i64 (orI x y)) ∧ w' = w := by
  obtain ⟨b, o, rfl, hb, hc⟩ := h.at (k := 0) (by simp)
  have c0 := hc 0 (by simp)
  have c1 := hc 1 (by simp)
  simp only [List.getElem_cons_zero, List.getElem_cons_succ, Nat.add_zero] at c0 c1
  clear hc h
  go_enter Tryz.func85, Tryz.ntmps85
  go_wp2
  go_loop [8] (fun i => ∃ k : Nat, k ≤ 2 ∧ i = .int .i64 k ∧ Hid (1 ≤ k → x = 0) ∧ Hid (2 ≤ k → y = 0)) (fun i => 2 - (intOf i).toNat)
  case atStart => exact ⟨0, by omega, rfl, fun h => by omega, fun h => by omega⟩
  case round =>
    obtain ⟨k, hk, rfl, HX, HY⟩ := hrel
    rcases (show k = 0 ∨ k = 1 ∨ k = 2 by omega) with rfl | rfl | rfl
    · by_cases hx : x = 0
      · have hxb : (x != 0) = false := by simpa using hx
        have H0 := hide hx
        clear hx
        go_wp2
        go_round
        case rel => exact ⟨1, by omega, by go_num, fun _ => unhide H0, fun h => by omega⟩
        case measure => simp [intOf]
      · have hxb : (x != 0) = true := by simpa using hx
        have HR : Hid (orI x y = x) := by simp [Hid, orI, hx]
        clear hx
        go_wp2
        go_ret
        exact ⟨ret_int (unhide HR).symm, rfl⟩
    · have HR : Hid (orI x y = y) := by simp [Hid, orI, unhide HX (by omega)]
      by_cases hy : y = 0
      · have hyb : (y != 0) = false := by simpa using hy
        have H0 := hide hy
        clear hy
        go_wp2
        go_round
        case rel => exact ⟨2, by omega, by go_num, fun _ => unhide HX (by omega), fun _ => unhide H0⟩
        case measure => simp [intOf]
      · have hyb : (y != 0) = true := by simpa using hy
        clear hy
        go_wp2
        go_ret
        exact ⟨ret_int (unhide HR).symm, rfl⟩
    · have HR : Hid (orI x y = 0) := by simp [Hid, orI, unhide HX (by omega), unhide HY (by omega)]
      go_wp2
      go_ret
      exact ⟨ret_int (unhide HR).symm, rfl⟩
theorem ints_two_drew (w : World) (x y : Int) (t : TypeId) : IntsAt (w.alloc (.cells #[.int .i64 x, .int .i64 y] t)).drew (some ⟨w.heap.size, 0, none⟩) [x, y] := (ints_two_new w x y t).below (Below.refl _ _).drew
theorem keepG {W0 w' w1 : World} {b c : Nat} {v0 v1 v2 v3 : Value} (h3 : b < W0.heap.size) (h4 : c < W0.heap.size) (hS : Gr W0 w' ∧ w'.cell? ⟨b, 2, none⟩ = some v0 ∧ w'.cell? ⟨b, 3, none⟩ = some v1 ∧ w'.cell? ⟨c, 2, none⟩ = some v2 ∧ w'.cell? ⟨c, 3, none⟩ = some v3) (hb : Gr w' w1) :
    Gr W0 w1 ∧ w1.cell? ⟨b, 2, none⟩ = some v0 ∧ w1.cell? ⟨b, 3, none⟩ = some v1 ∧ w1.cell? ⟨c, 2, none⟩ = some v2 ∧ w1.cell? ⟨c, 3, none⟩ = some v3 := by
  have hz := hS.1.size
  have hB := hb.below
  have k : b < w'.heap.size := by omega
  have k2 : c < w'.heap.size := by omega
  exact ⟨hS.1.trans hb, (hB.cell (p := ⟨b, 2, none⟩) k).trans hS.2.1, (hB.cell (p := ⟨b, 3, none⟩) k).trans hS.2.2.1, (hB.cell (p := ⟨c, 2, none⟩) k2).trans hS.2.2.2.1, (hB.cell (p := ⟨c, 3, none⟩) k2).trans hS.2.2.2.2⟩
set_option maxRecDepth 20000 in
set_option maxHeartbeats 4000000 in
theorem compareThings_any (x y : VerA) (w : World) :
    Calls Tryz.prog 55 #[verV x, verV y] w fun e w' => e = .returned (.int .i64 (cmpB x.x.b y.x.b)) ∧ Gr w w' := by
  obtain ⟨ln, ⟨B, na, nc⟩⟩ := x
  obtain ⟨lm, ⟨C, ma, mc⟩⟩ := y
  simp only [verV, VerA.cells, BlkA.cells, cmpB]
  obtain ⟨W, hW, hGW, hX, hY⟩ : ∃ W, W = (w.alloc (.cells #[.int .i64 ln, .int .i64 B.k, .int .i64 B.u, .int .i64 B.i, .int .i64 B.e, .int .i64 B.nu, .bool B.nd, .int .i64 B.np, .string B.nn, .int .i64 B.ns, .slice na B.nl.length nc] 46)).alloc (.cells #[.int .i64 lm, .int .i64 C.k, .int .i64 C.u, .int .i64 C.i, .int .i64 C.e, .int .i64 C.nu, .bool C.nd, .int .i64 C.np, .string C.nn, .int .i64 C.ns, .slice ma C.nl.length mc] 46) ∧ Hid (Gr w W) ∧ Box W w.heap.size [.int .i64 ln, .int .i64 B.k, .int .i64 B.u, .int .i64 B.i, .int .i64 B.e, .int .i64 B.nu, .bool B.nd, .int .i64 B.np, .string B.nn, .int .i64 B.ns, .slice na B.nl.length nc] 46 ∧ Box W (w.heap.size + 1) [.int .i64 lm, .int .i64 C.k, .int .i64 C.u, .int .i64 C.i, .int .i64 C.e, .int .i64 C.nu, .bool C.nd, .int .i64 C.np, .string C.nn, .int .i64 C.ns, .slice ma C.nl.length mc] 46 := by
    refine ⟨_, rfl, ((Gr.refl w).alloc _).alloc _, (box_new w _ _).alloc _, ?_⟩
    have := box_new (w.alloc (.cells #[.int .i64 ln, .int .i64 B.k, .int .i64 B.u, .int .i64 B.i, .int .i64 B.e, .int .i64 B.nu, .bool B.nd, .int .i64 B.np, .string B.nn, .int .i64 B.ns, .slice na B.nl.length nc] 46)) [.int .i64 lm, .int .i64 C.k, .int .i64 C.u, .int .i64 C.i, .int .i64 C.e, .int .i64 C.nu, .bool C.nd, .int .i64 C.np, .string C.nn, .int .i64 C.ns, .slice ma C.nl.length mc] 46
    rwa [World.size_alloc] at this
  go_enter Tryz.func55, Tryz.ntmps55
  go_wp2_with fail
  rw [← hW]
  have q0 := hX.cell 2
  have q1 := hX.cell 3
  have q2 := hY.cell 2
  have q3 := hY.cell 3
  have lY := hY.lt
  simp only [List.getElem?_cons_zero, List.getElem?_cons_succ] at q0 q1 q2 q3
  clear hW hX hY
  generalize hbe : w.heap.size = b at *
  generalize hce : b + 1 = c at *
  have HBE := hide hbe
  have hb1 : b < W.heap.size := by omega
  clear hbe hce
  have hD : (fun w' => Gr W w' ∧ w'.cell? ⟨b, 2, none⟩ = some (.int .i64 B.u) ∧ w'.cell? ⟨b, 3, none⟩ = some (.int .i64 B.i) ∧ w'.cell? ⟨c, 2, none⟩ = some (.int .i64 C.u) ∧ w'.cell? ⟨c, 3, none⟩ = some (.int .i64 C.i)) W.drew := ⟨(Gr.refl _).drew, q0, q1, q2, q3⟩
  go_region_held3 (fun w' => Gr W w' ∧ w'.cell? ⟨b, 2, none⟩ = some (.int .i64 B.u) ∧ w'.cell? ⟨b, 3, none⟩ = some (.int .i64 B.i) ∧ w'.cell? ⟨c, 2, none⟩ = some (.int .i64 C.u) ∧ w'.cell? ⟨c, 3, none⟩ = some (.int .i64 C.i)) (first | exact hD | assumption | exact keepG hb1 lY (by assumption) (by assumption) | exact keepG hb1 lY (by assumption) ((Gr.refl _).alloc _))
    (first
      | (go_at_call 86; refine (compare_any _ _ _).mono ?_; rintro r w5 ⟨rfl, rfl⟩)
      | (go_at_call 85; refine (cmpOrI_any _ _ _ _ _ (ints_two_new _ _ _ _)).mono ?_; rintro r w5 ⟨rfl, rfl⟩)
      | (go_at_call 85; refine (cmpOrI_any _ _ _ _ _ (ints_two_drew _ _ _ _)).mono ?_; rintro r w5 ⟨rfl, rfl⟩))
  rename_i hSF
  have HS := hide hSF.1
  clear hSF hD q0 q1 q2 q3
  go_wp2_with fail
  go_ret
  exact ⟨rfl, (unhide hGW).trans (unhide HS)⟩
end Go.Proofs.YtiopofemelninaaGreat
/-
  What slices.SortFunc does to a row of versions.
-/
namespace Go.Proofs.YtiopofemelninaaGreat
open Go.RowKit Go.Sort Go.Shelf
set_option linter.unusedVariables false

abbrev inhV : Inhabited VerA := ⟨verZ⟩
theorem flat_vers (L : List VerA) : @flatK VerA inhV VerA.cells 11 L.toArray = (vflat L).toArray := by
  letI := inhV
  apply Array.ext'
  rw [List.toList_toArray]
  refine List.ext_getElem (by simp [vflat_len]) (fun t h1 h2 => ?_)
  have ht : t < L.length * 11 := by rw [vflat_len] at h2; exact h2
  have hi : t / 11 < L.length := by omega
  have hj : t % 11 < 11 := by omega
  have hl : (L[t / 11].cells).length = 11 := rfl
  have e := vflat_at L (t / 11) hi (t % 11) ((L[t / 11].cells)[t % 11]'(by omega)) (List.getElem?_eq_getElem (by omega))
  rw [show t / 11 * 11 + t % 11 = t by omega, List.getElem?_eq_getElem h2] at e
  have e2 := Option.some.inj e
  rw [e2]
  simp only [flatK, Array.toList_map, Array.toList_range, List.getElem_map, List.getElem_range]
  rw [getElem!_pos L.toArray (t / 11) (by simpa using hi)]
  simp only [List.getElem_toArray]
  rw [getElem!_pos (L[t / 11].cells) (t % 11) (by omega)]
theorem own_holds {w : World} {base g n c : Nat} {L : List VerA} (hn : L.length = n) (h : w.ownsRow base 46 11 (.slice (some ⟨g, 0, none⟩) n c) n (vflat L)) : @HoldsK VerA inhV VerA.cells 11 w g 0 L.toArray := by
  letI := inhV
  intro j hj
  rw [flat_vers] at hj ⊢
  have hj2 : j < (vflat L).length := by simpa using hj
  rw [Nat.zero_add]
  refine ⟨?_, ?_⟩
  · rw [h.cellAt j (by rw [vflat_len, hn] at hj2; exact hj2), List.getElem?_eq_getElem hj2]
    simp [hj2]
  · rcases h.2 with ⟨h0, _⟩ | ⟨g', cap, cur, e, hb, hh, h1, h2, h3, h4⟩
    · cases h0
    · cases e
      have hB : Box w g cur.toList 46 := by simpa [Box] using hh
      exact hB.frozen j
theorem own_sorted {w : World} {base g n c m : Nat} {L M : List VerA} {os : Array Obj} (hn : L.length = n) (hm : M.length = n) (h : w.ownsRow base 46 11 (.slice (some ⟨g, 0, none⟩) n c) n (vflat L)) :
    (@sortWorldK VerA inhV VerA.cells 11 w g 0 m M.toArray os).ownsRow base 46 11 (.slice (some ⟨g, 0, none⟩) n c) n (vflat M) ∧ w.grownBy (@sortWorldK VerA inhV VerA.cells 11 w g 0 m M.toArray os) (some g) := by
  letI := inhV
  rcases h.2 with ⟨h0, _⟩ | ⟨g', cap, cur, e, hb, hh, h1, h2, h3, h4⟩
  · cases h0
  cases e
  have hg : g < w.heap.size := (Array.getElem?_eq_some_iff.1 hh).1
  have hheap : ∀ q, q < w.heap.size → (@sortWorldK VerA inhV VerA.cells 11 w g 0 m M.toArray os).heap[q]? = (w.heap.modify g (onCells (putCells id 0 (@flatK VerA inhV VerA.cells 11 M.toArray))))[q]? := by
    intro q hq
    show ((w.heap.modify g _) ++ os)[q]? = _
    rw [Array.getElem?_append_left (by simpa using hq)]
  refine ⟨⟨by rw [vflat_len, hm], .inr ⟨g, c, putCells id 0 (@flatK VerA inhV VerA.cells 11 M.toArray) cur, rfl, hb, ?_, h1, h2, by simp [putCells, h3], ?_⟩⟩, ?_⟩
  · rw [hheap g hg, Array.getElem?_modify, if_pos rfl, hh]
    rfl
  · rw [flat_vers]
    refine List.ext_getElem (by simp [putCells, vflat_len, hm, h3]; omega) (fun t h5 h6 => ?_)
    have ht : t < n * 11 := by rw [vflat_len, hm] at h6; exact h6
    rw [List.getElem_take]
    simp only [putCells, Array.toList_mapIdx, List.getElem_mapIdx, id_eq, Nat.zero_add, Nat.sub_zero]
    rw [if_pos ⟨Nat.zero_le _, by simpa using h6⟩]
    simp [h6]
  · refine ⟨rfl, rfl, rfl, ?_, fun q hq hne => ?_⟩
    · show w.heap.size ≤ ((w.heap.modify g _) ++ os).size
      simp
    · rw [hheap q hq, Array.getElem?_modify, if_neg (fun e => hne (by rw [e]))]
def ltV (x y : VerA) : Bool := decide (cmpB x.x.b y.x.b < 0)
theorem cmpB_lt (x y : Blk) : cmpB x y < 0 ↔ x.u < y.u ∨ (x.u = y.u ∧ x.i < y.i) := by
  unfold cmpB orI Lib.compareInt
  repeat' split
  all_goals omega
theorem swoV : SWO (ltOf fun x y : VerA => cmpB x.x.b y.x.b) where
  irrefl x := by unfold ltOf; rw [decide_eq_false_iff_not, cmpB_lt]; omega
  trans x y z h1 h2 := by unfold ltOf at *; rw [decide_eq_true_iff, cmpB_lt] at *; omega
  ntrans x y z h1 h2 := by unfold ltOf at *; rw [decide_eq_false_iff_not, cmpB_lt] at *; omega
theorem cmpLaysV (g n : Nat) (w : World) : @CmpLays VerA inhV Tryz.prog 55 #[] VerA.cells 11 (fun x y => cmpB x.x.b y.x.b) g 0 n w :=
  fun m os dk hs x y => (compareThings_any x y _).mono fun e w' ⟨h1, q, os', h2⟩ => ⟨h1, q, os', h2⟩
theorem sortNone_any (p : Option Addr) (c : Nat) (fv : Value) (w : World) : Calls Tryz.prog 54 #[.slice p 0 c, fv] w fun e w' => e = .returned (.tuple #[]) ∧ w' = w := AnyF.slices_SortFunc_none Tryz.sortV p c fv w
set_option maxHeartbeats 1000000 in
theorem sortVers_any (base g n c : Nat) (L : List VerA) (w : World) (hn : L.length = n) (hs : n ≤ 1048576) (h : w.ownsRow base 46 11 (.slice (some ⟨g, 0, none⟩) n c) n (vflat L)) :
    Calls Tryz.prog 54 #[.slice (some ⟨g, 0, none⟩) n c, .func (.func 55) #[] #[]] w fun e w' => e = .returned (.tuple #[]) ∧ ∃ M : List VerA, M.Perm L ∧ M.Pairwise (fun x y => ¬ cmpB y.x.b x.x.b < 0) ∧ w'.ownsRow base 46 11 (.slice (some ⟨g, 0, none⟩) n c) n (vflat M) ∧ w.grownBy w' (some g) := by
  letI := inhV
  have hsz : L.toArray.size = n := by simpa using hn
  have hg : g < w.heap.size := (h.lt g rfl).2
  have hcon := AnyQ.slices_SortFunc Tryz.sortV 11 Tryz.isAgg46 Tryz.sizeOf46 VerA.cells (fun _ => rfl) VerA.one (fun x y => cmpB x.x.b y.x.b) swoV 55 #[] g 0 c L.toArray w (enters_of Tryz.func55 (by kernel_rfl) rfl) (cmpLaysV g _ w) (own_holds hn h) hg (by rw [hsz]; omega)
  rw [hsz] at hcon
  refine hcon.mono ?_
  rintro e w' ⟨rfl, d', m, os, ⟨p1, -, p3⟩, hS, rfl⟩
  have hd : d'.toList.length = n := by rw [Array.length_toList, p1, hsz]
  have hO := own_sorted (m := m) (M := d'.toList) (os := os) hn hd h
  rw [Array.toArray_toList] at hO
  refine ⟨rfl, d'.toList, ?_, ?_, hO.1, hO.2⟩
  · have e1 : d'.extract 0 n = d' := by rw [← hsz, ← p1]; simp
    have e2 : L.toArray.extract 0 n = L.toArray := by rw [← hsz]; simp
    rw [e1, e2] at p3
    simpa using p3
  · rw [List.pairwise_iff_getElem]
    intro i j hi hj hij
    have := hS i j (Nat.zero_le _) hij (by rw [hd] at hj; exact hj)
    unfold ltOf at this
    rw [decide_eq_false_iff_not, getElem!_pos d' j (by simpa using hj), getElem!_pos d' i (by simpa using hi)] at this
    exact this
theorem sortAll_any (base n c : Nat) (a : Option Addr) (L : List VerA) (w : World) (hn : L.length = n) (hs : n ≤ 1048576) (h : w.ownsRow base 46 11 (.slice a n c) n (vflat L)) :
    Calls Tryz.prog 54 #[.slice a n c, .func (.func 55) #[] #[]] w fun e w' => e = .returned (.tuple #[]) ∧ ∃ M : List VerA, M.length = n ∧ M.Perm L ∧ M.Pairwise (fun x y => ¬ cmpB y.x.b x.x.b < 0) ∧ w'.ownsRow base 46 11 (.slice a n c) n (vflat M) ∧ w.grownBy w' (Value.ownBlock (.slice a n c)) := by
  by_cases h0 : n = 0
  · subst h0
    have hL : L = [] := List.length_eq_zero_iff.1 hn
    subst hL
    refine (sortNone_any a c _ w).mono ?_
    rintro e w' ⟨rfl, rfl⟩
    exact ⟨rfl, [], rfl, List.Perm.refl _, List.Pairwise.nil, h, ⟨rfl, rfl, rfl, Nat.le_refl _, fun _ _ _ => rfl⟩⟩
  · obtain ⟨g, c', e⟩ := own_some h (by omega)
    cases e
    refine (sortVers_any base g n c L w hn hs h).mono ?_
    rintro e w' ⟨rfl, M, h1, h2, h3, h4⟩
    exact ⟨rfl, M, by rw [h1.length_eq, hn], h1, h2, h3, h4⟩
end Go.Proofs.YtiopofemelninaaGreat
/-
  Nodes by their uids, as the program keeps them (no Go in sight but the cells of nodes).
-/
namespace Go.Proofs.YtiopofemelninaaGreat
open Go.RowKit Go.Maps
set_option linter.unusedVariables false

theorem lawU : Keyed Tryz.prog 2 := int_keyed Tryz.underlying2
theorem keyU {x : Int} (h : (Lit.int .i64 x).wf = true) : keyOf Tryz.prog 2 (.int .i64 x) = some (.int .i64 x) := keyOf_int_mk Tryz.underlying2 h
def nodeV (b : Blk) : Value := .agg (nodeCells b)
def lookB : List (Lit × Blk) → Lit → Option Blk
  | [], _ => none
  | p :: l, q => if p.1.sameKey q = true then some p.2 else lookB l q
def entB (p : Lit × Blk) : Lit × Value := (p.1, nodeV p.2)
theorem look_entB (q : Lit) : ∀ l : List (Lit × Blk), lookL (l.map entB) q = (lookB l q).map nodeV
  | [] => rfl
  | p :: l => by
    rw [List.map_cons, lookL, lookB]
    by_cases h : p.1.sameKey q = true
    · rw [if_pos h, if_pos (show (entB p).1.sameKey q = true from h)]; rfl
    · rw [if_neg h, if_neg (show ¬ (entB p).1.sameKey q = true from h)]; exact look_entB q l
/-- The node of a uid; one of zeros where there is none. -/
def nodeAt (l : List (Lit × Blk)) (u : Int) : Blk := (lookB l (.int .i64 u)).getD Blk.none
theorem look_node (u : Int) (l : List (Lit × Blk)) : (lookL (l.map entB) (.int .i64 u)).getD (nodeV Blk.none) = nodeV (nodeAt l u) := by
  rw [look_entB, nodeAt]
  cases lookB l (.int .i64 u) <;> rfl
theorem lookB_mem {q : Lit} {b : Blk} : ∀ {l : List (Lit × Blk)}, lookB l q = some b → ∃ p ∈ l, p.2 = b
  | [], h => by cases h
  | p :: l, h => by
    rw [lookB] at h
    split at h
    · exact ⟨p, by simp, by injection h⟩
    · obtain ⟨x, hx, e⟩ := lookB_mem h
      exact ⟨x, by simp [hx], e⟩
def KeysB (l : List (Lit × Blk)) : Prop := ∀ p ∈ l, WideAt.IsKeyLit p.1
theorem KeysB.ent {l : List (Lit × Blk)} (h : KeysB l) : KeysL (l.map entB) := by
  intro p hp
  obtain ⟨q, hq, rfl⟩ := List.mem_map.1 hp
  exact h q hq
def treeStep (acc : List (Lit × Blk)) (x : VerA) : List (Lit × Blk) := (.int .i64 x.x.b.nu, x.x.b) :: acc
def treeM (N : List VerA) : List (Lit × Blk) := N.foldl treeStep []
theorem treeM_succ {N : List VerA} {i : Nat} (hi : i < N.length) : treeM (N.take (i + 1)) = (.int .i64 N[i].x.b.nu, N[i].x.b) :: treeM (N.take i) := by
  rw [List.take_succ_eq_append_getElem hi, treeM, List.foldl_append]; rfl
theorem treeM_rev : ∀ (N : List VerA) (acc : List (Lit × Blk)), N.foldl treeStep acc = (N.map fun x => (Lit.int .i64 x.x.b.nu, x.x.b)).reverse ++ acc
  | [], acc => rfl
  | x :: N, acc => by rw [List.foldl_cons, treeM_rev N]; simp [treeStep]
theorem treeM_eq (N : List VerA) : treeM N = (N.map fun x => (Lit.int .i64 x.x.b.nu, x.x.b)).reverse := by rw [treeM, treeM_rev, List.append_nil]
theorem treeM_keys (N : List VerA) : KeysB (treeM N) := by
  intro p hp
  rw [treeM_eq, List.mem_reverse] at hp
  obtain ⟨x, _, rfl⟩ := List.mem_map.1 hp
  simp [WideAt.IsKeyLit]
theorem treeM_len (N : List VerA) : (treeM N).length = N.length := by rw [treeM_eq]; simp
theorem treeM_mem {N : List VerA} {p : Lit × Blk} (h : p ∈ treeM N) : ∃ x ∈ N, p = (Lit.int .i64 x.x.b.nu, x.x.b) := by
  rw [treeM_eq, List.mem_reverse] at h
  obtain ⟨x, hx, rfl⟩ := List.mem_map.1 h
  exact ⟨x, hx, rfl⟩
/-- So many steps lead to the root. -/
def leadsB (l : List (Lit × Blk)) : Nat → Blk → Bool
  | 0, _ => false
  | s + 1, n => if n.np = 0 then true else if (nodeAt l n.np).nd = true then leadsB l s (nodeAt l n.np) else false
/-- What the nodes of a tree may be. -/
def GoodT (l : List (Lit × Blk)) : Prop := ∀ p ∈ l, (0 ≤ p.2.np ∧ p.2.np ≤ 999)
theorem nodeAt_np {l : List (Lit × Blk)} (h : GoodT l) (u : Int) : 0 ≤ (nodeAt l u).np ∧ (nodeAt l u).np ≤ 999 := by
  unfold nodeAt
  cases hl : lookB l (.int .i64 u) with
  | none => exact ⟨Int.le_refl _, by decide⟩
  | some b =>
    obtain ⟨p, hp, rfl⟩ := lookB_mem hl
    exact h p hp
theorem zero_node (w : World) : (zeroValue 42).run Tryz.prog w = .ok (nodeV Blk.none) w := by kernel_rfl
end Go.Proofs.YtiopofemelninaaGreat
/-
  What a range over a map has seen.
-/
namespace Go.Proofs.YtiopofemelninaaGreat
open Go.RowKit Go.Maps
set_option linter.unusedVariables false

/-- f: what the map holds; left: the keys still to come; vis: the entries that have come, in their order. -/
structure Seen {α : Type} (f : Lit → Option α) (left : Lit → Bool) (vis : List (Lit × α)) : Prop where
  mem : ∀ p ∈ vis, f p.1 = some p.2 ∧ left p.1 = false
  apart : vis.Pairwise (fun p q => p.1 ≠ q.1)
  ok : ∀ q, left q = true → ∃ x, f q = some x
  all : ∀ q x, f q = some x → left q = false → (q, x) ∈ vis
theorem Seen.start {α : Type} {f : Lit → Option α} {left : Lit → Bool} (h : ∀ q, left q = (f q).isSome) : Seen f left [] where
  mem p hp := by cases hp
  apart := List.Pairwise.nil
  ok q hq := by
    rw [h] at hq
    exact Option.isSome_iff_exists.1 hq
  all q x hx hl := by rw [h, hx] at hl; cases hl
theorem Seen.step {α : Type} {f : Lit → Option α} {left : Lit → Bool} {vis : List (Lit × α)} (h : Seen f left vis) {q : Lit} {x : α} (hq : left q = true) (hf : f q = some x) (hk : WideAt.IsKeyLit q) : Seen f (fun z => left z && !z.sameKey q) (vis ++ [(q, x)]) where
  mem p hp := by
    rcases List.mem_append.1 hp with hp | hp
    · exact ⟨(h.mem p hp).1, by show (left p.1 && _) = false; rw [(h.mem p hp).2]; rfl⟩
    · rcases List.mem_singleton.1 hp with rfl
      exact ⟨hf, by show (left q && !q.sameKey q) = false; rw [WideAt.sameKey_self hk]; simp⟩
  apart := List.pairwise_append.2 ⟨h.apart, List.pairwise_singleton _ _, fun p hp r hr => by
    rcases List.mem_singleton.1 hr with rfl
    intro e
    have := (h.mem p hp).2
    rw [e, hq] at this
    cases this⟩
  ok z hz := h.ok z (by
    have : (left z && !z.sameKey q) = true := hz
    rw [Bool.and_eq_true] at this
    exact this.1)
  all z y hz hl := by
    have hl' : (left z && !z.sameKey q) = false := hl
    cases hlz : left z with
    | false => exact List.mem_append_left _ (h.all z y hz hlz)
    | true =>
      rw [hlz, Bool.true_and] at hl'
      have hs : z.sameKey q = true := by cases h2 : z.sameKey q <;> simp_all
      have e := WideAt.sameKey_eq hs
      subst e
      rw [hf] at hz
      injection hz with hz
      subst hz
      exact List.mem_append_right _ (by simp)
theorem Seen.done {α : Type} {f : Lit → Option α} {left : Lit → Bool} {vis : List (Lit × α)} (h : Seen f left vis) (hl : ∀ q, left q = false) (q : Lit) (x : α) : f q = some x ↔ (q, x) ∈ vis :=
  ⟨fun hf => h.all q x hf (hl q), fun hm => (h.mem _ hm).1⟩
theorem Below.grew {w w' : World} (h : Below w.heap.size w w') : w.grownBy w' none := ⟨h.os, h.tape, h.output, h.size, fun k hk _ => h.block k hk⟩
/-- The value that has come is the value stored. -/
theorem came {l : List (Lit × Value)} (hk : KeysL l) {kl : Lit} {v : Value} {y : DK × List MemPlace} (hv : vK v = some y) (hat : ∀ zd, (putsL l).atKey kl zd = y.1) (hs : ∃ x, lookL l kl = some x) : lookL l kl = some v := by
  have e : y = (.held v, []) := (Option.some.inj hv).symm
  subst e
  obtain ⟨x, hx⟩ := hs
  exact putsL_held hk (by rw [hx]; simp) hat
end Go.Proofs.YtiopofemelninaaGreat
/-
  What nodesAmong and datasAmong answer.
-/
namespace Go.Proofs.YtiopofemelninaaGreat
open Go.RowKit
set_option linter.unusedVariables false

/-- M: what f picks of a map's entries l, sorted. -/
def Picked (f : VerA → Bool) (l : List (Lit × VerA)) (M : List VerA) : Prop :=
  ∃ vis : List (Lit × VerA), vis.Pairwise (fun p q => p.1 ≠ q.1) ∧ (∀ q x, lookV l q = some x ↔ (q, x) ∈ vis) ∧ M.Perm ((vis.map (·.2)).filter f) ∧ M.Pairwise (fun x y => ¬ cmpB y.x.b x.x.b < 0)
theorem lookV_mem {q : Lit} {b : VerA} : ∀ {l : List (Lit × VerA)}, lookV l q = some b → ∃ p ∈ l, p.2 = b
  | [], h => by cases h
  | p :: l, h => by
    rw [lookV] at h
    split at h
    · exact ⟨p, by simp, by injection h⟩
    · obtain ⟨x, hx, e⟩ := lookV_mem h
      exact ⟨x, by simp [hx], e⟩
def picked (f : VerA → Bool) (vis : List (Lit × VerA)) : List VerA := (vis.map (·.2)).filter f
theorem picked_snoc (f : VerA → Bool) (vis : List (Lit × VerA)) (q : Lit) (x : VerA) : picked f (vis ++ [(q, x)]) = picked f vis ++ (if f x = true then [x] else []) := by
  rw [picked, List.map_append, List.filter_append, picked]
  cases h : f x <;> simp [h]
theorem picked_len (f : VerA → Bool) (vis : List (Lit × VerA)) : (picked f vis).length ≤ vis.length := Nat.le_trans (List.length_filter_le _ _) (by simp)
theorem verV_inj {x y : VerA} (h : verV x = verV y) : x.line = y.line ∧ x.x.b.k = y.x.b.k := by
  simp only [verV, VerA.cells, BlkA.cells] at h
  injection h with h
  simp at h
  exact ⟨h.1, h.2.1⟩
/-- A piece of a file that there is, by the tree. -/
def pieceF (tl : List (Lit × Blk)) (x : VerA) : Bool := (x.x.b.k == 2) && decide (x.x.b.i < (nodeAt tl x.x.b.u).ns)
theorem fldNode (nu : Int) (nd : Bool) (np : Int) (nn : ByteArray) (ns : Int) (w : World) : (Instr.field 42 (.agg #[.int .i64 nu, .bool nd, .int .i64 np, .string nn, .int .i64 ns]) 4).run Tryz.prog w = .ok (.int .i64 ns) w := by kernel_rfl
set_option maxRecDepth 20000 in
set_option maxHeartbeats 4000000 in
theorem nodesAmong_any (b : Nat) (l : List (Lit × VerA)) (w : World) (h : KMap 95 w b (l.map entV)) (hk : KeysV l) (hn : l.length ≤ 1000) :
    Calls Tryz.prog 28 #[.map (some b)] w fun e w' => (∃ (a : Option Addr) (c : Nat) (M : List VerA), e = .returned (.slice a M.length c) ∧ w'.ownsRow w.heap.size 46 11 (.slice a M.length c) M.length (vflat M) ∧ Picked (fun x => x.x.b.k == 1) l M) ∧ Below w.heap.size w w' := by
  have M := hide h
  have HK := hide hk
  have lb := h.lt
  obtain ⟨i0, hii, hz0, hz1, hz2⟩ := info_parts infoVer
  clear h hk
  go_enter Tryz.func28, Tryz.ntmps28
  go_wp2_with (first | (at_range; refine wpList_range_own _ rfl _ 64 rfl 95 46 lawThing Tryz.underlying64 vK b (l.map entV).length (putsL (l.map entV)) rfl (unhide M) ?_; intro w0 hrg0 hg0 hs0) | fail)
  go_frame
  have HB0 : Hid (Below w.heap.size w w0) := ⟨hg0.os, hg0.tape, hg0.output, hg0.size, fun q hq => hg0.block q hq (by simp)⟩
  rw [List.length_map] at hrg0
  have HR0 := hide hrg0
  clear hrg0 hg0 M
  go_loopw [3] (fun v3 wr => ∃ left cnt vis, vis.length + cnt ≤ l.length ∧ Hid (wr.ranges Tryz.prog 95 vK b w.heap.size l.length (putsL (l.map entV)) left cnt) ∧ Hid (Below w.heap.size w wr) ∧ Hid (Seen (lookV l) left vis) ∧ ∃ (a : Option Addr) (c : Nat), v3 = .slice a (picked (fun x => x.x.b.k == 1) vis).length c ∧ Hid (wr.ownsRow (w.heap.size + 1) 46 11 (.slice a (picked (fun x => x.x.b.k == 1) vis).length c) (picked (fun x => x.x.b.k == 1) vis).length (vflat (picked (fun x => x.x.b.k == 1) vis)))) (fun _ wr => wr.rangeLeft b w.heap.size)
  case atStart => exact ⟨_, _, [], by simp only [List.length_nil, Nat.zero_add]; exact (unhide HR0).owns.size_le, unhide HR0, unhide HB0, Seen.start (fun q => by rw [putsL_has _ _ (unhide HK).ent, look_entV]; simp), none, 0, rfl, World.ownsRow_nil _ _ _ _⟩
  case round =>
    obtain ⟨left, cnt, vis, hvc, HR, HB, HS, a, c, rfl, HO⟩ := hrel
    have hwz := (unhide HB).size
    have lr := (unhide HR).lt
    go_wp2_with (first | (at_next; refine wpList_next_ranges _ rfl _ rfl 95 lawThing vK id id (fun key kl _ => ⟨key, rfl⟩) (fun v y _ => ⟨v, rfl⟩) b w.heap.size _ _ left cnt rfl (unhide HR) ?_ ?_) | fail)
    · intro hc0 hl0
      have hpl := picked_len (fun x => x.x.b.k == 1) vis
      have HVS : Hid (vis.Pairwise (fun p q => p.1 ≠ q.1) ∧ (∀ q x, lookV l q = some x ↔ (q, x) ∈ vis)) := ⟨(unhide HS).apart, (unhide HS).done hl0⟩
      clear HR HS hl0
      go_wp2_with fail
      refine (sortAll_any (w.heap.size + 1) _ c a _ _ rfl (by omega) (unhide HO)).mono ?_
      rintro r w5 ⟨rfl, M, hML, hMP, hMS, hO5, hg5⟩
      have HB5 : Hid (Below w.heap.size w w5) := (unhide HB).grown hg5 hwz (fun q hq => by have := ((unhide HO).lt q hq).1; omega)
      have HO5 := hide hO5
      have HPK : Hid (Picked (fun x => x.x.b.k == 1) l M) := ⟨vis, (unhide HVS).1, (unhide HVS).2, hMP, hMS⟩
      clear hMP hMS hO5 hg5 HO HVS
      go_wp2_with fail
      go_ret
      refine ⟨⟨a, c, M, by rw [hML]; rfl, ?_, unhide HPK⟩, unhide HB5⟩
      rw [hML]
      exact own_base (unhide HO5) (fun q hq => by have := ((unhide HO5).lt q hq).1; omega)
    · intro x v kl d ps w1 cnt1 hkey hlk hv hat hrg1 hlt hg1 hs1 hen
      have hsome := (unhide HS).ok kl hlk
      have hlook := came (unhide HK).ent hv hat (by obtain ⟨y, hy⟩ := hsome; exact ⟨verV y, by rw [look_entV, hy]; rfl⟩)
      rw [look_entV] at hlook
      obtain ⟨X, hX⟩ := hsome
      rw [hX] at hlook
      have hvB : v = verV X := (Option.some.inj hlook).symm
      subst hvB
      have HS1 := hide ((unhide HS).step hlk hX (lawThing.key hkey))
      have hps := picked_snoc (fun x => x.x.b.k == 1) vis kl X
      have hpl := picked_len (fun x => x.x.b.k == 1) vis
      have HB1 : Hid (Below w.heap.size w w1) := (unhide HB).grown hg1 (by omega) (fun j e => by injection e; omega)
      have HR1 := hide hrg1
      have HO1 : Hid (w1.ownsRow (w.heap.size + 1) 46 11 (.slice a (picked (fun x => x.x.b.k == 1) vis).length c) (picked (fun x => x.x.b.k == 1) vis).length (vflat (picked (fun x => x.x.b.k == 1) vis))) := own_stay (unhide HO) (fun q hq hq2 => hg1.block q hq2 (fun e => by have := ((unhide HO).lt q hq).1; injection e; omega))
      have HCN : Hid (cnt = wr.rangeLeft b w.heap.size) := (unhide HR).left_eq.symm
      obtain ⟨ln, ⟨B, na, nc⟩⟩ := X
      have HPS := hide hps
      clear hkey hlk hv hat hrg1 hg1 hlook HS HR hX hps HO HB
      simp only [verV, VerA.cells, BlkA.cells] at hen ⊢
      by_cases hk1 : B.k = 1
      case neg =>
        have hkb : (B.k == 1) = false := by simpa using hk1
        have HPS2 : Hid (picked (fun x => x.x.b.k == 1) (vis ++ [(kl, ⟨ln, ⟨B, na, nc⟩⟩)]) = picked (fun x => x.x.b.k == 1) vis) := by rw [Hid, unhide HPS]; simp [hkb]
        clear hk1
        have HBN := hide ((unhide HB1).alloc (by omega) (.cells #[.int .i64 ln, .int .i64 B.k, .int .i64 B.u, .int .i64 B.i, .int .i64 B.e, .int .i64 B.nu, .bool B.nd, .int .i64 B.np, .string B.nn, .int .i64 B.ns, .slice na B.nl.length nc] 46))
        have HRN := hide ((unhide HR1).alloc (.cells #[.int .i64 ln, .int .i64 B.k, .int .i64 B.u, .int .i64 B.i, .int .i64 B.e, .int .i64 B.nu, .bool B.nd, .int .i64 B.np, .string B.nn, .int .i64 B.ns, .slice na B.nl.length nc] 46))
        have HON := hide (own_below (unhide HO1) ((Below.refl _ w1).alloc (Nat.le_refl _) (.cells #[.int .i64 ln, .int .i64 B.k, .int .i64 B.u, .int .i64 B.i, .int .i64 B.e, .int .i64 B.nu, .bool B.nd, .int .i64 B.np, .string B.nn, .int .i64 B.ns, .slice na B.nl.length nc] 46)))
        rw [← unhide HPS2] at HON
        go_wp2_with fail
        refine ⟨⟨_, cnt1, _, by rw [List.length_append]; simp only [List.length_cons, List.length_nil]; omega, unhide HRN, unhide HBN, unhide HS1, a, c, by rw [unhide HPS2], unhide HON⟩, ?_⟩
        rw [(unhide HRN).left_eq, ← unhide HCN]
        exact hlt
      have hkb : (B.k == 1) = true := by simpa using hk1
      have HPS2 : Hid (picked (fun x => x.x.b.k == 1) (vis ++ [(kl, ⟨ln, ⟨B, na, nc⟩⟩)]) = picked (fun x => x.x.b.k == 1) vis ++ [⟨ln, ⟨B, na, nc⟩⟩]) := by rw [Hid, unhide HPS]; simp [hkb]
      clear hk1
      have hA2 : Below w1.heap.size w1 ((w1.alloc (.cells #[.int .i64 ln, .int .i64 B.k, .int .i64 B.u, .int .i64 B.i, .int .i64 B.e, .int .i64 B.nu, .bool B.nd, .int .i64 B.np, .string B.nn, .int .i64 B.ns, .slice na B.nl.length nc] 46)).alloc (.cells #[.int .i64 ln, .int .i64 B.k, .int .i64 B.u, .int .i64 B.i, .int .i64 B.e, .int .i64 B.nu, .bool B.nd, .int .i64 B.np, .string B.nn, .int .i64 B.ns, .slice na B.nl.length nc] 46)) := ((Below.refl _ _).alloc (Nat.le_refl _) _).alloc (by simp) _
      have hw1 : w.heap.size + 1 ≤ w1.heap.size := by omega
      have HBN := hide (below_step (unhide HB1) hA2 (by omega))
      have HRN := hide ((unhide HR1).kept (Below.grew hA2) (by simp) (by simp))
      have HON := hide (own_below (unhide HO1) hA2)
      have RA : Hid (RowAt ((w1.alloc (.cells #[.int .i64 ln, .int .i64 B.k, .int .i64 B.u, .int .i64 B.i, .int .i64 B.e, .int .i64 B.nu, .bool B.nd, .int .i64 B.np, .string B.nn, .int .i64 B.ns, .slice na B.nl.length nc] 46)).alloc (.cells #[.int .i64 ln, .int .i64 B.k, .int .i64 B.u, .int .i64 B.i, .int .i64 B.e, .int .i64 B.nu, .bool B.nd, .int .i64 B.np, .string B.nn, .int .i64 B.ns, .slice na B.nl.length nc] 46)) (some ⟨w1.heap.size + 1, 0, none⟩) (VerA.cells ⟨ln, ⟨B, na, nc⟩⟩)) := by
        have := rowAt_fresh (w1.alloc (.cells #[.int .i64 ln, .int .i64 B.k, .int .i64 B.u, .int .i64 B.i, .int .i64 B.e, .int .i64 B.nu, .bool B.nd, .int .i64 B.np, .string B.nn, .int .i64 B.ns, .slice na B.nl.length nc] 46)) (VerA.cells ⟨ln, ⟨B, na, nc⟩⟩) 46
        rw [World.size_alloc] at this
        exact this
      have hz2 : w.heap.size + 1 ≤ ((w1.alloc (.cells #[.int .i64 ln, .int .i64 B.k, .int .i64 B.u, .int .i64 B.i, .int .i64 B.e, .int .i64 B.nu, .bool B.nd, .int .i64 B.np, .string B.nn, .int .i64 B.ns, .slice na B.nl.length nc] 46)).alloc (.cells #[.int .i64 ln, .int .i64 B.k, .int .i64 B.u, .int .i64 B.i, .int .i64 B.e, .int .i64 B.nu, .bool B.nd, .int .i64 B.np, .string B.nn, .int .i64 B.ns, .slice na B.nl.length nc] 46)).heap.size := by simp; omega
      have HZ2 := hide hz2
      rw [hs1] at RA
      clear hA2 HB1 HR1 HO1 hz2
      go_wp2_with (at_builtin; refine wpList_append_xs _ rfl _ _ 26 rfl (w.heap.size + 1) 46 i0 _ 11 112 Tryz.underlying26 hii hz0 hz1 hz2 rfl (by decide) (by decide) (.slice a (picked (fun x => x.x.b.k == 1) vis).length c) _ _ rfl (unhide HON) _ 1 1 (VerA.cells ⟨ln, ⟨B, na, nc⟩⟩) rfl rfl (unhide RA) (VerA.one _) (by omega) (unhide HZ2) ?_; intro v' w6 hown hgrow hloc; obtain ⟨a3, c3, e3, -⟩ := rowAt_own hown; subst e3; have HOW := hide hown; have HGR := hide hgrow; clear hown hgrow hloc)
      have hne : ∀ q, Value.ownBlock (.slice a (picked (fun x => x.x.b.k == 1) vis).length c) = some q → w.heap.size + 1 ≤ q := fun q hq => ((unhide HON).lt q hq).1
      have HB6 : Hid (Below w.heap.size w w6) := (unhide HBN).grown (unhide HGR) (by have := (unhide HBN).size; omega) (fun q hq => by have := hne q hq; omega)
      have HR6 := hide ((unhide HRN).kept (unhide HGR) (fun e => by have := hne _ e.symm; omega) (fun e => by have := hne _ e.symm; omega))
      have hl6 : (picked (fun x => x.x.b.k == 1) (vis ++ [(kl, ⟨ln, ⟨B, na, nc⟩⟩)])).length = (picked (fun x => x.x.b.k == 1) vis).length + 1 := by rw [unhide HPS2]; simp
      refine ⟨⟨_, cnt1, _, by rw [List.length_append]; simp only [List.length_cons, List.length_nil]; omega, unhide HR6, unhide HB6, unhide HS1, a3, c3, by rw [hl6], ?_⟩, ?_⟩
      · show w6.ownsRow _ _ _ _ _ _
        rw [hl6, unhide HPS2, vflat_snoc]
        exact unhide HOW
      · rw [(unhide HR6).left_eq, ← unhide HCN]
        exact hlt
set_option maxRecDepth 20000 in
set_option maxHeartbeats 4000000 in
theorem datasAmong_any (b : Nat) (l : List (Lit × VerA)) (bt : Nat) (tl : List (Lit × Blk)) (w : World) (h : KMap 95 w b (l.map entV)) (hk : KeysV l) (hn : l.length ≤ 1000) (ht : KMap 2 w bt (tl.map entB)) (hkt : KeysB tl) (hu : ∀ p ∈ l, 0 ≤ p.2.x.b.u ∧ p.2.x.b.u ≤ 999) :
    Calls Tryz.prog 30 #[.map (some b), .map (some bt)] w fun e w' => (∃ (a : Option Addr) (c : Nat) (M : List VerA), e = .returned (.slice a M.length c) ∧ w'.ownsRow w.heap.size 46 11 (.slice a M.length c) M.length (vflat M) ∧ Picked (pieceF tl) l M) ∧ Below w.heap.size w w' := by
  have M := hide h
  have HK := hide hk
  have lb := h.lt
  obtain ⟨i0, hii, hz0, hz1, hz2⟩ := info_parts infoVer
  have TR := hide ht
  have HKT := hide hkt
  have HU := hide hu
  clear h hk ht hkt hu
  go_enter Tryz.func30, Tryz.ntmps30
  go_wp2_with (first | (at_range; refine wpList_range_own _ rfl _ 64 rfl 95 46 lawThing Tryz.underlying64 vK b (l.map entV).length (putsL (l.map entV)) rfl (unhide M) ?_; intro w0 hrg0 hg0 hs0) | fail)
  go_frame
  have HB0 : Hid (Below w.heap.size w w0) := ⟨hg0.os, hg0.tape, hg0.output, hg0.size, fun q hq => hg0.block q hq (by simp)⟩
  rw [List.length_map] at hrg0
  have HR0 := hide hrg0
  clear hrg0 hg0 M
  go_loopw [5] (fun v3 wr => ∃ left cnt vis, vis.length + cnt ≤ l.length ∧ Hid (wr.ranges Tryz.prog 95 vK b w.heap.size l.length (putsL (l.map entV)) left cnt) ∧ Hid (Below w.heap.size w wr) ∧ Hid (Seen (lookV l) left vis) ∧ ∃ (a : Option Addr) (c : Nat), v3 = .slice a (picked (pieceF tl) vis).length c ∧ Hid (wr.ownsRow (w.heap.size + 1) 46 11 (.slice a (picked (pieceF tl) vis).length c) (picked (pieceF tl) vis).length (vflat (picked (pieceF tl) vis)))) (fun _ wr => wr.rangeLeft b w.heap.size)
  case atStart => exact ⟨_, _, [], by simp only [List.length_nil, Nat.zero_add]; exact (unhide HR0).owns.size_le, unhide HR0, unhide HB0, Seen.start (fun q => by rw [putsL_has _ _ (unhide HK).ent, look_entV]; simp), none, 0, rfl, World.ownsRow_nil _ _ _ _⟩
  case round =>
    obtain ⟨left, cnt, vis, hvc, HR, HB, HS, a, c, rfl, HO⟩ := hrel
    have hwz := (unhide HB).size
    have lr := (unhide HR).lt
    go_wp2_with (first | (at_next; refine wpList_next_ranges _ rfl _ rfl 95 lawThing vK id id (fun key kl _ => ⟨key, rfl⟩) (fun v y _ => ⟨v, rfl⟩) b w.heap.size _ _ left cnt rfl (unhide HR) ?_ ?_) | fail)
    · intro hc0 hl0
      have hpl := picked_len (pieceF tl) vis
      have HVS : Hid (vis.Pairwise (fun p q => p.1 ≠ q.1) ∧ (∀ q x, lookV l q = some x ↔ (q, x) ∈ vis)) := ⟨(unhide HS).apart, (unhide HS).done hl0⟩
      clear HR HS hl0
      go_wp2_with fail
      refine (sortAll_any (w.heap.size + 1) _ c a _ _ rfl (by omega) (unhide HO)).mono ?_
      rintro r w5 ⟨rfl, M, hML, hMP, hMS, hO5, hg5⟩
      have HB5 : Hid (Below w.heap.size w w5) := (unhide HB).grown hg5 hwz (fun q hq => by have := ((unhide HO).lt q hq).1; omega)
      have HO5 := hide hO5
      have HPK : Hid (Picked (pieceF tl) l M) := ⟨vis, (unhide HVS).1, (unhide HVS).2, hMP, hMS⟩
      clear hMP hMS hO5 hg5 HO HVS
      go_wp2_with fail
      go_ret
      refine ⟨⟨a, c, M, by rw [hML]; rfl, ?_, unhide HPK⟩, unhide HB5⟩
      rw [hML]
      exact own_base (unhide HO5) (fun q hq => by have := ((unhide HO5).lt q hq).1; omega)
    · intro x v kl d ps w1 cnt1 hkey hlk hv hat hrg1 hlt hg1 hs1 hen
      have hsome := (unhide HS).ok kl hlk
      have hlook := came (unhide HK).ent hv hat (by obtain ⟨y, hy⟩ := hsome; exact ⟨verV y, by rw [look_entV, hy]; rfl⟩)
      rw [look_entV] at hlook
      obtain ⟨X, hX⟩ := hsome
      rw [hX] at hlook
      have hvB : v = verV X := (Option.some.inj hlook).symm
      subst hvB
      have HS1 := hide ((unhide HS).step hlk hX (lawThing.key hkey))
      have hub : 0 ≤ X.x.b.u ∧ X.x.b.u ≤ 999 := by obtain ⟨p, hp, e⟩ := lookV_mem hX; rw [← e]; exact unhide HU p hp
      have hps := picked_snoc (pieceF tl) vis kl X
      have hpl := picked_len (pieceF tl) vis
      have HB1 : Hid (Below w.heap.size w w1) := (unhide HB).grown hg1 (by omega) (fun j e => by injection e; omega)
      have HR1 := hide hrg1
      have HO1 : Hid (w1.ownsRow (w.heap.size + 1) 46 11 (.slice a (picked (pieceF tl) vis).length c) (picked (pieceF tl) vis).length (vflat (picked (pieceF tl) vis))) := own_stay (unhide HO) (fun q hq hq2 => hg1.block q hq2 (fun e => by have := ((unhide HO).lt q hq).1; injection e; omega))
      have HCN : Hid (cnt = wr.rangeLeft b w.heap.size) := (unhide HR).left_eq.symm
      obtain ⟨ln, ⟨B, na, nc⟩⟩ := X
      have HPS := hide hps
      clear hkey hlk hv hat hrg1 hg1 hlook HS HR hX hps HO HB
      simp only [verV, VerA.cells, BlkA.cells] at hen ⊢
      have hA2 : Below w1.heap.size w1 ((w1.alloc (.cells #[.int .i64 ln, .int .i64 B.k, .int .i64 B.u, .int .i64 B.i, .int .i64 B.e, .int .i64 B.nu, .bool B.nd, .int .i64 B.np, .string B.nn, .int .i64 B.ns, .slice na B.nl.length nc] 46)).alloc (.cells #[.int .i64 B.k, .int .i64 B.u, .int .i64 B.i, .int .i64 B.e] 40)) := ((Below.refl _ _).alloc (Nat.le_refl _) _).alloc (by simp) _
      have hA3 : Below w1.heap.size w1 (((w1.alloc (.cells #[.int .i64 ln, .int .i64 B.k, .int .i64 B.u, .int .i64 B.i, .int .i64 B.e, .int .i64 B.nu, .bool B.nd, .int .i64 B.np, .string B.nn, .int .i64 B.ns, .slice na B.nl.length nc] 46)).alloc (.cells #[.int .i64 B.k, .int .i64 B.u, .int .i64 B.i, .int .i64 B.e] 40)).alloc (.cells #[.int .i64 ln, .int .i64 B.k, .int .i64 B.u, .int .i64 B.i, .int .i64 B.e, .int .i64 B.nu, .bool B.nd, .int .i64 B.np, .string B.nn, .int .i64 B.ns, .slice na B.nl.length nc] 46)) := (((Below.refl _ _).alloc (Nat.le_refl _) _).alloc (by simp) _).alloc (by simp; omega) _
      have hub' : 0 ≤ B.u ∧ B.u ≤ 999 := hub
      have hl := KMap.look_in (((unhide TR).below (unhide HB1)).below hA2) lawU (unhide HKT).ent Tryz.underlying68 (zero_node _) (keyU (wf64 (x := B.u) (by omega)))
      rw [look_node] at hl
      have HPF : Hid (pieceF tl ⟨ln, ⟨B, na, nc⟩⟩ = ((B.k == 2) && decide (B.i < (nodeAt tl B.u).ns))) := rfl
      generalize nodeAt tl B.u = O at hl HPF
      simp only [nodeV, nodeCells] at hl
      have f4 := fun w' => fldNode O.nu O.nd O.np O.nn O.ns w'
      have hw1 : w.heap.size + 1 ≤ w1.heap.size := by omega
      have HBN := hide (below_step (unhide HB1) hA2 (by omega))
      have HRN := hide ((unhide HR1).kept (Below.grew hA2) (by simp) (by simp))
      have HON := hide (own_below (unhide HO1) hA2)
      cases hkb : (B.k == 2)
      case false =>
        clear hA3 hA2 HB1 HR1 HO1 hl f4 hub hub'
        have HPS2 : Hid (picked (pieceF tl) (vis ++ [(kl, ⟨ln, ⟨B, na, nc⟩⟩)]) = picked (pieceF tl) vis) := by rw [Hid, unhide HPS]; simp [unhide HPF, hkb]
        have hB3 := unhide HBN
        rw [← unhide HPS2] at HON
        go_wp2_with fail
        refine ⟨⟨_, cnt1, _, by rw [List.length_append]; simp only [List.length_cons, List.length_nil]; omega, unhide HRN, unhide HBN, unhide HS1, a, c, by rw [unhide HPS2], unhide HON⟩, ?_⟩
        rw [(unhide HRN).left_eq, ← unhide HCN]
        exact hlt
      by_cases hii2 : B.i < O.ns
      case neg =>
        clear hA3 hA2 HB1 HR1 HO1 hub hub'
        have HII := hide (decide_eq_false hii2)
        have HPS2 : Hid (picked (pieceF tl) (vis ++ [(kl, ⟨ln, ⟨B, na, nc⟩⟩)]) = picked (pieceF tl) vis) := by rw [Hid, unhide HPS]; simp [unhide HPF, hii2]
        have hB3 := unhide HBN
        rw [← unhide HPS2] at HON
        go_wp2_with fail
        refine ⟨⟨_, cnt1, _, by rw [List.length_append]; simp only [List.length_cons, List.length_nil]; omega, unhide HRN, unhide HBN, unhide HS1, a, c, by rw [unhide HPS2], unhide HON⟩, ?_⟩
        rw [(unhide HRN).left_eq, ← unhide HCN]
        exact hlt
      have HPS2 : Hid (picked (pieceF tl) (vis ++ [(kl, ⟨ln, ⟨B, na, nc⟩⟩)]) = picked (pieceF tl) vis ++ [⟨ln, ⟨B, na, nc⟩⟩]) := by rw [Hid, unhide HPS]; simp [unhide HPF, hkb, hii2]
      have HBN3 := hide (below_step (unhide HB1) hA3 (by omega))
      have HRN3 := hide ((unhide HR1).kept (Below.grew hA3) (by simp) (by simp))
      have HON3 := hide (own_below (unhide HO1) hA3)
      have RA : Hid (RowAt (((w1.alloc (.cells #[.int .i64 ln, .int .i64 B.k, .int .i64 B.u, .int .i64 B.i, .int .i64 B.e, .int .i64 B.nu, .bool B.nd, .int .i64 B.np, .string B.nn, .int .i64 B.ns, .slice na B.nl.length nc] 46)).alloc (.cells #[.int .i64 B.k, .int .i64 B.u, .int .i64 B.i, .int .i64 B.e] 40)).alloc (.cells #[.int .i64 ln, .int .i64 B.k, .int .i64 B.u, .int .i64 B.i, .int .i64 B.e, .int .i64 B.nu, .bool B.nd, .int .i64 B.np, .string B.nn, .int .i64 B.ns, .slice na B.nl.length nc] 46)) (some ⟨w1.heap.size + 1 + 1, 0, none⟩) (VerA.cells ⟨ln, ⟨B, na, nc⟩⟩)) := by
        have := rowAt_fresh ((w1.alloc (.cells #[.int .i64 ln, .int .i64 B.k, .int .i64 B.u, .int .i64 B.i, .int .i64 B.e, .int .i64 B.nu, .bool B.nd, .int .i64 B.np, .string B.nn, .int .i64 B.ns, .slice na B.nl.length nc] 46)).alloc (.cells #[.int .i64 B.k, .int .i64 B.u, .int .i64 B.i, .int .i64 B.e] 40)) (VerA.cells ⟨ln, ⟨B, na, nc⟩⟩) 46
        rw [World.size_alloc, World.size_alloc] at this
        exact this
      have hz2 : w.heap.size + 1 ≤ (((w1.alloc (.cells #[.int .i64 ln, .int .i64 B.k, .int .i64 B.u, .int .i64 B.i, .int .i64 B.e, .int .i64 B.nu, .bool B.nd, .int .i64 B.np, .string B.nn, .int .i64 B.ns, .slice na B.nl.length nc] 46)).alloc (.cells #[.int .i64 B.k, .int .i64 B.u, .int .i64 B.i, .int .i64 B.e] 40)).alloc (.cells #[.int .i64 ln, .int .i64 B.k, .int .i64 B.u, .int .i64 B.i, .int .i64 B.e, .int .i64 B.nu, .bool B.nd, .int .i64 B.np, .string B.nn, .int .i64 B.ns, .slice na B.nl.length nc] 46)).heap.size := by simp; omega
      have HZ2 := hide hz2
      rw [hs1] at RA
      clear hA2 hA3 HB1 HR1 HO1 hz2 HBN HRN HON hub hub'
      go_wp2_with (at_builtin; refine wpList_append_xs _ rfl _ _ 26 rfl (w.heap.size + 1) 46 i0 _ 11 112 Tryz.underlying26 hii hz0 hz1 hz2 rfl (by decide) (by decide) (.slice a (picked (pieceF tl) vis).length c) _ _ rfl (unhide HON3) _ 1 1 (VerA.cells ⟨ln, ⟨B, na, nc⟩⟩) rfl rfl (unhide RA) (VerA.one _) (by omega) (unhide HZ2) ?_; intro v' w6 hown hgrow hloc; obtain ⟨a3, c3, e3, -⟩ := rowAt_own hown; subst e3; have HOW := hide hown; have HGR := hide hgrow; clear hown hgrow hloc)
      have hne : ∀ q, Value.ownBlock (.slice a (picked (pieceF tl) vis).length c) = some q → w.heap.size + 1 ≤ q := fun q hq => ((unhide HON3).lt q hq).1
      have HB6 : Hid (Below w.heap.size w w6) := (unhide HBN3).grown (unhide HGR) (by have := (unhide HBN3).size; omega) (fun q hq => by have := hne q hq; omega)
      have HR6 := hide ((unhide HRN3).kept (unhide HGR) (fun e => by have := hne _ e.symm; omega) (fun e => by have := hne _ e.symm; omega))
      have hl6 : (picked (pieceF tl) (vis ++ [(kl, ⟨ln, ⟨B, na, nc⟩⟩)])).length = (picked (pieceF tl) vis).length + 1 := by rw [unhide HPS2]; simp
      refine ⟨⟨_, cnt1, _, by rw [List.length_append]; simp only [List.length_cons, List.length_nil]; omega, unhide HR6, unhide HB6, unhide HS1, a3, c3, by rw [hl6], ?_⟩, ?_⟩
      · show w6.ownsRow _ _ _ _ _ _
        rw [hl6, unhide HPS2, vflat_snoc]
        exact unhide HOW
      · rw [(unhide HR6).left_eq, ← unhide HCN]
        exact hlt
end Go.Proofs.YtiopofemelninaaGreat
/-
  The program's nodes, pieces and tree are the specification's (no Go in sight).
-/
namespace Go.Proofs.YtiopofemelninaaGreat
open Go.RowKit
set_option linter.unusedVariables false

theorem asc_ext : ∀ {a b : List VerA}, Asc a → Asc b → (∀ z, z ∈ a ↔ z ∈ b) → a = b
  | [], [], _, _, _ => rfl
  | [], y :: b, _, _, h => absurd ((h y).2 (by simp)) (by simp)
  | x :: a, [], _, _, h => absurd ((h x).1 (by simp)) (by simp)
  | x :: a, y :: b, ha, hb, h => by
    obtain ⟨a1, a2⟩ := List.pairwise_cons.1 ha
    obtain ⟨b1, b2⟩ := List.pairwise_cons.1 hb
    have hxy : x = y := by
      rcases List.mem_cons.1 ((h x).1 (by simp)) with e | hx
      · exact e
      · rcases List.mem_cons.1 ((h y).2 (by simp)) with e | hy
        · exact e.symm
        · have := a1 y hy; have := b1 x hx; omega
    subst hxy
    rw [asc_ext a2 b2 (fun z => ?_)]
    constructor
    · intro hz
      rcases List.mem_cons.1 ((h z).1 (by simp [hz])) with rfl | hz2
      · have := a1 z hz; omega
      · exact hz2
    · intro hz
      rcases List.mem_cons.1 ((h z).2 (by simp [hz])) with rfl | hz2
      · have := b1 z hz; omega
      · exact hz2
/-- What is picked, of one kind, is what the specification picks. -/
theorem picked_is {clock : Int} {acc : List (Lit × VerA)} {out M : List VerA} {f : VerA → Bool} (h : Newest clock acc out) (hk : ∀ x y : VerA, f x = true → f y = true → (x.x.b.k = 2 ↔ y.x.b.k = 2)) (hp : Picked f acc M) : M = out.filter f := by
  obtain ⟨vis, hv1, hv2, hv3, hv4⟩ := hp
  have hmem : ∀ p ∈ vis, p.2 ∈ out ∧ p.1 = thK p.2.x.b := fun p hp => (h.look p.1 p.2).1 ((hv2 p.1 p.2).2 hp)
  have hin : ∀ z, z ∈ M ↔ z ∈ out.filter f := by
    intro z
    rw [hv3.mem_iff, List.mem_filter, List.mem_filter, List.mem_map]
    constructor
    · rintro ⟨⟨p, hp, rfl⟩, hf⟩
      exact ⟨(hmem p hp).1, hf⟩
    · rintro ⟨hz, hf⟩
      exact ⟨⟨(thK z.x.b, z), (hv2 _ _).1 ((h.look _ _).2 ⟨hz, rfl⟩), rfl⟩, hf⟩
  have hpw : M.Pairwise (fun x y => thK x.x.b ≠ thK y.x.b) := by
    refine (hv3.pairwise_iff (fun {x y} hne => hne.symm)).2 ?_
    refine List.Pairwise.filter _ ?_
    rw [List.pairwise_map]
    refine List.Pairwise.imp_of_mem (fun {p q} hp hq hne e => hne ?_) hv1
    rw [(hmem p hp).2, (hmem q hq).2, e]
  refine asc_ext ?_ (h.asc.sublist List.filter_sublist) hin
  refine List.Pairwise.imp_of_mem (fun {x y} hx hy hh => ?_) (hpw.and hv4)
  obtain ⟨hx1, hx2⟩ := List.mem_filter.1 ((hin x).1 hx)
  obtain ⟨hy1, hy2⟩ := List.mem_filter.1 ((hin y).1 hy)
  have gx := h.good x hx1
  have gy := h.good y hy1
  have hne : keyV x ≠ keyV y := fun e => hh.1 ((thK_inj gx gy).2 e)
  have hc := hh.2
  rw [cmpB_lt] at hc
  have hkk := hk x y hx2 hy2
  have x1 := gx.u; have x2 := gx.i; have x3 := gx.i0; have y1 := gy.u; have y2 := gy.i; have y3 := gy.i0
  unfold keyV keyOfB at hne ⊢
  by_cases h1 : x.x.b.k = 2
  · have h2 := hkk.1 h1
    simp only [h1, h2, if_true] at hne ⊢
    omega
  · have h2 : ¬ y.x.b.k = 2 := fun e => h1 (hkk.2 e)
    have := x3 h1
    have := y3 h2
    simp only [h1, h2, if_false] at hne ⊢
    omega
theorem nodes_is {clock : Int} {L M : List VerA} (hL : ∀ x ∈ L, GoodB clock x.x.b) (h : Picked (fun x => x.x.b.k == 1) (newM clock L) M) : M = liveN clock L := by
  refine picked_is (newest_all hL) (fun x y hx hy => ?_) h
  have h1 : x.x.b.k = 1 := by simpa using hx
  have h2 : y.x.b.k = 1 := by simpa using hy
  rw [h1, h2]
/-- What the nodes may be. -/
structure GoodN (N : List VerA) : Prop where
  uid : ∀ x ∈ N, x.x.b.nu = x.x.b.u
  apart : N.Pairwise (fun x y => x.x.b.nu < y.x.b.nu)
  nums : ∀ x ∈ N, (1 ≤ x.x.b.nu ∧ x.x.b.nu ≤ 999) ∧ (0 ≤ x.x.b.np ∧ x.x.b.np ≤ 999) ∧ (0 ≤ x.x.b.ns ∧ x.x.b.ns ≤ 4) ∧ (x.x.b.nd = true → x.x.b.ns = 0)
theorem live_good {clock : Int} {L : List VerA} (hL : ∀ x ∈ L, GoodB clock x.x.b) : GoodN (liveN clock L) := by
  have hN := newest_all hL
  have hsure : ∀ z ∈ newestOf clock L, z.x.b.e ≤ clock - 2 := fun z hz => by
    have := newest_mem (clock := clock) (L := L) (i := L.length) (Nat.le_refl _) (y := z) (by rw [List.take_length]; exact hz)
    exact this.2
  have hnode : ∀ x ∈ liveN clock L, x.x.b.k = 1 ∧ GoodB clock x.x.b ∧ x.x.b.nu = x.x.b.u ∧ nodeNums x.x.b.nu x.x.b.nd x.x.b.np x.x.b.ns = true := fun x hx => by
    obtain ⟨h1, h2⟩ := List.mem_filter.1 hx
    have hk : x.x.b.k = 1 := by simpa using h2
    have g := hN.good x h1
    exact ⟨hk, g, g.node (hsure x h1) hk⟩
  refine ⟨fun x hx => (hnode x hx).2.2.1, ?_, fun x hx => ?_⟩
  · have hasc : Asc (liveN clock L) := List.Pairwise.sublist (l₁ := (newestOf clock L).filter fun x : VerA => x.x.b.k == 1) List.filter_sublist hN.asc
    refine List.Pairwise.imp_of_mem (fun {x y} hx hy hlt => ?_) hasc
    obtain ⟨k1, _, u1, _⟩ := hnode x hx
    obtain ⟨k2, _, u2, _⟩ := hnode y hy
    rw [u1, u2]
    simp only [keyV, keyOfB, k1, k2] at hlt
    simp at hlt
    omega
  · obtain ⟨_, _, _, hn⟩ := hnode x hx
    obtain ⟨n1, n2, _, n4, n5⟩ := nodeNums_facts hn
    exact ⟨n1, n2, n4, n5⟩
/-- The tree by uid is the list of nodes. -/
theorem ofUid_some {N : List VerA} (h : GoodN N) {u : Int} {b : Blk} : ofUid (blks N) u = some b ↔ b ∈ blks N ∧ b.nu = u := by
  constructor
  · intro e
    exact ⟨List.mem_of_find?_eq_some e, by simpa using List.find?_some e⟩
  · rintro ⟨hm, hu⟩
    cases hf : ofUid (blks N) u with
    | none =>
      have := List.find?_eq_none.1 hf b hm
      simp [hu] at this
    | some c =>
      have c1 := List.mem_of_find?_eq_some hf
      have c2 : c.nu = u := by simpa using List.find?_some hf
      obtain ⟨x, hx, rfl⟩ := List.mem_map.1 hm
      obtain ⟨y, hy, rfl⟩ := List.mem_map.1 c1
      have : x = y := by
        rcases List.pairwise_iff_getElem.1 h.apart |> fun hp => (by
          obtain ⟨i, hi, rfl⟩ := List.getElem_of_mem hx
          obtain ⟨j, hj, rfl⟩ := List.getElem_of_mem hy
          rcases Nat.lt_trichotomy i j with hij | hij | hij
          · have := hp i j hi hj hij; exact .inl (by omega)
          · subst hij; exact .inr rfl
          · have := hp j i hj hi hij; exact .inl (by omega) : False ∨ x = y) with e | e
        · exact e.elim
        · exact e
      rw [this]
theorem lookB_any {q : Lit} : ∀ {l : List (Lit × Blk)}, lookB l q = none → ∀ p ∈ l, ¬ p.1.sameKey q = true
  | [], _, p, hp => by cases hp
  | r :: l, h, p, hp => by
    rw [lookB] at h
    split at h
    · cases h
    · rcases List.mem_cons.1 hp with rfl | hp
      · assumption
      · exact lookB_any h p hp
theorem lookB_key {q : Lit} {b : Blk} : ∀ {l : List (Lit × Blk)}, lookB l q = some b → (q, b) ∈ l
  | [], h => by cases h
  | r :: l, h => by
    rw [lookB] at h
    split at h
    · rename_i hs
      have e := WideAt.sameKey_eq hs
      injection h with h
      rw [← e, ← h]
      simp
    · simp [lookB_key h]
theorem tree_look {N : List VerA} (h : GoodN N) (u : Int) : lookB (treeM N) (.int .i64 u) = ofUid (blks N) u := by
  cases hl : lookB (treeM N) (.int .i64 u) with
  | some b =>
    have hm := lookB_key hl
    obtain ⟨x, hx, e⟩ := treeM_mem hm
    injection e with e1 e2
    injection e1 with _ e1
    exact ((ofUid_some h).2 ⟨by rw [e2]; exact List.mem_map.2 ⟨x, hx, rfl⟩, by rw [e2, e1]⟩).symm
  | none =>
    cases ho : ofUid (blks N) u with
    | none => rfl
    | some b =>
      obtain ⟨hm, hu⟩ := (ofUid_some h).1 ho
      obtain ⟨x, hx, rfl⟩ := List.mem_map.1 hm
      have hin : (Lit.int .i64 x.x.b.nu, x.x.b) ∈ treeM N := by
        rw [treeM_eq, List.mem_reverse]
        exact List.mem_map.2 ⟨x, hx, rfl⟩
      exact absurd (by rw [hu]; exact WideAt.sameKey_self (by simp [WideAt.IsKeyLit])) (lookB_any hl _ hin)
theorem piece_is {clock : Int} {N : List VerA} (h : GoodN N) {x : VerA} (hx : GoodB clock x.x.b) : pieceF (treeM N) x = isPiece (blks N) x.x.b := by
  unfold pieceF isPiece nodeAt
  rw [tree_look h]
  have hi := hx.i
  cases ho : ofUid (blks N) x.x.b.u with
  | none =>
    have : decide (x.x.b.i < Blk.none.ns) = false := decide_eq_false (by show ¬ x.x.b.i < 0; omega)
    show ((x.x.b.k == 2) && decide (x.x.b.i < Blk.none.ns)) = _
    rw [this]
  | some n =>
    obtain ⟨hm, _⟩ := (ofUid_some h).1 ho
    obtain ⟨y, hy, rfl⟩ := List.mem_map.1 hm
    have hd := (h.nums y hy).2.2.2
    show ((x.x.b.k == 2) && decide (x.x.b.i < y.x.b.ns)) = ((x.x.b.k == 2) && (!y.x.b.nd && decide (x.x.b.i < y.x.b.ns)))
    cases hnd : y.x.b.nd
    · simp
    · have : decide (x.x.b.i < y.x.b.ns) = false := decide_eq_false (by rw [hd hnd]; omega)
      rw [this]; simp
theorem datas_is {clock : Int} {L M : List VerA} (hL : ∀ x ∈ L, GoodB clock x.x.b) (h : Picked (pieceF (treeM (liveN clock L))) (newM clock L) M) : M = liveD clock L := by
  have hN := newest_all hL
  have hG := live_good hL
  have e := picked_is hN (fun x y hx hy => by
    have h1 : x.x.b.k = 2 := by unfold pieceF at hx; rw [Bool.and_eq_true] at hx; simpa using hx.1
    have h2 : y.x.b.k = 2 := by unfold pieceF at hy; rw [Bool.and_eq_true] at hy; simpa using hy.1
    rw [h1, h2]) h
  rw [e, liveD, datasOf]
  exact List.filter_congr (fun x hx => piece_is hG (hN.good x hx))
end Go.Proofs.YtiopofemelninaaGreat
/-
  What nodesByUid, leadsToRoot and isRooted answer.
-/
namespace Go.Proofs.YtiopofemelninaaGreat
open Go.RowKit
set_option linter.unusedVariables false

theorem store5' {w1 U : World} {b : Nat} {x0 x1 x2 x3 x4 v0 v1 v2 v3 v4 : Value} {t : TypeId} (hx : Box w1 b [x0, x1, x2, x3, x4] t) (hU : ((((w1.setCell ⟨b, 0, none⟩ v0).setCell ⟨b, 1, none⟩ v1).setCell ⟨b, 2, none⟩ v2).setCell ⟨b, 3, none⟩ v3).setCell ⟨b, 4, none⟩ v4 = U) : Hid (Box U b [v0, v1, v2, v3, v4] t) ∧ Hid (Out (fun q => q = b) w1 U) := by
  subst hU
  exact ⟨((((hx.set 0 v0).set 1 v1).set 2 v2).set 3 v3).set 4 v4, hide ((((((Out.refl (fun q => q = b) w1).setCell (.inl rfl) _).setCell (.inl rfl) _).setCell (.inl rfl) _).setCell (.inl rfl) _).setCell (.inl rfl) _)⟩
set_option maxRecDepth 20000 in
set_option maxHeartbeats 2000000 in
theorem nodesByUid_any (a : Option Addr) (c : Nat) (N : List VerA) (w : World) (h : VersAt w a N) (hn : N.length ≤ 1000) (hu : ∀ x ∈ N, 1 ≤ x.x.b.nu ∧ x.x.b.nu ≤ 999) :
    Calls Tryz.prog 29 #[.slice a N.length c] w fun e w' => (∃ b, e = .returned (.map (some b)) ∧ w.heap.size ≤ b ∧ KMap 2 w' b ((treeM N).map entB)) ∧ Below w.heap.size w w' := by
  have H := hide h
  have HU := hide hu
  clear h hu
  have hmm := @run_makeMap Tryz.prog
  go_enter Tryz.func29, Tryz.ntmps29
  go_wp2_with fail
  obtain ⟨W0, hW0⟩ : ∃ W0, w.alloc (.map #[] 0) = W0 := ⟨_, rfl⟩
  have hB0 : Below w.heap.size w W0 := by rw [← hW0]; exact (Below.refl _ w).alloc (Nat.le_refl _) _
  have mA : KMap 2 W0 w.heap.size [] := by rw [← hW0]; exact KMap.made _ w
  have HB0 := hide hB0
  have MA := hide mA
  rw [hW0]
  clear hW0 hB0 mA
  go_loopw [9] (fun i wr => ∃ k : Nat, k ≤ N.length ∧ i = .int .i64 k ∧ Hid (Below w.heap.size w wr) ∧ Hid (KMap 2 wr w.heap.size ((treeM (N.take k)).map entB))) (fun i _ => N.length - (intOf i).toNat)
  case atStart => exact ⟨0, Nat.zero_le _, rfl, unhide HB0, unhide MA⟩
  case round =>
    obtain ⟨k, hk, rfl, HB, MT⟩ := hrel
    have hwz := (unhide HB).size
    by_cases hlt : k < N.length
    · obtain ⟨g, o, eg, hgl, hcell⟩ := ((unhide H).below (unhide HB)).at hlt
      subst eg
      have k0 : (0 : Int) ≤ (k : Int) := by omega
      have k1 : (k : Int) < N.length := by omega
      have HCE := hide (hcell k hlt)
      have lA := (unhide MT).lt
      have hnu := (unhide HU) N[k] (List.getElem_mem hlt)
      clear hcell
      generalize hX : N[k] = X at *
      obtain ⟨ln, ⟨B, na, nc⟩⟩ := X
      have HX := hide hX
      clear hX
      have wu : (Lit.int .i64 B.nu).wf = true := wf64 (by have h1 : 1 ≤ B.nu ∧ B.nu ≤ 999 := hnu; omega)
      have HTM : Hid (treeM (N.take (k + 1)) = (.int .i64 B.nu, B) :: treeM (N.take k)) := by rw [Hid, treeM_succ hlt, unhide HX]
      have HBV := hide ((unhide HB).alloc hwz (.cells #[.int .i64 ln, .int .i64 B.k, .int .i64 B.u, .int .i64 B.i, .int .i64 B.e, .int .i64 B.nu, .bool B.nd, .int .i64 B.np, .string B.nn, .int .i64 B.ns, .slice na B.nl.length nc] 46))
      have MTV := hide ((unhide MT).below ((Below.refl _ wr).alloc (Nat.le_refl _) (.cells #[.int .i64 ln, .int .i64 B.k, .int .i64 B.u, .int .i64 B.i, .int .i64 B.e, .int .i64 B.nu, .bool B.nd, .int .i64 B.np, .string B.nn, .int .i64 B.ns, .slice na B.nl.length nc] 46)))
      obtain ⟨w4, hput, hM4, hg4⟩ := KMap.put (unhide MTV) lawU Tryz.underlying68 (keyU wu) (nodeV B) (by rw [List.length_map, treeM_len, List.length_take]; unfold maxLen; omega)
      simp only [nodeV, nodeCells] at hput
      have HB4 : Hid (Below w.heap.size w w4) := (unhide HBV).grown hg4 (by have := (unhide HBV).size; omega) (fun j e => by injection e; omega)
      have MT4 := hide hM4
      clear hg4 hM4 MTV HBV
      go_wp2_with (first | (refine wpList_load_mid rfl 46 (.tmp 11) rfl g (o + k * 11) rfl [.int .i64 ln, .int .i64 B.k, .int .i64 B.u, .int .i64 B.i, .int .i64 B.e, .int .i64 B.nu, .bool B.nd, .int .i64 B.np, .string B.nn, .int .i64 B.ns, .slice na B.nl.length nc] _ (fun j v hv => unhide HCE j v hv) Tryz.underlying46 rfl (by kernel_rfl) ?_))
      refine ⟨⟨k + 1, by omega, by go_num, unhide HB4, ?_⟩, by simp [intOf]; omega⟩
      rw [unhide HTM]
      exact unhide MT4
    · have hke : k = N.length := by omega
      have k1 : ¬ (k : Int) < N.length := by omega
      have HMN : Hid (KMap 2 wr w.heap.size ((treeM N).map entB)) := by
        have := unhide MT
        rw [List.take_of_length_le (by omega)] at this
        exact this
      clear MT hke
      go_wp2_with fail
      go_ret
      exact ⟨⟨w.heap.size, rfl, Nat.le_refl _, unhide HMN⟩, unhide HB⟩
set_option maxRecDepth 20000 in
set_option maxHeartbeats 2000000 in
theorem leadsToRoot_any (b : Nat) (l : List (Lit × Blk)) (n : Blk) (w : World) (h : KMap 2 w b (l.map entB)) (hk : KeysB l) (hg : GoodT l) (hn : 0 ≤ n.np ∧ n.np ≤ 999) :
    Calls Tryz.prog 56 #[.map (some b), nodeV n] w fun e w' => e = .returned (.bool (leadsB l 4 n)) ∧ Below w.heap.size w w' := by
  have M := hide h
  have HK := hide hk
  have HG := hide hg
  have lb := h.lt
  clear h hk hg
  simp only [nodeV, nodeCells]
  go_enter Tryz.func56, Tryz.ntmps56
  go_wp2_with fail
  obtain ⟨W, hW, hWz, HB, -, HX⟩ := boxes2 w [.int .i64 n.nu, .bool n.nd, .int .i64 n.np, .string n.nn, .int .i64 n.ns] [.int .i64 n.nu, .bool n.nd, .int .i64 n.np, .string n.nn, .int .i64 n.ns] 42 42
  rw [← hW]
  clear hW
  have M1 := hide ((unhide M).below (unhide HB))
  clear M
  go_loopw [6] (fun i wr => ∃ s : Nat, s ≤ 4 ∧ i = .int .i64 (s + 1) ∧ Hid (Below w.heap.size w wr) ∧ w.heap.size + 2 ≤ wr.heap.size ∧ Hid (KMap 2 wr b (l.map entB)) ∧ ∃ m : Blk, (0 ≤ m.np ∧ m.np ≤ 999) ∧ Hid (leadsB l 4 n = leadsB l (4 - s) m) ∧ Hid (Box wr (w.heap.size + 1) [.int .i64 m.nu, .bool m.nd, .int .i64 m.np, .string m.nn, .int .i64 m.ns] 42)) (fun i _ => 6 - (intOf i).toNat)
  case atStart => exact ⟨0, by omega, rfl, unhide HB, hWz, unhide M1, n, hn, rfl, unhide HX⟩
  case round =>
    obtain ⟨s, hs, rfl, HB, hz, M, m, hm, HL, HX⟩ := hrel
    have hs4 : s = 4 ∨ s < 4 := by omega
    rcases hs4 with rfl | hs4
    · have HR : Hid (leadsB l 4 n = false) := unhide HL
      go_wp2_with fail
      go_ret
      exact ⟨by rw [unhide HR]; rfl, unhide HB⟩
    · have hsl : ((s : Int) + 1 ≤ 4) := by omega
      have hs0 : (0 : Int) ≤ s := by omega
      have x0 := (unhide HX).cell 0
      have x1 := (unhide HX).cell 1
      have x2 := (unhide HX).cell 2
      have x3 := (unhide HX).cell 3
      have x4 := (unhide HX).cell 4
      have y0 := (unhide HX).frozen 0
      have y1 := (unhide HX).frozen 1
      have y2 := (unhide HX).frozen 2
      have y3 := (unhide HX).frozen 3
      have y4 := (unhide HX).frozen 4
      simp only [List.getElem?_cons_zero, List.getElem?_cons_succ] at x0 x1 x2 x3 x4
      have hst : 4 - s = (3 - s) + 1 := by omega
      have hne : b ≠ w.heap.size + 1 := by omega
      by_cases h0 : m.np = 0
      · have HR : Hid (leadsB l 4 n = true) := by rw [Hid, unhide HL, hst, leadsB, if_pos h0]
        rw [h0] at x2
        go_wp2_with fail
        go_ret
        exact ⟨by rw [unhide HR]; rfl, unhide HB⟩
      · have h0b : (m.np == 0) = false := by simpa using h0
        have HR : Hid (leadsB l 4 n = if (nodeAt l m.np).nd = true then leadsB l (3 - s) (nodeAt l m.np) else false) := by rw [Hid, unhide HL, hst, leadsB, if_neg h0]
        have hq := nodeAt_np (unhide HG) m.np
        have hl := KMap.look_in (unhide M) lawU (unhide HK).ent Tryz.underlying68 (zero_node _) (keyU (wf64 (x := m.np) (by omega)))
        rw [look_node] at hl
        clear hst h0
        generalize nodeAt l m.np = q at hl HR hq
        simp only [nodeV, nodeCells] at hl
        cases hd : q.nd
        · have HR2 : Hid (leadsB l 4 n = false) := by rw [Hid, unhide HR, hd]; rfl
          rw [hd] at hl
          go_wp2_with fail
          clear x0 x1 x2 x3 x4 y0 y1 y2 y3 y4
          generalize hU : ((((wr.setCell _ _).setCell _ _).setCell _ _).setCell _ _).setCell _ _ = U
          obtain ⟨XU, OU⟩ := store5' (unhide HX) hU
          go_ret
          exact ⟨by rw [unhide HR2]; rfl, (unhide OU).below (unhide HB) (Nat.le_refl _) (fun q hq e => by omega)⟩
        · have HR2 : Hid (leadsB l 4 n = leadsB l (4 - (s + 1)) q) := by rw [Hid, unhide HR, hd, if_pos rfl, show 4 - (s + 1) = 3 - s from by omega]
          rw [hd] at hl
          go_wp2_with fail
          clear x0 x1 x2 x3 x4 y0 y1 y2 y3 y4 hl
          generalize hU : ((((wr.setCell _ _).setCell _ _).setCell _ _).setCell _ _).setCell _ _ = U
          obtain ⟨XU, OU⟩ := store5' (unhide HX) hU
          rw [← hd] at XU
          exact ⟨⟨s + 1, by omega, by go_num, (unhide OU).below (unhide HB) (Nat.le_refl _) (fun q hq e => by omega), by have := (unhide OU).size; omega, (unhide M).stay ((unhide OU).block _ (unhide M).lt hne), q, hq, unhide HR2, unhide XU⟩, by simp [intOf]; omega⟩
/-- Every node leads to the root. -/
def RootedB (l : List (Lit × Blk)) : Prop := ∀ q b, lookB l q = some b → leadsB l 4 b = true
theorem vK_some (v : Value) (y : DK × List MemPlace) (h : vK v = some y) : ∃ c, v = id c := ⟨v, rfl⟩
set_option maxRecDepth 20000 in
set_option maxHeartbeats 2000000 in
theorem isRooted_any (b : Nat) (l : List (Lit × Blk)) (w : World) (h : KMap 2 w b (l.map entB)) (hk : KeysB l) (hg : GoodT l) :
    Calls Tryz.prog 31 #[.map (some b)] w fun e w' => (∃ r : Bool, e = .returned (.bool r) ∧ (r = true ↔ RootedB l)) ∧ Below w.heap.size w w' := by
  have M := hide h
  have HK := hide hk
  have HG := hide hg
  have lb := h.lt
  clear h hk hg
  go_enter Tryz.func31, Tryz.ntmps31
  go_wp2_with (first | (at_range; refine wpList_range_own _ rfl _ 68 rfl 2 42 lawU Tryz.underlying68 vK b (l.map entB).length (putsL (l.map entB)) rfl (unhide M) ?_; intro w0 hrg0 hg0 hs0) | fail)
  go_frame
  have HB0 : Hid (Below w.heap.size w w0) := ⟨hg0.os, hg0.tape, hg0.output, hg0.size, fun q hq => hg0.block q hq (by simp)⟩
  rw [List.length_map] at hrg0
  have HR0 := hide hrg0
  clear hrg0 hg0 M
  go_loopw [] (fun wr => ∃ left cnt vis, Hid (wr.ranges Tryz.prog 2 vK b w.heap.size l.length (putsL (l.map entB)) left cnt) ∧ Hid (Below w.heap.size w wr) ∧ Hid (Seen (lookB l) left vis) ∧ Hid (∀ p ∈ vis, leadsB l 4 p.2 = true)) (fun wr => wr.rangeLeft b w.heap.size)
  case atStart => exact ⟨_, _, [], unhide HR0, unhide HB0, Seen.start (fun q => by rw [putsL_has _ _ (unhide HK).ent, look_entB]; simp), fun p hp => by cases hp⟩
  case round =>
    obtain ⟨left, cnt, vis, HR, HB, HS, HV⟩ := hrel
    have hwz := (unhide HB).size
    have lr := (unhide HR).lt
    go_wp2_with (first | (at_next; refine wpList_next_ranges _ rfl _ rfl 2 lawU vK id id (fun key kl _ => ⟨key, rfl⟩) (fun v y _ => ⟨v, rfl⟩) b w.heap.size _ _ left cnt rfl (unhide HR) ?_ ?_) | fail)
    · intro hc0 hl0
      have HRT : Hid (RootedB l) := fun q x hx => unhide HV _ (((unhide HS).done hl0 q x).1 hx)
      clear HR HS HV hl0
      go_wp2_with fail
      go_ret
      exact ⟨⟨true, rfl, fun _ => unhide HRT, fun _ => rfl⟩, unhide HB⟩
    · intro x v kl d ps w1 cnt1 hkey hlk hv hat hrg1 hlt hg1 hs1 hen
      have hsome := (unhide HS).ok kl hlk
      have hlook := came (unhide HK).ent hv hat (by obtain ⟨y, hy⟩ := hsome; exact ⟨nodeV y, by rw [look_entB, hy]; rfl⟩)
      rw [look_entB] at hlook
      obtain ⟨B, hB⟩ := hsome
      rw [hB] at hlook
      have hvB : v = nodeV B := (Option.some.inj hlook).symm
      subst hvB
      have HS1 := hide ((unhide HS).step hlk hB (lawU.key hkey))
      have hBg : 0 ≤ B.np ∧ B.np ≤ 999 := by obtain ⟨p, hp, e⟩ := lookB_mem hB; rw [← e]; exact unhide HG p hp
      have HB1 : Hid (Below w.heap.size w w1) := (unhide HB).grown hg1 (by omega) (fun j e => by injection e; omega)
      have HBN := hide ((unhide HB1).alloc (by omega) (.cells #[.int .i64 B.nu, .bool B.nd, .int .i64 B.np, .string B.nn, .int .i64 B.ns] 42))
      have HR1 := hide (hrg1.alloc (.cells #[.int .i64 B.nu, .bool B.nd, .int .i64 B.np, .string B.nn, .int .i64 B.ns] 42))
      have MN : Hid (KMap 2 (w1.alloc (.cells #[.int .i64 B.nu, .bool B.nd, .int .i64 B.np, .string B.nn, .int .i64 B.ns] 42)) b (l.map entB)) := by
        have := (unhide HR1).owns
        rw [← List.length_map (f := entB)] at this
        exact this
      have HCN : Hid (cnt = wr.rangeLeft b w.heap.size) := (unhide HR).left_eq.symm
      have HBQ := hide hB
      clear hkey hlk hv hat hrg1 hg1 hlook HB1 HS HR hB
      simp only [nodeV, nodeCells] at hen
      go_wp2_with fail
      refine (leadsToRoot_any b l B _ (unhide MN) (unhide HK) (unhide HG) hBg).mono ?_
      rintro r w5 ⟨rfl, hb5⟩
      have HB5 := hide (below_step (unhide HBN) hb5 (unhide HBN).size)
      have HR5 := hide ((unhide HR1).kept (Below.grew hb5) (by simp) (by simp))
      clear hb5 HBN HR1 MN
      cases hL : leadsB l 4 B
      · have HNR : Hid (¬ RootedB l) := fun h => by rw [h _ _ (unhide HBQ)] at hL; cases hL
        clear hL
        go_wp2_with fail
        go_ret
        exact ⟨⟨false, rfl, ⟨fun h => absurd h (by decide), fun h => absurd h (unhide HNR)⟩⟩, unhide HB5⟩
      · have HV1 : Hid (∀ p ∈ vis ++ [(kl, B)], leadsB l 4 p.2 = true) := fun p hp => by
          rcases List.mem_append.1 hp with hp | hp
          · exact unhide HV p hp
          · rcases List.mem_singleton.1 hp with rfl
            exact hL
        clear hL
        go_wp2_with fail
        refine ⟨⟨_, cnt1, _, unhide HR5, unhide HB5, unhide HS1, unhide HV1⟩, ?_⟩
        rw [(unhide HR5).left_eq, ← unhide HCN]
        exact hlt
end Go.Proofs.YtiopofemelninaaGreat
/-
  What isNamedApart and isWhole answer.
-/
namespace Go.Proofs.YtiopofemelninaaGreat
open Go.RowKit Go.Maps
set_option linter.unusedVariables false

def placeV (p : Int) (s : ByteArray) : Value := .agg #[.int .i64 p, .string s]
def placeL (p : Int) (s : ByteArray) : Lit := .string (keyBytes [.int .i64 p, .string s.data.toList])
theorem placeL_lit (p : Int) (s : ByteArray) : WideAt.IsKeyLit (placeL p s) := by simp [WideAt.IsKeyLit, placeL]
theorem litsStr (d : Nat) {s : ByteArray} (hs : s.size ≤ maxLen) : Tryz.prog.keyLits (d + 1) 9 [.string s] = some [.string s.data.toList] := by simp [Program.keyLits, Tryz.underlying9, hs]
theorem cellsStr : Tryz.prog.cellsOf 9 = 1 := by kernel_rfl
theorem lawPlace : Keyed Tryz.prog 105 := Keyed.of_law (deep_law (m := 3) (by decide) (by kernel_rfl) (by kernel_rfl) (by kernel_rfl))
theorem litsPlace (d : Nat) {p : Int} {s : ByteArray} (hp : (Lit.int .i64 p).wf = true) (hs : s.size ≤ maxLen) : Tryz.prog.keyLits (d + 2) 105 [.int .i64 p, .string s] = some [.int .i64 p, .string s.data.toList] := by
  have c1 : Tryz.prog.cellsOf 105 = 2 := by kernel_rfl
  unfold Program.keyLits
  rw [Tryz.underlying105]
  simp [c1, cellsStr, cellsInt, litsInt _ hp, litsStr _ hs]
theorem keyPlace {p : Int} {s : ByteArray} (hp : (Lit.int .i64 p).wf = true) (hs : s.size ≤ maxLen) : keyOf Tryz.prog 105 (placeV p s) = some (placeL p s) := by
  obtain ⟨d, hd⟩ := typesMany
  have h2 : (placeV p s).formed Tryz.prog 105 = true := by kernel_rfl
  exact keyOf_struct Tryz.underlying105 (by kernel_rfl) h2 (by rw [hd]; exact litsPlace (d + 2) hp hs)
theorem place_inj {p p' : Int} {s s' : ByteArray} (hp : (Lit.int .i64 p).wf = true) (hs : s.size ≤ maxLen) (hp' : (Lit.int .i64 p').wf = true) (hs' : s'.size ≤ maxLen) : placeL p s = placeL p' s' ↔ p = p' ∧ s.data.toList = s'.data.toList := by
  refine ⟨fun h => ?_, fun ⟨h1, h2⟩ => by rw [placeL, placeL, h1, h2]⟩
  injection h with h
  have := keyLits_inj (litsPlace 0 hp hs) (litsPlace 0 hp' hs') h
  simpa using this
def placeStep (acc : List (Lit × Value)) (x : VerA) : List (Lit × Value) := (placeL x.x.b.np x.x.b.nn, .int .i64 x.x.b.nu) :: acc
def placeM (N : List VerA) : List (Lit × Value) := N.foldl placeStep []
theorem placeM_succ {N : List VerA} {i : Nat} (hi : i < N.length) : placeM (N.take (i + 1)) = placeStep (placeM (N.take i)) N[i] := by
  rw [List.take_succ_eq_append_getElem hi, placeM, List.foldl_append]; rfl
theorem placeM_rev : ∀ (N : List VerA) (acc : List (Lit × Value)), N.foldl placeStep acc = (N.map fun x => (placeL x.x.b.np x.x.b.nn, Value.int .i64 x.x.b.nu)).reverse ++ acc
  | [], acc => rfl
  | x :: N, acc => by rw [List.foldl_cons, placeM_rev N]; simp [placeStep]
theorem placeM_eq (N : List VerA) : placeM N = (N.map fun x => (placeL x.x.b.np x.x.b.nn, Value.int .i64 x.x.b.nu)).reverse := by rw [placeM, placeM_rev, List.append_nil]
theorem placeM_len (N : List VerA) : (placeM N).length = N.length := by rw [placeM_eq]; simp
theorem placeM_keys (N : List VerA) : KeysL (placeM N) := by
  intro p hp
  rw [placeM_eq, List.mem_reverse] at hp
  obtain ⟨x, _, rfl⟩ := List.mem_map.1 hp
  exact placeL_lit _ _
def sumS (N : List VerA) : Int := N.foldl (fun s x => s + x.x.b.ns) 0
theorem sumS_succ {N : List VerA} {i : Nat} (hi : i < N.length) : sumS (N.take (i + 1)) = sumS (N.take i) + N[i].x.b.ns := by
  rw [List.take_succ_eq_append_getElem hi, sumS, List.foldl_append]; rfl
theorem sumS_bound {N : List VerA} (h : ∀ x ∈ N, 0 ≤ x.x.b.ns ∧ x.x.b.ns ≤ 4) : ∀ i, i ≤ N.length → 0 ≤ sumS (N.take i) ∧ sumS (N.take i) ≤ 4 * i
  | 0, _ => by simp [sumS]
  | i + 1, hi => by
    rw [sumS_succ (by omega)]
    have ih := sumS_bound h i (by omega)
    have := h N[i] (List.getElem_mem _)
    omega
set_option maxRecDepth 20000 in
set_option maxHeartbeats 2000000 in
theorem isNamedApart_any (a : Option Addr) (c : Nat) (N : List VerA) (w : World) (h : VersAt w a N) (hn : N.length ≤ 1000) (hu : ∀ x ∈ N, (0 ≤ x.x.b.np ∧ x.x.b.np ≤ 999) ∧ x.x.b.nn.size ≤ maxLen) :
    Calls Tryz.prog 32 #[.slice a N.length c] w fun e w' => e = .returned (.bool ((sizeL (placeM N) : Int) == (N.length : Int))) ∧ Below w.heap.size w w' := by
  have H := hide h
  have HU := hide hu
  clear h hu
  have hmm := @run_makeMap Tryz.prog
  go_enter Tryz.func32, Tryz.ntmps32
  go_wp2_with fail
  obtain ⟨W0, hW0⟩ : ∃ W0, w.alloc (.map #[] 0) = W0 := ⟨_, rfl⟩
  have hB0 : Below w.heap.size w W0 := by rw [← hW0]; exact (Below.refl _ w).alloc (Nat.le_refl _) _
  have mA : KMap 105 W0 w.heap.size [] := by rw [← hW0]; exact KMap.made _ w
  have HB0 := hide hB0
  have MA := hide mA
  rw [hW0]
  clear hW0 hB0 mA
  go_loopw [10] (fun i wr => ∃ k : Nat, k ≤ N.length ∧ i = .int .i64 k ∧ Hid (Below w.heap.size w wr) ∧ Hid (KMap 105 wr w.heap.size (placeM (N.take k)))) (fun i _ => N.length - (intOf i).toNat)
  case atStart => exact ⟨0, Nat.zero_le _, rfl, unhide HB0, unhide MA⟩
  case round =>
    obtain ⟨k, hk, rfl, HB, MT⟩ := hrel
    have hwz := (unhide HB).size
    by_cases hlt : k < N.length
    · obtain ⟨g, o, eg, hgl, hcell⟩ := ((unhide H).below (unhide HB)).at hlt
      subst eg
      have k0 : (0 : Int) ≤ (k : Int) := by omega
      have k1 : (k : Int) < N.length := by omega
      have HCE := hide (hcell k hlt)
      have lA := (unhide MT).lt
      have hnu := (unhide HU) N[k] (List.getElem_mem hlt)
      clear hcell
      generalize hX : N[k] = X at *
      obtain ⟨ln, ⟨B, na, nc⟩⟩ := X
      have HX := hide hX
      clear hX
      have wp : (Lit.int .i64 B.np).wf = true := wf64 (by have h1 : 0 ≤ B.np ∧ B.np ≤ 999 := hnu.1; omega)
      have ws : B.nn.size ≤ maxLen := hnu.2
      have HTM : Hid (placeM (N.take (k + 1)) = (placeL B.np B.nn, .int .i64 B.nu) :: placeM (N.take k)) := by rw [Hid, placeM_succ hlt, unhide HX]; rfl
      have hA2 : Below wr.heap.size wr ((wr.alloc (.cells #[.int .i64 ln, .int .i64 B.k, .int .i64 B.u, .int .i64 B.i, .int .i64 B.e, .int .i64 B.nu, .bool B.nd, .int .i64 B.np, .string B.nn, .int .i64 B.ns, .slice na B.nl.length nc] 46)).alloc (.cells #[.int .i64 B.nu, .bool B.nd, .int .i64 B.np, .string B.nn, .int .i64 B.ns] 42)) := ((Below.refl _ _).alloc (Nat.le_refl _) _).alloc (by simp) _
      have HBV := hide (below_step (unhide HB) hA2 hwz)
      have MTV := hide ((unhide MT).below hA2)
      obtain ⟨w4, hput, hM4, hg4⟩ := KMap.put (unhide MTV) lawPlace Tryz.underlying103 (keyPlace wp ws) (.int .i64 B.nu) (by rw [placeM_len, List.length_take]; unfold maxLen; omega)
      simp only [placeV] at hput
      have HB4 : Hid (Below w.heap.size w w4) := (unhide HBV).grown hg4 (by have := (unhide HBV).size; omega) (fun j e => by injection e; omega)
      have MT4 := hide hM4
      clear hg4 hM4 MTV HBV hA2 hnu
      go_wp2_with (first | (refine wpList_load_mid rfl 46 (.tmp 12) rfl g (o + k * 11) rfl [.int .i64 ln, .int .i64 B.k, .int .i64 B.u, .int .i64 B.i, .int .i64 B.e, .int .i64 B.nu, .bool B.nd, .int .i64 B.np, .string B.nn, .int .i64 B.ns, .slice na B.nl.length nc] _ (fun j v hv => unhide HCE j v hv) Tryz.underlying46 rfl (by kernel_rfl) ?_))
      refine ⟨⟨k + 1, by omega, by go_num, unhide HB4, ?_⟩, by simp [intOf]; omega⟩
      rw [unhide HTM]
      exact unhide MT4
    · have hke : k = N.length := by omega
      have k1 : ¬ (k : Int) < N.length := by omega
      have hlen := KMap.len (unhide MT) (placeM_keys _) Tryz.underlying103 3
      rw [List.take_of_length_le (by omega)] at hlen
      clear MT hke
      go_wp2_with fail
      go_ret
      exact ⟨rfl, unhide HB⟩
set_option maxRecDepth 20000 in
set_option maxHeartbeats 2000000 in
theorem isWhole_any (a a' : Option Addr) (c c' m : Nat) (N : List VerA) (w : World) (h : VersAt w a N) (hn : N.length ≤ 1000) (hu : ∀ x ∈ N, 0 ≤ x.x.b.ns ∧ x.x.b.ns ≤ 4) :
    Calls Tryz.prog 33 #[.slice a N.length c, .slice a' m c'] w fun e w' => e = .returned (.bool (sumS N == (m : Int))) ∧ Below w.heap.size w w' := by
  have H := hide h
  have HU := hide (sumS_bound hu)
  have HU2 := hide hu
  clear h hu
  go_enter Tryz.func33, Tryz.ntmps33
  go_wp2_with fail
  go_loopw [5, 10] (fun s i wr => ∃ k : Nat, k ≤ N.length ∧ i = .int .i64 k ∧ s = .int .i64 (sumS (N.take k)) ∧ Hid (Below w.heap.size w wr)) (fun _ i _ => N.length - (intOf i).toNat)
  case atStart => exact ⟨0, Nat.zero_le _, rfl, rfl, Below.refl _ _⟩
  case round =>
    obtain ⟨k, hk, rfl, rfl, HB⟩ := hrel
    have hwz := (unhide HB).size
    by_cases hlt : k < N.length
    · obtain ⟨g, o, eg, hgl, hcell⟩ := ((unhide H).below (unhide HB)).at hlt
      subst eg
      have k0 : (0 : Int) ≤ (k : Int) := by omega
      have k1 : (k : Int) < N.length := by omega
      have HCE := hide (hcell k hlt)
      have hsu := unhide HU k hk
      have hnu := (unhide HU2) N[k] (List.getElem_mem hlt)
      have hss := sumS_succ hlt
      clear hcell
      generalize hX : N[k] = X at *
      obtain ⟨ln, ⟨B, na, nc⟩⟩ := X
      clear hX
      have hb4 : 0 ≤ B.ns ∧ B.ns ≤ 4 := hnu
      have HSS : Hid (sumS (N.take (k + 1)) = sumS (N.take k) + B.ns) := hss
      clear hnu hss
      generalize sumS (N.take k) = T at *
      have hwr : IntKind.i64.wrap (T + B.ns) = T + B.ns := by rw [IntKind.wrap_i64]; omega
      go_wp2_with (first | (refine wpList_load_mid rfl 46 (.tmp 12) rfl g (o + k * 11) rfl [.int .i64 ln, .int .i64 B.k, .int .i64 B.u, .int .i64 B.i, .int .i64 B.e, .int .i64 B.nu, .bool B.nd, .int .i64 B.np, .string B.nn, .int .i64 B.ns, .slice na B.nl.length nc] _ (fun j v hv => unhide HCE j v hv) Tryz.underlying46 rfl (by kernel_rfl) ?_))
      refine ⟨⟨k + 1, by omega, by go_num, by rw [unhide HSS], (unhide HB).alloc hwz _⟩, by simp [intOf]; omega⟩
    · have hke : k = N.length := by omega
      have k1 : ¬ (k : Int) < N.length := by omega
      have HT : Hid (sumS (N.take k) = sumS N) := by rw [Hid, List.take_of_length_le (by omega)]
      clear hke
      rw [unhide HT]
      go_wp2_with fail
      go_ret
      exact ⟨rfl, unhide HB⟩
end Go.Proofs.YtiopofemelninaaGreat
/-
  The shape of what is kept: the program's three tests are the specification's one (no Go in sight).
-/
namespace Go.Proofs.YtiopofemelninaaGreat
open Go.RowKit
set_option linter.unusedVariables false

theorem nodeAt_eq {N : List VerA} (h : GoodN N) (u : Int) : nodeAt (treeM N) u = (ofUid (blks N) u).getD Blk.none := by rw [nodeAt, tree_look h]
theorem leads_depth {N : List VerA} (h : GoodN N) : ∀ (s : Nat) (k : Int) (n : Blk), 0 ≤ k → leadsB (treeM N) s n = true → 0 ≤ depthB (blks N) s k n.np
  | 0, _, _, _, hl => by cases hl
  | s + 1, k, n, hk, hl => by
    rw [leadsB] at hl
    by_cases h0 : n.np = 0
    · rw [depthB, if_pos h0]; exact hk
    · rw [if_neg h0, nodeAt_eq h] at hl
      cases ho : ofUid (blks N) n.np with
      | none => rw [ho] at hl; exact absurd hl (by simp [Blk.none])
      | some p =>
        rw [ho] at hl
        simp only [Option.getD_some] at hl
        rw [depth_some h0 ho]
        split at hl
        · exact leads_depth h s (k + 1) p (by omega) hl
        · cases hl
theorem depth_leads {N : List VerA} (h : GoodN N) (hb : ∀ m ∈ blks N, badPar (blks N) m = false) : ∀ (s : Nat) (k : Int) (n : Blk), n ∈ blks N → 0 ≤ depthB (blks N) s k n.np → leadsB (treeM N) s n = true
  | 0, _, _, _, hd => by rw [depthB] at hd; exact absurd hd (by decide)
  | s + 1, k, n, hn, hd => by
    rw [leadsB]
    by_cases h0 : n.np = 0
    · rw [if_pos h0]
    · rw [if_neg h0, nodeAt_eq h]
      have hbn := hb n hn
      unfold badPar at hbn
      have h0b : (n.np != 0) = true := by simpa using h0
      rw [h0b, Bool.true_and] at hbn
      cases ho : ofUid (blks N) n.np with
      | none => rw [ho] at hbn; cases hbn
      | some p =>
        rw [ho] at hbn
        have hnd : p.nd = true := by simpa using hbn
        rw [depth_some h0 ho] at hd
        simp only [Option.getD_some]
        rw [if_pos hnd]
        exact depth_leads h hb s (k + 1) p ((ofUid_some h).1 ho).1 hd
theorem nu_ne {N : List VerA} (h : GoodN N) {n : Blk} (hn : n ∈ blks N) : ¬ n.nu = 0 := by
  obtain ⟨x, hx, rfl⟩ := List.mem_map.1 hn
  have := (h.nums x hx).1
  omega
theorem rooted_iff {N : List VerA} (h : GoodN N) : RootedB (treeM N) ↔ ∀ n ∈ blks N, badPar (blks N) n = false ∧ ¬ depthB (blks N) 5 0 n.nu < 0 := by
  constructor
  · intro hr n hn
    have hf : ofUid (blks N) n.nu = some n := (ofUid_some h).2 ⟨hn, rfl⟩
    have hl : leadsB (treeM N) 4 n = true := hr (.int .i64 n.nu) n (by rw [tree_look h]; exact hf)
    refine ⟨?_, ?_⟩
    · unfold badPar
      by_cases h0 : n.np = 0
      · simp [h0]
      · rw [leadsB, if_neg h0, nodeAt_eq h] at hl
        cases ho : ofUid (blks N) n.np with
        | none => rw [ho] at hl; exact absurd hl (by simp [Blk.none])
        | some p =>
          rw [ho] at hl
          simp only [Option.getD_some] at hl
          split at hl
          · rename_i hnd
            simp [hnd]
          · cases hl
    · have := leads_depth h 4 (0 + 1) n (by decide) hl
      rw [depth_some (nu_ne h hn) hf]
      omega
  · intro ha q b hq
    obtain ⟨x, hx, e⟩ := treeM_mem (lookB_key hq)
    injection e with _ e
    have hb : b ∈ blks N := by rw [e]; exact List.mem_map.2 ⟨x, hx, rfl⟩
    have hf : ofUid (blks N) b.nu = some b := (ofUid_some h).2 ⟨hb, rfl⟩
    have hd := (ha b hb).2
    rw [depth_some (nu_ne h hb) hf] at hd
    exact depth_leads h (fun m hm => (ha m hm).1) 4 (0 + 1) b hb (by omega)
theorem toList_bytes (x : ByteArray) : x.toList = x.data.toList := by rw [ByteArray.toList, bytes_loop x _ 0 [] rfl]; simp
theorem sizeL_le : ∀ l : List (Lit × Value), sizeL l ≤ l.length
  | [] => Nat.le_refl _
  | p :: l => by
    have := sizeL_le l
    rw [sizeL, List.length_cons]
    split <;> omega
theorem sizeL_eq : ∀ l : List (Lit × Value), sizeL l = l.length ↔ l.Pairwise (fun p q => ¬ q.1.sameKey p.1 = true)
  | [] => by simp [sizeL]
  | p :: l => by
    have h1 := sizeL_le l
    have ih := sizeL_eq l
    rw [sizeL, List.length_cons, List.pairwise_cons, lookL_some, ← ih]
    by_cases h : l.any (fun q => q.1.sameKey p.1) = true
    · rw [if_pos h]
      constructor
      · intro e; omega
      · rintro ⟨hall, _⟩
        obtain ⟨q, hq, hs⟩ := List.any_eq_true.1 h
        exact absurd hs (hall q hq)
    · rw [if_neg h]
      constructor
      · intro e
        refine ⟨fun q hq hs => h (List.any_eq_true.2 ⟨q, hq, hs⟩), by omega⟩
      · rintro ⟨_, e⟩; omega
theorem named_iff {N : List VerA} (h : GoodN N) (hs : ∀ x ∈ N, x.x.b.nn.size ≤ maxLen) : sizeL (placeM N) = N.length ↔ ∀ i (hi : i < (blks N).length), ((blks N).take i).any (sameName (blks N)[i]) = false := by
  have e1 : sizeL (placeM N) = N.length ↔ N.Pairwise (fun x y => ¬ (placeL x.x.b.np x.x.b.nn).sameKey (placeL y.x.b.np y.x.b.nn) = true) := by
    rw [← placeM_len N, sizeL_eq, placeM_eq, List.pairwise_reverse, List.pairwise_map]
  have e2 : ∀ x ∈ N, ∀ y ∈ N, ((placeL x.x.b.np x.x.b.nn).sameKey (placeL y.x.b.np y.x.b.nn) = true ↔ sameName y.x.b x.x.b = true) := by
    intro x hx y hy
    have x1 := (h.nums x hx).2.1
    have y1 := (h.nums y hy).2.1
    have hp := place_inj (p := x.x.b.np) (p' := y.x.b.np) (wf999 (by omega)) (hs x hx) (wf999 (by omega)) (hs y hy)
    unfold sameName
    rw [Bool.and_eq_true, beq_iff_eq, beq_iff_eq, toList_bytes, toList_bytes, ← hp]
    constructor
    · intro e; exact WideAt.sameKey_eq e
    · intro e; rw [e]; exact WideAt.sameKey_self (placeL_lit _ _)
  rw [e1]
  constructor
  · intro hp i hi
    rw [List.any_eq_false]
    intro b hb
    have hi2 : i < N.length := by simpa [blks] using hi
    obtain ⟨k, hk, rfl⟩ := List.mem_take_iff_getElem.1 hb
    have hk2 : k < i := by omega
    have := List.pairwise_iff_getElem.1 hp k i (by omega) hi2 hk2
    rw [e2 _ (List.getElem_mem _) _ (List.getElem_mem _)] at this
    simpa [blks] using this
  · intro ha
    rw [List.pairwise_iff_getElem]
    intro k i hk hi hki
    rw [e2 _ (List.getElem_mem _) _ (List.getElem_mem _)]
    have hi2 : i < (blks N).length := by simpa [blks] using hi
    have := List.any_eq_false.1 (ha i hi2) (N[k].x.b) (List.mem_take_iff_getElem.2 ⟨k, by rw [Nat.lt_min]; exact ⟨hki, by simpa [blks] using hk⟩, by simp [blks]⟩)
    simpa [blks] using this
/-- Sums over nodes. -/
def sumF (f : VerA → Int) : List VerA → Int
  | [] => 0
  | x :: N => f x + sumF f N
theorem sumS_is : ∀ (N : List VerA) (a : Int), N.foldl (fun s x => s + x.x.b.ns) a = a + sumF (fun x => x.x.b.ns) N
  | [], a => by simp [sumF]
  | x :: N, a => by rw [List.foldl_cons, sumS_is N, sumF]; omega
theorem sumF_add (f g : VerA → Int) : ∀ N : List VerA, sumF (fun x => f x + g x) N = sumF f N + sumF g N
  | [] => rfl
  | x :: N => by rw [sumF, sumF, sumF, sumF_add f g N]; omega
theorem sumF_zero (f : VerA → Int) : ∀ N : List VerA, (∀ x ∈ N, f x = 0) → sumF f N = 0
  | [], _ => rfl
  | x :: N, h => by rw [sumF, h x (by simp), sumF_zero f N (fun y hy => h y (by simp [hy]))]; rfl
theorem sumF_le (f g : VerA → Int) : ∀ N : List VerA, (∀ x ∈ N, f x ≤ g x) → sumF f N ≤ sumF g N
  | [], _ => Int.le_refl _
  | x :: N, h => by
    have h1 := h x (by simp)
    have h2 := sumF_le f g N (fun y hy => h y (by simp [hy]))
    rw [sumF, sumF]; omega
theorem sumF_eq (f g : VerA → Int) : ∀ N : List VerA, (∀ x ∈ N, f x ≤ g x) → (sumF g N = sumF f N ↔ ∀ x ∈ N, f x = g x)
  | [], _ => by simp [sumF]
  | x :: N, h => by
    have h1 := h x (by simp)
    have h2 := sumF_le f g N (fun y hy => h y (by simp [hy]))
    have ih := sumF_eq f g N (fun y hy => h y (by simp [hy]))
    rw [sumF, sumF]
    constructor
    · intro e y hy
      rcases List.mem_cons.1 hy with rfl | hy
      · omega
      · exact ih.1 (by omega) y hy
    · intro ha
      have := ih.2 (fun y hy => ha y (by simp [hy]))
      have := ha x (by simp)
      omega
theorem sumF_one {u : Int} : ∀ {N : List VerA}, N.Pairwise (fun x y => x.x.b.nu < y.x.b.nu) → (∃ x ∈ N, x.x.b.nu = u) → sumF (fun x => if u == x.x.b.nu then 1 else 0) N = 1
  | [], _, h => by obtain ⟨x, hx, _⟩ := h; cases hx
  | y :: N, hp, h => by
    obtain ⟨p1, p2⟩ := List.pairwise_cons.1 hp
    rw [sumF]
    by_cases hy : u = y.x.b.nu
    · have h1 : (u == y.x.b.nu) = true := by simpa using hy
      rw [h1, if_pos rfl, sumF_zero _ N (fun x hx => by
        have := p1 x hx
        have h2 : (u == x.x.b.nu) = false := by rw [beq_eq_false_iff_ne]; omega
        show (if (u == x.x.b.nu) = true then (1 : Int) else 0) = 0
        rw [h2]; rfl)]
      rfl
    · have h1 : (u == y.x.b.nu) = false := by simpa using hy
      obtain ⟨x, hx, e⟩ := h
      rcases List.mem_cons.1 hx with rfl | hx
      · exact absurd e.symm hy
      · rw [h1, sumF_one p2 ⟨x, hx, e⟩]; rfl
theorem pieces_sum {N : List VerA} (hp : N.Pairwise (fun x y => x.x.b.nu < y.x.b.nu)) : ∀ D : List VerA, (∀ d ∈ D, ∃ x ∈ N, x.x.b.nu = d.x.b.u) → sumF (fun x => (piecesOf (blks D) x.x.b : Int)) N = D.length
  | [], _ => sumF_zero _ N (fun x _ => rfl)
  | d :: D, h => by
    have ih := pieces_sum hp D (fun e he => h e (by simp [he]))
    have h1 := sumF_one (u := d.x.b.u) hp (h d (by simp))
    have e : (fun x : VerA => ((piecesOf (blks (d :: D)) x.x.b : Nat) : Int)) = fun x => (piecesOf (blks D) x.x.b : Int) + (if d.x.b.u == x.x.b.nu then 1 else 0) := by
      funext x
      rw [blks, List.map_cons, piecesOf, List.countP_cons, ← blks, piecesOf]
      cases (d.x.b.u == x.x.b.nu) <;> simp
    rw [e, sumF_add, ih, h1, List.length_cons]
    omega
theorem pieces_most {u ns : Int} : ∀ (D : List VerA) (lo : Int), lo ≤ ns → Asc D → (∀ d ∈ D, d.x.b.k = 2) → (∀ d ∈ D, d.x.b.u = u → lo ≤ d.x.b.i ∧ d.x.b.i < ns) → (((blks D).countP fun d => d.u == u : Nat) : Int) ≤ ns - lo
  | [], lo, h, _, _, _ => by simp [blks]; omega
  | d :: D, lo, h, ha, hk, hi => by
    obtain ⟨a1, a2⟩ := List.pairwise_cons.1 ha
    have hkd := hk d (by simp)
    rw [blks, List.map_cons, List.countP_cons, ← blks]
    by_cases hd : d.x.b.u = u
    · have hb : (d.x.b.u == u) = true := by simpa using hd
      obtain ⟨i1, i2⟩ := hi d (by simp) hd
      have ih := pieces_most (u := u) (ns := ns) D (d.x.b.i + 1) (by omega) a2 (fun e he => hk e (by simp [he])) (fun e he heu => by
        have h1 := a1 e he
        have h2 := hk e (by simp [he])
        simp only [keyV, keyOfB, hkd, h2, if_true] at h1
        exact ⟨by omega, (hi e (by simp [he]) heu).2⟩)
      rw [hb, if_pos rfl]
      omega
    · have hb : (d.x.b.u == u) = false := by simpa using hd
      have ih := pieces_most (u := u) (ns := ns) D lo h a2 (fun e he => hk e (by simp [he])) (fun e he => hi e (by simp [he]))
      rw [hb]
      simp only [Bool.false_eq_true, if_false, Nat.add_zero]
      exact ih
theorem whole_iff {clock : Int} {N D : List VerA} (h : GoodN N) (hD : Asc D) (hp : ∀ d ∈ D, GoodB clock d.x.b ∧ isPiece (blks N) d.x.b = true) : sumS N = (D.length : Int) ↔ ∀ n ∈ blks N, (piecesOf (blks D) n : Int) = n.ns := by
  have hpc : ∀ d ∈ D, d.x.b.k = 2 ∧ ∃ n, ofUid (blks N) d.x.b.u = some n ∧ d.x.b.i < n.ns := fun d hd => by
    have := (hp d hd).2
    unfold isPiece at this
    rw [Bool.and_eq_true] at this
    refine ⟨by simpa using this.1, ?_⟩
    cases ho : ofUid (blks N) d.x.b.u with
    | none => rw [ho] at this; exact absurd this.2 (by simp)
    | some n =>
      rw [ho] at this
      have h2 := this.2
      simp only [Bool.and_eq_true, decide_eq_true_eq] at h2
      exact ⟨n, rfl, h2.2⟩
  have hsum : sumF (fun x => (piecesOf (blks D) x.x.b : Int)) N = D.length := pieces_sum h.apart D (fun d hd => by
    obtain ⟨_, n, ho, _⟩ := hpc d hd
    obtain ⟨hm, hu⟩ := (ofUid_some h).1 ho
    obtain ⟨x, hx, rfl⟩ := List.mem_map.1 hm
    exact ⟨x, hx, hu⟩)
  have hle : ∀ x ∈ N, (piecesOf (blks D) x.x.b : Int) ≤ x.x.b.ns := fun x hx => by
    have := pieces_most (u := x.x.b.nu) (ns := x.x.b.ns) D 0 (h.nums x hx).2.2.1.1 hD (fun d hd => (hpc d hd).1) (fun d hd hu => by
      obtain ⟨_, n, ho, hi⟩ := hpc d hd
      have hf : ofUid (blks N) x.x.b.nu = some x.x.b := (ofUid_some h).2 ⟨List.mem_map.2 ⟨x, hx, rfl⟩, rfl⟩
      rw [hu, hf] at ho
      injection ho with ho
      exact ⟨(hp d hd).1.i.1, by rw [← ho] at hi; exact hi⟩)
    rw [piecesOf]
    omega
  have hS : sumS N = sumF (fun x => x.x.b.ns) N := by rw [sumS, sumS_is]; omega
  rw [hS, ← hsum, sumF_eq _ _ N hle]
  constructor
  · intro ha n hn
    obtain ⟨x, hx, rfl⟩ := List.mem_map.1 hn
    exact ha x hx
  · intro ha x hx
    exact ha x.x.b (List.mem_map.2 ⟨x, hx, rfl⟩)
theorem shape_is {clock : Int} {N D : List VerA} (h : GoodN N) (hs : ∀ x ∈ N, x.x.b.nn.size ≤ maxLen) (hD : Asc D) (hp : ∀ d ∈ D, GoodB clock d.x.b ∧ isPiece (blks N) d.x.b = true) {r : Bool} (hr : r = true ↔ RootedB (treeM N)) :
    shapeB (blks N) (blks D) = (r && (((sizeL (placeM N) : Int) == (N.length : Int)) && (sumS N == (D.length : Int)))) := by
  have e1 := rooted_iff h
  have e2 := named_iff h hs
  have e3 := whole_iff h hD hp
  rw [Bool.eq_iff_iff, Bool.and_eq_true, Bool.and_eq_true, beq_iff_eq, beq_iff_eq, hr, e1, e3]
  rw [show ((sizeL (placeM N) : Int) = (N.length : Int)) ↔ sizeL (placeM N) = N.length by omega, e2]
  have hok : ∀ i (hi : i < (blks N).length), okNode (blks N) (blks D) i (blks N)[i] = true ↔ (badPar (blks N) (blks N)[i] = false ∧ ¬ depthB (blks N) 5 0 (blks N)[i].nu < 0) ∧ ((blks N).take i).any (sameName (blks N)[i]) = false ∧ (piecesOf (blks D) (blks N)[i] : Int) = (blks N)[i].ns := by
    intro i hi
    unfold okNode
    simp only [Bool.and_eq_true, Bool.not_eq_true', decide_eq_true_eq, decide_eq_false_iff_not]
    constructor
    · rintro ⟨⟨⟨a, b⟩, c⟩, d⟩; exact ⟨⟨a, b⟩, c, d⟩
    · rintro ⟨⟨a, b⟩, c, d⟩; exact ⟨⟨⟨a, b⟩, c⟩, d⟩
  constructor
  · intro hsh
    have hall : ∀ i (hi : i < (blks N).length), okNode (blks N) (blks D) i (blks N)[i] = true := fun i hi => by
      cases ho : okNode (blks N) (blks D) i (blks N)[i] with
      | true => rfl
      | false => rw [shapeB_false hi ho] at hsh; cases hsh
    refine ⟨fun n hn => ?_, fun i hi => ((hok i hi).1 (hall i hi)).2.1, fun n hn => ?_⟩
    · obtain ⟨i, hi, rfl⟩ := List.getElem_of_mem hn
      exact ((hok i hi).1 (hall i hi)).1
    · obtain ⟨i, hi, rfl⟩ := List.getElem_of_mem hn
      exact ((hok i hi).1 (hall i hi)).2.2
  · rintro ⟨h1, h2, h3⟩
    exact shapeB_true (fun i hi => (hok i hi).2 ⟨h1 _ (List.getElem_mem hi), h2 i hi, h3 _ (List.getElem_mem hi)⟩)
end Go.Proofs.YtiopofemelninaaGreat
/-
  Names are short; what newest and the rest tell, put together (no Go in sight).
-/
namespace Go.Proofs.YtiopofemelninaaGreat
open Go.RowKit
set_option linter.unusedVariables false

theorem none_name : Blk.none.nn.size ≤ maxLen := by show (0 : Nat) ≤ maxLen; exact Nat.zero_le _
theorem told_name (x0 x1 x2 x3 x4 : Int) : (toldBlk x0 x1 x2 x3 x4).nn.size ≤ maxLen := by
  unfold toldBlk
  split
  · exact nmOf_size _
  · split
    · exact Nat.zero_le _
    · split
      · exact Nat.zero_le _
      · exact none_name
theorem read_name (l : List Int) : (readBlk l).nn.size ≤ maxLen := by
  unfold readBlk
  split
  · split
    · first | exact told_name _ _ _ _ _ | exact none_name | (split <;> first | exact told_name _ _ _ _ _ | exact none_name)
    · first | exact told_name _ _ _ _ _ | exact none_name | (split <;> first | exact told_name _ _ _ _ _ | exact none_name)
  · first | exact told_name _ _ _ _ _ | exact none_name | (split <;> first | exact told_name _ _ _ _ _ | exact none_name)
theorem step_name {clock line : Int} {l : List Int} : ∀ v ∈ stepVers clock line l, v.2.nn.size ≤ maxLen := by
  intro v hv
  unfold stepVers at hv
  split at hv
  · cases hv
  · split at hv
    · rcases List.mem_singleton.1 hv with rfl
      exact read_name _
    · rcases List.mem_singleton.1 hv with rfl
      exact Nat.zero_le _
theorem run_name {clock : Int} : ∀ (n : Nat) (line : Int) (ws : List Int), ∀ v ∈ (imgRun clock n line ws).2.1, v.2.nn.size ≤ maxLen
  | 0, _, _, v, hv => by cases hv
  | n + 1, line, ws, v, hv => by
    unfold imgRun at hv
    split at hv
    · split at hv
      · rcases List.mem_append.1 hv with hv | hv
        · exact step_name v hv
        · exact run_name n _ _ v hv
      · cases hv
    · cases hv
theorem imgVers_name {ws : List Int} : ∀ v ∈ imgVers ws, v.2.nn.size ≤ maxLen := by
  intro v hv
  unfold imgVers at hv
  split at hv
  · exact run_name _ _ _ v hv
  · cases hv
theorem live_sub {clock : Int} {L : List VerA} {x : VerA} (h : x ∈ newestOf clock L) : x ∈ L := by
  have := newest_mem (clock := clock) (L := L) (i := L.length) (Nat.le_refl _) (y := x) (by rw [List.take_length]; exact h)
  rw [List.take_length] at this
  exact this.1
theorem liveN_sub {clock : Int} {L : List VerA} {x : VerA} (h : x ∈ liveN clock L) : x ∈ L := live_sub (List.mem_filter.1 h).1
theorem liveN_len {clock : Int} {L : List VerA} : (liveN clock L).length ≤ L.length := by
  refine Nat.le_trans (List.length_filter_le _ _) ?_
  have := newest_len (clock := clock) (L := L) (i := L.length) (Nat.le_refl _)
  rwa [List.take_length] at this
theorem liveD_len {clock : Int} {L : List VerA} : (liveD clock L).length ≤ L.length := by
  refine Nat.le_trans (List.length_filter_le _ _) ?_
  have := newest_len (clock := clock) (L := L) (i := L.length) (Nat.le_refl _)
  rwa [List.take_length] at this
theorem live_code {clock : Int} {L : List VerA} (hL : ∀ x ∈ L, GoodB clock x.x.b) (hs : ∀ x ∈ L, x.x.b.nn.size ≤ maxLen) (hn : ∀ i (h : i < L.length), toldB clock (L.take i) L[i] = false) {r : Bool} (hr : r = true ↔ RootedB (treeM (liveN clock L))) :
    liveCode clock L = if (r && (((sizeL (placeM (liveN clock L)) : Int) == ((liveN clock L).length : Int)) && (sumS (liveN clock L) == ((liveD clock L).length : Int)))) = true then 0 else 8 := by
  have hN := newest_all hL
  have e : liveCode clock L = if sameVers clock (blks L) = true then 6 else if shapeB (blks (liveN clock L)) (blks (liveD clock L)) = true then 0 else 8 := rfl
  have hD : Asc (liveD clock L) := List.Pairwise.sublist (l₁ := (newestOf clock L).filter fun x : VerA => isPiece (blks (liveN clock L)) x.x.b) List.filter_sublist hN.asc
  rw [e, told_nodup hL hn, if_neg (by decide), shape_is (live_good hL) (fun x hx => hs x (liveN_sub hx)) hD (fun d hd => ⟨hN.good d (List.mem_filter.1 hd).1, (List.mem_filter.1 hd).2⟩) hr]
theorem newM_in {clock : Int} {p : Lit × VerA} : ∀ (L : List VerA) (acc : List (Lit × VerA)), p ∈ L.foldl (newStep clock) acc → p ∈ acc ∨ p.2 ∈ L
  | [], acc, h => .inl h
  | x :: L, acc, h => by
    rcases newM_in L _ h with h | h
    · unfold newStep at h
      split at h
      · split at h
        · rcases List.mem_cons.1 h with rfl | h
          · exact .inr (by simp)
          · exact .inl h
        · exact .inl h
      · exact .inl h
    · exact .inr (by simp [h])
theorem newM_of {clock : Int} {L : List VerA} {p : Lit × VerA} (h : p ∈ newM clock L) : p.2 ∈ L := by
  rcases newM_in L [] h with h | h
  · cases h
  · exact h
theorem live_dup {clock : Int} {L : List VerA} (hL : ∀ x ∈ L, GoodB clock x.x.b) (h : ∃ i, ∃ h : i < L.length, toldB clock (L.take i) L[i] = true) : liveCode clock L = 6 := by
  have e : liveCode clock L = if sameVers clock (blks L) = true then 6 else if shapeB (blks (liveN clock L)) (blks (liveD clock L)) = true then 0 else 8 := rfl
  rw [e, told_dup hL h, if_pos rfl]
end Go.Proofs.YtiopofemelninaaGreat
