/-
  What items' codes are (no Go in sight).
-/
import Derived.Test.YtcmekhpphgkglaaDoorPathNamesMath
import Derived.Test.YtcmekhpphgkglaaDoorItemMath
import Derived.Test.YtcmekhpphgkglaaDoorOpForm
namespace Go.Proofs.YtcmekhpphgkglaaDoor
open Go.RowKit
set_option linter.unusedVariables false

/-- The last slash at k or ahead of it (0, where there is none). -/
def lastTo (l : List UInt8) : Nat → Nat
  | 0 => 0
  | k + 1 => if l[k + 1]? = some 47 then k + 1 else lastTo l k
def lastSl (l : List UInt8) : Nat := lastTo l (l.length - 1)
theorem lastTo_at {l : List UInt8} {k : Nat} (h : l[k]? = some 47) : lastTo l k = k := by
  cases k with
  | zero => rfl
  | succ k => rw [lastTo, if_pos h]
theorem lastTo_no {l : List UInt8} {k : Nat} (h : l[k + 1]? ≠ some 47) : lastTo l (k + 1) = lastTo l k := by rw [lastTo, if_neg h]
theorem lastTo_le (l : List UInt8) : ∀ k, lastTo l k ≤ k
  | 0 => Nat.le_refl _
  | k + 1 => by
    rw [lastTo]
    split
    · exact Nat.le_refl _
    · exact Nat.le_succ_of_le (lastTo_le l k)
def isRoot (p : ByteArray) : Bool := (p.toList == [47])
/-- The parent of a path. -/
def parB (p : ByteArray) : ByteArray := if lastSl p.data.toList = 0 then ⟨#[47]⟩ else p.extract 0 (lastSl p.data.toList)
theorem pn_head {l : List UInt8} (h : pnCode l = 0) : ∃ r, l = 47 :: r := by
  cases l with
  | nil => exact absurd h (by decide)
  | cons b l =>
    by_cases hb : b = 47
    · exact ⟨l, by rw [hb]⟩
    · rw [pnCode, parse_bare (b :: l) (fun r e => hb (by injection e))] at h
      exact absurd h (by decide)
theorem lastSl_lt {l : List UInt8} {r : List UInt8} (h : l = 47 :: r) : lastSl l < l.length := by
  have := lastTo_le l (l.length - 1)
  rw [lastSl]
  subst h
  simp at this ⊢
  omega
def piecesB (d : Bool) (n : Nat) : Bool := if d = true then ((n : Int) == 0) else ((n : Int) % 4 == 0) && decide ((n : Int) ≤ 16)
theorem pieces_yes {d : Bool} {n : Nat} (h : piecesB d n = true) : (n : Int) % 4 = 0 ∧ (n : Int) ≤ 16 ∧ (d = true → (n : Int) = 0) := by
  unfold piecesB at h
  cases d
  · simp at h
    refine ⟨by omega, by omega, fun e => by cases e⟩
  · simp at h
    refine ⟨by omega, by omega, fun _ => by omega⟩
theorem pieces_no {d : Bool} {n : Nat} (h : piecesB d n = false) : (d = true ∧ (0 : Int) < n) ∨ (d = false ∧ ¬ (n : Int) % 4 = 0) ∨ (d = false ∧ (n : Int) % 4 = 0 ∧ (16 : Int) < n) := by
  unfold piecesB at h
  cases d
  · by_cases hm : (n : Int) % 4 = 0
    · simp [hm] at h
      exact .inr (.inr ⟨rfl, hm, by omega⟩)
    · exact .inr (.inl ⟨rfl, hm⟩)
  · simp at h
    exact .inl ⟨rfl, by omega⟩
def numsI (l : List Int) : Bool := l.all fun v => inB v 0 9999
theorem numsI_drop {l : List Int} {k : Nat} (h : k < l.length) : numsI (l.drop k) = (inB l[k] 0 9999 && numsI (l.drop (k + 1))) := by
  rw [numsI, List.drop_eq_getElem_cons h, List.all_cons]
  rfl
theorem numsI_end {l : List Int} {k : Nat} (h : l.length ≤ k) : numsI (l.drop k) = true := by
  rw [numsI, List.drop_of_length_le h]
  rfl
/-- The code of an item by itself. -/
def itemC (x : Itm) : Int := or0 (pnCode x.p.data.toList) (if isRoot x.p = true then 1 else if piecesB x.d x.l.length = true then (if numsI x.l = true then 0 else 3) else 1)
def itemsC (L : List ItmA) : Int := match L with
  | [] => 0
  | x :: L => or0 (itemC x.b) (itemsC L)
theorem itemsC_drop {L : List ItmA} {k : Nat} (h : k < L.length) : itemsC (L.drop k) = or0 (itemC L[k].b) (itemsC (L.drop (k + 1))) := by
  rw [List.drop_eq_getElem_cons h, itemsC]
theorem itemsC_end {L : List ItmA} {k : Nat} (h : L.length ≤ k) : itemsC (L.drop k) = 0 := by
  rw [List.drop_of_length_le h, itemsC]
theorem itemsC_zero : ∀ {L : List ItmA}, itemsC L = 0 → ∀ x ∈ L, itemC x.b = 0
  | [], _, x, hx => by cases hx
  | y :: L, h, x, hx => by
    rw [itemsC] at h
    by_cases h0 : itemC y.b = 0
    · rw [or0_right h0] at h
      rcases List.mem_cons.1 hx with rfl | hx
      · exact h0
      · exact itemsC_zero h x hx
    · rw [or0_left h0] at h
      exact absurd h h0
theorem itemC_path {x : Itm} (h : itemC x = 0) : pnCode x.p.data.toList = 0 ∧ isRoot x.p = false := by
  rw [itemC] at h
  by_cases h0 : pnCode x.p.data.toList = 0
  · refine ⟨h0, ?_⟩
    rw [or0_right h0] at h
    cases hr : isRoot x.p
    · rfl
    · rw [hr, if_pos rfl] at h
      exact absurd h (by decide)
  · rw [or0_left h0] at h
    exact absurd h h0
/-- Whether the item at a path is a directory: the first one. -/
def findI : List ItmA → ByteArray → Option Bool
  | [], _ => none
  | x :: L, q => if (x.b.p.toList == q.toList) = true then some x.b.d else findI L q
theorem findI_drop {L : List ItmA} {k : Nat} {q : ByteArray} (h : k < L.length) : findI (L.drop k) q = if (L[k].b.p.toList == q.toList) = true then some L[k].b.d else findI (L.drop (k + 1)) q := by
  rw [List.drop_eq_getElem_cons h, findI]
theorem findI_end {L : List ItmA} {k : Nat} {q : ByteArray} (h : L.length ≤ k) : findI (L.drop k) q = none := by
  rw [List.drop_of_length_le h, findI]
/-- The code of a path's parent, among items. -/
def parC (L : List ItmA) (p : ByteArray) : Int := if isRoot (parB p) = true then 0 else match findI L (parB p) with
  | none => 4
  | some true => 0
  | some false => 8
def leqB (p q : ByteArray) : Bool := Go.Op.bytesLess p.toList q.toList || p.toList == q.toList
def leqO (p : ByteArray) : Option ByteArray → Bool
  | none => false
  | some q => leqB p q
/-- The code of what stands behind a path, among items. -/
def treeI (M : List ItmA) : Option ByteArray → List ItmA → Int
  | _, [] => 0
  | pr, x :: r => or0 (if leqO x.b.p pr = true then 1 else parC M x.b.p) (treeI M (some x.b.p) r)
def prevO (L : List ItmA) : Nat → Option ByteArray
  | 0 => none
  | k + 1 => (L[k]?).map fun x => x.b.p
theorem treeI_drop {M L : List ItmA} {k : Nat} (h : k < L.length) : treeI M (prevO L k) (L.drop k) = or0 (if leqO L[k].b.p (prevO L k) = true then 1 else parC M L[k].b.p) (treeI M (prevO L (k + 1)) (L.drop (k + 1))) := by
  rw [List.drop_eq_getElem_cons h, treeI, prevO, List.getElem?_eq_getElem h]
  rfl
theorem treeI_end {M L : List ItmA} {k : Nat} {pr : Option ByteArray} (h : L.length ≤ k) : treeI M pr (L.drop k) = 0 := by
  rw [List.drop_of_length_le h, treeI]
theorem prevO_succ {L : List ItmA} {k : Nat} (h : k < L.length) : prevO L (k + 1) = some L[k].b.p := by
  rw [prevO, List.getElem?_eq_getElem h]; rfl
/-- The code of a list of items. -/
def itemsCode (L : List ItmA) : Int := if (60 : Int) < L.length then 2 else or0 (itemsC L) (treeI L none L)
theorem itemsC_map : ∀ {L M : List ItmA}, L.map ItmA.b = M.map ItmA.b → itemsC L = itemsC M
  | [], [], _ => rfl
  | x :: L, y :: M, h => by
    simp only [List.map_cons, List.cons.injEq] at h
    rw [itemsC, itemsC, h.1, itemsC_map h.2]
theorem findI_map {q : ByteArray} : ∀ {L M : List ItmA}, L.map ItmA.b = M.map ItmA.b → findI L q = findI M q
  | [], [], _ => rfl
  | x :: L, y :: M, h => by
    simp only [List.map_cons, List.cons.injEq] at h
    rw [findI, findI, h.1, findI_map h.2]
theorem treeI_map {N N' : List ItmA} (hN : N.map ItmA.b = N'.map ItmA.b) : ∀ {L M : List ItmA} {pr : Option ByteArray}, L.map ItmA.b = M.map ItmA.b → treeI N pr L = treeI N' pr M
  | [], [], _, _ => rfl
  | x :: L, y :: M, pr, h => by
    simp only [List.map_cons, List.cons.injEq] at h
    rw [treeI, treeI, h.1, treeI_map hN h.2, parC, parC, findI_map hN]
theorem itemsCode_map {L M : List ItmA} (h : L.map ItmA.b = M.map ItmA.b) : itemsCode L = itemsCode M := by
  have hl : L.length = M.length := by simpa using congrArg List.length h
  rw [itemsCode, itemsCode, hl, itemsC_map h, treeI_map h h]
end Go.Proofs.YtcmekhpphgkglaaDoor
