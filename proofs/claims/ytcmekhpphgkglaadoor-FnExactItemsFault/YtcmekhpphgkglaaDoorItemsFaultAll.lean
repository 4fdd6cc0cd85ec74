/-
  Several texts in one: BackWalk, MapS, RegRead, ModelOf, IfImpl2, IfImpl3, ItemSzF, FnExactItemsFaultWalk.
-/
import Derived.Test.YtcmekhpphgkglaaDoorItemMath
import Derived.Test.YtcmekhpphgkglaaDoorProg
import Derived.RangeFuncNested
import Derived.RangeFuncBound
import Derived.RangeFuncCalls
import Derived.RangeFuncLeaves
import Derived.Shelf.Abstract
import Derived.WalkKit
import Derived.OwnWalkIn
import Derived.TacticsInMore
import Derived.LoopNIn
import Derived.LoopIn
import Derived.Test.YtcmekhpphgkglaaDoorBase
import Derived.Test.YtcmekhpphgkglaaDoorRowMath
import Derived.Maps.OwnSet
import Derived.Maps.OwnIn
import Derived.OrdersIn
import Derived.RangeFuncWrites
import Derived.Test.YtcmekhpphgkglaaDoorIfImpl
import Derived.Test.YtcmekhpphgkglaaDoorNodeEq
import Derived.Deep.CutRange
import Derived.Test.YtcmekhpphgkglaaDoorItemSz
import Derived.Test.YtcmekhpphgkglaaDoorIfSpec
import Derived.Test.YtcmekhpphgkglaaDoorItemTo
import Derived.Test.YtcmekhpphgkglaaDoorItemEq
/-
  What slices.Backward hands back, over a list of items: its rounds.
-/
namespace Go.Proofs.YtcmekhpphgkglaaDoor
open Go.RowKit Go.Shelf
attribute [local go_sem] Oper.semAt_some
set_option linter.unusedVariables false

/-- An item whose path is no longer than a map's key may be. -/
abbrev BI := { x : ItmA // x.b.p.size ≤ 1048576 }
/-- What a round keeps: what lay below n₀, but for one block. -/
def KpM (bm n₀ : Nat) (W W' : World) : Prop := ∀ q, q < n₀ → q ≠ bm → W'.heap[q]? = W.heap[q]?
theorem KpM.refl {bm n₀ : Nat} (W : World) : KpM bm n₀ W W := fun _ _ _ => rfl
theorem KpM.trans {bm n₀ : Nat} {A B C : World} (h : KpM bm n₀ A B) (k : KpM bm n₀ B C) : KpM bm n₀ A C := fun q hq hn => (k q hq hn).trans (h q hq hn)
theorem KpM.cell {bm n₀ : Nat} {A B : World} (h : KpM bm n₀ A B) {p : Addr} (hp : p.block < n₀) (hn : p.block ≠ bm) : B.cell? p = A.cell? p := World.cell?_of_block (h p.block hp hn)
abbrev backEnc (x : Int × BI) : Array Value := #[.int .i64 x.1, .agg #[.string x.2.1.b.p, .bool x.2.1.b.d, .slice x.2.1.a x.2.1.b.l.length x.2.1.c]]
/-- The rows of items that lie below n₀, out of one block. -/
def ItmsIn (bm n₀ : Nat) (w : World) (a : Option Addr) (L : List BI) : Prop := ∀ k (h : k < L.length), ∃ b o, a = some ⟨b, o, none⟩ ∧ b < n₀ ∧ b ≠ bm ∧ w.cell? ⟨b, o + k * 3, none⟩ = some (.string L[k].1.b.p) ∧ w.cell? ⟨b, o + k * 3 + 1, none⟩ = some (.bool L[k].1.b.d) ∧ w.cell? ⟨b, o + k * 3 + 2, none⟩ = some (.slice L[k].1.a L[k].1.b.l.length L[k].1.c)

set_option maxRecDepth 100000 in
set_option maxHeartbeats 2000000 in
theorem back1_in (F : Fence) (n : Nat) (hF : F.fn 60) (hro : F.round = none) (hn : 1 ≤ n) (l Bs n₀ bm : Nat) (a : Option Addr) (c : Nat) (L : List BI) (hreach : L.length ≤ 1048576) (hB : Bs < n₀) (hBm : Bs ≠ bm) (J Jx : List (Int × BI) → World → Prop)
    (hY : ∀ pre x W, J pre W → pre.length < L.length → YieldAt F (n - 1) Tryd.prog l (backEnc x) W fun e W' =>
      (e = .returned (.bool true) ∧ J (pre ++ [x]) W' ∧ KpM bm n₀ W W') ∨ (e = .returned (.bool false) ∧ Jx (pre ++ [x]) W'))
    (W : World) (hBs : W.cell? ⟨Bs, 0, none⟩ = some (.slice a L.length c)) (hI : ItmsIn bm n₀ W a L) (h0 : J [] W) :
    CallsIn F n Tryd.prog 60 #[.func (.yield l) #[] #[], .pointer (some ⟨Bs, 0, none⟩)] W fun e W' => (∃ v, e = .returned v) ∧
      ((∃ ys, ys.map (·.2) = L.reverse ∧ J ys W') ∨ (∃ pre : List (Int × BI), True ∧ Jx pre W')) := by
  refine callsIn_of_wp Tryd.func60 rfl hF ?_ hro
  simp only [Tryd.ntmps60, List.size_toArray, List.length_cons, List.length_nil, Nat.reduceAdd, Nat.reduceSub, Array.replicate_succ, Array.replicate_zero, List.push_toArray, List.append_toArray, List.nil_append, List.cons_append]
  gi_wp2
  gi_loopw [3] (fun i wr => ∃ (k : Nat) (pre : List (Int × BI)), k ≤ L.length ∧ i = .int .i64 ((k : Int) - 1) ∧ pre.length = L.length - k ∧ Hid (pre.map (·.2) = (L.drop k).reverse) ∧ J pre wr ∧ Hid (KpM bm n₀ W wr))
    (fun i _ => (intOf i + 1).toNat)
  case atStart => exact ⟨L.length, [], Nat.le_refl _, rfl, by simp, by simp [Hid], h0, KpM.refl W⟩
  case round =>
    obtain ⟨k, pre, hk, rfl, hpl, HP, hJs, HK⟩ := hrel
    have hcs : wr.cell? ⟨Bs, 0, none⟩ = some (.slice a L.length c) := ((unhide HK).cell (p := ⟨Bs, 0, none⟩) hB hBm).trans hBs
    cases k with
    | zero =>
      have HE : Hid (pre.map (·.2) = L.reverse) := by rw [Hid, unhide HP]; rfl
      gi_wp2
      go_end0
      exact ⟨⟨_, rfl⟩, .inl ⟨pre, unhide HE, hJs⟩⟩
    | succ j =>
      have hlt : j < L.length := by omega
      obtain ⟨b, o, rfl, hb, hbm, c0, c1, c2⟩ := hI j hlt
      have d0 := ((unhide HK).cell (p := ⟨b, o + j * 3, none⟩) hb hbm).trans c0
      have d1 := ((unhide HK).cell (p := ⟨b, o + j * 3 + 1, none⟩) hb hbm).trans c1
      have d2 := ((unhide HK).cell (p := ⟨b, o + j * 3 + 2, none⟩) hb hbm).trans c2
      have HE : Hid ((pre ++ [((j : Int), L[j])]).map (·.2) = (L.drop j).reverse) := by
        rw [Hid, List.map_append, unhide HP, List.drop_eq_getElem_cons hlt, List.reverse_cons]
        rfl
      obtain ⟨fn, tmps, assign, body, hy, hR⟩ := hY pre ((j : Int), L[j]) wr hJs (by omega)
      dsimp only [backEnc] at hy
      clear c0 c1 c2
      generalize L[j] = x at *
      have e1 : ((j + 1 : Nat) : Int) - 1 = j := by omega
      rw [e1]
      gi_wp2
      refine hR.mono ?_
      rintro e W3 (⟨rfl, hJ3, hk3⟩ | ⟨rfl, hJx3⟩)
      · have HK3 := hide ((unhide HK).trans hk3)
        clear hk3 HK hR hy
        gi_wp2
        go_roundw
        case rel => exact ⟨j, pre ++ [((j : Int), x)], by omega, by go_num, by simp [hpl]; omega, HE, hJ3, HK3⟩
        case measure => simp [intOf]
      · gi_wp2
        refine bodyPost_ret (results_none rfl _ _ _) rfl ?_
        exact ⟨⟨_, rfl⟩, .inr ⟨_, trivial, hJx3⟩⟩
set_option maxHeartbeats 1000000 in
theorem back_in (F : Fence) (n : Nat) (hF : F.fn 36) (hro : F.round = none) (a : Option Addr) (len cap : Nat) (w : World) :
    CallsIn F n Tryd.prog 36 #[.slice a len cap] w fun e w' => e = .returned (.func (.func 60) #[] #[.pointer (some ⟨w.heap.size, 0, none⟩)]) ∧ w' = w.alloc (.cells #[.slice a len cap] 25) := by
  refine callsIn_of_wp Tryd.func36 rfl hF ?_ hro
  simp only [Tryd.ntmps36, List.size_toArray, List.length_cons, List.length_nil, Nat.reduceAdd, Nat.reduceSub, Array.replicate_succ, Array.replicate_zero, List.push_toArray, List.append_toArray, List.nil_append, List.cons_append]
  gi_wp2
  go_ret
  exact ⟨rfl, rfl⟩
theorem back_stops (F : Fence) (n : Nat) (hF : F.fn 60) (hro : F.round = none) (hn : 1 ≤ n) (Bs n₀ bm : Nat) (a : Option Addr) (c : Nat) (L : List BI) (hreach : L.length ≤ 1048576) (hB : Bs < n₀) (hBm : Bs ≠ bm) (w : World) (hn₀ : n₀ ≤ w.heap.size)
    (hBs : w.cell? ⟨Bs, 0, none⟩ = some (.slice a L.length c)) (hI : ItmsIn bm n₀ w a L) :
    SeqStopsK F n Tryd.prog 60 #[.pointer (some ⟨Bs, 0, none⟩)] backEnc (KpM bm n₀) (fun ys => ys.map (·.2) = L.reverse) (fun _ => True) L.length w := fun l J Jx W hW _ _ hY h0 =>
  back1_in F n hF hro hn l Bs n₀ bm a c L hreach hB hBm J Jx hY W ((hW.cell (p := ⟨Bs, 0, none⟩) (by show Bs < w.heap.size; omega)).trans hBs)
    (fun k hk => by
      obtain ⟨b, o, e, hb, hbm, c0, c1, c2⟩ := hI k hk
      have hbw : b < w.heap.size := by omega
      exact ⟨b, o, e, hb, hbm, (hW.cell (p := ⟨b, o + k * 3, none⟩) hbw).trans c0, (hW.cell (p := ⟨b, o + k * 3 + 1, none⟩) hbw).trans c1, (hW.cell (p := ⟨b, o + k * 3 + 2, none⟩) hbw).trans c2⟩) h0
end Go.Proofs.YtcmekhpphgkglaaDoor
/-
  Maps as the walks see them: by a reader that tells a value as it is; what strings' maps tell behind stores.
-/
namespace Go.Proofs.YtcmekhpphgkglaaDoor
open Go.RowKit Go.Maps
set_option linter.unusedVariables false

abbrev DV := DataW Value
def vR : Value → Option (DV × List MemPlace) := fun v => some (.held v, [])
theorem vR_inv {v x : Value} {ps : List MemPlace} (h : vR v = some (.held x, ps)) : v = x := by
  have := Option.some.inj h
  injection this with h1 _
  injection h1
/-- What was stored, the last ahead. -/
def putsR : List (ByteArray × Value) → DV
  | [] => .map []
  | p :: l => (putsR l).put (.string p.1.data.toList) (.held p.2)
def lookF : List (ByteArray × Value) → ByteArray → Option Value
  | [], _ => none
  | p :: l, q => if p.1.data.toList = q.data.toList then some p.2 else lookF l q
theorem keyLitS (k : List UInt8) : WideAt.IsKeyLit (.string k) := by simp [WideAt.IsKeyLit]
theorem putsR_isMap : ∀ l, IsMap (putsR l)
  | [] => ⟨[], rfl⟩
  | p :: l => (putsR_isMap l).put _ _
theorem putsR_has (q : ByteArray) : ∀ l, Maps.has (putsR l) (.string q.data.toList) = (lookF l q).isSome
  | [] => rfl
  | p :: l => by
    rw [putsR, lookF]
    by_cases h : p.1.data.toList = q.data.toList
    · rw [if_pos h, h, has_put_same (putsR_isMap l) (keyLitS _)]
      rfl
    · rw [if_neg h, has_put_other (fun e => h (by injection e with e; exact e.symm))]
      exact putsR_has q l
theorem putsR_at (q : ByteArray) (z : Value) : ∀ l, (putsR l).atKey (.string q.data.toList) (.held z) = .held ((lookF l q).getD z)
  | [] => by simp [putsR, lookF, DataW.atKey]
  | p :: l => by
    rw [putsR, lookF]
    by_cases h : p.1.data.toList = q.data.toList
    · rw [if_pos h, h, atKey_put_same (putsR_isMap l) (keyLitS _)]
      rfl
    · rw [if_neg h, atKey_put_other (fun e => h (by injection e with e; exact e.symm))]
      exact putsR_at q z l
theorem lawS : Keyed Tryd.prog 9 := string_keyed Tryd.underlying9
theorem keyS {q : ByteArray} (hq : q.size ≤ maxLen) : keyOf Tryd.prog 9 (.string q) = some (.string q.data.toList) := by
  simp [keyOf, mapKey, Tryd.underlying9, hq]
/-- Block b is a map from strings that holds what was stored. -/
def SMap (w : World) (b : Nat) (l : List (ByteArray × Value)) : Prop := w.ownsMap Tryd.prog 9 vR b l.length (putsR l)
theorem SMap.stay {w w' : World} {b : Nat} {l : List (ByteArray × Value)} (h : SMap w b l) (hb : w'.heap[b]? = w.heap[b]?) : SMap w' b l := by
  obtain ⟨es, clock, h1, r⟩ := h
  exact ⟨es, clock, hb.trans h1, r⟩
theorem SMap.lt {w : World} {b : Nat} {l : List (ByteArray × Value)} (h : SMap w b l) : b < w.heap.size := World.ownsMap.lt h
theorem SMap.below {w w' : World} {b : Nat} {l : List (ByteArray × Value)} (h : SMap w b l) (hb : Below w.heap.size w w') : SMap w' b l := h.stay (hb.block b h.lt)
theorem SMap.made (w : World) : SMap (w.alloc (.map #[] 0)) w.heap.size [] := World.ownsMap_made w _ _ _
theorem SMap.look_ok {w : World} {b : Nat} {l : List (ByteArray × Value)} (h : SMap w b l) {t e : TypeId} (ht : Tryd.prog.underlying t = some (.map 9 e)) {z : Value} (hz : (zeroValue e).run Tryd.prog w = .ok z w) {q : ByteArray} (hq : q.size ≤ maxLen) :
    (Instr.lookup t (.map (some b)) (.string q) true).run Tryd.prog w = .ok (.tuple #[(lookF l q).getD z, .bool (lookF l q).isSome]) w := by
  obtain ⟨v, ps, hrun, hv⟩ := World.ownsMap.look_ok h lawS ht hz (zd := .held z) (zp := []) rfl (keyS hq)
  rw [putsR_at] at hv
  rw [hrun, putsR_has, vR_inv hv]
theorem SMap.look_in {w : World} {b : Nat} {l : List (ByteArray × Value)} (h : SMap w b l) {t e : TypeId} (ht : Tryd.prog.underlying t = some (.map 9 e)) {z : Value} (hz : (zeroValue e).run Tryd.prog w = .ok z w) {q : ByteArray} (hq : q.size ≤ maxLen) :
    (Instr.lookup t (.map (some b)) (.string q) false).run Tryd.prog w = .ok ((lookF l q).getD z) w := by
  obtain ⟨v, ps, hrun, hv⟩ := World.ownsMap.lookup h lawS ht hz (zd := .held z) (zp := []) rfl (keyS hq)
  rw [putsR_at] at hv
  rw [hrun, vR_inv hv]
theorem SMap.put {w : World} {b : Nat} {l : List (ByteArray × Value)} (h : SMap w b l) {t e : TypeId} (ht : Tryd.prog.underlying t = some (.map 9 e)) {q : ByteArray} (hq : q.size ≤ maxLen) (v : Value) (hl : l.length < maxLen) :
    ∃ w', (Instr.mapUpdate t (.map (some b)) (.string q) v).run Tryd.prog w = .ok () w' ∧ SMap w' b ((q, v) :: l) ∧ w.grownBy w' (some b) := by
  obtain ⟨w', hrun, hown, hturn⟩ := World.ownsMap.store h lawS ht hl (keyS hq) (d := .held v) (ps := []) (val := v) rfl
  exact ⟨w', hrun, hown, hturn.grown⟩
end Go.Proofs.YtcmekhpphgkglaaDoor
/-
  A region that draws its order, whose operations but the last one only read: inside a fence, in a round of a loop over a function too, it is walked once.
-/
namespace Go.Proofs.YtcmekhpphgkglaaDoor
open Go
set_option linter.unusedVariables false

section
variable {F : Fence} {n : Nat} {P : Program} {ops : Array Oper} {Q : Exit → Act → World → Prop}

theorem wpAnyIn_end {md : Region.Mode} {fuel : Nat} {listed : Array Bool} {a : Act} {w : World} (h : Region.ready md ops listed = []) (hq : Q .normal a w) : wpAnyIn F n P md ops Q fuel listed a w := by
  cases fuel with
  | zero => exact ⟨h, hq⟩
  | succ f => exact ⟨fun _ => hq, fun i hi => by rw [h] at hi; cases hi⟩

def dstOf (ops : Array Oper) (i : Nat) : Option Tmp := (ops[i]?).bind (·.dst)
/-- An operation that may be read out of order: by its text. -/
def readOk (ops : Array Oper) (N i : Nat) : Bool :=
  match ops[i]? with
  | none => false
  | some o => o.guard.isNone && o.after.all (fun e => decide (e.on < i)) &&
      o.op.operands.all (fun x => match x with
        | .tmp d => (List.range N).all (fun j => dstOf ops j != some d || o.after.any (fun e => e.on == j && Region.binds .any e))
        | _ => true) &&
      (match o.op with | .call _ => false | .select _ _ => false | .defer _ => false | _ => true)
def lastOk (ops : Array Oper) (N : Nat) : Bool :=
  (ops.size == N + 1) &&
  match ops[N]? with
  | none => false
  | some o => o.guard.isNone && o.after.all (fun e => decide (e.on < N)) && (List.range N).all (fun j => o.after.any (fun e => e.on == j && Region.binds .any e))

/-- What the reads have told, one behind the other. -/
def setAll (t : Array Value) (u : List (Tmp × Value)) : Array Value := u.foldl (fun t p => t.setIfInBounds p.1 p.2) t
theorem setAll_size : ∀ (u : List (Tmp × Value)) (t : Array Value), (setAll t u).size = t.size
  | [], t => rfl
  | p :: u, t => by
    show (setAll (t.setIfInBounds p.1 p.2) u).size = t.size
    rw [setAll_size u]
    simp
theorem setAll_other : ∀ (u : List (Tmp × Value)) (t : Array Value) (d : Tmp), (∀ p ∈ u, p.1 ≠ d) → (setAll t u)[d]? = t[d]?
  | [], t, d, _ => rfl
  | p :: u, t, d, h => by
    show (setAll (t.setIfInBounds p.1 p.2) u)[d]? = t[d]?
    rw [setAll_other u _ d (fun q hq => h q (List.mem_cons_of_mem _ hq)), Array.getElem?_setIfInBounds_ne (h p (List.mem_cons_self ..))]
theorem setAll_at : ∀ (u : List (Tmp × Value)) (t : Array Value), (u.map (·.1)).Nodup → (∀ p ∈ u, p.1 < t.size) → ∀ p ∈ u, (setAll t u)[p.1]? = some p.2
  | [], t, _, _, p, hp => by cases hp
  | q :: u, t, hn, hb, p, hp => by
    show (setAll (t.setIfInBounds q.1 q.2) u)[p.1]? = some p.2
    rw [List.map_cons, List.nodup_cons] at hn
    rcases List.mem_cons.1 hp with rfl | hp
    · rw [setAll_other u _ p.1 (fun r hr e => hn.1 (by rw [← e]; exact List.mem_map_of_mem hr))]
      exact Array.getElem?_setIfInBounds_self_of_lt (hb p (List.mem_cons_self ..))
    · exact setAll_at u _ hn.2 (fun r hr => by simpa using hb r (List.mem_cons_of_mem _ hr)) p hp
def runsAll (P : Program) (ops : Array Oper) (ρ : Operand → Value) (w : World) : Nat → List (Tmp × Value) → Prop
  | _, [] => True
  | i, p :: u => (∃ o, ops[i]? = some o ∧ (execOp ρ o).run P w = .ok (.value p.2) w) ∧ runsAll P ops ρ w (i + 1) u
theorem runsAll_at {ρ : Operand → Value} {w : World} : ∀ {u : List (Tmp × Value)} {i : Nat}, runsAll P ops ρ w i u → ∀ j (h : j < u.length), ∃ o, ops[i + j]? = some o ∧ (execOp ρ o).run P w = .ok (.value u[j].2) w
  | p :: u, i, h, 0, _ => h.1
  | p :: u, i, h, j + 1, hj => by
    have := runsAll_at h.2 j (by simpa using hj)
    rw [show i + 1 + j = i + (j + 1) by omega] at this
    exact this

theorem wpIn_reads {id : Nat} {a : Act} {w : World} (hm : P.follows .mixedOrders = true) (u : List (Tmp × Value))
    (hd : (List.range u.length).map (dstOf ops) = u.map (fun p => some p.1)) (hnd : (u.map (·.1)).Nodup) (hb : ∀ p ∈ u, p.1 < a.tmps.size)
    (hr : (List.range u.length).all (readOk ops u.length) = true) (hl : lastOk ops u.length = true)
    (hv : runsAll P ops (Act.eval { a with tmps := setAll a.tmps u }) w.drew 0 u)
    (hlast : ∀ o, ops[u.length]? = some o → o.wpIn F n P { a with tmps := setAll a.tmps u } w.drew (fun a w => Q .normal a w) Q) :
    (Code.region id ops true).wpIn F n P Q a w := by
  refine wpIn_region_any hm ?_
  show wpAnyIn F n P .any ops Q ops.size (Array.replicate ops.size false) a w.drew
  generalize w.drew = W at *
  obtain ⟨N, hN⟩ : ∃ N, N = u.length := ⟨_, rfl⟩
  rw [← hN] at hr hl hlast hd
  obtain ⟨aF, haF⟩ : ∃ aF : Act, aF = { a with tmps := setAll a.tmps u } := ⟨_, rfl⟩
  rw [← haF] at hv hlast
  have hdst : ∀ j, j < N → dstOf ops j = some (u[j]!).1 := by
    intro j hj
    have h1 := congrArg (fun l => l[j]?) hd
    simp only [List.getElem?_map, List.getElem?_range hj] at h1
    have hj' : j < u.length := by omega
    rw [List.getElem?_eq_getElem hj'] at h1
    simp at h1
    rw [h1]
    simp [getElem!_pos u j hj']
  unfold lastOk at hl
  rw [Bool.and_eq_true] at hl
  obtain ⟨hsz, hl⟩ := hl
  have hsz : ops.size = N + 1 := by simpa using hsz
  obtain ⟨oL, hoL⟩ : ∃ o, ops[N]? = some o := ⟨ops[N]'(by omega), Array.getElem?_eq_getElem _⟩
  rw [hoL] at hl
  simp only [Bool.and_eq_true] at hl
  obtain ⟨⟨hgL, hbL⟩, haL⟩ := hl
  have hgL : oL.guard = none := by simpa using hgL
  have hread : ∀ i, i < N → ∃ o, ops[i]? = some o ∧ o.guard = none ∧ (∀ e ∈ o.after, e.on < i) ∧ (∀ d, Operand.tmp d ∈ o.op.operands → ∀ j, j < N → dstOf ops j = some d → ∃ e ∈ o.after, e.on = j ∧ Region.binds .any e = true) ∧ (∀ w ρ, o.about P w ρ = none) ∧ (∀ cs b, o.op ≠ .select cs b) ∧ (∀ c, o.op ≠ .defer c) := by
    intro i hi
    have h1 := List.all_eq_true.1 hr i (List.mem_range.2 hi)
    unfold readOk at h1
    cases ho : ops[i]? with
    | none => rw [ho] at h1; cases h1
    | some o =>
      rw [ho] at h1
      simp only [Bool.and_eq_true] at h1
      obtain ⟨⟨⟨h2, h3⟩, h4⟩, h5⟩ := h1
      refine ⟨o, rfl, by simpa using h2, fun e he => ?_, fun d hd j hj hdj => ?_, fun w ρ => ?_, fun cs b e => ?_, fun c e => ?_⟩
      · have := Array.all_eq_true_iff_forall_mem.1 h3 e he
        simpa using this
      · have := Array.all_eq_true_iff_forall_mem.1 h4 _ hd
        have := List.all_eq_true.1 this j (List.mem_range.2 hj)
        rw [hdj] at this
        simp only [bne_self_eq_false, Bool.false_or] at this
        obtain ⟨e, he, h6⟩ := Array.any_eq_true'.1 this
        rw [Bool.and_eq_true] at h6
        exact ⟨e, he, by simpa using h6.1, h6.2⟩
      · unfold Oper.about
        cases hop : o.op with
        | call c => rw [hop] at h5; cases h5
        | _ => rfl
      · rw [e] at h5; cases h5
      · rw [e] at h5; cases h5
  -- an operation that is not listed yet is read, or one ahead of it
  have hmin : ∀ (listed : Array Bool), listed.size = N + 1 → ∀ i, i ≤ N → listed.getD i true = false → Region.ready .any ops listed ≠ [] := by
    intro listed hls i
    induction i using Nat.strongRecOn with
    | ind i ih =>
      intro hi hli
      obtain ⟨o, ho, haft⟩ : ∃ o, ops[i]? = some o ∧ ∀ e ∈ o.after, e.on < i := by
        by_cases hiN : i < N
        · obtain ⟨o, h1, _, h2, _⟩ := hread i hiN
          exact ⟨o, h1, h2⟩
        · obtain rfl : i = N := by omega
          exact ⟨oL, hoL, fun e he => by simpa using Array.all_eq_true_iff_forall_mem.1 hbL e he⟩
      by_cases hall : ∀ e ∈ o.after, Region.binds .any e = true → listed.getD e.on false = true
      · intro hnil
        have : i ∈ Region.ready .any ops listed := mem_ready.2 ⟨hli, o, ho, hall⟩
        rw [hnil] at this
        cases this
      · have : ∃ e ∈ o.after, Region.binds .any e = true ∧ listed.getD e.on false ≠ true := by
          by_cases h : ∃ e ∈ o.after, Region.binds .any e = true ∧ listed.getD e.on false ≠ true
          · exact h
          · exact absurd (fun e he hb => by
              by_cases h2 : listed.getD e.on false = true
              · exact h2
              · exact absurd ⟨e, he, hb, h2⟩ h) hall
        obtain ⟨e, he, _, hne⟩ := this
        have hlt := haft e he
        refine ih e.on hlt (by omega) ?_
        have hb : e.on < listed.size := by omega
        rw [Array.getD_eq_getD_getElem?, Array.getElem?_eq_getElem hb] at hne ⊢
        simpa using hne
  have hset : ∀ (listed : Array Bool) i j (d : Bool), i < listed.size → (listed.setIfInBounds i true).getD j d = if j = i then true else listed.getD j d := by
    intro listed i j d hi
    rw [Array.getD_eq_getD_getElem?, Array.getD_eq_getD_getElem?]
    by_cases hji : j = i
    · subst hji
      rw [if_pos rfl, Array.getElem?_setIfInBounds_self_of_lt hi]
      rfl
    · rw [if_neg hji, Array.getElem?_setIfInBounds_ne (fun e => hji e.symm)]
  have hmain : ∀ (fuel : Nat) (listed : Array Bool) (a' : Act), listed.size = N + 1 → listed.getD N true = false → ((List.range (N + 1)).filter (fun i => !listed.getD i true)).length ≤ fuel →
      (a'.defers = aF.defers ∧ a'.tmps.size = aF.tmps.size ∧ ∀ d, (∀ j, j < N → dstOf ops j = some d → listed.getD j false = true) → a'.tmps[d]? = aF.tmps[d]?) →
      wpAnyIn F n P .any ops Q fuel listed a' W := by
    intro fuel
    induction fuel with
    | zero =>
      intro listed a' hls hlN hc
      have : N ∈ (List.range (N + 1)).filter (fun i => !listed.getD i true) := List.mem_filter.2 ⟨List.mem_range.2 (by omega), by simp [hlN]⟩
      have h0 := List.length_eq_zero_iff.1 (Nat.le_zero.1 hc)
      rw [h0] at this
      cases this
    | succ fuel ih =>
      rintro listed a' hls hlN hc ⟨hdf, hts, hag⟩
      refine ⟨fun hnil => absurd hnil (hmin listed hls N (Nat.le_refl _) hlN), fun i hi => ?_⟩
      obtain ⟨hun, o, ho, hall⟩ := mem_ready.1 hi
      have hiN : i ≤ N := by
        have := (Array.getElem?_eq_some_iff.1 ho).1
        omega
      by_cases hlt : i < N
      · obtain ⟨o', ho', hg, haft, hops, habt, hsel, hdef⟩ := hread i hlt
        obtain rfl : o = o' := Option.some.inj (ho.symm.trans ho')
        have hiu : i < u.length := by omega
        obtain ⟨o2, ho2, hrun⟩ := runsAll_at hv i hiu
        rw [Nat.zero_add] at ho2
        obtain rfl : o = o2 := Option.some.inj (ho.symm.trans ho2)
        have hev : execOp a'.eval o = execOp aF.eval o := execOp_congr o hsel fun x hx => by
          cases x with
          | tmp d =>
            show a'.tmps.getD d undef = aF.tmps.getD d undef
            rw [Array.getD_eq_getD_getElem?, Array.getD_eq_getD_getElem?, hag d (fun j hj hdj => by
              obtain ⟨e, he, heo, heb⟩ := hops d hx j hj hdj
              have := hall e he heb
              rwa [heo] at this)]
          | _ => rfl
        have hdi := hdst i hlt
        rw [getElem!_pos u i hiu] at hdi
        have hod : o.dst = some u[i].1 := by
          have := hdi
          unfold dstOf at this
          rw [ho] at this
          exact this
        have hat := setAll_at u a.tmps hnd hb u[i] (List.getElem_mem hiu)
        have hat2 : aF.tmps[u[i].1]? = some u[i].2 := by rw [haF]; exact hat
        unfold wpOpIn
        rw [ho]
        simp only [Region.wanted, hg, if_true]
        unfold Oper.wpIn
        refine ⟨fun f hf => (by rw [habt] at hf; cases hf), ?_⟩
        rw [Oper.semAt_plain F a'.eval o hdef, hev, hrun, Oper.uponIn_value, hod]
        refine ih _ _ (by simpa using hls) ?_ ?_ ⟨hdf, ?_, fun d hd => ?_⟩
        · rw [hset listed i N true (by omega), if_neg (by omega)]; exact hlN
        · have hsub : (List.range (N + 1)).filter (fun j => !(listed.setIfInBounds i true).getD j true) = ((List.range (N + 1)).filter (fun j => !listed.getD j true)).filter (fun j => decide (j ≠ i)) := by
            rw [List.filter_filter]
            refine List.filter_congr fun j _ => ?_
            rw [hset listed i j true (by omega)]
            by_cases hji : j = i
            · simp [hji]
            · simp [hji]
          rw [hsub]
          have hlt2 : (((List.range (N + 1)).filter (fun j => !listed.getD j true)).filter (fun j => decide (j ≠ i))).length < ((List.range (N + 1)).filter (fun j => !listed.getD j true)).length := by
            refine List.length_filter_lt_length_iff_exists.2 ⟨i, List.mem_filter.2 ⟨List.mem_range.2 (by omega), by simp [hun]⟩, by simp⟩
          omega
        · show (a'.tmps.setIfInBounds u[i].1 u[i].2).size = _
          simpa using hts
        · show (a'.tmps.setIfInBounds u[i].1 u[i].2)[d]? = _
          by_cases hdd : u[i].1 = d
          · subst hdd
            have hbd : u[i].1 < a'.tmps.size := by
              rw [hts]
              exact (Array.getElem?_eq_some_iff.1 hat2).1
            rw [Array.getElem?_setIfInBounds_self_of_lt hbd, hat2]
          · rw [Array.getElem?_setIfInBounds_ne hdd]
            refine hag d fun j hj hdj => ?_
            have h1 := hd j hj hdj
            rw [hset listed i j false (by omega)] at h1
            by_cases hji : j = i
            · subst hji
              rw [hdi] at hdj
              exact absurd (Option.some.inj hdj) hdd
            · rwa [if_neg hji] at h1
      · obtain rfl : i = N := by omega
        obtain rfl : o = oL := Option.some.inj (ho.symm.trans hoL)
        have hlist : ∀ j, j < i → listed.getD j false = true := by
          intro j hj
          have := List.all_eq_true.1 haL j (List.mem_range.2 hj)
          obtain ⟨e, he, h6⟩ := Array.any_eq_true'.1 this
          rw [Bool.and_eq_true] at h6
          have h7 := hall e he h6.2
          rwa [show e.on = j by simpa using h6.1] at h7
        have haa : a' = aF := by
          have h1 : a'.tmps = aF.tmps := by
            apply Array.ext_getElem?
            intro d
            exact hag d fun j hj _ => hlist j hj
          cases a'
          cases aF
          simp only at h1 hdf
          rw [h1, hdf]
        rw [haa]
        have hL := hlast o ho
        unfold wpOpIn
        rw [ho]
        simp only [Region.wanted, hgL, if_true]
        refine Oper.wpIn_mono (fun a2 w2 hq => wpAnyIn_end ?_ hq) hL
        have : ∀ k, k ∉ Region.ready .any ops (listed.setIfInBounds i true) := by
          intro k hk
          obtain ⟨h1, o3, h2, _⟩ := mem_ready.1 hk
          have hks := (Array.getElem?_eq_some_iff.1 h2).1
          rw [hset listed i k true (by omega)] at h1
          by_cases hki : k = i
          · rw [if_pos hki] at h1; cases h1
          · rw [if_neg hki] at h1
            have h3 := hlist k (by omega)
            have hkb : k < listed.size := by omega
            rw [Array.getD_eq_getD_getElem?, Array.getElem?_eq_getElem hkb] at h1 h3
            simp at h1 h3
            rw [h1] at h3
            cases h3
        exact List.eq_nil_iff_forall_not_mem.2 this
  refine hmain ops.size _ a (by simp [hsz]) ?_ ?_ ⟨by rw [haF], by rw [haF]; exact (setAll_size u a.tmps).symm, fun d hd0 => ?_⟩
  · rw [Array.getD_eq_getD_getElem?]
    simp [hsz]
  · refine Nat.le_trans (List.length_filter_le _ _) ?_
    simp [hsz]
  · rw [haF]
    refine (setAll_other u a.tmps d fun p hp e => ?_).symm
    obtain ⟨j, hj, hjp⟩ := List.getElem_of_mem hp
    have hjN : j < N := by omega
    have h1 := hdst j hjN
    rw [getElem!_pos u j hj, hjp, e] at h1
    have h2 := hd0 j hjN h1
    rw [Array.getD_eq_getD_getElem?] at h2
    simp [hsz] at h2
    have : (Array.replicate (N + 1) false)[j]? = some false := by
      rw [Array.getElem?_replicate, if_pos (by omega)]
    rw [this] at h2
    cases h2
end
end Go.Proofs.YtcmekhpphgkglaaDoor
/-
  What impl.modelOf answers.
-/
namespace Go.Proofs.YtcmekhpphgkglaaDoor
open Go.RowKit Go.Shelf
attribute [local go_sem] Oper.semAt_some
set_option linter.unusedVariables false

/-- What is stored of an item. -/
def entI (x : ItmA) : ByteArray × Value := (x.b.p, .agg #[.bool x.b.d, .slice x.a x.b.l.length x.c])
def modelZ (b : Nat) : List Value := [.map (some b), .int .i64 0, .string ⟨#[]⟩, .string ⟨#[]⟩, .bool false, .int .i64 0, .slice none 0 0, .slice none 0 0, .slice none 0 0]
/-- The list of items with their paths' bound. -/
def biL (L : List ItmA) (hs : ∀ x ∈ L, x.b.p.size ≤ 1048576) : List BI := L.attach.map fun x => ⟨x.1, hs x.1 x.2⟩
theorem biL_val (L : List ItmA) (hs : ∀ x ∈ L, x.b.p.size ≤ 1048576) : (biL L hs).map (·.1) = L := by simp [biL, List.map_map, Function.comp_def]
theorem biL_len (L : List ItmA) (hs : ∀ x ∈ L, x.b.p.size ≤ 1048576) : (biL L hs).length = L.length := by simp [biL]
theorem biL_get (L : List ItmA) (hs : ∀ x ∈ L, x.b.p.size ≤ 1048576) (k : Nat) (h : k < (biL L hs).length) : (biL L hs)[k].1 = L[k]'(by rw [biL_len] at h; exact h) := by simp [biL]
set_option maxRecDepth 100000 in
set_option maxHeartbeats 4000000 in
theorem modelOf_any (a : Option Addr) (c : Nat) (L : List ItmA) (w : World) (h : ItmsAt w a L) (hn : L.length ≤ 1048576) (hs : ∀ x ∈ L, x.b.p.size ≤ 1048576) :
    Calls Tryd.prog 21 #[.slice a L.length c] w fun e w' => (e = .returned (.pointer (some ⟨w.heap.size + 1, 0, none⟩)) ∧ Box w' (w.heap.size + 1) (modelZ w.heap.size) 78 ∧ SMap w' w.heap.size (L.map entI)) ∧ Below w.heap.size w w' := by
  refine (callsIn_wide (n := 3)).1 ?_
  have hmm := @run_makeMap Tryd.prog
  refine callsIn_of_wp_marks Tryd.func21 rfl trivial ?_ rfl
  simp only [Tryd.ntmps21, List.size_toArray, List.length_cons, List.length_nil, Nat.reduceAdd, Nat.reduceSub, Array.replicate_succ, Array.replicate_zero, List.push_toArray, List.append_toArray, List.nil_append, List.cons_append]
  gi_wp2
  refine ⟨trivial, ?_⟩
  refine (back_in Fence.wide _ trivial rfl _ _ _ _).mono ?_
  rintro e w' ⟨rfl, rfl⟩
  have hsz : ((((w.alloc (.map #[] 0)).alloc (.cells (modelZ w.heap.size).toArray 78)).alloc (.cells #[.pointer (some ⟨w.heap.size + 1, 0, none⟩)] 47)).alloc (.cells #[.slice a L.length c] 25)).heap.size = w.heap.size + 4 := by simp
  have mS : SMap ((((w.alloc (.map #[] 0)).alloc (.cells (modelZ w.heap.size).toArray 78)).alloc (.cells #[.pointer (some ⟨w.heap.size + 1, 0, none⟩)] 47)).alloc (.cells #[.slice a L.length c] 25)) w.heap.size [] := (((World.ownsMap_made w _ _ _).alloc _).alloc _).alloc _
  have bM : Box ((((w.alloc (.map #[] 0)).alloc (.cells (modelZ w.heap.size).toArray 78)).alloc (.cells #[.pointer (some ⟨w.heap.size + 1, 0, none⟩)] 47)).alloc (.cells #[.slice a L.length c] 25)) (w.heap.size + 1) (modelZ w.heap.size) 78 := by
    have h1 : Box ((w.alloc (.map #[] 0)).alloc (.cells (modelZ w.heap.size).toArray 78)) (w.heap.size + 1) (modelZ w.heap.size) 78 := by
      have := World.alloc_heap_new (w.alloc (.map #[] 0)) (.cells (modelZ w.heap.size).toArray 78)
      rwa [World.size_alloc] at this
    exact (h1.alloc _).alloc _
  have bV : Box ((((w.alloc (.map #[] 0)).alloc (.cells (modelZ w.heap.size).toArray 78)).alloc (.cells #[.pointer (some ⟨w.heap.size + 1, 0, none⟩)] 47)).alloc (.cells #[.slice a L.length c] 25)) (w.heap.size + 1 + 1) [.pointer (some ⟨w.heap.size + 1, 0, none⟩)] 47 := by
    have h1 : Box (((w.alloc (.map #[] 0)).alloc (.cells (modelZ w.heap.size).toArray 78)).alloc (.cells #[.pointer (some ⟨w.heap.size + 1, 0, none⟩)] 47)) (w.heap.size + 1 + 1) [.pointer (some ⟨w.heap.size + 1, 0, none⟩)] 47 := by
      have := World.alloc_heap_new ((w.alloc (.map #[] 0)).alloc (.cells (modelZ w.heap.size).toArray 78)) (.cells #[.pointer (some ⟨w.heap.size + 1, 0, none⟩)] 47)
      rwa [World.size_alloc, World.size_alloc] at this
    exact h1.alloc _
  have bS : Box ((((w.alloc (.map #[] 0)).alloc (.cells (modelZ w.heap.size).toArray 78)).alloc (.cells #[.pointer (some ⟨w.heap.size + 1, 0, none⟩)] 47)).alloc (.cells #[.slice a L.length c] 25)) (w.heap.size + 1 + 1 + 1) [.slice a L.length c] 25 := by
    have := World.alloc_heap_new (((w.alloc (.map #[] 0)).alloc (.cells (modelZ w.heap.size).toArray 78)).alloc (.cells #[.pointer (some ⟨w.heap.size + 1, 0, none⟩)] 47)) (.cells #[.slice a L.length c] 25)
    rwa [World.size_alloc, World.size_alloc, World.size_alloc] at this
  have hB0 : Below w.heap.size w ((((w.alloc (.map #[] 0)).alloc (.cells (modelZ w.heap.size).toArray 78)).alloc (.cells #[.pointer (some ⟨w.heap.size + 1, 0, none⟩)] 47)).alloc (.cells #[.slice a L.length c] 25)) := ((((Below.refl _ w).alloc (Nat.le_refl _) _).alloc (by simp) _).alloc (by simp; omega) _).alloc (by simp; omega) _
  have hA := h.below hB0
  obtain ⟨W0, hW0⟩ : ∃ W0, (((w.alloc (.map #[] 0)).alloc (.cells (modelZ w.heap.size).toArray 78)).alloc (.cells #[.pointer (some ⟨w.heap.size + 1, 0, none⟩)] 47)).alloc (.cells #[.slice a L.length c] 25) = W0 := ⟨_, rfl⟩
  simp only [modelZ] at hW0
  simp only [World.size_alloc]
  rw [hW0]
  simp only [modelZ] at hsz mS bM bV bS hB0 hA
  rw [hW0] at hsz mS bM bV bS hB0 hA
  clear hW0
  have hLB := biL_len L hs
  have hcS : W0.cell? ⟨w.heap.size + 1 + 1 + 1, 0, none⟩ = some (.slice a (biL L hs).length c) := by rw [bS.cell, hLB]; rfl
  have hI : ItmsIn w.heap.size (w.heap.size + 4) W0 a (biL L hs) := by
    intro k hk
    obtain ⟨b, o, e, hb, hc⟩ := h.at (k := k) (by omega)
    have hk' : k < L.length := by omega
    have hcc := hc k hk'
    rw [biL_get L hs k hk]
    exact ⟨b, o, e, by omega, by omega, (hB0.cell (p := ⟨b, o + k * 3, none⟩) hb).trans (hcc.1 0 _ rfl), (hB0.cell (p := ⟨b, o + k * 3 + 1, none⟩) hb).trans (hcc.1 1 _ rfl), (hB0.cell (p := ⟨b, o + k * 3 + 2, none⟩) hb).trans (hcc.1 2 _ rfl)⟩
  have HA := hide hA
  clear hA h
  gi_wp2
  refine wpIn_rangeFunc_ownH rfl (by decide) (gf := 60) (lb := #[.pointer (some ⟨w.heap.size + 1 + 1 + 1, 0, none⟩)]) rfl trivial (enters_of Tryd.func60 (by kernel_rfl) rfl)
    (back_stops Fence.wide _ trivial rfl (by decide) (w.heap.size + 1 + 1 + 1) (w.heap.size + 4) w.heap.size a c (biL L hs) (by omega) (by omega) (by omega) W0 (by omega) hcS hI)
    KpM.trans
    (fun W l o o' hl ho _ _ q hq hqn => (grownBy_putObj' W l o').block q (by have := (Array.getElem?_eq_some_iff.1 ho).1; omega) (fun e => by injection e; omega))
    (Below.refl _ _) (fun _ => rfl)
    (fun (pre : List (Int × BI)) W => (Box W (w.heap.size + 1) [.map (some w.heap.size), .int .i64 0, .string ⟨#[]⟩, .string ⟨#[]⟩, .bool false, .int .i64 0, .slice none 0 0, .slice none 0 0, .slice none 0 0] 78 ∧ Box W (w.heap.size + 1 + 1) [.pointer (some ⟨w.heap.size + 1, 0, none⟩)] 47 ∧ Box W (w.heap.size + 1 + 1 + 1) [.slice a L.length c] 25 ∧ SMap W w.heap.size (pre.map (fun x => entI x.2.1)).reverse) ∧ Below w.heap.size w W)
    (fun _ _ _ => False)
    (by
      refine OwnFrom.and (fun s A B row hs hg hr => ?_) (ownFrom_below (Nat.le_refl _) (by omega))
      exact ⟨hs.1.grown hg (fun e => by have := (hr _ e).1; omega), hs.2.1.grown hg (fun e => by have := (hr _ e).1; omega), hs.2.2.1.grown hg (fun e => by have := (hr _ e).1; omega), hs.2.2.2.stay (hg.block _ hs.2.2.2.lt (fun e => by have := (hr _ e.symm).1; omega))⟩)
    (fun _ _ _ _ _ hs _ _ => hs)
    ⟨⟨bM, bV, bS, mS⟩, hB0⟩
    (fun x a' W => ∃ Bx, W0.heap.size ≤ Bx ∧ Box W Bx [.string x.2.1.b.p, .bool x.2.1.b.d, .slice x.2.1.a x.2.1.b.l.length x.2.1.c] 42 ∧ a' = { tmps := #[Value.slice a L.length c, undef, Value.pointer none, Value.pointer (some ⟨w.heap.size + 1 + 1, 0, none⟩), undef, .pointer (some ⟨Bx, 0, none⟩), Value.map (some w.heap.size), .agg #[.map (some w.heap.size), .int .i64 0, .string ⟨#[]⟩, .string ⟨#[]⟩, .bool false, .int .i64 0, .slice none 0 0, .slice none 0 0, .slice none 0 0], Value.pointer (some ⟨w.heap.size + 1, 0, none⟩), Value.slice a L.length c, Value.func (Fn.func 60) #[] #[Value.pointer (some ⟨w.heap.size + 1 + 1 + 1, 0, none⟩)], .int .i64 x.1, .agg #[.string x.2.1.b.p, .bool x.2.1.b.d, .slice x.2.1.a x.2.1.b.l.length x.2.1.c], undef, undef, undef, undef, undef, undef, undef, undef, undef, undef, undef, undef], defers := [] })
    (fun x a' _ X Y row hs hg hr => by
      obtain ⟨Bx, h1, h2, h3⟩ := hs
      exact ⟨Bx, h1, h2.grown hg (fun e => by obtain ⟨_, o, ho, hc⟩ := hr _ e; rw [show X.heap[Bx]? = _ from h2] at ho; cases ho; cases hc), h3⟩)
    ?assign ?body ?done ?stop
  case assign =>
    rintro l pre x W K ⟨⟨i1, i2, i3, i4⟩, hB⟩ hK
    have hz3 := i3.lt
    have hzB := hB.size
    gi_wp2
    exact hK _ _ ((KeepsOthers.alloc _ _).from _) (fun q hq _ => Below.heap_alloc W _ q (by omega)) ⟨⟨i1.alloc _, i2.alloc _, i3.alloc _, i4.alloc _⟩, hB.alloc hzB _⟩ ⟨W.heap.size, by omega, World.alloc_heap_new W _, rfl⟩
  case body =>
    rintro l pre x a' W hl - ⟨⟨i1, i2, i3, i4⟩, hB⟩ ⟨Bx, hBx, bX, rfl⟩ hlt
    have hmx : Tryd.prog.follows .mixedOrders = true := by kernel_rfl
    have k2 : W.drew.cell? ⟨w.heap.size + 1 + 1, 0, none⟩ = some (.pointer (some ⟨w.heap.size + 1, 0, none⟩)) := i2.drew.cell 0
    have k1 : W.drew.cell? ⟨w.heap.size + 1, 0, none⟩ = some (.map (some w.heap.size)) := i1.drew.cell 0
    have x0 : W.drew.cell? ⟨Bx, 0, none⟩ = some (.string x.2.1.b.p) := bX.drew.cell 0
    have x1 : W.drew.cell? ⟨Bx, 1, none⟩ = some (.bool x.2.1.b.d) := bX.drew.cell 1
    have x2 : W.drew.cell? ⟨Bx, 2, none⟩ = some (.slice x.2.1.a x.2.1.b.l.length x.2.1.c) := bX.drew.cell 2
    have hzB := hB.size
    have hz3 := i3.lt
    gi_wp2
    refine wpIn_reads hmx [(13, .pointer (some ⟨w.heap.size + 1, 0, none⟩)), (14, .pointer (some ⟨w.heap.size + 1, 0, none⟩)), (15, .pointer (some ⟨w.heap.size + 1, 0, none⟩)), (16, .map (some w.heap.size)), (17, .pointer (some ⟨Bx, 0, none⟩)), (18, .string x.2.1.b.p), (19, .pointer (some ⟨Bx, 1, none⟩)), (20, .bool x.2.1.b.d), (21, .pointer (some ⟨Bx, 2, none⟩)), (22, .slice x.2.1.a x.2.1.b.l.length x.2.1.c), (23, .agg #[.bool x.2.1.b.d, .slice x.2.1.a x.2.1.b.l.length x.2.1.c])] rfl (show [13, 14, 15, 16, 17, 18, 19, 20, 21, 22, 23].Nodup by decide) (by simp) (by kernel_rfl) (by kernel_rfl) ?runs ?last
    case runs =>
      simp only [setAll, List.foldl, List.setIfInBounds_toArray, List.set_cons_zero, List.set_cons_succ]
      refine ⟨⟨_, rfl, ?_⟩, ⟨_, rfl, ?_⟩, ⟨_, rfl, ?_⟩, ⟨_, rfl, ?_⟩, ⟨_, rfl, ?_⟩, ⟨_, rfl, ?_⟩, ⟨_, rfl, ?_⟩, ⟨_, rfl, ?_⟩, ⟨_, rfl, ?_⟩, ⟨_, rfl, ?_⟩, ⟨_, rfl, ?_⟩, trivial⟩
      all_goals go_simp
    case last =>
      simp only [setAll, List.foldl, List.setIfInBounds_toArray, List.set_cons_zero, List.set_cons_succ]
      intro o ho
      simp only [List.length_cons, List.length_nil, Nat.reduceAdd, List.getElem?_toArray, List.getElem?_cons_succ, List.getElem?_cons_zero, Option.some.injEq] at ho
      subst ho
      obtain ⟨w1, hrun, hS1, hg1⟩ := SMap.put (w := W.drew) (show SMap W.drew w.heap.size _ from i4) Tryd.underlying76 (q := x.2.1.b.p) (by have := x.2.2; unfold maxLen; omega) (.agg #[.bool x.2.1.b.d, .slice x.2.1.a x.2.1.b.l.length x.2.1.c]) (by have := hlt; rw [biL_len] at this; simp only [List.length_reverse, List.length_map]; unfold maxLen; omega)
      unfold Oper.wpIn
      refine ⟨by simp [Oper.about], ?_⟩
      rw [Oper.semAt_plain _ _ _ (fun c => by simp)]
      have hex : ∀ {o : Oper} {ρ : Operand → Value} {m k v : Operand}, o.op = Op.mapUpdate 76 m k v → ρ m = .map (some w.heap.size) → ρ k = .string x.2.1.b.p → ρ v = .agg #[.bool x.2.1.b.d, .slice x.2.1.a x.2.1.b.l.length x.2.1.c] → (execOp ρ o).run Tryd.prog W.drew = .ok .skip w1 := by
        intro o ρ m k v h1 h2 h3 h4
        simp [execOp, h1, h2, h3, h4, hrun, Result.andThen]
      rw [hex rfl rfl rfl rfl, Oper.uponIn_skip]
      have hne : ∀ q, w.heap.size ≠ q → some w.heap.size ≠ some q := fun q h1 e => h1 (by injection e)
      have hlist : (((pre ++ [x]).map (fun x => entI x.2.1)).reverse) = (x.2.1.b.p, Value.agg #[.bool x.2.1.b.d, .slice x.2.1.a x.2.1.b.l.length x.2.1.c]) :: (pre.map (fun x => entI x.2.1)).reverse := by simp [entI]
      refine ⟨((KeepsOthers.drew _).from _).trans (KeepsFrom.of_grownBy hg1 (fun j e => by injection e; omega)), fun q hq hqn => hg1.block q (by show q < W.heap.size; omega) (fun e => hqn (by injection e)), ⟨i1.drew.grown hg1 (hne _ (by omega)), i2.drew.grown hg1 (hne _ (by omega)), i3.drew.grown hg1 (hne _ (by omega)), by rw [hlist]; exact hS1⟩, hB.drew.grown hg1 hzB (fun k e => by injection e; omega)⟩
  case done =>
    rintro D ys W hD hys ⟨⟨i1, i2, i3, i4⟩, hB⟩ hK
    have k2 := i2.cell 0
    simp only [List.getElem?_cons_zero] at k2
    have hxs : (ys.map (fun x => entI x.2.1)).reverse = L.map entI := by
      rw [← List.map_reverse]
      have h1 : ys.map (fun x => entI x.2.1) = (ys.map (·.2)).map (fun x => entI x.1) := by rw [List.map_map]; rfl
      rw [List.map_reverse, h1, hys, List.map_reverse, List.reverse_reverse]
      have h2 : (biL L hs).map (fun x => entI x.1) = ((biL L hs).map (·.1)).map entI := by rw [List.map_map]; rfl
      rw [h2, biL_val]
    rw [hxs] at i4
    have bK := belowK_b (w := w) (Nat.le_refl _) W D _ (.deferred none) (by omega) hK rfl rfl
    gi_wp2
    refine ⟨by simp, .inl ⟨_, _, rfl, run_takeDeferred hK, ?_⟩⟩
    exact ⟨_, results_tmp rfl _ _ _, ⟨rfl, i1.grown (grownBy_putObj' W D _) (fun e => by injection e; omega), i4.stay ((grownBy_putObj' W D _).block _ i4.lt (fun e => by injection e; omega))⟩, hB.trans bK⟩
  case stop =>
    rintro D c pre W _ _ h _
    exact h.elim
end Go.Proofs.YtcmekhpphgkglaaDoor
/-
  What impl.parentFault and impl.ItemsFault answer.
-/
namespace Go.Proofs.YtcmekhpphgkglaaDoor
open Go.RowKit
set_option linter.unusedVariables false

theorem look_ent (q : ByteArray) : ∀ (L : List ItmA), (lookF (L.map entI) q = none ∧ findI L q = none) ∨ ∃ x : ItmA, lookF (L.map entI) q = some (.agg #[.bool x.b.d, .slice x.a x.b.l.length x.c]) ∧ findI L q = some x.b.d
  | [] => .inl ⟨rfl, rfl⟩
  | x :: L => by
    rw [List.map_cons, lookF, findI]
    by_cases h : x.b.p = q
    · refine .inr ⟨x, ?_, ?_⟩
      · rw [if_pos (by rw [← h]; rfl)]; rfl
      · rw [if_pos (by rw [h]; simp)]
    · rw [if_neg (fun e => h (by
        have e2 : x.b.p.data.toList = q.data.toList := e
        have e3 : x.b.p.data = q.data := Array.ext' e2
        cases hx : x.b.p; cases q; rw [hx] at e3; simp only at e3; rw [e3])), if_neg (fun e => h (bytes_toList_inj (by simpa using e)))]
      exact look_ent q L
theorem zeroBody (w : World) : (zeroValue 83).run Tryd.prog w = .ok (.agg #[.bool false, .slice none 0 0]) w := by kernel_rfl
set_option maxRecDepth 20000 in
set_option maxHeartbeats 1000000 in
theorem hasP_any (L : List ItmA) (q : ByteArray) (bm : Nat) (w : World) (h : SMap w bm (L.map entI)) (hq : q.size ≤ 1048576) :
    Calls Tryd.prog 38 #[.map (some bm), .string q] w fun e w' => e = .returned (.bool (findI L q).isSome) ∧ Below w.heap.size w w' := by
  have hl := h.look_ok Tryd.underlying76 (zeroBody w) (q := q) (by unfold maxLen; omega)
  rcases look_ent q L with ⟨h1, h2⟩ | ⟨x, h1, h2⟩
  · rw [h1] at hl
    simp only [Option.getD_none, Option.isSome_none] at hl
    rw [h2]
    clear h1 h2 h
    go_enter Tryd.func38, Tryd.ntmps38
    go_wp2_with fail
    go_ret
    exact ⟨rfl, (Below.refl _ _).alloc (Nat.le_refl _) _⟩
  · rw [h1] at hl
    simp only [Option.getD_some, Option.isSome_some] at hl
    rw [h2]
    clear h1 h2 h
    go_enter Tryd.func38, Tryd.ntmps38
    go_wp2_with fail
    go_ret
    exact ⟨rfl, (Below.refl _ _).alloc (Nat.le_refl _) _⟩
set_option maxRecDepth 20000 in
set_option maxHeartbeats 1000000 in
theorem parentFault_any (L : List ItmA) (p : ByteArray) (bm bx : Nat) (w : World) (hb : Box w bx (modelZ bm) 78) (h : SMap w bm (L.map entI)) (hp : p.size ≤ 1048576) (r : List UInt8) (hr : p.data.toList = 47 :: r) (hps : (parB p).size ≤ 1048576) :
    Calls Tryd.prog 22 #[.pointer (some ⟨bx, 0, none⟩), .string p, .int .i64 8] w fun e w' => e = .returned (.int .i64 (parC L p)) ∧ Below w.heap.size w w' := by
  have c0 : w.cell? ⟨bx, 0, none⟩ = some (.map (some bm)) := hb.cell 0
  have HPC : Hid (parC L p = if isRoot (parB p) = true then 0 else match findI L (parB p) with
    | none => 4
    | some true => 0
    | some false => 8) := rfl
  go_enter Tryd.func22, Tryd.ntmps22
  go_wp2_with fail
  refine (parentOf_any p _ hp r hr).mono ?_
  rintro e w1 ⟨rfl, rfl⟩
  generalize parB p = q at *
  cases hrt : isRoot q
  case true =>
    have HV : Hid (parC L p = 0) := by rw [Hid, unhide HPC, hrt, if_pos rfl]
    clear HPC
    rw [isRoot] at hrt
    go_wp2_with fail
    go_ret
    exact ⟨ret_int (unhide HV).symm, Below.refl _ _⟩
  have HQC : Hid (parC L p = match findI L q with
    | none => 4
    | some true => 0
    | some false => 8) := by rw [Hid, unhide HPC, hrt, if_neg (by decide)]
  clear HPC
  rw [isRoot] at hrt
  have HS := hide h
  have HB := hide hb
  clear h hb
  go_wp2_with fail
  refine (hasP_any L q bm _ (unhide HS) hps).mono ?_
  rintro e w2 ⟨rfl, hb2⟩
  have B2 := hide hb2
  have HS2 := (unhide HS).below hb2
  have c0 : w2.cell? ⟨bx, 0, none⟩ = some (.map (some bm)) := ((unhide HB).below hb2).cell 0
  have hl := HS2.look_in Tryd.underlying76 (zeroBody w2) (q := q) (by unfold maxLen; omega)
  have hfd : ∀ (x : Bool) (v : Value) (w : World), (Instr.field 83 (.agg #[.bool x, v]) 0).run Tryd.prog w = .ok (.bool x) w := fun x v w => by kernel_rfl
  clear hb2 HS2
  rcases look_ent q L with ⟨h1, h2⟩ | ⟨x, h1, h2⟩
  · have HV : Hid (parC L p = 4) := by rw [Hid, unhide HQC, h2]
    rw [h2]
    clear hl h1 h2 HQC
    go_wp2_with fail
    go_ret
    exact ⟨ret_int (unhide HV).symm, unhide B2⟩
  · rw [h1] at hl
    simp only [Option.getD_some] at hl
    cases hd : x.b.d
    · have HV : Hid (parC L p = 8) := by rw [Hid, unhide HQC, h2, hd]
      rw [h2]
      rw [hd] at hl
      clear h1 h2 HQC
      go_wp2_with fail
      go_ret
      exact ⟨ret_int (unhide HV).symm, unhide B2⟩
    · have HV : Hid (parC L p = 0) := by rw [Hid, unhide HQC, h2, hd]
      rw [h2]
      rw [hd] at hl
      clear h1 h2 HQC
      go_wp2_with fail
      go_ret
      exact ⟨ret_int (unhide HV).symm, unhide B2⟩
end Go.Proofs.YtcmekhpphgkglaaDoor
/-
  What impl.ItemsFault answers.
-/
namespace Go.Proofs.YtcmekhpphgkglaaDoor
open Go.RowKit
set_option linter.unusedVariables false

theorem par_size {p : ByteArray} {r : List UInt8} (h : p.data.toList = 47 :: r) : (parB p).size ≤ p.size := by
  have hl : p.data.toList.length = p.size := len_data p
  have hpos : 1 ≤ p.size := by rw [← hl, h]; simp
  rw [parB]
  split
  · exact hpos
  · rw [← len_data, extract_data, List.drop_zero, List.length_take]
    omega
/-- The path ahead, or none. -/
def lastB (L : List ItmA) (k : Nat) : ByteArray := (prevO L k).getD ⟨#[]⟩
theorem leq_last {L : List ItmA} {k : Nat} {p : ByteArray} {r : List UInt8} (h : p.data.toList = 47 :: r) : leqB p (lastB L k) = leqO p (prevO L k) := by
  rw [lastB]
  cases prevO L k with
  | some q => rfl
  | none =>
    have hne : (p.toList == (⟨#[]⟩ : ByteArray).toList) = false := by
      cases hb : (p.toList == (⟨#[]⟩ : ByteArray).toList)
      · rfl
      · have := bytes_toList_inj (a := p) (b := ⟨#[]⟩) (by simpa using hb)
        rw [this] at h
        cases h
    have h0 : Go.Op.bytesLess p.toList (⟨#[]⟩ : ByteArray).toList = false := by
      have : (⟨#[]⟩ : ByteArray).toList = [] := by first | simp | (rw [ByteArray.toList]; unfold ByteArray.toList.loop; simp)
      rw [this]
      cases p.toList <;> rfl
    rw [leqO, Option.getD_none, leqB, hne, h0]
    rfl
theorem lastB_succ {L : List ItmA} {k : Nat} (h : k < L.length) : lastB L (k + 1) = L[k].b.p := by rw [lastB, prevO_succ h]; rfl
set_option maxRecDepth 20000 in
set_option maxHeartbeats 4000000 in
theorem implItemsFault_any (a : Option Addr) (c : Nat) (L : List ItmA) (m : Int) (w : World) (h : ItmsAt w a L) (hn : L.length ≤ 1048576) (hs : ∀ x ∈ L, x.b.p.size ≤ 1048576) (hmx : MaxAt w m) :
    Calls Tryd.prog 8 #[.slice a L.length c] w fun r w' => r = .returned (.int .i64 (itemsCode L)) ∧ Below w.heap.size w w' := by
  have HF := hide h
  have HS := hide hs
  have HMX := hide hmx
  clear h hs hmx
  by_cases hl : (60 : Int) < L.length
  · have HV : Hid (itemsCode L = 2) := by rw [Hid, itemsCode, if_pos hl]
    go_enter Tryd.func8, Tryd.ntmps8
    go_wp2_with fail
    go_ret
    exact ⟨ret_int (unhide HV).symm, Below.refl _ _⟩
  have HQ : Hid (itemsCode L = or0 (itemsC L) (treeI L none L)) := by rw [Hid, itemsCode, if_neg hl]
  go_enter Tryd.func8, Tryd.ntmps8
  go_wp2_with fail
  go_loopw [16] (fun i wr => ∃ k : Nat, k ≤ L.length ∧ i = .int .i64 k ∧ Hid (Below w.heap.size w wr) ∧ Hid (itemsC L = itemsC (L.drop k))) (fun i _ => L.length - (intOf i).toNat)
  case atStart => exact ⟨0, Nat.zero_le _, rfl, Below.refl _ _, rfl⟩
  case round =>
    obtain ⟨k, hk, rfl, HB, HX⟩ := hrel
    by_cases hlt : k < L.length
    · obtain ⟨b1, o1, rfl, hb1, hc1⟩ := (unhide HF).at hlt
      have hbw := unhide HB
      have hx := hc1 k hlt
      have hsz : L[k].b.p.size ≤ 1048576 := unhide HS _ (List.getElem_mem hlt)
      have hst := itemsC_drop hlt
      generalize L[k] = y at *
      obtain ⟨⟨p, d, l⟩, a1, c1⟩ := y
      have hlt' : (k : Int) < L.length := by omega
      have x0 : wr.cell? ⟨b1, o1 + k * 3, none⟩ = some (.string p) := (hbw.cell (p := ⟨b1, o1 + k * 3, none⟩) hb1).trans (hx.1 0 _ rfl)
      have x1 : wr.cell? ⟨b1, o1 + k * 3 + 1, none⟩ = some (.bool d) := (hbw.cell (p := ⟨b1, o1 + k * 3 + 1, none⟩) hb1).trans (hx.1 1 _ rfl)
      have x2 : wr.cell? ⟨b1, o1 + k * 3 + 2, none⟩ = some (.slice a1 l.length c1) := (hbw.cell (p := ⟨b1, o1 + k * 3 + 2, none⟩) hb1).trans (hx.1 2 _ rfl)
      obtain ⟨W, hW, hWz, HB0, HX0⟩ := boxes1 wr [.string p, .bool d, .slice a1 l.length c1] 42
      have HN := hide (itemFault_any p d l a1 c1 m W ((hx.2.1.below hbw).below (unhide HB0)) (((unhide HMX).below hbw).below (unhide HB0)) hx.2.2 hsz)
      have HY : Hid (itemsC L = or0 (itemC ⟨p, d, l⟩) (itemsC (L.drop (k + 1)))) := (unhide HX).trans hst
      have BW := hide (below_step (unhide HB) (unhide HB0) (unhide HB).size)
      have zw := (unhide HB).size
      have q0 := (unhide HX0).cell 0
      have q1 := (unhide HX0).cell 1
      have q2 := (unhide HX0).cell 2
      simp only [List.getElem?_cons_zero, List.getElem?_cons_succ] at q0 q1 q2
      clear hc1 hx hst hbw HX HX0 HB0
      generalize itemC ⟨p, d, l⟩ = cd at *
      go_upto_region 6 with fail
      rw [← hW]
      clear hW HB
      go_wp2_with fail
      refine (unhide HN).mono ?_
      rintro r w2 ⟨rfl, hb2⟩
      have B2 := hide (below_step (unhide BW) hb2 (by omega))
      clear hb2 BW HN x0 x1 x2 q0 q1 q2
      by_cases hc0 : cd = 0
      · have HZ : Hid (itemsC L = itemsC (L.drop (k + 1))) := by rw [Hid, unhide HY, or0_right hc0]
        subst hc0
        clear HY
        go_wp2_with fail
        go_roundw
        case rel => exact ⟨k + 1, by omega, by go_num, B2, HZ⟩
        case measure => simp [intOf]; omega
      · have HV : Hid (itemsCode L = cd) := by rw [Hid, unhide HQ, unhide HY, or0_left hc0, or0_left hc0]
        have hcb := neq_true hc0
        clear HY hc0 HQ
        go_wp2_with fail
        go_ret
        exact ⟨ret_int (unhide HV).symm, unhide B2⟩
    · have hz : itemsC L = 0 := by rw [unhide HX, itemsC_end (by omega)]
      have HZ := hide (itemsC_zero hz)
      have HC : Hid (itemsCode L = treeI L none L) := by rw [Hid, unhide HQ, or0_right hz]
      have zw := (unhide HB).size
      clear HX hz HQ
      go_wp2_with fail
      refine (modelOf_any a c L _ ((unhide HF).below (unhide HB)) hn (unhide HS)).mono ?_
      rintro e w2 ⟨⟨rfl, hbx, hsm⟩, hb2⟩
      have B2 := hide (below_step (unhide HB) hb2 (by omega))
      obtain ⟨bx, hbxe⟩ : ∃ bx, bx = wr.heap.size + 1 := ⟨_, rfl⟩
      rw [← hbxe] at hbx ⊢
      have MB := hide hbx
      have MS := hide hsm
      clear hbxe hbx hsm hb2 HB
      generalize wr.heap.size = bm at *
      have z2 := (unhide B2).size
      go_wp2_with fail
      go_loopw [7, 30] (fun t i wr => ∃ k : Nat, k ≤ L.length ∧ i = .int .i64 k ∧ t = .string (lastB L k) ∧ Hid (Below w.heap.size w wr) ∧ Hid (Below w2.heap.size w2 wr) ∧ Hid (treeI L none L = treeI L (prevO L k) (L.drop k))) (fun _ i _ => L.length - (intOf i).toNat)
      case atStart => exact ⟨0, Nat.zero_le _, rfl, rfl, B2, Below.refl _ _, rfl⟩
      case round =>
        obtain ⟨k, hk, rfl, rfl, HB, HBM, HX⟩ := hrel
        by_cases hlt2 : k < L.length
        · obtain ⟨b1, o1, rfl, hb1, hc1⟩ := (unhide HF).at hlt2
          have hbw := unhide HB
          have hx := hc1 k hlt2
          have hsz : L[k].b.p.size ≤ 1048576 := unhide HS _ (List.getElem_mem hlt2)
          have hst := treeI_drop (M := L) hlt2
          obtain ⟨rr, hrr⟩ := pn_head (itemC_path (unhide HZ _ (List.getElem_mem hlt2))).1
          have hlast := leq_last (L := L) (k := k) hrr
          have HLS := hide (lastB_succ hlt2)
          generalize L[k] = y at *
          obtain ⟨⟨p, d, l⟩, a1, c1⟩ := y
          simp only at hsz hst hrr hlast
          have hlt' : (k : Int) < L.length := by omega
          have x0 : wr.cell? ⟨b1, o1 + k * 3, none⟩ = some (.string p) := (hbw.cell (p := ⟨b1, o1 + k * 3, none⟩) hb1).trans (hx.1 0 _ rfl)
          have x1 : wr.cell? ⟨b1, o1 + k * 3 + 1, none⟩ = some (.bool d) := (hbw.cell (p := ⟨b1, o1 + k * 3 + 1, none⟩) hb1).trans (hx.1 1 _ rfl)
          have x2 : wr.cell? ⟨b1, o1 + k * 3 + 2, none⟩ = some (.slice a1 l.length c1) := (hbw.cell (p := ⟨b1, o1 + k * 3 + 2, none⟩) hb1).trans (hx.1 2 _ rfl)
          obtain ⟨W, hW, hWz, HB0, HX0⟩ := boxes1 wr [.string p, .bool d, .slice a1 l.length c1] 42
          have BW := hide (below_step (unhide HB) (unhide HB0) (unhide HB).size)
          have BM := hide (below_step (unhide HBM) (unhide HB0) (unhide HBM).size)
          have zw := (unhide HB).size
          have zm := (unhide HBM).size
          have q0 := (unhide HX0).cell 0
          have q1 := (unhide HX0).cell 1
          have q2 := (unhide HX0).cell 2
          simp only [List.getElem?_cons_zero, List.getElem?_cons_succ] at q0 q1 q2
          rw [← hlast] at hst
          have HRR := hide hrr
          clear hc1 hx hbw HB0 hlast hrr
          generalize lastB L k = q at *
          cases hle : leqB p q
          case true =>
            have HV : Hid (itemsCode L = 1) := by rw [Hid, unhide HC, unhide HX, hst, hle, if_pos rfl, or0_left (by decide)]
            clear hst HX HC
            rw [leqB] at hle
            go_upto_region 15 with fail
            rw [← hW]
            clear hW HB
            go_wp2_with fail
            go_ret
            exact ⟨ret_int (unhide HV).symm, unhide BW⟩
          have HY : Hid (treeI L none L = or0 (parC L p) (treeI L (prevO L (k + 1)) (L.drop (k + 1)))) := by rw [Hid, unhide HX, hst, hle, if_neg (by decide)]
          clear hst HX
          rw [leqB] at hle
          go_upto_region 15 with fail
          rw [← hW]
          clear hW HB
          go_wp2_with fail
          refine (parentFault_any L p bm bx _ ((unhide MB).below (unhide BM)) ((unhide MS).below (unhide BM)) hsz rr (unhide HRR) (by have := par_size (unhide HRR); omega)).mono ?_
          rintro e w5 ⟨rfl, hb5⟩
          have B5 := hide (below_step (unhide BW) hb5 (by omega))
          have M5 := hide (below_step (unhide BM) hb5 (by omega))
          have q0 := ((unhide HX0).below hb5).cell 0
          simp only [List.getElem?_cons_zero] at q0
          clear hb5 BW BM HX0 x0 x1 x2 q1 q2
          generalize parC L p = cd at *
          by_cases hc0 : cd = 0
          · have HN : Hid (treeI L none L = treeI L (prevO L (k + 1)) (L.drop (k + 1))) := by rw [Hid, unhide HY, or0_right hc0]
            subst hc0
            clear HY
            go_wp2_with fail
            go_roundw
            case rel => exact ⟨k + 1, by omega, by go_num, by rw [unhide HLS], B5, M5, HN⟩
            case measure => simp [intOf]; omega
          · have HV : Hid (itemsCode L = cd) := by rw [Hid, unhide HC, unhide HY, or0_left hc0]
            have hcb := neq_true hc0
            clear HY hc0 HC
            go_wp2_with fail
            go_ret
            exact ⟨ret_int (unhide HV).symm, unhide B5⟩
        · have HV : Hid (itemsCode L = 0) := by rw [Hid, unhide HC, unhide HX, treeI_end (by omega)]
          clear HX HC
          go_wp2_with fail
          go_ret
          exact ⟨ret_int (unhide HV).symm, unhide HB⟩
end Go.Proofs.YtcmekhpphgkglaaDoor
/-
  The laws' own measure of items, which tells the sizes of their paths too.
-/
namespace Go.Proofs.YtcmekhpphgkglaaDoor
open Go.RowKit
set_option linter.unusedVariables false

set_option maxRecDepth 20000 in
set_option maxHeartbeats 2000000 in
theorem szItem_full (p : ByteArray) (d : Bool) (n : Nat) (a : Option Addr) (c : Nat) (left : Int) (w : World) (h0 : 0 ≤ left) (h1 : left ≤ 1048576) (hs : p.size ≤ maxLen) (hn : n ≤ maxLen) :
    Calls Tryd.prog 15 #[.agg #[.string p, .bool d, .slice a n c], .int .i64 left] w fun r w' => (∃ x : Int, r = .returned (.int .i64 x) ∧ (x < 0 ∨ (0 ≤ x ∧ x ≤ left ∧ (n : Int) ≤ left ∧ (p.size : Int) ≤ left))) ∧ Below w.heap.size w w' := by
  obtain ⟨W, hW, hWz, HB0, HP0⟩ := boxes1 w [.string p, .bool d, .slice a n c] 39
  unfold maxLen at hs
  by_cases hl : left - (p.size : Int) < 0
  · go_enter Tryd.func15, Tryd.ntmps15
    go_wp2_with fail
    go_ret
    exact ⟨⟨_, rfl, .inl (by decide)⟩, by rw [← hW]; exact unhide HB0⟩
  go_enter Tryd.func15, Tryd.ntmps15
  go_wp2_with fail
  rw [← hW]
  clear hW
  refine (szInt64S_any a n c (left - (p.size : Int)) _ (by omega) (by omega) hn).mono ?_
  rintro r w2 ⟨⟨y, rfl, hy⟩, rfl⟩
  by_cases hy0 : y < 0
  · clear hy
    go_wp2_with fail
    go_ret
    exact ⟨⟨_, rfl, .inl (by decide)⟩, unhide HB0⟩
  have hy1 : 0 ≤ y ∧ y ≤ left ∧ (n : Int) ≤ left ∧ (p.size : Int) ≤ left := by
    rcases hy with ⟨h, _⟩ | ⟨h, h'⟩
    · omega
    · omega
  have HY := hide hy1
  clear hy hy1
  go_wp2_with fail
  go_ret
  exact ⟨⟨_, rfl, .inr (unhide HY)⟩, unhide HB0⟩
set_option maxRecDepth 20000 in
set_option maxHeartbeats 2000000 in
theorem szItemS_full (a : Option Addr) (c : Nat) (L : List ItmA) (left : Int) (w : World) (h : ItmsR w a L) (hn : L.length ≤ maxLen) (h0 : 0 ≤ left) (h1 : left ≤ 1048576) :
    Calls Tryd.prog 5 #[.slice a L.length c, .int .i64 left] w fun r w' => (∃ x : Int, r = .returned (.int .i64 x) ∧ (x < 0 ∨ (0 ≤ x ∧ x ≤ left ∧ (L.length : Int) ≤ left ∧ ∀ y ∈ L, y.b.l.length ≤ 1048576 ∧ y.b.p.size ≤ 1048576))) ∧ Below w.heap.size w w' := by
  unfold maxLen at hn
  by_cases hl : left - (L.length : Int) < 0
  · go_enter Tryd.func5, Tryd.ntmps5
    go_wp2
    go_ret
    exact ⟨⟨_, rfl, .inl (by decide)⟩, Below.refl _ _⟩
  · go_enter Tryd.func5, Tryd.ntmps5
    go_wp2
    go_loopw [1, 5] (fun t i wr => ∃ (k : Nat) (v : Int), k ≤ L.length ∧ i = .int .i64 k ∧ t = .int .i64 v ∧ 0 ≤ v ∧ v ≤ left ∧ Hid (Below w.heap.size w wr) ∧ Hid (∀ j (hj : j < L.length), j < k → L[j].b.l.length ≤ 1048576 ∧ L[j].b.p.size ≤ 1048576)) (fun _ i _ => L.length - (intOf i).toNat)
    case atStart => exact ⟨0, left - L.length, Nat.zero_le _, rfl, rfl, by omega, by omega, Below.refl _ _, fun j _ hj => absurd hj (Nat.not_lt_zero j)⟩
    case round =>
      obtain ⟨k, v, hk, rfl, rfl, v0, v1, HB, HI⟩ := hrel
      by_cases hlt : k < L.length
      · obtain ⟨b1, o1, rfl, hb1, hc1⟩ := h.at hlt
        have hbw := unhide HB
        have hx := hc1 k hlt
        obtain ⟨x, hxe⟩ : ∃ x, L[k] = x := ⟨_, rfl⟩
        rw [hxe] at hx
        have HXE := hide hxe
        clear hxe
        obtain ⟨⟨xp, xd, xl⟩, xa, xc⟩ := x
        have zb1 : b1 < wr.heap.size := by have := hbw.size; omega
        have x0 := (hbw.cell (p := ⟨b1, o1 + k * 3, none⟩) hb1).trans (hx.1 0 _ rfl)
        have x1 := (hbw.cell (p := ⟨b1, o1 + k * 3 + 1, none⟩) hb1).trans (hx.1 1 _ rfl)
        have x2 := (hbw.cell (p := ⟨b1, o1 + k * 3 + 2, none⟩) hb1).trans (hx.1 2 _ rfl)
        have s1 := hx.2.2.1
        have s2 := hx.2.2.2
        clear hc1 hx h hbw
        simp only at x0 x1 x2 s1 s2
        go_wp2_with fail
        clear x0 x1 x2
        refine (szItem_full xp xd xl.length xa xc v _ v0 (by omega) s2 s1).mono ?_
        rintro r w2 ⟨⟨y, rfl, hy⟩, hb2⟩
        have B2 := hide (below_step (unhide HB) hb2 (unhide HB).size)
        clear hb2 HB
        by_cases hy0 : y < 0
        · clear hy
          go_wp2_with fail
          go_ret
          exact ⟨⟨_, rfl, .inl (by decide)⟩, unhide B2⟩
        have hy1 : 0 ≤ y ∧ y ≤ v ∧ (xl.length : Int) ≤ v ∧ (xp.size : Int) ≤ v := by
          rcases hy with h | h
          · omega
          · exact h
        obtain ⟨y1, y2, y3⟩ := hy1
        have HI2 : Hid (∀ j (hj : j < L.length), j < k + 1 → L[j].b.l.length ≤ 1048576 ∧ L[j].b.p.size ≤ 1048576) := by
          intro j hj hj1
          by_cases e : j = k
          · subst e
            rw [unhide HXE]
            show xl.length ≤ 1048576 ∧ xp.size ≤ 1048576
            omega
          · exact unhide HI j hj (by omega)
        clear hy y3
        go_wp2_with fail
        go_roundw
        case rel => exact ⟨k + 1, y, by omega, by go_num, rfl, by omega, by omega, B2, HI2⟩
        case measure => simp [intOf]; omega
      · have HA : Hid (∀ y ∈ L, y.b.l.length ≤ 1048576 ∧ y.b.p.size ≤ 1048576) := by
          intro y hy
          obtain ⟨j, hj, rfl⟩ := List.getElem_of_mem hy
          exact unhide HI j hj (by omega)
        go_wp2_with fail
        go_ret
        exact ⟨⟨_, rfl, .inr ⟨by omega, by omega, by omega, unhide HA⟩⟩, unhide HB⟩
end Go.Proofs.YtcmekhpphgkglaaDoor
/-
  The walk of laws.FnExactItemsFault: it returns true, and writes nothing that was there.
-/
namespace Go.Proofs.YtcmekhpphgkglaaDoor.fnExactItemsFault
open Go.RowKit
set_option linter.unusedVariables false

theorem toItemS_ex2 (a : Option Addr) (c : Nat) (L : List ItmA) (w : World) (h : ItmsAt w a L) (hn : L.length ≤ 1048576) :
    Calls Tryd.prog 7 #[.slice a L.length c] w fun r w' => (∃ g L', r = .returned (.slice (some ⟨g, 0, none⟩) (List.length L') (List.length L')) ∧ ItmsAt w' (some ⟨g, 0, none⟩) L' ∧ L'.map ItmA.b = L.map ItmA.b) ∧ Below w.heap.size w w' :=
  (toItemS_any a c L w h hn).mono fun _ _ ⟨⟨g, L', h1, h2, h3⟩, h4⟩ => ⟨⟨g, L', by rw [show L'.length = L.length from by simpa using congrArg List.length h3]; exact h1, h2, h3⟩, h4⟩
theorem sized_map {L L' : List ItmA} (hm : L'.map ItmA.b = L.map ItmA.b) (hs : ∀ x ∈ L, x.sized) : ∀ x ∈ L', x.sized := by
  intro x hx
  have h1 : x.b ∈ L.map ItmA.b := by rw [← hm]; exact List.mem_map_of_mem hx
  obtain ⟨y, hy, hyb⟩ := List.mem_map.1 h1
  have h2 := hs y hy
  unfold ItmA.sized at h2 ⊢
  rw [← hyb]
  exact h2
set_option maxRecDepth 20000 in
set_option maxHeartbeats 4000000 in
theorem walk (a1 : Option Addr) (c1 : Nat) (L : List ItmA) (w : World) (h : ItmsR w a1 L) (hn : L.length ≤ maxLen) (hsh : w.ShapedOpen Tryd.prog) :
    Calls Tryd.prog 3 #[.slice a1 L.length c1] w fun e w' => e = .returned (.bool true) ∧ Below w.heap.size w w' := by
  obtain ⟨mx, hm⟩ := Tryd.laysM143.s1_3 w hsh
  have hm0 : w.cell? ⟨0, 0, none⟩ = some (.int .i64 mx) := hm
  have hM : MaxAt w mx := ⟨hm0, lt_of_cell hm0⟩
  clear hsh hm hm0
  have AZ := hide h
  have MZ := hide hM
  clear h hM
  go_enter Tryd.func3, Tryd.ntmps3
  go_wp2_with fail
  refine (szItemS_full a1 c1 L _ _ (unhide AZ) hn (by decide) (by decide)).mono ?_
  rintro e w1 ⟨⟨x, rfl, hx⟩, hb⟩
  have z1 : w.heap.size ≤ w1.heap.size := hb.size
  have A1 := hide ((unhide AZ).below hb)
  have M1 := hide ((unhide MZ).below hb)
  have B1 := hide hb
  clear hb AZ MZ
  by_cases hx0 : x < 0
  · clear hx
    go_wp2_with fail
    go_ret
    exact ⟨rfl, unhide B1⟩
  have hx1 : 0 ≤ x ∧ x ≤ 1048576 ∧ (L.length : Int) ≤ 1048576 ∧ ∀ y ∈ L, y.b.l.length ≤ 1048576 ∧ y.b.p.size ≤ 1048576 := by
    rcases hx with h | h
    · omega
    · exact h
  obtain ⟨x1, x2, x3, x4⟩ := hx1
  have HZD : Hid (∀ y ∈ L, y.sized) := fun y hy => (x4 y hy).2
  have A2 := hide ((unhide A1).toAt (fun y hy => (x4 y hy).1))
  have hL : L.length ≤ 1048576 := by omega
  clear hx x4 x3 A1
  go_wp2_with fail
  refine (toItemS_ex2 a1 c1 L _ (unhide A2) hL).mono ?_
  rintro e w3 ⟨⟨gp, L1, rfl, hbp, hmp⟩, hb⟩
  have z3 : w1.heap.size ≤ w3.heap.size := hb.size
  have A3 := hide ((unhide A2).below hb)
  have M3 := hide ((unhide M1).below hb)
  have B3 := hide (below_step (unhide B1) hb (by omega))
  clear hb A2 M1 B1
  have Fp := hide hbp
  have Zp := hide (sized_map hmp (unhide HZD))
  have lp : L1.length ≤ 1048576 := by have := congrArg List.length hmp; simp at this; omega
  have Mp := hide hmp
  clear hbp hmp
  go_wp2_with fail
  refine (specItemsFault_any _ _ L1 _ (unhide Fp) lp (unhide Zp)).mono ?_
  rintro e w4 ⟨rfl, hb⟩
  have z4 : w3.heap.size ≤ w4.heap.size := hb.size
  have A4 := hide ((unhide A3).below hb)
  have M4 := hide ((unhide M3).below hb)
  have B4 := hide (below_step (unhide B3) hb (by omega))
  clear hb A3 M3 B3 Fp Zp
  rw [itemsCode_map (unhide Mp)]
  generalize hcd : itemsCode L = cd at *
  have HCD := hide hcd
  clear hcd Mp
  go_wp2_with fail
  refine (toItemS_ex2 a1 c1 L _ (unhide A4) hL).mono ?_
  rintro e w5 ⟨⟨gq, L2, rfl, hbq, hmq⟩, hb⟩
  have z5 : w4.heap.size ≤ w5.heap.size := hb.size
  have A5 := hide ((unhide A4).below hb)
  have M5 := hide ((unhide M4).below hb)
  have B5 := hide (below_step (unhide B4) hb (by omega))
  clear hb A4 M4 B4
  have Fq := hide hbq
  have Zq := hide (sized_map hmq (unhide HZD))
  have lq : L2.length ≤ 1048576 := by have := congrArg List.length hmq; simp at this; omega
  have Mq := hide hmq
  clear hbq hmq
  go_wp2_with fail
  refine (implItemsFault_any _ _ L2 mx _ (unhide Fq) lq (unhide Zq) (unhide M5)).mono ?_
  rintro e w6 ⟨rfl, hb⟩
  have z6 : w5.heap.size ≤ w6.heap.size := hb.size
  have A6 := hide ((unhide A5).below hb)
  have G6 := hide ((unhide Fq).below hb)
  have B6 := hide (below_step (unhide B5) hb (by omega))
  clear hb A5 M5 B5 Fq Zq
  rw [itemsCode_map (unhide Mq), unhide HCD]
  have hne := int_neq_self cd
  go_wp2_with fail
  refine (toItemS_ex2 a1 c1 L _ (unhide A6) hL).mono ?_
  rintro e w7 ⟨⟨gr, L3, rfl, hbr, hmr⟩, hb⟩
  have z7 : w6.heap.size ≤ w7.heap.size := hb.size
  have G7 := hide ((unhide G6).below hb)
  have B7 := hide (below_step (unhide B6) hb (by omega))
  clear hb A6 G6 B6
  have Fr := hide hbr
  have Mr := hide hmr
  clear hbr hmr
  go_wp2_with fail
  refine (eqItemS_same _ _ _ _ L2 L3 _ (unhide G7) (unhide Fr) lq ((unhide Mq).trans (unhide Mr).symm)).mono ?_
  rintro e w8 ⟨rfl, hb⟩
  have B8 := hide (below_step (unhide B7) hb (by omega))
  clear hb G7 Fr B7
  go_wp2_with fail
  go_ret
  exact ⟨rfl, unhide B8⟩
end Go.Proofs.YtcmekhpphgkglaaDoor.fnExactItemsFault
