/-
  Several texts in one: LiveSpecA, LiveSpecB, LiveSpecC, LiveSpecD, LiveSpecE, LiveMath.
-/
import Derived.Test.YtiopofemelninaaGreatImgMath
import Derived.Test.YtiopofemelninaaGreatWideBox
import Derived.Test.YtiopofemelninaaGreatDrawn
import Derived.Deep.QuietTactic
import Derived.BigQuiet
import Derived.Deep.CutRange
import Derived.Test.YtiopofemelninaaGreatAppRow
/-
  What the specification's own small functions on versions answer: l1Has, l4Key, l4Of, l4Depth.
-/
namespace Go.Proofs.YtiopofemelninaaGreat
open Go.RowKit
set_option linter.unusedVariables false

/-- Versions that can be read. -/
def VersAt (w : World) (a : Option Addr) (L : List VerA) : Prop :=
  L = [] ∨ ∃ b o, a = some ⟨b, o, none⟩ ∧ b < w.heap.size ∧ ∀ i (h : i < L.length), ∀ j v, (L[i].cells)[j]? = some v → w.cell? ⟨b, o + i * 11 + j, none⟩ = some v
theorem VersAt.at {w : World} {a : Option Addr} {L : List VerA} (h : VersAt w a L) {k : Nat} (hk : k < L.length) :
    ∃ b o, a = some ⟨b, o, none⟩ ∧ b < w.heap.size ∧ ∀ i (h : i < L.length), ∀ j v, (L[i].cells)[j]? = some v → w.cell? ⟨b, o + i * 11 + j, none⟩ = some v := by
  rcases h with rfl | h
  · simp at hk
  · exact h
theorem VersAt.below {w w' : World} {a : Option Addr} {L : List VerA} (h : VersAt w a L) (hb : Below w.heap.size w w') : VersAt w' a L := by
  rcases h with rfl | ⟨b, o, rfl, hlt, hc⟩
  · exact .inl rfl
  · exact .inr ⟨b, o, rfl, Nat.lt_of_lt_of_le hlt hb.size, fun i hi j v hv => (hb.cell (p := ⟨b, o + i * 11 + j, none⟩) hlt).trans (hc i hi j v hv)⟩
theorem VOwn.vers {w : World} {base : Nat} {a : Option Addr} {c : Nat} {L : List VerA} (h : VOwn w base (.slice a L.length c) L) : VersAt w a L := by
  by_cases h0 : L = []
  · exact .inl h0
  · obtain ⟨g, c', e, hg, -⟩ := h.at (k := 0) (List.length_pos_iff.2 h0)
    cases e
    refine .inr ⟨g, 0, rfl, hg, fun i hi j v hv => ?_⟩
    obtain ⟨g', c'', e', -, hc⟩ := h.at hi
    cases e'
    rw [Nat.zero_add]
    exact hc j v hv
/-- The key of a version's thing. -/
def keyOfB (b : Blk) : Int := if b.k = 2 then 8 * b.u + 1 + b.i else 8 * b.u
/-- The node of a uid among versions. -/
def ofUid (L : List Blk) (u : Int) : Option Blk := L.find? (fun b => b.nu == u)
def nodeCells (b : Blk) : Array Value := #[.int .i64 b.nu, .bool b.nd, .int .i64 b.np, .string b.nn, .int .i64 b.ns]
/-- What l4Of tells. -/
def ofVal (o : Option Blk) : Value := match o with
  | some b => .tuple #[.agg (nodeCells b), .bool true]
  | none => .tuple #[.agg (nodeCells Blk.none), .bool false]
def blks (L : List VerA) : List Blk := L.map fun x => x.x.b
theorem ofUid_drop {L : List VerA} {u : Int} {k : Nat} (hk : k < L.length) : ofUid (blks (L.drop k)) u = if L[k].x.b.nu = u then some L[k].x.b else ofUid (blks (L.drop (k + 1))) u := by
  rw [List.drop_eq_getElem_cons hk, blks, List.map_cons, ofUid, List.find?_cons]
  by_cases h : L[k].x.b.nu = u
  · simp [h]
  · have : (L[k].x.b.nu == u) = false := by simpa using h
    rw [this, if_neg h]; rfl
/-- How deep a uid stands: so many steps are left. -/
def depthB (L : List Blk) : Nat → Int → Int → Int
  | 0, _, _ => -1
  | f + 1, n, u => if u = 0 then n else match ofUid L u with
    | none => -1
    | some b => depthB L f (n + 1) b.np
set_option maxHeartbeats 1000000 in
theorem l1Has_any (a : Option Addr) (c : Nat) (l : List Int) (x : Int) (w : World) (h : IntsAt w a l) (hn : l.length ≤ 1048576) :
    Calls Tryz.prog 66 #[.slice a l.length c, .int .i64 x] w fun r w' => r = .returned (.bool (decide (x ∈ l))) ∧ w' = w := by
  go_enter Tryz.func66, Tryz.ntmps66
  go_wp2
  go_loopw [5] (fun i wr => ∃ k : Nat, k ≤ l.length ∧ i = .int .i64 k ∧ w = wr ∧ Hid (x ∉ l.take k)) (fun i _ => l.length - (intOf i).toNat)
  case atStart => exact ⟨0, Nat.zero_le _, rfl, rfl, by simp [Hid]⟩
  case round =>
    obtain ⟨k, hk, rfl, rfl, HX⟩ := hrel
    by_cases hlt : k < l.length
    · obtain ⟨b, o, rfl, hb, hc⟩ := h.at hlt
      have hck := hc k hlt
      have hlt' : (k : Int) < l.length := by omega
      have ht := List.take_succ_eq_append_getElem hlt
      have hm := List.getElem_mem hlt
      have HT := hide ht
      have HM := hide hm
      clear hc ht hm h
      generalize l[k] = y at *
      by_cases hy : y = x
      · subst hy
        have hd : decide (y ∈ l) = true := by simpa using unhide HM
        go_wp2
        go_ret
        exact ⟨by (rw [hd]) <;> rfl, rfl⟩
      · have hyb : (y == x) = false := by simpa using hy
        have HX2 : Hid (x ∉ l.take (k + 1)) := by
          rw [Hid, unhide HT, List.mem_append, List.mem_singleton]
          rintro (h | h)
          · exact unhide HX h
          · exact hy h.symm
        clear HT HM
        go_wp2
        go_roundw
        case rel => exact ⟨k + 1, by omega, by go_num, by simp, HX2⟩
        case measure => simp [intOf]; omega
    · have hlt' : ¬ (k : Int) < l.length := by omega
      have hd : decide (x ∈ l) = false := by
        have := unhide HX
        rw [List.take_of_length_le (by omega)] at this
        simpa using this
      have HD := hide hd
      clear hd h
      go_wp2
      go_ret
      exact ⟨by (rw [unhide HD]) <;> rfl, rfl⟩
set_option maxHeartbeats 2000000 in
theorem l4Key_any (b o : Nat) (x : Blk) (w : World) (c0 : w.cell? ⟨b, o, none⟩ = some (.int .i64 x.k)) (c1 : w.cell? ⟨b, o + 1, none⟩ = some (.int .i64 x.u)) (c2 : w.cell? ⟨b, o + 2, none⟩ = some (.int .i64 x.i)) (hu : 0 ≤ x.u ∧ x.u ≤ 1000000000) (hi : 0 ≤ x.i ∧ x.i ≤ 1000000000) :
    Calls Tryz.prog 95 #[.pointer (some ⟨b, o, none⟩)] w fun r w' => r = .returned (.int .i64 (keyOfB x)) ∧ Drawn w w' := by
  by_cases hk : x.k = 2
  · have hkb : (x.k == 2) = true := by simpa using hk
    have HK : Hid (keyOfB x = 8 * x.u + 1 + x.i) := if_pos hk
    clear hk
    go_enter Tryz.func95, Tryz.ntmps95
    go_wp2_with fail
    go_quiet (fail)
    go_wp2_with fail
    go_ret
    exact ⟨by (rw [unhide HK]) <;> rfl, Drawn.drewN (Drawn.refl _) _⟩
  · have hkb : (x.k == 2) = false := by simpa using hk
    have HK : Hid (keyOfB x = 8 * x.u) := if_neg hk
    clear hk
    go_enter Tryz.func95, Tryz.ntmps95
    go_wp2_with fail
    go_ret
    exact ⟨by (rw [unhide HK]) <;> rfl, Drawn.refl _⟩
theorem results_node_tmp {P : Program} {fn : Func} {p q : Tmp} {ty : TypeId} (h : fn.results = #[.cell p ty, .tmp q]) (tmps : Array Value) (w : World) (g : Nat) (t : TypeId) (cs : List Value) (d : TypeDesc) (v : Value)
    (hp : tmps.getD p undef = .pointer (some ⟨g, 0, none⟩)) (hq : tmps.getD q undef = v) (hg : Box w g cs t)
    (hu : P.underlying ty = some d) (hd : (match d with | .struct _ | .array _ _ => true | _ => false) = true) (hi : (P.info? ty).map (·.size) = some cs.length) :
    (results fn tmps).run P w = .ok (.tuple #[.agg cs.toArray, v]) w := by
  have hp' : tmps[p]?.getD undef = .pointer (some ⟨g, 0, none⟩) := by simpa using hp
  have hq' : tmps[q]?.getD undef = v := by simpa using hq
  simp [results, h, hp', hq', asAddr, run_loadVar_row w g t ty cs.toArray (0, 0) d hg hu hd (by simpa using hi)]
set_option maxRecDepth 20000 in
set_option maxHeartbeats 2000000 in
theorem l4Of_any (a : Option Addr) (c : Nat) (L : List VerA) (u : Int) (w : World) (h : VersAt w a L) (hn : L.length ≤ 1048576) :
    Calls Tryz.prog 64 #[.slice a L.length c, .int .i64 u] w fun r w' => r = .returned (ofVal (ofUid (blks L) u)) ∧ Below w.heap.size w w' := by
  obtain ⟨W, hW, hWz, HB, HX⟩ := boxes1 w [.int .i64 0, .bool false, .int .i64 0, .string ⟨#[]⟩, .int .i64 0] 42
  have H := hide (h.below (unhide HB))
  clear h
  go_enter Tryz.func64, Tryz.ntmps64
  go_wp2_with fail
  rw [← hW]
  clear hW
  go_loopw [6] (fun i wr => ∃ k : Nat, k ≤ L.length ∧ i = .int .i64 k ∧ W = wr ∧ Hid (ofUid (blks L) u = ofUid (blks (L.drop k)) u)) (fun i _ => L.length - (intOf i).toNat)
  case atStart => exact ⟨0, Nat.zero_le _, rfl, rfl, rfl⟩
  case round =>
    obtain ⟨k, hk, rfl, rfl, HU⟩ := hrel
    by_cases hlt : k < L.length
    · obtain ⟨b, o, rfl, hb, hc⟩ := (unhide H).at hlt
      have hx := hc k hlt
      have hd := ofUid_drop (u := u) hlt
      have HD := hide hd
      have hlt' : (k : Int) < L.length := by omega
      clear hc hd H
      generalize L[k] = x at *
      have c5 : W.cell? ⟨b, o + k * 11 + 5, none⟩ = some (.int .i64 x.x.b.nu) := hx 5 _ rfl
      have c6 : W.cell? ⟨b, o + k * 11 + 6, none⟩ = some (.bool x.x.b.nd) := hx 6 _ rfl
      have c7 : W.cell? ⟨b, o + k * 11 + 7, none⟩ = some (.int .i64 x.x.b.np) := hx 7 _ rfl
      have c8 : W.cell? ⟨b, o + k * 11 + 8, none⟩ = some (.string x.x.b.nn) := hx 8 _ rfl
      have c9 : W.cell? ⟨b, o + k * 11 + 9, none⟩ = some (.int .i64 x.x.b.ns) := hx 9 _ rfl
      clear hx
      by_cases hy : x.x.b.nu = u
      · have hyb : (x.x.b.nu == u) = true := by simpa using hy
        have HV : Hid (ofUid (blks L) u = some x.x.b) := by rw [Hid, unhide HU, unhide HD, if_pos hy]
        clear HU HD hy
        go_wp2_with (refine wpList_store_part rfl 42 (.tmp 4) (.tmp 27) rfl w.heap.size 0 _ rfl rfl 42 _ (unhide HX) (by kernel_rfl) (by simp) (by simp [Value.oneCell']) ?_; intro wZ XZ OZ)
        have XR : Hid (Box wZ w.heap.size [.int .i64 x.x.b.nu, .bool x.x.b.nd, .int .i64 x.x.b.np, .string x.x.b.nn, .int .i64 x.x.b.ns] 42) := XZ
        have BR : Hid (Below w.heap.size w wZ) := (unhide OZ).below (unhide HB) (Nat.le_refl _) (fun q hq e => by omega)
        refine bodyPost_ret (results_node_tmp Tryz.results64 _ wZ w.heap.size 42 _ _ (.bool true) rfl rfl (unhide XR) Tryz.underlying42 rfl (by kernel_rfl)) rfl ⟨?_, unhide BR⟩
        rw [unhide HV]
        rfl
      · have hyb : (x.x.b.nu == u) = false := by simpa using hy
        have HU2 : Hid (ofUid (blks L) u = ofUid (blks (L.drop (k + 1))) u) := by rw [Hid, unhide HU, unhide HD, if_neg hy]
        clear HU HD hy
        go_wp2_with fail
        go_roundw
        case rel => exact ⟨k + 1, by omega, by go_num, by simp, HU2⟩
        case measure => simp [intOf]; omega
    · have hlt' : ¬ (k : Int) < L.length := by omega
      have HV : Hid (ofUid (blks L) u = none) := by
        rw [Hid, unhide HU, List.drop_eq_nil_of_le (by omega)]; rfl
      clear HU
      go_wp2_with (refine wpList_store_part rfl 42 (.tmp 4) (.tmp 28) rfl w.heap.size 0 _ rfl rfl 42 _ (unhide HX) (by kernel_rfl) (by simp) (by simp [Value.oneCell']) ?_; intro wZ XZ OZ)
      have XR : Hid (Box wZ w.heap.size [.int .i64 0, .bool false, .int .i64 0, .string ⟨#[]⟩, .int .i64 0] 42) := XZ
      have BR : Hid (Below w.heap.size w wZ) := (unhide OZ).below (unhide HB) (Nat.le_refl _) (fun q hq e => by omega)
      refine bodyPost_ret (results_node_tmp Tryz.results64 _ wZ w.heap.size 42 _ _ (.bool false) rfl rfl (unhide XR) Tryz.underlying42 rfl (by kernel_rfl)) rfl ⟨?_, unhide BR⟩
      rw [unhide HV]
      rfl
theorem depth_some {L : List Blk} {f : Nat} {n u : Int} (hu : ¬ u = 0) {b : Blk} (hb : ofUid L u = some b) : depthB L (f + 1) n u = depthB L f (n + 1) b.np := by rw [depthB, if_neg hu, hb]
theorem depth_none {L : List Blk} {f : Nat} {n u : Int} (hu : ¬ u = 0) (hb : ofUid L u = none) : depthB L (f + 1) n u = -1 := by rw [depthB, if_neg hu, hb]
set_option maxRecDepth 20000 in
set_option maxHeartbeats 2000000 in
theorem l4Depth_any (a : Option Addr) (c : Nat) (L : List VerA) (u : Int) (w : World) (h : VersAt w a L) (hn : L.length ≤ 1048576) :
    Calls Tryz.prog 96 #[.slice a L.length c, .int .i64 u] w fun r w' => r = .returned (.int .i64 (depthB (blks L) 5 0 u)) ∧ Below w.heap.size w w' := by
  have H := hide h
  clear h
  go_enter Tryz.func96, Tryz.ntmps96
  go_wp2_with fail
  go_loopw [1, 5] (fun uu i wr => ∃ (k : Nat) (v : Int), k ≤ 5 ∧ i = .int .i64 k ∧ uu = .int .i64 v ∧ Hid (Below w.heap.size w wr) ∧ Hid (depthB (blks L) 5 0 u = depthB (blks L) (5 - k) k v)) (fun _ i _ => 6 - (intOf i).toNat)
  case atStart => exact ⟨0, u, by omega, rfl, rfl, Below.refl _ _, rfl⟩
  case round =>
    obtain ⟨k, v, hk, rfl, rfl, HB, HD⟩ := hrel
    by_cases hlt : k ≤ 4
    · have hlt' : (k : Int) ≤ 4 := by omega
      by_cases hv : v = 0
      · have hvb : (v == 0) = true := by simpa using hv
        have HV : Hid (depthB (blks L) 5 0 u = (k : Int)) := by
          rw [Hid, unhide HD, show 5 - k = (4 - k) + 1 by omega, depthB, if_pos hv]
        clear HD hv
        go_wp2_with fail
        go_ret
        exact ⟨by (rw [unhide HV]) <;> rfl, unhide HB⟩
      · have hvb : (v == 0) = false := by simpa using hv
        have HN := hide hv
        clear hv
        go_wp2_with fail
        refine (l4Of_any a c L v _ ((unhide H).below (unhide HB)) hn).mono ?_
        rintro r w2 ⟨hr, hb⟩
        have B2 := hide (below_step (unhide HB) hb (unhide HB).size)
        clear hb HB
        cases ho : ofUid (blks L) v with
        | none =>
          have HV : Hid (depthB (blks L) 5 0 u = -1) := by
            rw [Hid, unhide HD, show 5 - k = (4 - k) + 1 by omega, depth_none (unhide HN) ho]
          rw [ho] at hr
          simp only [ofVal, nodeCells, Blk.none] at hr
          subst hr
          clear ho HD
          go_wp2_with fail
          go_ret
          exact ⟨by (rw [unhide HV]) <;> rfl, (unhide B2).alloc (unhide B2).size _⟩
        | some bb =>
          have HV : Hid (depthB (blks L) 5 0 u = depthB (blks L) (5 - (k + 1)) ((k + 1 : Nat) : Int) bb.np) := by
            rw [Hid, unhide HD, show 5 - k = (5 - (k + 1)) + 1 by omega, depth_some (unhide HN) ho]; rfl
          rw [ho] at hr
          simp only [ofVal, nodeCells] at hr
          subst hr
          clear ho HD
          have B3 := hide ((unhide B2).alloc (unhide B2).size (.cells #[.int .i64 bb.nu, .bool bb.nd, .int .i64 bb.np, .string bb.nn, .int .i64 bb.ns] 42))
          go_wp2_with fail
          go_roundw
          case rel => exact ⟨k + 1, bb.np, by omega, by go_num, rfl, B3, HV⟩
          case measure => simp [intOf]; omega
    · have hlt' : ¬ (k : Int) ≤ 4 := by omega
      have HV : Hid (depthB (blks L) 5 0 u = -1) := by
        rw [Hid, unhide HD, show 5 - k = 0 by omega]; rfl
      clear HD
      go_wp2_with fail
      go_ret
      exact ⟨by (rw [unhide HV]) <;> rfl, unhide HB⟩
end Go.Proofs.YtiopofemelninaaGreat
/-
  What the specification's l4Same answers.
-/
namespace Go.Proofs.YtiopofemelninaaGreat
open Go.RowKit
set_option linter.unusedVariables false

/-- Two versions of one thing have one epoch, and it is sure. -/
def hitV (clock : Int) (x y : Blk) : Bool := decide (x.e ≤ clock - 2) && x.e == y.e && keyOfB x == keyOfB y
def sameVers (clock : Int) (L : List Blk) : Bool := (List.range L.length).any fun i => (L.take i).any fun y => hitV clock (L.getD i Blk.none) y
theorem sameVers_true {clock : Int} {L : List Blk} {i k : Nat} (hk : k < i) (hi : i < L.length) (h : hitV clock L[i] (L[k]'(by omega)) = true) : sameVers clock L = true := by
  unfold sameVers
  rw [List.any_eq_true]
  refine ⟨i, List.mem_range.2 hi, ?_⟩
  rw [List.any_eq_true]
  refine ⟨L[k]'(by omega), ?_, ?_⟩
  · rw [List.mem_take_iff_getElem]
    exact ⟨k, by omega, rfl⟩
  · rw [List.getD_eq_getElem?_getD, List.getElem?_eq_getElem hi]
    exact h
theorem sameVers_false {clock : Int} {L : List Blk} (h : ∀ i (hi : i < L.length), (L.take i).any (fun y => hitV clock L[i] y) = false) : sameVers clock L = false := by
  unfold sameVers
  rw [List.any_eq_false]
  intro i hi
  rw [List.mem_range] at hi
  have := h i hi
  rw [List.getD_eq_getElem?_getD, List.getElem?_eq_getElem hi]
  simpa using this
theorem any_take_succ {p : Blk → Bool} {L : List Blk} {k : Nat} (hk : k < L.length) (h : (L.take k).any p = false) (hp : p L[k] = false) : (L.take (k + 1)).any p = false := by
  rw [List.take_succ_eq_append_getElem hk, List.any_append, h]
  simp [hp]
set_option maxRecDepth 20000 in
set_option maxHeartbeats 4000000 in
theorem l4Same_any (a : Option Addr) (c : Nat) (L : List VerA) (clock : Int) (w : World) (h : VersAt w a L) (hn : L.length ≤ 1000) (hc : 2 ≤ clock ∧ clock ≤ 9999) (hb : ∀ x ∈ L, (0 ≤ x.x.b.u ∧ x.x.b.u ≤ 999) ∧ 0 ≤ x.x.b.i ∧ x.x.b.i ≤ 3) :
    Calls Tryz.prog 63 #[.slice a L.length c, .int .i64 clock] w fun r w' => r = .returned (.bool (sameVers clock (blks L))) ∧ Drawn w w' := by
  have HBd := hide hb
  have hw2 : IntKind.i64.wrap (clock - 2) = clock - 2 := by rw [IntKind.wrap_i64]; omega
  have hbl : (blks L).length = L.length := by simp [blks]
  have HBL := hide hbl
  clear hb hbl
  go_enter Tryz.func63, Tryz.ntmps63
  go_wp2_with fail
  go_loopw [5] (fun s5 wr => ∃ (i m : Nat), i ≤ L.length ∧ s5 = .int .i64 i ∧ wr = w.drewN m ∧ Hid (∀ j (hj : j < i) (hl : j < (blks L).length), ((blks L).take j).any (fun y => hitV clock (blks L)[j] y) = false)) (fun s5 _ => L.length - (intOf s5).toNat)
  case atStart => exact ⟨0, 0, Nat.zero_le _, rfl, rfl, fun j hj => absurd hj (Nat.not_lt_zero j)⟩
  case round =>
    obtain ⟨i, m, hi, rfl, rfl, HI⟩ := hrel
    by_cases hlt : i < L.length
    case neg =>
      have hlt' : ¬ (i : Int) < L.length := by omega
      have HV : Hid (sameVers clock (blks L) = false) := sameVers_false (fun j hj => unhide HI j (by have := unhide HBL; omega) hj)
      clear HI
      go_wp2_with fail
      go_ret
      exact ⟨by (rw [unhide HV]) <;> rfl, Drawn.drewN (Drawn.refl _) _⟩
    have hlt' : (i : Int) < L.length := by omega
    go_wp2_with fail
    go_loopw [6] (fun s6 wr => ∃ (k m : Nat), k ≤ i ∧ s6 = .int .i64 k ∧ wr = w.drewN m ∧ Hid (((blks L).take k).any (fun y => hitV clock ((blks L)[i]'(by have := unhide HBL; omega)) y) = false)) (fun s6 _ => i - (intOf s6).toNat)
    case atStart => exact ⟨0, m, Nat.zero_le _, rfl, rfl, by simp [Hid]⟩
    case round =>
      obtain ⟨k, m2, hk, rfl, rfl, HK⟩ := hrel
      by_cases hkl : k < i
      case neg =>
        have hkl' : ¬ (k : Int) < i := by omega
        have hke : k = i := by omega
        subst hke
        have HI2 : Hid (∀ j (hj : j < k + 1) (hl : j < (blks L).length), ((blks L).take j).any (fun y => hitV clock (blks L)[j] y) = false) := fun j hj hl => by
          by_cases e : j = k
          · subst e; exact unhide HK
          · exact unhide HI j (by omega) hl
        clear HI HK
        go_wp2_with fail
        go_roundw
        case rel => exact ⟨k + 1, m2, by omega, by go_num, rfl, HI2⟩
        case measure => simp [intOf]; omega
      have hkl' : (k : Int) < i := by omega
      have hkL : k < L.length := by omega
      have hkL' : (k : Int) < L.length := by omega
      obtain ⟨b, o, ea, hbb, hcc⟩ := h.at hlt
      have hxi := hcc i hlt
      have hxk := hcc k hkL
      have hbi := unhide HBd _ (List.getElem_mem hlt)
      have hbk := unhide HBd _ (List.getElem_mem hkL)
      have hgi : (blks L)[i]'(by have := unhide HBL; omega) = L[i].x.b := by simp [blks]
      have hgk : (blks L)[k]'(by have := unhide HBL; omega) = L[k].x.b := by simp [blks]
      have HGI := hide hgi
      have HGK := hide hgk
      clear hcc hgi hgk h
      generalize L[i] = x at *
      generalize L[k] = y at *
      have x1 : w.cell? ⟨b, o + i * 11 + 1, none⟩ = some (.int .i64 x.x.b.k) := hxi 1 _ rfl
      have x2 : w.cell? ⟨b, o + i * 11 + 2, none⟩ = some (.int .i64 x.x.b.u) := hxi 2 _ rfl
      have x3 : w.cell? ⟨b, o + i * 11 + 3, none⟩ = some (.int .i64 x.x.b.i) := hxi 3 _ rfl
      have x4 : w.cell? ⟨b, o + i * 11 + 4, none⟩ = some (.int .i64 x.x.b.e) := hxi 4 _ rfl
      have y1 : w.cell? ⟨b, o + k * 11 + 1, none⟩ = some (.int .i64 y.x.b.k) := hxk 1 _ rfl
      have y2 : w.cell? ⟨b, o + k * 11 + 2, none⟩ = some (.int .i64 y.x.b.u) := hxk 2 _ rfl
      have y3 : w.cell? ⟨b, o + k * 11 + 3, none⟩ = some (.int .i64 y.x.b.i) := hxk 3 _ rfl
      have y4 : w.cell? ⟨b, o + k * 11 + 4, none⟩ = some (.int .i64 y.x.b.e) := hxk 4 _ rfl
      subst ea
      obtain ⟨wr, hwr⟩ : ∃ wr, wr = w.drewN m2 := ⟨_, rfl⟩
      have z4 : wr.cell? ⟨b, o + i * 11 + 4, none⟩ = some (.int .i64 x.x.b.e) := by rw [hwr]; exact x4
      have z5 : wr.cell? ⟨b, o + k * 11 + 4, none⟩ = some (.int .i64 y.x.b.e) := by rw [hwr]; exact y4
      have HCX : Hid (∀ n, Calls Tryz.prog 95 #[.pointer (some ⟨b, o + i * 11 + 1, none⟩)] (wr.drewN n) fun r w' => r = .returned (.int .i64 (keyOfB x.x.b)) ∧ ∃ m, w' = (wr.drewN n).drewN m) := fun q => l4Key_any b (o + i * 11 + 1) x.x.b (wr.drewN q) (by rw [hwr]; exact x1) (by rw [hwr]; exact x2) (by rw [hwr]; exact x3) (by omega) (by omega)
      have HCY : Hid (∀ n, Calls Tryz.prog 95 #[.pointer (some ⟨b, o + k * 11 + 1, none⟩)] (wr.drewN n) fun r w' => r = .returned (.int .i64 (keyOfB y.x.b)) ∧ ∃ m, w' = (wr.drewN n).drewN m) := fun q => l4Key_any b (o + k * 11 + 1) y.x.b (wr.drewN q) (by rw [hwr]; exact y1) (by rw [hwr]; exact y2) (by rw [hwr]; exact y3) (by omega) (by omega)
      have HWR : Hid (Drawn w wr) := ⟨m2, hwr⟩
      rw [← hwr]
      clear hwr x4 y4
      clear x1 x2 x3 y1 y2 y3 hxi hxk
      have HN : Hid (hitV clock x.x.b y.x.b = false → ((blks L).take (k + 1)).any (fun y => hitV clock ((blks L)[i]'(by have := unhide HBL; omega)) y) = false) := fun hh => any_take_succ (by have := unhide HBL; omega) (unhide HK) (by rw [unhide HGI, unhide HGK]; exact hh)
      have HY : Hid (hitV clock x.x.b y.x.b = true → sameVers clock (blks L) = true) := fun hh => sameVers_true hkl (by have := unhide HBL; omega) (by rw [unhide HGI, unhide HGK]; exact hh)
      clear HK HGI HGK
      by_cases he : x.x.b.e ≤ clock - 2
      case neg =>
        have HF := hide (unhide HN (by simp [hitV, he]))
        have heb : decide (x.x.b.e ≤ clock - 2) = false := decide_eq_false he
        have hew : decide (x.x.b.e ≤ IntKind.i64.wrap (clock - 2)) = false := by rw [hw2]; exact heb
        clear HN HY
        go_wp2_with fail
        go_quiet (fail)
        go_wp2_with fail
        go_roundw
        case rel =>
          obtain ⟨mm, hmm⟩ := unhide HWR
          exact ⟨k + 1, mm + _, by omega, by go_num, by rw [hmm, World.drewN_drewN], HF⟩
        case measure => simp [intOf]; omega
      have heb : decide (x.x.b.e ≤ clock - 2) = true := decide_eq_true he
      have hew : decide (x.x.b.e ≤ IntKind.i64.wrap (clock - 2)) = true := by rw [hw2]; exact heb
      by_cases hq : x.x.b.e = y.x.b.e
      case neg =>
        have hqb : (x.x.b.e == y.x.b.e) = false := by simpa using hq
        have HF := hide (unhide HN (by simp [hitV, hqb]))
        clear HN HY hq
        go_wp2_with fail
        go_quiet (fail)
        go_wp2_with fail
        go_roundw
        case rel =>
          obtain ⟨mm, hmm⟩ := unhide HWR
          exact ⟨k + 1, mm + _, by omega, by go_num, by rw [hmm, World.drewN_drewN], HF⟩
        case measure => simp [intOf]; omega
      have hqb : (x.x.b.e == y.x.b.e) = true := by simpa using hq
      have HHV : Hid (hitV clock x.x.b y.x.b = (keyOfB x.x.b == keyOfB y.x.b)) := by rw [Hid, hitV, hqb]; simp [he]
      clear hq
      generalize keyOfB x.x.b = kx at *
      generalize keyOfB y.x.b = ky at *
      cases hkk : (kx == ky)
      · have HF := hide (unhide HN (by rw [unhide HHV, hkk]))
        clear HN HY HHV
        go_wp2_with fail
        go_quiet (first | (go_at_call 95; with_reducible exact Calls.quiet_of (unhide HCX _)) | (go_at_call 95; with_reducible exact Calls.quiet_of (unhide HCY _)))
        go_wp2_with fail
        go_roundw
        case rel =>
          obtain ⟨mm, hmm⟩ := unhide HWR
          exact ⟨k + 1, mm + _, by omega, by go_num, by rw [hmm, World.drewN_drewN], HF⟩
        case measure => simp [intOf]; omega
      · have HV := hide (unhide HY (by rw [unhide HHV, hkk]))
        clear HN HY HHV
        go_wp2_with fail
        go_quiet (first | (go_at_call 95; with_reducible exact Calls.quiet_of (unhide HCX _)) | (go_at_call 95; with_reducible exact Calls.quiet_of (unhide HCY _)))
        go_wp2_with fail
        go_ret
        exact ⟨by (rw [unhide HV]) <;> rfl, Drawn.drewN (unhide HWR) _⟩
end Go.Proofs.YtiopofemelninaaGreat
/-
  What the specification's l4Shape answers.
-/
namespace Go.Proofs.YtiopofemelninaaGreat
open Go.RowKit
set_option linter.unusedVariables false

/-- The parent of a node is no directory that there is. -/
def badPar (N : List Blk) (n : Blk) : Bool := (n.np != 0) && (match ofUid N n.np with | none => true | some p => !p.nd)
def sameName (n m : Blk) : Bool := (m.np == n.np) && (m.nn.toList == n.nn.toList)
def piecesOf (D : List Blk) (n : Blk) : Nat := D.countP fun d => d.u == n.nu
/-- The node i stands where it may. -/
def okNode (N D : List Blk) (i : Nat) (n : Blk) : Bool := !(badPar N n) && !decide (depthB N 5 0 n.nu < 0) && !((N.take i).any (sameName n)) && decide ((piecesOf D n : Int) = n.ns)
def shapeB (N D : List Blk) : Bool := (List.range N.length).all fun i => okNode N D i (N.getD i Blk.none)
theorem shapeB_false {N D : List Blk} {i : Nat} (hi : i < N.length) (h : okNode N D i N[i] = false) : shapeB N D = false := by
  unfold shapeB
  rw [List.all_eq_false]
  refine ⟨i, List.mem_range.2 hi, ?_⟩
  rw [List.getD_eq_getElem?_getD, List.getElem?_eq_getElem hi]
  simpa using h
theorem shapeB_true {N D : List Blk} (h : ∀ i (hi : i < N.length), okNode N D i N[i] = true) : shapeB N D = true := by
  unfold shapeB
  rw [List.all_eq_true]
  intro i hi
  rw [List.mem_range] at hi
  rw [List.getD_eq_getElem?_getD, List.getElem?_eq_getElem hi]
  exact h i hi
theorem pieces_succ {D : List Blk} {n : Blk} {k : Nat} (hk : k < D.length) : piecesOf (D.take (k + 1)) n = piecesOf (D.take k) n + (if D[k].u == n.nu then 1 else 0) := by
  rw [List.take_succ_eq_append_getElem hk, piecesOf, List.countP_append]
  by_cases h : (D[k].u == n.nu) = true <;> simp [piecesOf, h]
theorem pieces_le (D : List Blk) (n : Blk) (k : Nat) : piecesOf (D.take k) n ≤ k := Nat.le_trans List.countP_le_length (by rw [List.length_take]; omega)
theorem ofVal_form (L : List Blk) (u : Int) : ∃ (q : Blk) (ok : Bool), ofVal (ofUid L u) = .tuple #[.agg (nodeCells q), .bool ok] ∧ (match ofUid L u with | none => true | some p => !p.nd) = (!ok || !q.nd) := by
  cases ofUid L u with
  | none => exact ⟨Blk.none, false, rfl, rfl⟩
  | some p => exact ⟨p, true, rfl, by simp⟩
set_option maxRecDepth 20000 in
set_option maxHeartbeats 8000000 in
theorem l4Shape_any (a a' : Option Addr) (c c' : Nat) (L M : List VerA) (w : World) (h : VersAt w a L) (h2 : VersAt w a' M) (hn : L.length ≤ 1048576) (hm : M.length ≤ 1048576) :
    Calls Tryz.prog 65 #[.slice a L.length c, .slice a' M.length c'] w fun r w' => r = .returned (.bool (shapeB (blks L) (blks M))) ∧ Below w.heap.size w w' := by
  have H := hide h
  have H2 := hide h2
  have hbl : (blks L).length = L.length := by simp [blks]
  have hbm : (blks M).length = M.length := by simp [blks]
  have HBL := hide hbl
  have HBM := hide hbm
  clear hbl hbm h h2
  go_enter Tryz.func65, Tryz.ntmps65
  go_wp2_with fail
  go_loopw [5] (fun s5 wr => ∃ (i : Nat), i ≤ L.length ∧ s5 = .int .i64 i ∧ Hid (Below w.heap.size w wr) ∧ Hid (∀ j (hj : j < i) (hl : j < (blks L).length), okNode (blks L) (blks M) j (blks L)[j] = true)) (fun s5 _ => L.length - (intOf s5).toNat)
  case atStart => exact ⟨0, Nat.zero_le _, rfl, Below.refl _ _, fun j hj => absurd hj (Nat.not_lt_zero j)⟩
  case round =>
    obtain ⟨i, hi, rfl, HB, HI⟩ := hrel
    by_cases hlt : i < L.length
    case neg =>
      have hlt' : ¬ (i : Int) < L.length := by omega
      have HV : Hid (shapeB (blks L) (blks M) = true) := shapeB_true (fun j hj => unhide HI j (by have := unhide HBL; omega) hj)
      clear HI
      go_wp2_with fail
      go_ret
      exact ⟨by (rw [unhide HV]) <;> rfl, unhide HB⟩
    have hlt' : (i : Int) < L.length := by omega
    obtain ⟨b, o, ea, hbb, hcc⟩ := ((unhide H).below (unhide HB)).at hlt
    have hxi := hcc i hlt
    have hgi : (blks L)[i]'(by have := unhide HBL; omega) = L[i].x.b := by simp [blks]
    have HGI := hide hgi
    clear hcc hgi
    generalize L[i] = x at *
    have x5 : wr.cell? ⟨b, o + i * 11 + 5, none⟩ = some (.int .i64 x.x.b.nu) := hxi 5 _ rfl
    have x6 : wr.cell? ⟨b, o + i * 11 + 6, none⟩ = some (.bool x.x.b.nd) := hxi 6 _ rfl
    have x7 : wr.cell? ⟨b, o + i * 11 + 7, none⟩ = some (.int .i64 x.x.b.np) := hxi 7 _ rfl
    have x8 : wr.cell? ⟨b, o + i * 11 + 8, none⟩ = some (.string x.x.b.nn) := hxi 8 _ rfl
    have x9 : wr.cell? ⟨b, o + i * 11 + 9, none⟩ = some (.int .i64 x.x.b.ns) := hxi 9 _ rfl
    clear hxi
    generalize x.x.b = n at *
    clear x
    have HNO : Hid (okNode (blks L) (blks M) i n = false → shapeB (blks L) (blks M) = false) := fun hh => shapeB_false (i := i) (by have := unhide HBL; omega) (by rw [unhide HGI]; exact hh)
    have HOK : Hid (okNode (blks L) (blks M) i n = true → ∀ j (hj : j < i + 1) (hl : j < (blks L).length), okNode (blks L) (blks M) j (blks L)[j] = true) := fun hh j hj hl => by
      by_cases e : j = i
      · subst e; rw [unhide HGI]; exact hh
      · exact unhide HI j (by omega) hl
    clear HI HGI
    have hsz0 := (unhide HB).size
    obtain ⟨W, hW, hWz, HBW, HXW⟩ := boxes1 wr [.int .i64 n.nu, .bool n.nd, .int .i64 n.np, .string n.nn, .int .i64 n.ns] 42
    have HBW2 := hide (below_step (unhide HB) (unhide HBW) hsz0)
    subst ea
    go_wp2_with fail
    rw [← hW]
    clear hW x5 x6 x7 x8 x9
    refine (l4Of_any _ c L n.np W ((unhide H).below (unhide HBW2)) hn).mono ?_
    rintro r w2 ⟨hr, hb2⟩
    obtain ⟨q, ok, hq, hbad⟩ := ofVal_form (blks L) n.np
    rw [hq] at hr
    simp only [nodeCells] at hr
    subst hr
    have HBD : Hid (badPar (blks L) n = ((n.np != 0) && (!ok || !q.nd))) := by rw [Hid, badPar, hbad]
    clear hq hbad
    have hsz1 := hb2.size
    have HB2 := hide hb2
    clear hb2
    obtain ⟨W2, hW2, hW2z, HBV, HXV⟩ := boxes1 w2 [.int .i64 q.nu, .bool q.nd, .int .i64 q.np, .string q.nn, .int .i64 q.ns] 42
    have HWW2 : Hid (Below W.heap.size W W2) := below_step (unhide HB2) (unhide HBV) hsz1
    have HB3 : Hid (Below w.heap.size w W2) := below_step (unhide HBW2) (unhide HWW2) (unhide HBW2).size
    have HXN : Hid (Box W2 wr.heap.size [.int .i64 n.nu, .bool n.nd, .int .i64 n.np, .string n.nn, .int .i64 n.ns] 42) := (unhide HXW).below (unhide HWW2)
    clear HBW HB2 HBV HWW2 HXW HBW2
    have hgW : wr.heap.size < W2.heap.size := (unhide HXN).lt
    obtain ⟨g, hg⟩ : ∃ g, g = wr.heap.size := ⟨_, rfl⟩
    have hgw : w.heap.size ≤ g := by omega
    go_upto_region 6 with fail
    rw [← hW2]
    rw [← hg]
    rw [← hg] at HXN hgW
    clear hW2 hg
    have n0 : W2.cell? ⟨g, 0, none⟩ = some (.int .i64 n.nu) := (unhide HXN).cell 0
    have n2 : W2.cell? ⟨g, 2, none⟩ = some (.int .i64 n.np) := (unhide HXN).cell 2
    have p1 : W2.cell? ⟨w2.heap.size, 1, none⟩ = some (.bool q.nd) := (unhide HXV).cell 1
    cases hz : (n.np != 0)
    · as_aux_lemma =>
        have HBF : Hid (badPar (blks L) n = false) := by rw [Hid, unhide HBD, hz]; rfl
        clear HBD
        go_wp2_with fail
        refine (l4Depth_any _ c L n.nu W2 ((unhide H).below (unhide HB3)) hn).mono ?_
        rintro r w3 ⟨rfl, hb3⟩
        have HB4 := hide (below_step (unhide HB3) hb3 (unhide HB3).size)
        have HXM := hide ((unhide HXN).below hb3)
        have hsz3 := hb3.size
        clear hb3 n0 n2 p1 HXN HXV HB3
        obtain ⟨dv, hdv⟩ : ∃ dv, dv = depthB (blks L) 5 0 n.nu := ⟨_, rfl⟩
        rw [← hdv]
        by_cases hd : dv < 0
        · have HV : Hid (shapeB (blks L) (blks M) = false) := unhide HNO (by rw [okNode, ← hdv, decide_eq_true hd]; simp)
          clear HNO HOK HBF hdv
          have hdb : decide (dv < 0) = true := decide_eq_true hd
          go_wp2_with fail
          go_ret
          exact ⟨by (rw [unhide HV]) <;> rfl, unhide HB4⟩
        have hdb : decide (dv < 0) = false := decide_eq_false hd
        have HOKE : Hid (okNode (blks L) (blks M) i n = (!(((blks L).take i).any (sameName n)) && decide ((piecesOf (blks M) n : Int) = n.ns))) := by rw [Hid, okNode, unhide HBF, ← hdv, hdb]; rfl
        clear HBF hdv
        have hg3 : g < w3.heap.size := by omega
        go_wp2_with fail
        go_loopw [9] (fun s9 wv => ∃ (k : Nat), k ≤ i ∧ s9 = .int .i64 k ∧ Hid (Below w.heap.size w wv) ∧ Hid (Box wv g [.int .i64 n.nu, .bool n.nd, .int .i64 n.np, .string n.nn, .int .i64 n.ns] 42) ∧ Hid (((blks L).take k).any (sameName n) = false)) (fun s9 _ => i - (intOf s9).toNat)
        case atStart => exact ⟨0, Nat.zero_le _, rfl, HB4, HXM, rfl⟩
        case round =>
          clear HB4 HXM
          obtain ⟨k, hk, rfl, HB5, HX5, HK⟩ := hrel
          by_cases hkl : k < i
          · have hkl' : (k : Int) < i := by omega
            have hkL : k < L.length := by omega
            have hkL' : (k : Int) < L.length := by omega
            obtain ⟨b, o, ea, hbb, hcc⟩ := ((unhide H).below (unhide HB5)).at hkL
            have hxk := hcc k hkL
            have hgk : (blks L)[k]'(by have := unhide HBL; omega) = L[k].x.b := by simp [blks]
            have HGK := hide hgk
            clear hcc hgk
            generalize L[k] = y at *
            have y5 : wr.cell? ⟨b, o + k * 11 + 5, none⟩ = some (.int .i64 y.x.b.nu) := hxk 5 _ rfl
            have y6 : wr.cell? ⟨b, o + k * 11 + 6, none⟩ = some (.bool y.x.b.nd) := hxk 6 _ rfl
            have y7 : wr.cell? ⟨b, o + k * 11 + 7, none⟩ = some (.int .i64 y.x.b.np) := hxk 7 _ rfl
            have y8 : wr.cell? ⟨b, o + k * 11 + 8, none⟩ = some (.string y.x.b.nn) := hxk 8 _ rfl
            have y9 : wr.cell? ⟨b, o + k * 11 + 9, none⟩ = some (.int .i64 y.x.b.ns) := hxk 9 _ rfl
            clear hxk
            generalize y.x.b = m at *
            clear y
            have n2 : wr.cell? ⟨g, 2, none⟩ = some (.int .i64 n.np) := (unhide HX5).cell 2
            have n3 : wr.cell? ⟨g, 3, none⟩ = some (.string n.nn) := (unhide HX5).cell 3
            have hgv : g < wr.heap.size := (unhide HX5).lt
            have hbw : w.heap.size ≤ wr.heap.size := (unhide HB5).size
            have HSN : Hid (sameName n m = true → shapeB (blks L) (blks M) = false) := fun hh => unhide HNO (by
              rw [unhide HOKE]
              have : ((blks L).take i).any (sameName n) = true := by
                rw [List.any_eq_true]
                exact ⟨m, by rw [List.mem_take_iff_getElem]; exact ⟨k, by have := unhide HBL; omega, unhide HGK⟩, hh⟩
              rw [this]; rfl)
            have HNX : Hid (sameName n m = false → ((blks L).take (k + 1)).any (sameName n) = false) := fun hh => any_take_succ (by have := unhide HBL; omega) (unhide HK) (by rw [unhide HGK]; exact hh)
            clear HK HGK HNO HOK HOKE
            cases ea
            have HB6 := hide ((unhide HB5).alloc hbw (.cells #[.int .i64 m.nu, .bool m.nd, .int .i64 m.np, .string m.nn, .int .i64 m.ns] 42))
            have HX6 := hide ((unhide HX5).alloc (.cells #[.int .i64 m.nu, .bool m.nd, .int .i64 m.np, .string m.nn, .int .i64 m.ns] 42))
            by_cases hp : m.np = n.np
            case neg =>
              have hpb : (m.np == n.np) = false := by simpa using hp
              have HF := hide (unhide HNX (by rw [sameName, hpb]; rfl))
              clear HNX HSN hp HB5 HX5
              go_wp2_with fail
              go_roundw
              case rel => exact ⟨k + 1, by omega, by go_num, HB6, HX6, HF⟩
              case measure => simp [intOf]; omega
            have hpb : (m.np == n.np) = true := by simpa using hp
            have HPB := hide hpb
            clear hp
            cases hs : (m.nn.toList == n.nn.toList)
            · have HF := hide (unhide HNX (by rw [sameName, unhide HPB, hs]; rfl))
              clear HNX HSN HB5 HX5 HPB
              go_wp2_with fail
              go_roundw
              case rel => exact ⟨k + 1, by omega, by go_num, HB6, HX6, HF⟩
              case measure => simp [intOf]; omega
            · have HV := hide (unhide HSN (by rw [sameName, unhide HPB, hs]; rfl))
              clear HNX HSN HB5 HX5 HPB HX6
              go_wp2_with fail
              go_ret
              exact ⟨by (rw [unhide HV]) <;> rfl, unhide HB6⟩
          have hkl' : ¬ (k : Int) < i := by omega
          have hke : k = i := by omega
          subst hke
          have HOKF : Hid (okNode (blks L) (blks M) k n = decide ((piecesOf (blks M) n : Int) = n.ns)) := by rw [Hid, unhide HOKE, unhide HK]; rfl
          clear HOKE HK
          go_wp2_with fail
          have n0 : wr.cell? ⟨g, 0, none⟩ = some (.int .i64 n.nu) := (unhide HX5).cell 0
          have n4 : wr.cell? ⟨g, 4, none⟩ = some (.int .i64 n.ns) := (unhide HX5).cell 4
          have hgv : g < wr.heap.size := (unhide HX5).lt
          have HM2 : Hid (VersAt wr a' M) := (unhide H2).below (unhide HB5)
          clear HX5
          go_loopw [11, 12] (fun s11 s12 wz => ∃ (e p m : Nat), e ≤ M.length ∧ s12 = .int .i64 e ∧ s11 = .int .i64 p ∧ wz = wr.drewN m ∧ p ≤ e ∧ Hid (piecesOf ((blks M).take e) n = p)) (fun _ s12 _ => M.length - (intOf s12).toNat)
          case atStart => exact ⟨0, 0, 0, Nat.zero_le _, rfl, rfl, rfl, Nat.le_refl _, rfl⟩
          case round =>
            obtain ⟨e, p, m, he, rfl, rfl, rfl, hpe, HP⟩ := hrel
            by_cases hel : e < M.length
            case neg =>
              have hel' : ¬ (e : Int) < M.length := by omega
              have HPP : Hid ((piecesOf (blks M) n : Int) = (p : Int)) := by
                have := unhide HP
                rw [List.take_of_length_le (by have := unhide HBM; omega)] at this
                rw [Hid, this]
              clear HP
              by_cases hns : (p : Int) = n.ns
              · have hnb : ((p : Int) != n.ns) = false := by simpa using hns
                have HO2 := hide (unhide HOK (by rw [unhide HOKF, unhide HPP]; exact decide_eq_true hns))
                clear HOK HNO HOKF HPP hns HM2
                go_wp2_with fail
                go_roundw
                case rel => exact ⟨k + 1, by omega, by go_num, below_drewN (unhide HB5) _, HO2⟩
                case measure => simp [intOf]; omega
              · have hnb : ((p : Int) != n.ns) = true := by simpa using hns
                have HV := hide (unhide HNO (by rw [unhide HOKF, unhide HPP]; exact decide_eq_false hns))
                clear HOK HNO HOKF HPP hns HM2
                go_wp2_with fail
                go_ret
                exact ⟨by (rw [unhide HV]) <;> rfl, below_drewN (unhide HB5) _⟩
            have hel' : (e : Int) < M.length := by omega
            obtain ⟨b, o, ea, hbb, hcc⟩ := (unhide HM2).at hel
            have hxe := hcc e hel
            have hge : (blks M)[e]'(by have := unhide HBM; omega) = M[e].x.b := by simp [blks]
            have HP3 : Hid (piecesOf ((blks M).take (e + 1)) n = p + (if M[e].x.b.u == n.nu then 1 else 0)) := by rw [Hid, pieces_succ (by have := unhide HBM; omega), unhide HP, hge]
            clear hcc hge HP
            generalize M[e] = y at *
            have y2 : wr.cell? ⟨b, o + e * 11 + 2, none⟩ = some (.int .i64 y.x.b.u) := hxe 2 _ rfl
            clear hxe
            generalize y.x.b.u = u at *
            clear y
            subst ea
            clear HNO HOK HOKF
            cases hu : (u == n.nu)
            · have HP4 : Hid (piecesOf ((blks M).take (e + 1)) n = p) := by rw [Hid, unhide HP3, hu]; rfl
              clear HP3
              go_wp2_with fail
              go_quiet (fail)
              go_wp2_with fail
              go_roundw
              case rel => exact ⟨e + 1, p, _, by omega, by go_num, rfl, rfl, by omega, HP4⟩
              case measure => simp [intOf]; omega
            · have HP4 : Hid (piecesOf ((blks M).take (e + 1)) n = p + 1) := by rw [Hid, unhide HP3, hu]; rfl
              clear HP3
              go_wp2_with fail
              go_quiet (fail)
              go_wp2_with fail
              go_roundw
              case rel => exact ⟨e + 1, p + 1, _, by omega, by go_num, by go_num, rfl, by omega, HP4⟩
              case measure => simp [intOf]; omega
    cases ok
    · as_aux_lemma =>
        have HV : Hid (shapeB (blks L) (blks M) = false) := unhide HNO (by rw [okNode, unhide HBD, hz]; rfl)
        clear HNO HOK HBD
        go_wp2_with fail
        go_ret
        exact ⟨by (rw [unhide HV]) <;> rfl, unhide HB3⟩
    cases hqd : q.nd
    · as_aux_lemma =>
        have HV : Hid (shapeB (blks L) (blks M) = false) := unhide HNO (by rw [okNode, unhide HBD, hz, hqd]; rfl)
        clear HNO HOK HBD
        go_wp2_with fail
        go_ret
        exact ⟨by (rw [unhide HV]) <;> rfl, unhide HB3⟩
    · as_aux_lemma =>
        have HBF : Hid (badPar (blks L) n = false) := by rw [Hid, unhide HBD, hz, hqd]; rfl
        clear HBD
        go_wp2_with fail
        refine (l4Depth_any _ c L n.nu W2 ((unhide H).below (unhide HB3)) hn).mono ?_
        rintro r w3 ⟨rfl, hb3⟩
        have HB4 := hide (below_step (unhide HB3) hb3 (unhide HB3).size)
        have HXM := hide ((unhide HXN).below hb3)
        have hsz3 := hb3.size
        clear hb3 n0 n2 p1 HXN HXV HB3
        obtain ⟨dv, hdv⟩ : ∃ dv, dv = depthB (blks L) 5 0 n.nu := ⟨_, rfl⟩
        rw [← hdv]
        by_cases hd : dv < 0
        · have HV : Hid (shapeB (blks L) (blks M) = false) := unhide HNO (by rw [okNode, ← hdv, decide_eq_true hd]; simp)
          clear HNO HOK HBF hdv
          have hdb : decide (dv < 0) = true := decide_eq_true hd
          go_wp2_with fail
          go_ret
          exact ⟨by (rw [unhide HV]) <;> rfl, unhide HB4⟩
        have hdb : decide (dv < 0) = false := decide_eq_false hd
        have HOKE : Hid (okNode (blks L) (blks M) i n = (!(((blks L).take i).any (sameName n)) && decide ((piecesOf (blks M) n : Int) = n.ns))) := by rw [Hid, okNode, unhide HBF, ← hdv, hdb]; rfl
        clear HBF hdv
        have hg3 : g < w3.heap.size := by omega
        go_wp2_with fail
        go_loopw [9] (fun s9 wv => ∃ (k : Nat), k ≤ i ∧ s9 = .int .i64 k ∧ Hid (Below w.heap.size w wv) ∧ Hid (Box wv g [.int .i64 n.nu, .bool n.nd, .int .i64 n.np, .string n.nn, .int .i64 n.ns] 42) ∧ Hid (((blks L).take k).any (sameName n) = false)) (fun s9 _ => i - (intOf s9).toNat)
        case atStart => exact ⟨0, Nat.zero_le _, rfl, HB4, HXM, rfl⟩
        case round =>
          clear HB4 HXM
          obtain ⟨k, hk, rfl, HB5, HX5, HK⟩ := hrel
          by_cases hkl : k < i
          · have hkl' : (k : Int) < i := by omega
            have hkL : k < L.length := by omega
            have hkL' : (k : Int) < L.length := by omega
            obtain ⟨b, o, ea, hbb, hcc⟩ := ((unhide H).below (unhide HB5)).at hkL
            have hxk := hcc k hkL
            have hgk : (blks L)[k]'(by have := unhide HBL; omega) = L[k].x.b := by simp [blks]
            have HGK := hide hgk
            clear hcc hgk
            generalize L[k] = y at *
            have y5 : wr.cell? ⟨b, o + k * 11 + 5, none⟩ = some (.int .i64 y.x.b.nu) := hxk 5 _ rfl
            have y6 : wr.cell? ⟨b, o + k * 11 + 6, none⟩ = some (.bool y.x.b.nd) := hxk 6 _ rfl
            have y7 : wr.cell? ⟨b, o + k * 11 + 7, none⟩ = some (.int .i64 y.x.b.np) := hxk 7 _ rfl
            have y8 : wr.cell? ⟨b, o + k * 11 + 8, none⟩ = some (.string y.x.b.nn) := hxk 8 _ rfl
            have y9 : wr.cell? ⟨b, o + k * 11 + 9, none⟩ = some (.int .i64 y.x.b.ns) := hxk 9 _ rfl
            clear hxk
            generalize y.x.b = m at *
            clear y
            have n2 : wr.cell? ⟨g, 2, none⟩ = some (.int .i64 n.np) := (unhide HX5).cell 2
            have n3 : wr.cell? ⟨g, 3, none⟩ = some (.string n.nn) := (unhide HX5).cell 3
            have hgv : g < wr.heap.size := (unhide HX5).lt
            have hbw : w.heap.size ≤ wr.heap.size := (unhide HB5).size
            have HSN : Hid (sameName n m = true → shapeB (blks L) (blks M) = false) := fun hh => unhide HNO (by
              rw [unhide HOKE]
              have : ((blks L).take i).any (sameName n) = true := by
                rw [List.any_eq_true]
                exact ⟨m, by rw [List.mem_take_iff_getElem]; exact ⟨k, by have := unhide HBL; omega, unhide HGK⟩, hh⟩
              rw [this]; rfl)
            have HNX : Hid (sameName n m = false → ((blks L).take (k + 1)).any (sameName n) = false) := fun hh => any_take_succ (by have := unhide HBL; omega) (unhide HK) (by rw [unhide HGK]; exact hh)
            clear HK HGK HNO HOK HOKE
            cases ea
            have HB6 := hide ((unhide HB5).alloc hbw (.cells #[.int .i64 m.nu, .bool m.nd, .int .i64 m.np, .string m.nn, .int .i64 m.ns] 42))
            have HX6 := hide ((unhide HX5).alloc (.cells #[.int .i64 m.nu, .bool m.nd, .int .i64 m.np, .string m.nn, .int .i64 m.ns] 42))
            by_cases hp : m.np = n.np
            case neg =>
              have hpb : (m.np == n.np) = false := by simpa using hp
              have HF := hide (unhide HNX (by rw [sameName, hpb]; rfl))
              clear HNX HSN hp HB5 HX5
              go_wp2_with fail
              go_roundw
              case rel => exact ⟨k + 1, by omega, by go_num, HB6, HX6, HF⟩
              case measure => simp [intOf]; omega
            have hpb : (m.np == n.np) = true := by simpa using hp
            have HPB := hide hpb
            clear hp
            cases hs : (m.nn.toList == n.nn.toList)
            · have HF := hide (unhide HNX (by rw [sameName, unhide HPB, hs]; rfl))
              clear HNX HSN HB5 HX5 HPB
              go_wp2_with fail
              go_roundw
              case rel => exact ⟨k + 1, by omega, by go_num, HB6, HX6, HF⟩
              case measure => simp [intOf]; omega
            · have HV := hide (unhide HSN (by rw [sameName, unhide HPB, hs]; rfl))
              clear HNX HSN HB5 HX5 HPB HX6
              go_wp2_with fail
              go_ret
              exact ⟨by (rw [unhide HV]) <;> rfl, unhide HB6⟩
          have hkl' : ¬ (k : Int) < i := by omega
          have hke : k = i := by omega
          subst hke
          have HOKF : Hid (okNode (blks L) (blks M) k n = decide ((piecesOf (blks M) n : Int) = n.ns)) := by rw [Hid, unhide HOKE, unhide HK]; rfl
          clear HOKE HK
          go_wp2_with fail
          have n0 : wr.cell? ⟨g, 0, none⟩ = some (.int .i64 n.nu) := (unhide HX5).cell 0
          have n4 : wr.cell? ⟨g, 4, none⟩ = some (.int .i64 n.ns) := (unhide HX5).cell 4
          have hgv : g < wr.heap.size := (unhide HX5).lt
          have HM2 : Hid (VersAt wr a' M) := (unhide H2).below (unhide HB5)
          clear HX5
          go_loopw [11, 12] (fun s11 s12 wz => ∃ (e p m : Nat), e ≤ M.length ∧ s12 = .int .i64 e ∧ s11 = .int .i64 p ∧ wz = wr.drewN m ∧ p ≤ e ∧ Hid (piecesOf ((blks M).take e) n = p)) (fun _ s12 _ => M.length - (intOf s12).toNat)
          case atStart => exact ⟨0, 0, 0, Nat.zero_le _, rfl, rfl, rfl, Nat.le_refl _, rfl⟩
          case round =>
            obtain ⟨e, p, m, he, rfl, rfl, rfl, hpe, HP⟩ := hrel
            by_cases hel : e < M.length
            case neg =>
              have hel' : ¬ (e : Int) < M.length := by omega
              have HPP : Hid ((piecesOf (blks M) n : Int) = (p : Int)) := by
                have := unhide HP
                rw [List.take_of_length_le (by have := unhide HBM; omega)] at this
                rw [Hid, this]
              clear HP
              by_cases hns : (p : Int) = n.ns
              · have hnb : ((p : Int) != n.ns) = false := by simpa using hns
                have HO2 := hide (unhide HOK (by rw [unhide HOKF, unhide HPP]; exact decide_eq_true hns))
                clear HOK HNO HOKF HPP hns HM2
                go_wp2_with fail
                go_roundw
                case rel => exact ⟨k + 1, by omega, by go_num, below_drewN (unhide HB5) _, HO2⟩
                case measure => simp [intOf]; omega
              · have hnb : ((p : Int) != n.ns) = true := by simpa using hns
                have HV := hide (unhide HNO (by rw [unhide HOKF, unhide HPP]; exact decide_eq_false hns))
                clear HOK HNO HOKF HPP hns HM2
                go_wp2_with fail
                go_ret
                exact ⟨by (rw [unhide HV]) <;> rfl, below_drewN (unhide HB5) _⟩
            have hel' : (e : Int) < M.length := by omega
            obtain ⟨b, o, ea, hbb, hcc⟩ := (unhide HM2).at hel
            have hxe := hcc e hel
            have hge : (blks M)[e]'(by have := unhide HBM; omega) = M[e].x.b := by simp [blks]
            have HP3 : Hid (piecesOf ((blks M).take (e + 1)) n = p + (if M[e].x.b.u == n.nu then 1 else 0)) := by rw [Hid, pieces_succ (by have := unhide HBM; omega), unhide HP, hge]
            clear hcc hge HP
            generalize M[e] = y at *
            have y2 : wr.cell? ⟨b, o + e * 11 + 2, none⟩ = some (.int .i64 y.x.b.u) := hxe 2 _ rfl
            clear hxe
            generalize y.x.b.u = u at *
            clear y
            subst ea
            clear HNO HOK HOKF
            cases hu : (u == n.nu)
            · have HP4 : Hid (piecesOf ((blks M).take (e + 1)) n = p) := by rw [Hid, unhide HP3, hu]; rfl
              clear HP3
              go_wp2_with fail
              go_quiet (fail)
              go_wp2_with fail
              go_roundw
              case rel => exact ⟨e + 1, p, _, by omega, by go_num, rfl, rfl, by omega, HP4⟩
              case measure => simp [intOf]; omega
            · have HP4 : Hid (piecesOf ((blks M).take (e + 1)) n = p + 1) := by rw [Hid, unhide HP3, hu]; rfl
              clear HP3
              go_wp2_with fail
              go_quiet (fail)
              go_wp2_with fail
              go_roundw
              case rel => exact ⟨e + 1, p + 1, _, by omega, by go_num, by go_num, rfl, by omega, HP4⟩
              case measure => simp [intOf]; omega
end Go.Proofs.YtiopofemelninaaGreat
/-
  What the specification's l4Newest answers.
-/
namespace Go.Proofs.YtiopofemelninaaGreat
open Go.RowKit
set_option linter.unusedVariables false

def keyV (x : VerA) : Int := keyOfB x.x.b
/-- Where a key goes in. -/
def posIn (K : Int) (out : List VerA) : Nat := (out.takeWhile fun y => decide (keyV y < K)).length
def insNew (out : List VerA) (x : VerA) : List VerA :=
  match out[posIn (keyV x) out]? with
  | none => out.take (posIn (keyV x) out) ++ x :: out.drop (posIn (keyV x) out)
  | some y => if keyV y = keyV x then (if y.x.b.e < x.x.b.e then out.set (posIn (keyV x) out) x else out) else out.take (posIn (keyV x) out) ++ x :: out.drop (posIn (keyV x) out)
def newestStep (clock : Int) (out : List VerA) (x : VerA) : List VerA := if x.x.b.e ≤ clock - 2 then insNew out x else out
/-- The newest version of each thing, in the order of the keys. -/
def newestOf (clock : Int) (L : List VerA) : List VerA := L.foldl (newestStep clock) []
theorem newest_succ {clock : Int} {L : List VerA} {i : Nat} (hi : i < L.length) : newestOf clock (L.take (i + 1)) = newestStep clock (newestOf clock (L.take i)) L[i] := by
  rw [List.take_succ_eq_append_getElem hi, newestOf, List.foldl_append]; rfl
theorem posIn_at {K : Int} : ∀ {out : List VerA} {k : Nat} (hk : k ≤ out.length) (hlt : ∀ j (hj : j < k), keyV (out[j]'(by omega)) < K) (hge : ∀ (h : k < out.length), ¬ keyV out[k] < K), posIn K out = k
  | [], k, hk, _, _ => by simp at hk; subst hk; rfl
  | y :: out, 0, _, _, hge => by
    have := hge (by simp)
    simp at this
    simp [posIn, this]
  | y :: out, k + 1, hk, hlt, hge => by
    have h0 := hlt 0 (by omega)
    simp at h0
    have ih := posIn_at (K := K) (out := out) (k := k) (by simpa using hk) (fun j hj => by simpa using hlt (j + 1) (by omega)) (fun h => hge (Nat.succ_lt_succ h))
    unfold posIn at ih ⊢
    rw [List.takeWhile_cons, if_pos (by simpa using h0), List.length_cons, ih]
theorem insNew_in {out : List VerA} {x : VerA} {k : Nat} (hp : posIn (keyV x) out = k) (hn : ∀ (h : k < out.length), ¬ keyV out[k] = keyV x) : insNew out x = out.take k ++ x :: out.drop k := by
  unfold insNew
  rw [hp]
  by_cases h : k < out.length
  · rw [List.getElem?_eq_getElem h]; simp [hn h]
  · rw [List.getElem?_eq_none (by omega)]
theorem insNew_set {out : List VerA} {x : VerA} {k : Nat} (hp : posIn (keyV x) out = k) (h : k < out.length) (he : keyV out[k] = keyV x) : insNew out x = if out[k].x.b.e < x.x.b.e then out.set k x else out := by
  unfold insNew
  rw [hp, List.getElem?_eq_getElem h]; simp [he]
theorem insNew_mem {out : List VerA} {x y : VerA} (h : y ∈ insNew out x) : y ∈ out ∨ y = x := by
  unfold insNew at h
  have hin : ∀ k, y ∈ out.take k ++ x :: out.drop k → y ∈ out ∨ y = x := fun k h => by
    rw [List.mem_append, List.mem_cons] at h
    rcases h with h | h | h
    · exact .inl (List.mem_of_mem_take h)
    · exact .inr h
    · exact .inl (List.mem_of_mem_drop h)
  split at h
  · exact hin _ h
  · split at h
    · split at h
      · rcases List.mem_or_eq_of_mem_set h with h | h
        · exact .inl h
        · exact .inr h
      · exact .inl h
    · exact hin _ h
theorem newest_mem {clock : Int} {L : List VerA} : ∀ {i : Nat}, i ≤ L.length → ∀ {y}, y ∈ newestOf clock (L.take i) → y ∈ L.take i ∧ y.x.b.e ≤ clock - 2
  | 0, _, y, h => by simp [newestOf] at h
  | i + 1, hi, y, h => by
    rw [newest_succ (by omega)] at h
    have ht := List.take_succ_eq_append_getElem (l := L) (i := i) (by omega)
    rw [ht]
    unfold newestStep at h
    split at h
    · rename_i he
      rcases insNew_mem h with h | rfl
      · have := newest_mem (i := i) (by omega) h
        exact ⟨List.mem_append_left _ this.1, this.2⟩
      · exact ⟨List.mem_append_right _ (List.mem_singleton.2 rfl), he⟩
    · have := newest_mem (i := i) (by omega) h
      exact ⟨List.mem_append_left _ this.1, this.2⟩
theorem insNew_len (out : List VerA) (x : VerA) : (insNew out x).length ≤ out.length + 1 := by
  unfold insNew
  have hin : ∀ k, (out.take k ++ x :: out.drop k).length = out.length + 1 := fun k => by
    simp; omega
  split
  · rw [hin]; exact Nat.le_refl _
  · split
    · split
      · simp
      · omega
    · rw [hin]; exact Nat.le_refl _
theorem newest_len {clock : Int} {L : List VerA} : ∀ {i : Nat}, i ≤ L.length → (newestOf clock (L.take i)).length ≤ i
  | 0, _ => by simp [newestOf]
  | i + 1, hi => by
    rw [newest_succ (by omega)]
    have ih := newest_len (clock := clock) (L := L) (i := i) (by omega)
    unfold newestStep
    split
    · exact Nat.le_trans (insNew_len _ _) (by omega)
    · omega
theorem vflat_one (L : List VerA) : ∀ u ∈ vflat L, u.oneCell' = true := by
  intro u hu
  rw [vflat, List.mem_flatMap] at hu
  obtain ⟨x, _, hx⟩ := hu
  exact VerA.one x u hx
theorem own_vers {w : World} {base g n c : Nat} {out : List VerA} (hn : out.length = n) (h : w.ownsRow base 46 11 (.slice (some ⟨g, 0, none⟩) n c) n (vflat out)) : ∀ i (hi : i < out.length), ∀ j v, (out[i].cells)[j]? = some v → w.cell? ⟨g, i * 11 + j, none⟩ = some v := fun i hi j v hv => by
  have hl : (out[i].cells).length = 11 := rfl
  have hj := (List.getElem?_eq_some_iff.1 hv).1
  rw [h.cellAt (i * 11 + j) (by omega)]
  exact vflat_at out i hi j v hv
theorem vflat_append (L M : List VerA) : vflat (L ++ M) = vflat L ++ vflat M := by simp [vflat]
theorem vflat_take {L : List VerA} {k : Nat} (h : k ≤ L.length) : vflat (L.take k) = (vflat L).take (k * 11) := by
  conv => rhs; rw [← List.take_append_drop k L, vflat_append]
  rw [List.take_left']
  rw [vflat_len, List.length_take, Nat.min_eq_left h]
theorem vflat_drop {L : List VerA} {k : Nat} (h : k ≤ L.length) : vflat (L.drop k) = (vflat L).drop (k * 11) := by
  conv => rhs; rw [← List.take_append_drop k L, vflat_append]
  rw [List.drop_left']
  rw [vflat_len, List.length_take, Nat.min_eq_left h]
theorem vflat_cons (x : VerA) (L : List VerA) : vflat (x :: L) = x.cells ++ vflat L := by simp [vflat]
theorem vflat_set (L : List VerA) (k : Nat) (x : VerA) (h : k < L.length) : vflat (L.set k x) = (vflat L).take (k * 11) ++ x.cells ++ (vflat L).drop (k * 11 + 11) := by
  rw [List.set_eq_take_append_cons_drop, if_pos h, vflat_append, vflat_cons, vflat_take (by omega), vflat_drop (by omega), List.append_assoc, show (k + 1) * 11 = k * 11 + 11 by omega]
theorem set_take {C X : List Value} {N K : Nat} (hX : X.length = 11) (h : K + 11 ≤ N) (hC : N ≤ C.length) : (C.take K ++ X ++ C.drop (K + 11)).take N = (C.take N).take K ++ X ++ (C.take N).drop (K + 11) := by
  have e1 : (C.take N).take K = C.take K := by rw [List.take_take, Nat.min_eq_left (by omega)]
  have hl : (C.take K ++ X).length = K + 11 := by rw [List.length_append, List.length_take, hX]; omega
  rw [e1, List.drop_take, List.take_append, List.take_of_length_le (by omega), hl]
theorem own_set {w : World} {base g n c : Nat} {out : List VerA} {k : Nat} {x : VerA} (hn : out.length = n) (hk : k < n) (h : w.ownsRow base 46 11 (.slice (some ⟨g, 0, none⟩) n c) n (vflat out)) :
    base ≤ g ∧ ∃ cur : List Value, Box w g cur 46 ∧ k * 11 + 11 ≤ cur.length ∧ ∀ w', Box w' g (cur.take (k * 11) ++ x.cells ++ cur.drop (k * 11 + 11)) 46 → w'.ownsRow base 46 11 (.slice (some ⟨g, 0, none⟩) n c) n (vflat (out.set k x)) := by
  rcases h.2 with ⟨h0, _⟩ | ⟨g', cap, cur, e, hb, hh, h1, h2, h3, h4⟩
  · cases h0
  cases e
  refine ⟨hb, cur.toList, by simpa [Box] using hh, by rw [Array.length_toList, h3]; omega, fun w' hw' => ?_⟩
  have hx : x.cells.length = 11 := rfl
  refine ⟨by rw [vflat_len, List.length_set, hn], .inr ⟨g, c, (cur.toList.take (k * 11) ++ x.cells ++ cur.toList.drop (k * 11 + 11)).toArray, rfl, hb, hw', h1, h2, ?_, ?_⟩⟩
  · simp only [List.size_toArray, List.length_append, List.length_take, List.length_drop, Array.length_toList, hx, h3]
    omega
  · rw [vflat_set out k x (by omega), ← h4]
    exact set_take hx (by omega) (by rw [Array.length_toList, h3]; omega)
theorem own_rowAt {w : World} {base g n c : Nat} {e : TypeId} {size : Nat} {xs : List Value} (h : w.ownsRow base e size (.slice (some ⟨g, 0, none⟩) n c) n xs) : RowAt w (some ⟨g, 0, none⟩) xs ∧ n ≤ c ∧ c ≤ maxLen := by
  obtain ⟨a, c', e1, hr, h2⟩ := rowAt_own h
  cases e1
  exact ⟨hr, h2⟩
theorem own_some {w : World} {base n : Nat} {e : TypeId} {size : Nat} {v : Value} {xs : List Value} (h : w.ownsRow base e size v n xs) (hn : 0 < n) : ∃ g c, v = .slice (some ⟨g, 0, none⟩) n c := by
  rcases h.2 with ⟨_, h0⟩ | ⟨g, cap, cur, e1, _⟩
  · omega
  · exact ⟨g, cap, e1⟩
theorem RowAt.take {w : World} {a : Option Addr} {xs : List Value} (h : RowAt w a xs) (n : Nat) : RowAt w a (xs.take n) := by
  rcases h with rfl | ⟨b, o, e, hb, hc⟩
  · exact .inl (by simp)
  · refine .inr ⟨b, o, e, hb, fun j u hj => hc j u ?_⟩
    rw [List.getElem?_take] at hj
    split at hj
    · exact hj
    · cases hj
theorem RowAt.drop {w : World} {b o : Nat} {xs : List Value} (h : RowAt w (some ⟨b, o, none⟩) xs) (n : Nat) : RowAt w (some ⟨b, o + n, none⟩) (xs.drop n) := by
  rcases h with rfl | ⟨b', o', e, hb, hc⟩
  · exact .inl (by simp)
  · cases e
    refine .inr ⟨b, o + n, rfl, hb, fun j u hj => ?_⟩
    rw [List.getElem?_drop] at hj
    rw [Nat.add_assoc]
    exact hc (n + j) u hj
set_option maxRecDepth 20000 in
set_option maxHeartbeats 8000000 in
theorem l4Newest_any (a : Option Addr) (c : Nat) (L : List VerA) (clock : Int) (w : World) (h : VersAt w a L) (hn : L.length ≤ 1000) (hc : 2 ≤ clock ∧ clock ≤ 9999) (hb : ∀ x ∈ L, (0 ≤ x.x.b.u ∧ x.x.b.u ≤ 999) ∧ 0 ≤ x.x.b.i ∧ x.x.b.i ≤ 3) :
    Calls Tryz.prog 62 #[.slice a L.length c, .int .i64 clock] w fun r w' => ((r = .returned (.tuple #[.slice none 0 0, .bool false]) ∧ sameVers clock (blks L) = true) ∨ ∃ g c', r = .returned (.tuple #[.slice (some ⟨g, 0, none⟩) (newestOf clock L).length c', .bool true]) ∧ w'.ownsRow w.heap.size 46 11 (.slice (some ⟨g, 0, none⟩) (newestOf clock L).length c') (newestOf clock L).length (vflat (newestOf clock L))) ∧ Below w.heap.size w w' := by
  obtain ⟨i0, hii, hz0, hz1, hz2⟩ := info_parts infoVer
  have H := hide h
  have HBd := hide hb
  have hw2 : IntKind.i64.wrap (clock - 2) = clock - 2 := by rw [IntKind.wrap_i64]; omega
  have HO0 : Hid ((w.alloc (.cells #[] 46)).ownsRow w.heap.size 46 11 (.slice (some ⟨w.heap.size, 0, none⟩) 0 0) 0 (vflat [])) := World.ownsRow_made (base := w.heap.size) (e := 46) (size := 11) w #[] 0 (Nat.le_refl _) (by unfold maxLen; omega) rfl
  clear h hb
  go_enter Tryz.func62, Tryz.ntmps62
  go_wp2_with fail
  go_loopw [6, 7] (fun s6 s7 wr => ∃ (i g vc : Nat) (out : List VerA), i ≤ L.length ∧ s7 = .int .i64 i ∧ s6 = .slice (some ⟨g, 0, none⟩) out.length vc ∧ out.length ≤ i ∧ Hid (out = newestOf clock (L.take i)) ∧ Hid (Below w.heap.size w wr) ∧ Hid (wr.ownsRow w.heap.size 46 11 (.slice (some ⟨g, 0, none⟩) out.length vc) out.length (vflat out))) (fun _ s7 _ => L.length - (intOf s7).toNat)
  case atStart => exact ⟨0, _, 0, [], Nat.zero_le _, rfl, rfl, Nat.le_refl _, rfl, (Below.refl _ _).alloc (Nat.le_refl _) _, HO0⟩
  case round =>
    clear HO0
    obtain ⟨i, g, vc, out, hi, rfl, rfl, hoi, HN, HB, HO⟩ := hrel
    by_cases hlt : i < L.length
    case neg =>
      have hlt' : ¬ (i : Int) < L.length := by omega
      go_wp2_with fail
      refine bodyPost_ret (v := .tuple #[.slice (some ⟨g, 0, none⟩) out.length vc, .bool true]) (by simp [results, Tryz.results62, go_sem]) rfl ⟨.inr ?_, unhide HB⟩
      have e : out = newestOf clock L := by rw [unhide HN, List.take_of_length_le (by omega)]
      rw [← e]
      exact ⟨g, vc, rfl, unhide HO⟩
    have hlt' : (i : Int) < L.length := by omega
    obtain ⟨b, o, ea, hbb, hcc⟩ := ((unhide H).below (unhide HB)).at hlt
    have hxi := hcc i hlt
    have hbi := unhide HBd _ (List.getElem_mem hlt)
    have HST : Hid (newestOf clock (L.take (i + 1)) = newestStep clock out L[i]) := by rw [Hid, newest_succ hlt, ← unhide HN]
    have HGL : Hid (∀ y ∈ out, hitV clock L[i].x.b y.x.b = true → sameVers clock (blks L) = true) := fun y hy hh => by
      rw [unhide HN] at hy
      obtain ⟨k, hk, e⟩ := List.mem_take_iff_getElem.1 (newest_mem hi hy).1
      have hk' : k < i := by omega
      refine sameVers_true (i := i) (k := k) hk' (by simp [blks]; omega) ?_
      simp only [blks, List.getElem_map, e]
      exact hh
    have HBO : Hid (∀ y ∈ out, (0 ≤ y.x.b.u ∧ y.x.b.u ≤ 999) ∧ 0 ≤ y.x.b.i ∧ y.x.b.i ≤ 3) := fun y hy => by
      rw [unhide HN] at hy
      exact unhide HBd _ (List.mem_of_mem_take (newest_mem hi hy).1)
    clear hcc HN
    have HXL : Hid (∀ j v, (L[i].cells)[j]? = some v → wr.cell? ⟨b, o + i * 11 + j, none⟩ = some v) := hxi
    generalize L[i] = x at *
    have x1 : wr.cell? ⟨b, o + i * 11 + 1, none⟩ = some (.int .i64 x.x.b.k) := hxi 1 _ rfl
    have x2 : wr.cell? ⟨b, o + i * 11 + 2, none⟩ = some (.int .i64 x.x.b.u) := hxi 2 _ rfl
    have x3 : wr.cell? ⟨b, o + i * 11 + 3, none⟩ = some (.int .i64 x.x.b.i) := hxi 3 _ rfl
    have x4 : wr.cell? ⟨b, o + i * 11 + 4, none⟩ = some (.int .i64 x.x.b.e) := hxi 4 _ rfl
    subst ea
    have HCX : Hid (∀ q, Calls Tryz.prog 95 #[.pointer (some ⟨b, o + i * 11 + 1, none⟩)] (wr.drewN q) fun r w' => r = .returned (.int .i64 (keyV x)) ∧ ∃ m, w' = (wr.drewN q).drewN m) := fun q => l4Key_any b (o + i * 11 + 1) x.x.b (wr.drewN q) x1 x2 x3 (by omega) (by omega)
    clear x1 x2 x3 hxi hbi
    by_cases he : x.x.b.e ≤ clock - 2
    case neg =>
      have HV : Hid (out = newestOf clock (L.take (i + 1))) := by rw [Hid, unhide HST, newestStep, if_neg he]
      have hew : ¬ x.x.b.e ≤ IntKind.i64.wrap (clock - 2) := by rw [hw2]; exact he
      have heg : x.x.b.e > IntKind.i64.wrap (clock - 2) := by omega
      clear HST HGL HBO
      go_wp2_with fail
      go_roundw
      case rel => exact ⟨i + 1, g, vc, out, by omega, by go_num, rfl, by omega, HV, HB, HO⟩
      case measure => simp [intOf]; omega
    have hew : x.x.b.e ≤ IntKind.i64.wrap (clock - 2) := by rw [hw2]; exact he
    have heg : ¬ x.x.b.e > IntKind.i64.wrap (clock - 2) := by omega
    have HSI : Hid (newestOf clock (L.take (i + 1)) = insNew out x) := by rw [Hid, unhide HST, newestStep, if_pos he]
    have HHE := hide he
    clear HST he
    go_wp2_with fail
    go_loopw [9] (fun s9 wz => ∃ (k m : Nat), k ≤ out.length ∧ s9 = .int .i64 k ∧ wz = wr.drewN m ∧ Hid (∀ j (hj : j < k) (hl : j < out.length), keyV out[j] < keyV x)) (fun s9 _ => out.length - (intOf s9).toNat)
    case atStart => exact ⟨0, 0, Nat.zero_le _, rfl, rfl, fun j hj => absurd hj (Nat.not_lt_zero j)⟩
    case round =>
      obtain ⟨k, m, hk, rfl, rfl, HK⟩ := hrel
      by_cases hkl : k < out.length
      case neg =>
        have hkl' : ¬ (k : Int) < out.length := by omega
        have hke : k = out.length := by omega
        have HIN : Hid (newestOf clock (L.take (i + 1)) = out.take k ++ x :: out.drop k) := by
          rw [Hid, unhide HSI]
          exact insNew_in (posIn_at hk (fun j hj => unhide HK j hj (by omega)) (fun h => absurd h hkl)) (fun h => absurd h hkl)
        have hkq : ((k : Int) == out.length) = true := by simp [hke]
        subst hke
        clear HSI HK HGL HBO HCX hkl hkl'
        have hkl' : ¬ (out.length : Int) < out.length := by omega
        go_upto_region 11 with fail
        obtain ⟨wq, hwq⟩ : ∃ wq, wq = wr.drewN m := ⟨_, rfl⟩
        have HBq : Hid (Below w.heap.size w wq) := by rw [hwq]; exact below_drewN (unhide HB) _
        have HOq : Hid (wq.ownsRow w.heap.size 46 11 (.slice (some ⟨g, 0, none⟩) out.length vc) out.length (vflat out)) := by rw [hwq]; exact unhide HO
        have HXq : Hid (∀ j v, (x.cells)[j]? = some v → wq.cell? ⟨b, o + i * 11 + j, none⟩ = some v) := by rw [hwq]; exact unhide HXL
        have hbq : b < wq.heap.size := by rw [hwq]; exact hbb
        have hgq : g < wq.heap.size := ((unhide HOq).lt g rfl).2
        have hwz : w.heap.size ≤ wq.heap.size := (unhide HBq).size
        have hvc := (own_rowAt (unhide HOq)).2
        have O1 : Hid ((wq.alloc (.cells #[] 46)).ownsRow wq.heap.size 46 11 (.slice (some ⟨wq.heap.size, 0, none⟩) 0 0) 0 []) := World.ownsRow_made (base := wq.heap.size) (e := 46) (size := 11) wq #[] 0 (Nat.le_refl _) (by unfold maxLen; omega) rfl
        have K1 : Hid (Below wq.heap.size wq (wq.alloc (.cells #[] 46))) := (Below.refl _ _).alloc (Nat.le_refl _) _
        have R1 : Hid (RowAt (wq.alloc (.cells #[] 46)) (some ⟨g, 0, none⟩) (vflat (out.take out.length))) := by
          rw [vflat_take hk]; exact (own_rowAt (own_below (unhide HOq) (unhide K1))).1.take _
        rw [← hwq]
        clear HB HO HXL hwq hbb
        have hl1 : (vflat (out.take out.length)).length = out.length * 11 := by rw [vflat_len, List.length_take, Nat.min_eq_left hk]
        have HL1 := hide hl1
        clear hl1
        go_upto_region 12 with (at_builtin; refine wpList_append_xs _ rfl _ _ 26 rfl wq.heap.size 46 i0 _ 11 112 Tryz.underlying26 hii hz0 hz1 hz2 rfl (by decide) (by decide) (.slice (some ⟨wq.heap.size, 0, none⟩) 0 0) 0 [] rfl (unhide O1) _ out.length _ (vflat (out.take out.length)) rfl (unhide HL1) (unhide R1) (vflat_one _) (by omega) (by simp) ?_; intro v' w6 hown hgrow hloc; rw [Nat.zero_add, List.nil_append] at hown; obtain ⟨a6, c6, e6, -⟩ := rowAt_own hown; subst e6; have O6 := hide hown; have K6 := hide ((unhide K1).grown hgrow (by simp) (fun q hq => ((unhide O1).lt q hq).1)); clear hown hgrow hloc)
        have hz6 : wq.heap.size ≤ w6.heap.size := (unhide K6).size
        have X6 : Hid (w6.rangeAt b (o + i * 11) [.int .i64 x.line, .int .i64 x.x.b.k, .int .i64 x.x.b.u, .int .i64 x.x.b.i, .int .i64 x.x.b.e, .int .i64 x.x.b.nu, .bool x.x.b.nd, .int .i64 x.x.b.np, .string x.x.b.nn, .int .i64 x.x.b.ns, .slice x.x.a x.x.b.nl.length x.x.c]) := fun j v hv => ((unhide K6).cell (p := ⟨b, o + i * 11 + j, none⟩) hbq).trans (unhide HXq j v hv)
        have O6a : Hid ((w6.alloc (.cells #[.int .i64 x.line, .int .i64 x.x.b.k, .int .i64 x.x.b.u, .int .i64 x.x.b.i, .int .i64 x.x.b.e, .int .i64 x.x.b.nu, .bool x.x.b.nd, .int .i64 x.x.b.np, .string x.x.b.nn, .int .i64 x.x.b.ns, .slice x.x.a x.x.b.nl.length x.x.c] 46)).ownsRow wq.heap.size 46 11 (.slice a6 out.length c6) out.length (vflat (out.take out.length))) := own_below (unhide O6) ((Below.refl _ _).alloc (Nat.le_refl _) _)
        have R6 : Hid (RowAt (w6.alloc (.cells #[.int .i64 x.line, .int .i64 x.x.b.k, .int .i64 x.x.b.u, .int .i64 x.x.b.i, .int .i64 x.x.b.e, .int .i64 x.x.b.nu, .bool x.x.b.nd, .int .i64 x.x.b.np, .string x.x.b.nn, .int .i64 x.x.b.ns, .slice x.x.a x.x.b.nl.length x.x.c] 46)) (some ⟨w6.heap.size, 0, none⟩) (VerA.cells x)) := rowAt_box (box_new w6 [.int .i64 x.line, .int .i64 x.x.b.k, .int .i64 x.x.b.u, .int .i64 x.x.b.i, .int .i64 x.x.b.e, .int .i64 x.x.b.nu, .bool x.x.b.nd, .int .i64 x.x.b.np, .string x.x.b.nn, .int .i64 x.x.b.ns, .slice x.x.a x.x.b.nl.length x.x.c] 46)
        have K6a := hide ((unhide K6).alloc hz6 (.cells #[.int .i64 x.line, .int .i64 x.x.b.k, .int .i64 x.x.b.u, .int .i64 x.x.b.i, .int .i64 x.x.b.e, .int .i64 x.x.b.nu, .bool x.x.b.nd, .int .i64 x.x.b.np, .string x.x.b.nn, .int .i64 x.x.b.ns, .slice x.x.a x.x.b.nl.length x.x.c] 46))
        clear K1 R1 O1 O6 HXq HL1
        go_upto_region 13 with (first
          | (refine wpList_load_mid rfl 46 (.tmp 70) rfl b (o + i * 11) rfl [.int .i64 x.line, .int .i64 x.x.b.k, .int .i64 x.x.b.u, .int .i64 x.x.b.i, .int .i64 x.x.b.e, .int .i64 x.x.b.nu, .bool x.x.b.nd, .int .i64 x.x.b.np, .string x.x.b.nn, .int .i64 x.x.b.ns, .slice x.x.a x.x.b.nl.length x.x.c] _ (unhide X6) Tryz.underlying46 rfl (by kernel_rfl) ?_)
          | (at_builtin; refine wpList_append_xs _ rfl _ _ 26 rfl wq.heap.size 46 i0 _ 11 112 Tryz.underlying26 hii hz0 hz1 hz2 rfl (by decide) (by decide) (.slice a6 out.length c6) out.length (vflat (out.take out.length)) rfl (unhide O6a) _ 1 1 (VerA.cells x) rfl rfl (unhide R6) (VerA.one _) (by omega) (by simp; omega) ?_; intro v' w7 hown hgrow hloc; obtain ⟨a7, c7, e7, -⟩ := rowAt_own hown; subst e7; have O7 := hide hown; have K7 := hide ((unhide K6a).grown hgrow (by simp; omega) (fun q hq => ((unhide O6a).lt q hq).1)); clear hown hgrow hloc))
        clear K6 K6a O6a R6 X6
        have R7 : Hid (RowAt w7 (some ⟨g, out.length * 11, none⟩) (vflat (out.drop out.length))) := by
          have := (own_rowAt (own_below (unhide HOq) (unhide K7))).1.drop (out.length * 11)
          rw [Nat.zero_add] at this
          rw [vflat_drop hk]
          exact this
        have hl3 : (vflat (out.drop out.length)).length = (out.length - out.length) * 11 := by rw [vflat_len, List.length_drop]
        have HL3 := hide hl3
        clear hl3
        have hz7 : wq.heap.size ≤ w7.heap.size := (unhide K7).size
        obtain ⟨out', ho'⟩ : ∃ out', out' = out.take out.length ++ x :: out.drop out.length := ⟨_, rfl⟩
        have hlen : out'.length = out.length + 1 := by rw [ho', List.length_append, List.length_cons, List.length_take, List.length_drop]; omega
        have HVF : Hid (vflat (out.take out.length) ++ VerA.cells x ++ [] = vflat out') := by rw [ho', Hid, vflat_append, vflat_cons, List.append_assoc]; simp [vflat]
        have HNW : Hid (out' = newestOf clock (L.take (i + 1))) := by rw [ho']; exact (unhide HIN).symm
        clear HIN ho'
        go_wp2_with (at_builtin; refine wpList_append_xs _ rfl _ _ 26 rfl wq.heap.size 46 i0 _ 11 112 Tryz.underlying26 hii hz0 hz1 hz2 rfl (by decide) (by decide) (.slice a7 (out.length + 1) c7) (out.length + 1) (vflat (out.take out.length) ++ VerA.cells x) rfl (unhide O7) _ 0 _ [] rfl rfl (.inl rfl) (by simp) (by omega) hz7 ?_; intro v' w8 hown hgrow hloc; rw [show out.length + 1 + 0 = out.length + 1 by omega, unhide HVF] at hown; obtain ⟨g8, c8, e8⟩ := own_some hown (Nat.succ_pos _); subst e8; have O8 := hide hown; have K8 := hide ((unhide K7).grown hgrow hz7 (fun q hq => ((unhide O7).lt q hq).1)); clear hown hgrow hloc)
        all_goals
          have O9 : Hid (w8.ownsRow w.heap.size 46 11 (.slice (some ⟨g8, 0, none⟩) out'.length c8) out'.length (vflat out')) := by rw [hlen]; exact own_base (unhide O8) (fun q hq => Nat.le_trans hwz ((unhide O8).lt q hq).1)
          have K9 : Hid (Below w.heap.size w w8) := (unhide HBq).trans ((unhide K8).mono hwz)
          clear O8 K8 O7 K7 R7 HOq HBq HVF HL3
          go_roundw
          case rel => exact ⟨i + 1, g8, c8, out', by omega, by go_num, by rw [hlen], by omega, HNW, K9, O9⟩
          case measure => simp [intOf]; omega
      have hkl' : (k : Int) < out.length := by omega
      have hco := own_vers rfl (unhide HO) k hkl
      have hbo := unhide HBO _ (List.getElem_mem hkl)
      have HGK : Hid (hitV clock x.x.b out[k].x.b = true → sameVers clock (blks L) = true) := fun hh => unhide HGL _ (List.getElem_mem hkl) hh
      have HKN : Hid (keyV out[k] < keyV x → ∀ j (hj : j < k + 1) (hl : j < out.length), keyV out[j] < keyV x) := fun hh j hj hl => by
        by_cases e : j = k
        · subst e; exact hh
        · exact unhide HK j (by omega) hl
      have HPI : Hid (¬ keyV out[k] < keyV x → posIn (keyV x) out = k) := fun hh => posIn_at hk (fun j hj => unhide HK j hj (by omega)) (fun _ => hh)
      have HNE : Hid (¬ keyV out[k] < keyV x → ¬ keyV out[k] = keyV x → newestOf clock (L.take (i + 1)) = out.take k ++ x :: out.drop k) := fun h1 h2 => by
        rw [unhide HSI]; exact insNew_in (unhide HPI h1) (fun _ => h2)
      have HEQ : Hid (¬ keyV out[k] < keyV x → keyV out[k] = keyV x → newestOf clock (L.take (i + 1)) = if out[k].x.b.e < x.x.b.e then out.set k x else out) := fun h1 h2 => by
        rw [unhide HSI]; exact insNew_set (unhide HPI h1) hkl h2
      clear HK HPI HSI HBO HGL
      generalize out[k] = y at *
      have y1 : wr.cell? ⟨g, k * 11 + 1, none⟩ = some (.int .i64 y.x.b.k) := hco 1 _ rfl
      have y2 : wr.cell? ⟨g, k * 11 + 2, none⟩ = some (.int .i64 y.x.b.u) := hco 2 _ rfl
      have y3 : wr.cell? ⟨g, k * 11 + 3, none⟩ = some (.int .i64 y.x.b.i) := hco 3 _ rfl
      have y4 : wr.cell? ⟨g, k * 11 + 4, none⟩ = some (.int .i64 y.x.b.e) := hco 4 _ rfl
      have HCY : Hid (∀ q, Calls Tryz.prog 95 #[.pointer (some ⟨g, k * 11 + 1, none⟩)] (wr.drewN q) fun r w' => r = .returned (.int .i64 (keyV y)) ∧ ∃ m, w' = (wr.drewN q).drewN m) := fun q => l4Key_any g (k * 11 + 1) y.x.b (wr.drewN q) y1 y2 y3 (by omega) (by omega)
      clear y1 y2 y3 hco hbo
      have HKX : Hid (keyV x = keyV x) := rfl
      go_wp2_with fail
      refine (unhide HCY m).mono ?_
      rintro r w2 ⟨rfl, q1, rfl⟩
      rw [World.drewN_drewN]
      go_wp2_with fail
      refine (unhide HCX _).mono ?_
      rintro r w2 ⟨rfl, q2, rfl⟩
      rw [World.drewN_drewN]
      have HHV : Hid (hitV clock x.x.b y.x.b = (decide (x.x.b.e ≤ clock - 2) && x.x.b.e == y.x.b.e && keyV x == keyV y)) := rfl
      by_cases hkk : keyV y < keyV x
      case pos =>
        have HF := hide (unhide HKN hkk)
        have hkb := decide_eq_true hkk
        clear HKN HNE HEQ HGK HHV hkk
        go_wp2_with fail
        go_roundw
        case rel => exact ⟨k + 1, m + q1 + q2, by omega, by go_num, rfl, HF⟩
        case measure => simp [intOf]; omega
      have hkb := decide_eq_false hkk
      have hkq : ((k : Int) == out.length) = false := by
        have : ¬ (k : Int) = out.length := by omega
        simpa using this
      have HNE2 := hide (unhide HNE (by first | exact hkk | omega))
      have HEQ2 := hide (unhide HEQ (by first | exact hkk | omega))
      have HKK := hide hkk
      clear HKN HNE HEQ hkk
      go_wp2_with fail
      refine (unhide HCY _).mono ?_
      rintro r w2 ⟨rfl, q3, rfl⟩
      rw [World.drewN_drewN]
      go_wp2_with fail
      refine (unhide HCX _).mono ?_
      rintro r w2 ⟨rfl, q4, rfl⟩
      rw [World.drewN_drewN]
      clear HCX HCY
      by_cases hke : keyV y = keyV x
      case neg =>
        have hkn : (keyV y != keyV x) = true := by simpa using hke
        have HIN := hide (unhide HNE2 hke)
        clear HNE2 HEQ2 HHV HGK hke
        go_upto_region 11 with fail
        obtain ⟨wq, hwq⟩ : ∃ wq, wq = wr.drewN (m + q1 + q2 + q3 + q4) := ⟨_, rfl⟩
        have HBq : Hid (Below w.heap.size w wq) := by rw [hwq]; exact below_drewN (unhide HB) _
        have HOq : Hid (wq.ownsRow w.heap.size 46 11 (.slice (some ⟨g, 0, none⟩) out.length vc) out.length (vflat out)) := by rw [hwq]; exact unhide HO
        have HXq : Hid (∀ j v, (x.cells)[j]? = some v → wq.cell? ⟨b, o + i * 11 + j, none⟩ = some v) := by rw [hwq]; exact unhide HXL
        have hbq : b < wq.heap.size := by rw [hwq]; exact hbb
        have hgq : g < wq.heap.size := ((unhide HOq).lt g rfl).2
        have hwz : w.heap.size ≤ wq.heap.size := (unhide HBq).size
        have hvc := (own_rowAt (unhide HOq)).2
        have O1 : Hid ((wq.alloc (.cells #[] 46)).ownsRow wq.heap.size 46 11 (.slice (some ⟨wq.heap.size, 0, none⟩) 0 0) 0 []) := World.ownsRow_made (base := wq.heap.size) (e := 46) (size := 11) wq #[] 0 (Nat.le_refl _) (by unfold maxLen; omega) rfl
        have K1 : Hid (Below wq.heap.size wq (wq.alloc (.cells #[] 46))) := (Below.refl _ _).alloc (Nat.le_refl _) _
        have R1 : Hid (RowAt (wq.alloc (.cells #[] 46)) (some ⟨g, 0, none⟩) (vflat (out.take k))) := by
          rw [vflat_take hk]; exact (own_rowAt (own_below (unhide HOq) (unhide K1))).1.take _
        rw [← hwq]
        clear HB HO HXL hwq hbb
        have hl1 : (vflat (out.take k)).length = k * 11 := by rw [vflat_len, List.length_take, Nat.min_eq_left hk]
        have HL1 := hide hl1
        clear hl1
        go_upto_region 12 with (at_builtin; refine wpList_append_xs _ rfl _ _ 26 rfl wq.heap.size 46 i0 _ 11 112 Tryz.underlying26 hii hz0 hz1 hz2 rfl (by decide) (by decide) (.slice (some ⟨wq.heap.size, 0, none⟩) 0 0) 0 [] rfl (unhide O1) _ k _ (vflat (out.take k)) rfl (unhide HL1) (unhide R1) (vflat_one _) (by omega) (by simp) ?_; intro v' w6 hown hgrow hloc; rw [Nat.zero_add, List.nil_append] at hown; obtain ⟨a6, c6, e6, -⟩ := rowAt_own hown; subst e6; have O6 := hide hown; have K6 := hide ((unhide K1).grown hgrow (by simp) (fun q hq => ((unhide O1).lt q hq).1)); clear hown hgrow hloc)
        have hz6 : wq.heap.size ≤ w6.heap.size := (unhide K6).size
        have X6 : Hid (w6.rangeAt b (o + i * 11) [.int .i64 x.line, .int .i64 x.x.b.k, .int .i64 x.x.b.u, .int .i64 x.x.b.i, .int .i64 x.x.b.e, .int .i64 x.x.b.nu, .bool x.x.b.nd, .int .i64 x.x.b.np, .string x.x.b.nn, .int .i64 x.x.b.ns, .slice x.x.a x.x.b.nl.length x.x.c]) := fun j v hv => ((unhide K6).cell (p := ⟨b, o + i * 11 + j, none⟩) hbq).trans (unhide HXq j v hv)
        have O6a : Hid ((w6.alloc (.cells #[.int .i64 x.line, .int .i64 x.x.b.k, .int .i64 x.x.b.u, .int .i64 x.x.b.i, .int .i64 x.x.b.e, .int .i64 x.x.b.nu, .bool x.x.b.nd, .int .i64 x.x.b.np, .string x.x.b.nn, .int .i64 x.x.b.ns, .slice x.x.a x.x.b.nl.length x.x.c] 46)).ownsRow wq.heap.size 46 11 (.slice a6 k c6) k (vflat (out.take k))) := own_below (unhide O6) ((Below.refl _ _).alloc (Nat.le_refl _) _)
        have R6 : Hid (RowAt (w6.alloc (.cells #[.int .i64 x.line, .int .i64 x.x.b.k, .int .i64 x.x.b.u, .int .i64 x.x.b.i, .int .i64 x.x.b.e, .int .i64 x.x.b.nu, .bool x.x.b.nd, .int .i64 x.x.b.np, .string x.x.b.nn, .int .i64 x.x.b.ns, .slice x.x.a x.x.b.nl.length x.x.c] 46)) (some ⟨w6.heap.size, 0, none⟩) (VerA.cells x)) := rowAt_box (box_new w6 [.int .i64 x.line, .int .i64 x.x.b.k, .int .i64 x.x.b.u, .int .i64 x.x.b.i, .int .i64 x.x.b.e, .int .i64 x.x.b.nu, .bool x.x.b.nd, .int .i64 x.x.b.np, .string x.x.b.nn, .int .i64 x.x.b.ns, .slice x.x.a x.x.b.nl.length x.x.c] 46)
        have K6a := hide ((unhide K6).alloc hz6 (.cells #[.int .i64 x.line, .int .i64 x.x.b.k, .int .i64 x.x.b.u, .int .i64 x.x.b.i, .int .i64 x.x.b.e, .int .i64 x.x.b.nu, .bool x.x.b.nd, .int .i64 x.x.b.np, .string x.x.b.nn, .int .i64 x.x.b.ns, .slice x.x.a x.x.b.nl.length x.x.c] 46))
        clear K1 R1 O1 O6 HXq HL1
        go_upto_region 13 with (first
          | (refine wpList_load_mid rfl 46 (.tmp 70) rfl b (o + i * 11) rfl [.int .i64 x.line, .int .i64 x.x.b.k, .int .i64 x.x.b.u, .int .i64 x.x.b.i, .int .i64 x.x.b.e, .int .i64 x.x.b.nu, .bool x.x.b.nd, .int .i64 x.x.b.np, .string x.x.b.nn, .int .i64 x.x.b.ns, .slice x.x.a x.x.b.nl.length x.x.c] _ (unhide X6) Tryz.underlying46 rfl (by kernel_rfl) ?_)
          | (at_builtin; refine wpList_append_xs _ rfl _ _ 26 rfl wq.heap.size 46 i0 _ 11 112 Tryz.underlying26 hii hz0 hz1 hz2 rfl (by decide) (by decide) (.slice a6 k c6) k (vflat (out.take k)) rfl (unhide O6a) _ 1 1 (VerA.cells x) rfl rfl (unhide R6) (VerA.one _) (by omega) (by simp; omega) ?_; intro v' w7 hown hgrow hloc; obtain ⟨a7, c7, e7, -⟩ := rowAt_own hown; subst e7; have O7 := hide hown; have K7 := hide ((unhide K6a).grown hgrow (by simp; omega) (fun q hq => ((unhide O6a).lt q hq).1)); clear hown hgrow hloc))
        clear K6 K6a O6a R6 X6
        have R7 : Hid (RowAt w7 (some ⟨g, k * 11, none⟩) (vflat (out.drop k))) := by
          have := (own_rowAt (own_below (unhide HOq) (unhide K7))).1.drop (k * 11)
          rw [Nat.zero_add] at this
          rw [vflat_drop hk]
          exact this
        have hl3 : (vflat (out.drop k)).length = (out.length - k) * 11 := by rw [vflat_len, List.length_drop]
        have HL3 := hide hl3
        clear hl3
        have hz7 : wq.heap.size ≤ w7.heap.size := (unhide K7).size
        obtain ⟨out', ho'⟩ : ∃ out', out' = out.take k ++ x :: out.drop k := ⟨_, rfl⟩
        have hlen : out'.length = out.length + 1 := by rw [ho', List.length_append, List.length_cons, List.length_take, List.length_drop]; omega
        have HVF : Hid (vflat (out.take k) ++ VerA.cells x ++ (vflat (out.drop k)) = vflat out') := by rw [ho', Hid, vflat_append, vflat_cons, List.append_assoc]
        have HNW : Hid (out' = newestOf clock (L.take (i + 1))) := by rw [ho']; exact (unhide HIN).symm
        clear HIN ho'
        go_wp2_with (at_builtin; refine wpList_append_xs _ rfl _ _ 26 rfl wq.heap.size 46 i0 _ 11 112 Tryz.underlying26 hii hz0 hz1 hz2 rfl (by decide) (by decide) (.slice a7 (k + 1) c7) (k + 1) (vflat (out.take k) ++ VerA.cells x) rfl (unhide O7) _ (out.length - k) _ (vflat (out.drop k)) rfl (unhide HL3) (unhide R7) (vflat_one _) (by omega) hz7 ?_; intro v' w8 hown hgrow hloc; rw [show k + 1 + (out.length - k) = out.length + 1 by omega, unhide HVF] at hown; obtain ⟨g8, c8, e8⟩ := own_some hown (Nat.succ_pos _); subst e8; have O8 := hide hown; have K8 := hide ((unhide K7).grown hgrow hz7 (fun q hq => ((unhide O7).lt q hq).1)); clear hown hgrow hloc)
        all_goals
          have O9 : Hid (w8.ownsRow w.heap.size 46 11 (.slice (some ⟨g8, 0, none⟩) out'.length c8) out'.length (vflat out')) := by rw [hlen]; exact own_base (unhide O8) (fun q hq => Nat.le_trans hwz ((unhide O8).lt q hq).1)
          have K9 : Hid (Below w.heap.size w w8) := (unhide HBq).trans ((unhide K8).mono hwz)
          clear O8 K8 O7 K7 R7 HOq HBq HVF HL3
          go_roundw
          case rel => exact ⟨i + 1, g8, c8, out', by omega, by go_num, by rw [hlen], by omega, HNW, K9, O9⟩
          case measure => simp [intOf]; omega
      have hkn : (keyV y != keyV x) = false := by simp [hke]
      have HEQ3 := hide (unhide HEQ2 hke)
      have hky : (keyV x == keyV y) = true := by simp [hke]
      have HHW : Hid (hitV clock x.x.b y.x.b = (x.x.b.e == y.x.b.e)) := by rw [Hid, unhide HHV, hky, decide_eq_true (unhide HHE)]; simp
      clear HEQ2 HNE2 HHV hky hke
      cases hee : (x.x.b.e == y.x.b.e)
      case true =>
        have HV := hide (unhide HGK (by rw [unhide HHW, hee]))
        clear HEQ3 HHW HGK HXL
        go_wp2_with fail
        go_quiet (fail)
        go_wp2_with fail
        refine bodyPost_ret (v := .tuple #[.slice none 0 0, .bool false]) (by simp [results, Tryz.results62, go_sem]) rfl ⟨.inl ⟨rfl, unhide HV⟩, below_drewN (below_drewN (unhide HB) _) _⟩
      clear HHW HGK
      by_cases hgt : y.x.b.e < x.x.b.e
      case neg =>
        have HNW : Hid (out = newestOf clock (L.take (i + 1))) := by rw [Hid, unhide HEQ3, if_neg hgt]
        have hgb := decide_eq_false hgt
        clear HEQ3 HXL
        go_wp2_with fail
        go_quiet (fail)
        go_wp2_with fail
        go_quiet (fail)
        go_wp2_with fail
        go_roundw
        case rel => exact ⟨i + 1, g, vc, out, by omega, by go_num, rfl, by omega, HNW, below_drewN (unhide HB) _, own_below (unhide HO) (below_drewN (Below.refl _ _) _)⟩
        case measure => simp [intOf]; omega
      have HNW : Hid (out.set k x = newestOf clock (L.take (i + 1))) := by rw [Hid, unhide HEQ3, if_pos hgt]
      have hgb := decide_eq_true hgt
      obtain ⟨hbg, cur, hbc, hlc, hset⟩ := own_set (x := x) rfl hkl (unhide HO)
      have HBC := hide hbc
      have HSET := hide hset
      clear HEQ3 hbc hset
      go_wp2_with fail
      go_quiet (fail)
      go_wp2_with fail
      go_quiet (fail)
      go_wp2_with (first
        | (refine wpList_load_mid rfl 46 (.tmp 107) rfl b (o + i * 11) rfl [.int .i64 x.line, .int .i64 x.x.b.k, .int .i64 x.x.b.u, .int .i64 x.x.b.i, .int .i64 x.x.b.e, .int .i64 x.x.b.nu, .bool x.x.b.nd, .int .i64 x.x.b.np, .string x.x.b.nn, .int .i64 x.x.b.ns, .slice x.x.a x.x.b.nl.length x.x.c] _ (fun j v hv => unhide HXL j v hv) Tryz.underlying46 rfl (by kernel_rfl) ?_)
        | (refine wpList_store_part rfl 46 (.tmp 109) (.tmp 108) rfl g (k * 11) #[.int .i64 x.line, .int .i64 x.x.b.k, .int .i64 x.x.b.u, .int .i64 x.x.b.i, .int .i64 x.x.b.e, .int .i64 x.x.b.nu, .bool x.x.b.nd, .int .i64 x.x.b.np, .string x.x.b.nn, .int .i64 x.x.b.ns, .slice x.x.a x.x.b.nl.length x.x.c] rfl rfl 46 _ (unhide HBC) (by kernel_rfl) (by simp; omega) (by simp [Value.oneCell']) ?_; intro wZ XZ OZ))
      have O9 : Hid (wZ.ownsRow w.heap.size 46 11 (.slice (some ⟨g, 0, none⟩) (out.set k x).length vc) (out.set k x).length (vflat (out.set k x))) := by rw [List.length_set]; exact unhide HSET wZ (unhide XZ)
      have B9 : Hid (Below w.heap.size w wZ) := (unhide OZ).below (below_drewN (unhide HB) _) (Nat.le_refl _) (fun q hq e => by omega)
      clear XZ OZ HSET HBC HB HO HXL
      go_roundw
      case rel => exact ⟨i + 1, g, vc, out.set k x, by omega, by go_num, by rw [List.length_set], by rw [List.length_set]; omega, HNW, B9, O9⟩
      case measure => simp [intOf]; omega
end Go.Proofs.YtiopofemelninaaGreat
/-
  What the specification's l4Live answers.
-/
namespace Go.Proofs.YtiopofemelninaaGreat
open Go.RowKit
set_option linter.unusedVariables false

def nodesOf (NW : List VerA) : List VerA := NW.filter fun x => x.x.b.k == 1
/-- A piece of a file that there is. -/
def isPiece (N : List Blk) (d : Blk) : Bool := (d.k == 2) && (match ofUid N d.u with | none => false | some n => !n.nd && decide (d.i < n.ns))
def datasOf (N : List VerA) (NW : List VerA) : List VerA := NW.filter fun x => isPiece (blks N) x.x.b
def linesOf (L : List VerA) : List Int := L.map VerA.line
def deadOf (N D L : List VerA) : List Int := (linesOf L).filter fun l => !decide (l ∈ linesOf N ++ linesOf D)
def liveCode (clock : Int) (L : List VerA) : Int := if sameVers clock (blks L) = true then 6 else if shapeB (blks (nodesOf (newestOf clock L))) (blks (datasOf (nodesOf (newestOf clock L)) (newestOf clock L))) = true then 0 else 8
theorem nodes_succ {NW : List VerA} {i : Nat} (hi : i < NW.length) : nodesOf (NW.take (i + 1)) = nodesOf (NW.take i) ++ (if (NW[i].x.b.k == 1) = true then [NW[i]] else []) := by
  rw [List.take_succ_eq_append_getElem hi, nodesOf, List.filter_append, nodesOf]
  congr 1
  cases h : (NW[i].x.b.k == 1) <;> simp [h]
theorem nodes_len (NW : List VerA) (i : Nat) : (nodesOf (NW.take i)).length ≤ i := Nat.le_trans (List.length_filter_le _ _) (by rw [List.length_take]; omega)
theorem datas_succ {N NW : List VerA} {i : Nat} (hi : i < NW.length) : datasOf N (NW.take (i + 1)) = datasOf N (NW.take i) ++ (if isPiece (blks N) NW[i].x.b = true then [NW[i]] else []) := by
  rw [List.take_succ_eq_append_getElem hi, datasOf, List.filter_append, datasOf]
  congr 1
  cases h : isPiece (blks N) NW[i].x.b <;> simp [h]
theorem own_versAt {w : World} {base n c : Nat} {a : Option Addr} {out : List VerA} (hn : out.length = n) (h : w.ownsRow base 46 11 (.slice a n c) n (vflat out)) : VersAt w a out := by
  by_cases h0 : out = []
  · exact .inl h0
  obtain ⟨g, c', e⟩ := own_some h (by rw [← hn]; exact List.length_pos_iff.2 h0)
  cases e
  exact .inr ⟨g, 0, rfl, (h.lt g rfl).2, fun i hi j v hv => by rw [Nat.zero_add]; exact own_vers hn h i hi j v hv⟩
theorem ofVal_piece (N : List Blk) (d : Blk) : ∃ (q : Blk) (ok : Bool), ofVal (ofUid N d.u) = .tuple #[.agg (nodeCells q), .bool ok] ∧ isPiece N d = ((d.k == 2) && (ok && (!q.nd && decide (d.i < q.ns)))) := by
  unfold isPiece
  cases ofUid N d.u with
  | none => exact ⟨Blk.none, false, rfl, by simp⟩
  | some p => exact ⟨p, true, rfl, by simp⟩
theorem dead_succ {N D L : List VerA} {i : Nat} (hi : i < L.length) : deadOf N D (L.take (i + 1)) = deadOf N D (L.take i) ++ (if (!decide (L[i].line ∈ linesOf N ++ linesOf D)) = true then [L[i].line] else []) := by
  have hm : linesOf (L.take (i + 1)) = linesOf (L.take i) ++ [L[i].line] := by rw [List.take_succ_eq_append_getElem hi, linesOf, List.map_append]; rfl
  rw [deadOf, hm, List.filter_append, deadOf]
  congr 1
  generalize linesOf N ++ linesOf D = K
  cases h : decide (L[i].line ∈ K) <;> simp [h]
theorem own_intsAt {w : World} {base n c : Nat} {a : Option Addr} {X : List Int} (hn : X.length = n) (h : w.ownsRow base 2 1 (.slice a n c) n (nums X)) : IntsAt w a X := by
  obtain ⟨a', c', e, hr, -⟩ := rowAt_own h
  cases e
  rcases hr with h0 | ⟨b, o, e, hb, hc⟩
  · exact .inl (by simpa [nums] using h0)
  · refine .inr ⟨b, o, e, hb, fun i hi => hc i _ ?_⟩
    simp [nums, hi]
/-- What l4Live answers, by versions. -/
def liveN (clock : Int) (L : List VerA) : List VerA := nodesOf (newestOf clock L)
def liveD (clock : Int) (L : List VerA) : List VerA := datasOf (liveN clock L) (newestOf clock L)
def liveZ (clock : Int) (L : List VerA) : List Int := deadOf (liveN clock L) (liveD clock L) L
def LiveIs (w : World) (base : Nat) (clock : Int) (L : List VerA) (e : Ending) : Prop :=
  (liveCode clock L ≠ 0 ∧ e = .returned (.agg #[.int .i64 (liveCode clock L), .int .i64 0, .slice none 0 0, .slice none 0 0, .slice none 0 0])) ∨
  (liveCode clock L = 0 ∧ ∃ va vc da dc ra rc, e = .returned (.agg #[.int .i64 0, .int .i64 clock, .slice va (liveN clock L).length vc, .slice da (liveD clock L).length dc, .slice ra (liveZ clock L).length rc]) ∧
    w.ownsRow base 46 11 (.slice va (liveN clock L).length vc) (liveN clock L).length (vflat (liveN clock L)) ∧ w.ownsRow base 46 11 (.slice da (liveD clock L).length dc) (liveD clock L).length (vflat (liveD clock L)) ∧ w.ownsRow base 2 1 (.slice ra (liveZ clock L).length rc) (liveZ clock L).length (nums (liveZ clock L)))
set_option maxRecDepth 20000 in
set_option maxHeartbeats 8000000 in
theorem l4Live_any (a : Option Addr) (c : Nat) (L : List VerA) (clock : Int) (w : World) (h : VersAt w a L) (hn : L.length ≤ 1000) (hc : 2 ≤ clock ∧ clock ≤ 9999) (hb : ∀ x ∈ L, (0 ≤ x.x.b.u ∧ x.x.b.u ≤ 999) ∧ 0 ≤ x.x.b.i ∧ x.x.b.i ≤ 3) :
    Calls Tryz.prog 37 #[.slice a L.length c, .int .i64 clock] w fun r w' => LiveIs w' w.heap.size clock L r ∧ Below w.heap.size w w' := by
  obtain ⟨i0, hii, hz0, hz1, hz2⟩ := info_parts infoVer
  obtain ⟨W, hW, hWz, HBW, HXW⟩ := boxes1 w [.int .i64 0, .int .i64 0, .slice none 0 0, .slice none 0 0, .slice none 0 0] 28
  have H := hide (h.below (unhide HBW))
  have HBd := hide hb
  have H0 := hide h
  clear h hb
  go_enter Tryz.func37, Tryz.ntmps37
  go_wp2_with fail
  rw [← hW]
  clear hW
  refine (l4Newest_any a c L clock W (unhide H) hn hc (unhide HBd)).mono ?_
  rintro r w1 ⟨hr, hb1⟩
  have HB1 := hide (below_step (unhide HBW) hb1 (unhide HBW).size)
  have HXW1 := hide ((unhide HXW).below hb1)
  clear HXW
  have H1 := hide ((unhide H).below hb1)
  rcases hr with ⟨rfl, hsv⟩ | ⟨gn, cn, rfl, hon⟩
  · have HSV := hide hsv
    clear hsv
    go_wp2_with fail
    refine (l4Same_any a c L clock w1 (unhide H1) hn hc (unhide HBd)).mono ?_
    rintro r w2 ⟨rfl, hdr⟩
    rw [unhide HSV]
    have h12 : Hid (Below w1.heap.size w1 w2) := hdr.below
    have HXW2 := hide ((unhide HXW1).below (unhide h12))
    have HB2 : Hid (Below w.heap.size w w2) := below_step (unhide HB1) (unhide h12) (unhide HB1).size
    have HC6 : Hid (liveCode clock L = 6) := by rw [Hid, liveCode, if_pos (unhide HSV)]
    clear hdr h12
    go_wp2_with (refine wpList_store_part rfl 28 (.tmp 4) (.tmp 26) rfl w.heap.size 0 _ rfl rfl 28 _ (unhide HXW2) (by kernel_rfl) (by simp) (by simp [Value.oneCell']) ?_; intro wZ XZ OZ)
    have XR : Hid (Box wZ w.heap.size [.int .i64 6, .int .i64 0, .slice none 0 0, .slice none 0 0, .slice none 0 0] 28) := XZ
    have BR : Hid (Below w.heap.size w wZ) := (unhide OZ).below (unhide HB2) (Nat.le_refl _) (fun q hq e => by omega)
    refine bodyPost_ret (results_cell_row Tryz.results37 _ wZ w.heap.size 28 _ (0, 0) _ rfl (unhide XR) Tryz.underlying28 rfl (by kernel_rfl)) rfl ⟨.inl ⟨by rw [unhide HC6]; decide, by rw [unhide HC6]⟩, unhide BR⟩
  cases hsv : sameVers clock (blks L)
  case true =>
    have HSV := hide hsv
    clear hsv
    go_wp2_with fail
    refine (l4Same_any a c L clock w1 (unhide H1) hn hc (unhide HBd)).mono ?_
    rintro r w2 ⟨rfl, hdr⟩
    rw [unhide HSV]
    have h12 : Hid (Below w1.heap.size w1 w2) := hdr.below
    have HXW2 := hide ((unhide HXW1).below (unhide h12))
    have HB2 : Hid (Below w.heap.size w w2) := below_step (unhide HB1) (unhide h12) (unhide HB1).size
    have HC6 : Hid (liveCode clock L = 6) := by rw [Hid, liveCode, if_pos (unhide HSV)]
    clear hdr h12
    go_wp2_with (refine wpList_store_part rfl 28 (.tmp 4) (.tmp 26) rfl w.heap.size 0 _ rfl rfl 28 _ (unhide HXW2) (by kernel_rfl) (by simp) (by simp [Value.oneCell']) ?_; intro wZ XZ OZ)
    have XR : Hid (Box wZ w.heap.size [.int .i64 6, .int .i64 0, .slice none 0 0, .slice none 0 0, .slice none 0 0] 28) := XZ
    have BR : Hid (Below w.heap.size w wZ) := (unhide OZ).below (unhide HB2) (Nat.le_refl _) (fun q hq e => by omega)
    refine bodyPost_ret (results_cell_row Tryz.results37 _ wZ w.heap.size 28 _ (0, 0) _ rfl (unhide XR) Tryz.underlying28 rfl (by kernel_rfl)) rfl ⟨.inl ⟨by rw [unhide HC6]; decide, by rw [unhide HC6]⟩, unhide BR⟩
  obtain ⟨NW, hNW⟩ : ∃ NW, NW = newestOf clock L := ⟨_, rfl⟩
  rw [← hNW] at hon ⊢
  have hnl : NW.length ≤ 1000 := by rw [hNW]; have := newest_len (clock := clock) (L := L) (Nat.le_refl _); rw [List.take_length] at this; omega
  have HON := hide hon
  have HNW := hide hNW
  have HSV := hide hsv
  clear hon hNW hsv
  go_wp2_with fail
  refine (l4Same_any a c L clock w1 (unhide H1) hn hc (unhide HBd)).mono ?_
  rintro r w2 ⟨rfl, hdr⟩
  rw [unhide HSV]
  have h12 : Hid (Below w1.heap.size w1 w2) := hdr.below
  have hON2 := hide (own_below (unhide HON) (unhide h12))
  have HXW2 := hide ((unhide HXW1).below (unhide h12))
  have HB2 : Hid (Below w.heap.size w w2) := below_step (unhide HB1) (unhide h12) (unhide HB1).size
  clear hdr h12 HON H1 HB1 HXW1
  obtain ⟨V, hV, hVz, HBV, HXV⟩ := boxes1 w2 [.int .i64 0, .int .i64 clock, .slice none 0 0, .slice none 0 0, .slice none 0 0] 28
  have HVV : Hid (Below w2.heap.size w2 V) := unhide HBV
  go_wp2_with fail
  rw [← hV]
  have HO0 : Hid (V.ownsRow (w2.heap.size + 1) 46 11 (.slice none 0 0) 0 (vflat [])) := World.ownsRow_nil _ _ _ _
  clear hV HBV
  go_loopw [8] (fun s8 wr => ∃ (i : Nat) (va : Option Addr) (vc : Nat) (N : List VerA), i ≤ NW.length ∧ s8 = .int .i64 i ∧ N.length ≤ i ∧ Hid (N = nodesOf (NW.take i)) ∧ Hid (Below w2.heap.size w2 wr) ∧ w2.heap.size + 1 ≤ wr.heap.size ∧ Hid (Box wr w2.heap.size [.int .i64 0, .int .i64 clock, .slice va N.length vc, .slice none 0 0, .slice none 0 0] 28) ∧ Hid (wr.ownsRow (w2.heap.size + 1) 46 11 (.slice va N.length vc) N.length (vflat N))) (fun s8 _ => NW.length - (intOf s8).toNat)
  case atStart => exact ⟨0, none, 0, [], Nat.zero_le _, rfl, Nat.le_refl _, rfl, HVV, hVz, HXV, HO0⟩
  case round =>
    clear HXV HO0 HVV
    obtain ⟨i, va, vc, N, hi, rfl, hNi, HN, HB, hz, HX, HO⟩ := hrel
    by_cases hlt : i < NW.length
    case neg =>
      have hie : ¬ (i : Int) < NW.length := by omega
      have HNN : Hid (N = nodesOf NW) := by rw [Hid, unhide HN, List.take_of_length_le (by omega)]
      clear HN
      have hgn : gn < w2.heap.size := ((unhide hON2).lt gn rfl).2
      have HNP := hide (own_below (unhide hON2) (unhide HB))
      have hNl : N.length ≤ 1000 := by omega
      obtain ⟨gV, hgV⟩ : ∃ gV, gV = w2.heap.size := ⟨_, rfl⟩
      have HPB : Hid (Below w.heap.size w wr) := below_step (unhide HB2) (unhide HB) (unhide HB2).size
      have HXWP := hide ((unhide HXW2).below (unhide HB))
      have hwg : w.heap.size < w2.heap.size := (unhide HXW2).lt
      have hwV : w.heap.size ≤ gV := by rw [hgV]; exact (unhide HB2).size
      rw [← hgV] at HX HO hz hgn hwg ⊢
      clear hgV HB hON2 HB2
      obtain ⟨P, hP⟩ : ∃ P, P = wr := ⟨_, rfl⟩
      rw [← hP] at HX HO hz HNP HPB HXWP ⊢
      have HOl : Hid (∀ q, (Value.slice va N.length vc).ownBlock = some q → gV + 1 ≤ q ∧ q < P.heap.size) := fun q hq => (unhide HO).lt q hq
      have HOP : Hid (Out (fun q => q = gV) P P) := Out.refl _ _
      have HD0 : Hid (P.ownsRow P.heap.size 46 11 (.slice none 0 0) 0 (vflat [])) := World.ownsRow_nil _ _ _ _
      clear hP
      go_wp2_with fail
      go_loopw [9] (fun s9 wq => ∃ (i : Nat) (da : Option Addr) (dc : Nat) (D : List VerA), i ≤ NW.length ∧ s9 = .int .i64 i ∧ D.length ≤ i ∧ Hid (D = datasOf N (NW.take i)) ∧ Hid (Out (fun q => q = gV) P wq) ∧ P.heap.size ≤ wq.heap.size ∧ Hid (Box wq gV [.int .i64 0, .int .i64 clock, .slice va N.length vc, .slice da D.length dc, .slice none 0 0] 28) ∧ Hid (wq.ownsRow P.heap.size 46 11 (.slice da D.length dc) D.length (vflat D))) (fun s9 _ => NW.length - (intOf s9).toNat)
      case atStart => exact ⟨0, none, 0, [], Nat.zero_le _, rfl, Nat.le_refl _, rfl, HOP, Nat.le_refl _, HX, HD0⟩
      case round =>
        clear HX HD0 HOP hlt hie hi hNi
        obtain ⟨i, da, dc, D, hi, rfl, hDi, HD, HQ, hzq, HX, HDO⟩ := hrel
        by_cases hlt : i < NW.length
        case neg =>
          have hie : ¬ (i : Int) < NW.length := by omega
          have HDD : Hid (D = datasOf N NW) := by rw [Hid, unhide HD, List.take_of_length_le (by omega)]
          clear HD
          have hDl : D.length ≤ 1000 := by omega
          have HON3 := hide ((unhide HQ).own (unhide HO) (fun q hq e => by have := (unhide HOl q hq).1; omega))
          have HVN := hide (own_versAt rfl (unhide HON3))
          have HVD := hide (own_versAt rfl (unhide HDO))
          have y2 : wr.cell? ⟨gV, 2, none⟩ = some (.slice va N.length vc) := (unhide HX).cell 2
          have y3 : wr.cell? ⟨gV, 3, none⟩ = some (.slice da D.length dc) := (unhide HX).cell 3
          have hgv : gV < wr.heap.size := by omega
          go_wp2_with fail
          refine (l4Shape_any va da vc dc N D wr (unhide HVN) (unhide HVD) (by omega) (by omega)).mono ?_
          rintro r R ⟨rfl, hb5⟩
          have HXR := hide ((unhide HX).below hb5)
          have HXWR := hide (((unhide HXWP).out (unhide HQ) (by omega)).below hb5)
          have HNR := hide (own_below (unhide HON3) hb5)
          have HDR := hide (own_below (unhide HDO) hb5)
          have HVNR := hide ((unhide HVN).below hb5)
          have HVDR := hide ((unhide HVD).below hb5)
          have hgR : gV < R.heap.size := by have := hb5.size; omega
          have hPR : P.heap.size ≤ R.heap.size := by have := hb5.size; omega
          have HQR : Hid (Out (fun q => q = gV) P R) := (unhide HQ).trans (Out.ofBelow (F := fun _ => False) hb5) (fun _ _ h => h.elim)
          clear y2 y3 HON3 HVN HVD HX HDO HQ hb5 hgv hzq HO
          cases hsh : shapeB (blks N) (blks D)
          case false =>
            have HC8 : Hid (liveCode clock L = 8) := by
              rw [Hid, liveCode, unhide HSV, if_neg (by decide), ← unhide HNW, ← unhide HNN, ← unhide HDD, hsh, if_neg (by decide)]
            have HBRR : Hid (Below w.heap.size w R) := (unhide HQR).below (unhide HPB) (Nat.le_refl _) (fun q hq e => by omega)
            go_wp2_with (refine wpList_store_part rfl 28 (.tmp 4) (.tmp 105) rfl w.heap.size 0 _ rfl rfl 28 _ (unhide HXWR) (by kernel_rfl) (by simp) (by simp [Value.oneCell']) ?_; intro wZ XZ OZ)
            have XR : Hid (Box wZ w.heap.size [.int .i64 8, .int .i64 0, .slice none 0 0, .slice none 0 0, .slice none 0 0] 28) := XZ
            have BR : Hid (Below w.heap.size w wZ) := (unhide OZ).below (unhide HBRR) (Nat.le_refl _) (fun q hq e => by omega)
            refine bodyPost_ret (results_cell_row Tryz.results37 _ wZ w.heap.size 28 _ (0, 0) _ rfl (unhide XR) Tryz.underlying28 rfl (by kernel_rfl)) rfl ⟨.inl ⟨by rw [unhide HC8]; decide, by rw [unhide HC8]⟩, unhide BR⟩
          have HSH := hide hsh
          clear hsh
          obtain ⟨j0, hji, hj0, hj1, hj2⟩ := info_parts infoInt64
          have HB0 : Hid (Below R.heap.size R (R.alloc (.cells #[] 2))) := (Below.refl _ _).alloc (Nat.le_refl _) _
          have HX0 : Hid ((R.alloc (.cells #[] 2)).ownsRow R.heap.size 2 1 (.slice (some ⟨R.heap.size, 0, none⟩) 0 0) 0 (nums [])) := World.ownsRow_made (base := R.heap.size) (e := 2) (size := 1) R #[] 0 (Nat.le_refl _) (by unfold maxLen; omega) rfl
          go_wp2_with fail
          go_loopw [13, 14] (fun s13 s14 wz => ∃ (e : Nat) (la : Option Addr) (lc : Nat) (X : List Int), e ≤ N.length ∧ s14 = .int .i64 e ∧ s13 = .slice la X.length lc ∧ X.length ≤ 0 + e ∧ Hid (X = ([] : List Int) ++ linesOf (N.take e)) ∧ Hid (Below R.heap.size R wz) ∧ Hid (wz.ownsRow R.heap.size 2 1 (.slice la X.length lc) X.length (nums X))) (fun _ s14 _ => N.length - (intOf s14).toNat)
          case atStart => exact ⟨0, _, 0, [], Nat.zero_le _, rfl, rfl, by simp, rfl, HB0, HX0⟩
          case round =>
            clear HB0 HX0
            obtain ⟨e, la, lc, X, he, rfl, rfl, hXe, HXE, HBZ, HXO⟩ := hrel
            have y2 : wr.cell? ⟨gV, 2, none⟩ = some (.slice va N.length vc) := by rw [(unhide HBZ).cell (p := ⟨gV, 2, none⟩) hgR]; exact (unhide HXR).cell 2
            by_cases hlt2 : e < N.length
            case neg =>
              have hie2 : ¬ (e : Int) < N.length := by omega
              have HXN : Hid (X = linesOf N) := by rw [Hid, unhide HXE, List.take_of_length_le (by omega), List.nil_append]
              clear HXE
              have hXl : X.length ≤ 1000 := by omega
              obtain ⟨X0, hX0⟩ : ∃ X0, X0 = X := ⟨_, rfl⟩
              have HXE0 : Hid (X = X0 ++ linesOf (D.take 0)) := by rw [Hid, hX0]; simp [linesOf]
              have HXN0 : Hid (X0 = linesOf N) := by rw [hX0]; exact unhide HXN
              have hX0l : X0.length = X.length := by rw [hX0]
              clear hX0 HXN
              go_wp2_with fail
              go_loopw [13, 15] (fun s13 s14 wz => ∃ (e : Nat) (la : Option Addr) (lc : Nat) (X : List Int), e ≤ D.length ∧ s14 = .int .i64 e ∧ s13 = .slice la X.length lc ∧ X.length ≤ X0.length + e ∧ Hid (X = X0 ++ linesOf (D.take e)) ∧ Hid (Below R.heap.size R wz) ∧ Hid (wz.ownsRow R.heap.size 2 1 (.slice la X.length lc) X.length (nums X))) (fun _ s14 _ => D.length - (intOf s14).toNat)
              case atStart => exact ⟨0, la, lc, X, Nat.zero_le _, rfl, rfl, by omega, HXE0, HBZ, HXO⟩
              case round =>
                clear HXE0 HBZ HXO hXl
                obtain ⟨e, la, lc, X, he, rfl, rfl, hXe, HXE, HBZ, HXO⟩ := hrel
                have y2 : wr.cell? ⟨gV, 3, none⟩ = some (.slice da D.length dc) := by rw [(unhide HBZ).cell (p := ⟨gV, 3, none⟩) hgR]; exact (unhide HXR).cell 3
                by_cases hlt2 : e < D.length
                case neg =>
                  have hie5 : ¬ (e : Int) < D.length := by omega
                  have HXX : Hid (X = linesOf N ++ linesOf D) := by rw [Hid, unhide HXE, List.take_of_length_le (by omega), ← unhide HXN0]
                  clear HXE
                  have hXl5 : X.length ≤ 2000 := by omega
                  have HXV := hide (own_intsAt rfl (unhide HXO))
                  have HXLT : Hid (∀ q, (Value.slice la X.length lc).ownBlock = some q → R.heap.size ≤ q ∧ q < wr.heap.size) := fun q hq => (unhide HXO).lt q hq
                  have HWS : Hid (Below w.heap.size w wr) := ((unhide HQR).below (unhide HPB) (Nat.le_refl _) (fun q hq e => by omega)).trans ((unhide HBZ).mono (by omega))
                  have HXS := hide ((unhide HXR).below (unhide HBZ))
                  have HXWS := hide ((unhide HXWR).below (unhide HBZ))
                  have HNS5 := hide (own_below (unhide HNR) (unhide HBZ))
                  have HDS5 := hide (own_below (unhide HDR) (unhide HBZ))
                  have HNLT : Hid (∀ q, (Value.slice va N.length vc).ownBlock = some q → q ≠ gV) := fun q hq => by have := (unhide HOl q hq).1; omega
                  have HDLT : Hid (∀ q, (Value.slice da D.length dc).ownBlock = some q → q ≠ gV) := fun q hq => by have := ((unhide HDR).lt q hq).1; have := (unhide HXWP).lt; omega
                  have hgS : gV < wr.heap.size := by have := (unhide HBZ).size; omega
                  obtain ⟨S, hS⟩ : ∃ S, S = wr := ⟨_, rfl⟩
                  rw [← hS] at HXV HXLT HWS HXS hgS y2 HXO HXWS HNS5 HDS5 ⊢
                  have HS0 : Hid (Out (fun q => q = gV) S S) := Out.refl _ _
                  have HE0 : Hid (S.ownsRow S.heap.size 2 1 (.slice none 0 0) 0 (nums [])) := World.ownsRow_nil _ _ _ _
                  clear hS HBZ
                  go_wp2_with fail
                  go_loopw [16] (fun s16 wr => ∃ (i : Nat) (ra : Option Addr) (rc : Nat) (Z : List Int), i ≤ L.length ∧ s16 = .int .i64 i ∧ Z.length ≤ i ∧ Hid (Z = deadOf N D (L.take i)) ∧ Hid (Out (fun q => q = gV) S wr) ∧ S.heap.size ≤ wr.heap.size ∧ Hid (Box wr gV [.int .i64 0, .int .i64 clock, .slice va N.length vc, .slice da D.length dc, .slice ra Z.length rc] 28) ∧ Hid (wr.ownsRow S.heap.size 2 1 (.slice ra Z.length rc) Z.length (nums Z))) (fun s16 _ => L.length - (intOf s16).toNat)
                  case atStart => exact ⟨0, none, 0, [], Nat.zero_le _, rfl, Nat.le_refl _, rfl, HS0, Nat.le_refl _, HXS, HE0⟩
                  case round =>
                    clear HS0 HE0 HXS y2
                    obtain ⟨i5, ra, rc, Z, hi5, rfl, hZi, HZ, HQ5, hz5, HX5, HZO⟩ := hrel
                    by_cases hlt5 : i5 < L.length
                    case neg =>
                      have hie6 : ¬ (i5 : Int) < L.length := by omega
                      have HZZ : Hid (Z = deadOf N D L) := by rw [Hid, unhide HZ, List.take_of_length_le (by omega)]
                      have HCD : Hid (liveCode clock L = 0) := by
                        rw [Hid, liveCode, unhide HSV, if_neg (by decide), ← unhide HNW, ← unhide HNN, ← unhide HDD, unhide HSH, if_pos rfl]
                      have HWQ : Hid (Box wr w.heap.size [.int .i64 0, .int .i64 0, .slice none 0 0, .slice none 0 0, .slice none 0 0] 28) := (unhide HXWS).out (unhide HQ5) (by omega)
                      have HN5 := hide ((unhide HQ5).own (unhide HNS5) (fun q hq e => unhide HNLT q hq e))
                      have HD5 := hide ((unhide HQ5).own (unhide HDS5) (fun q hq e => unhide HDLT q hq e))
                      have HB5 : Hid (Below w.heap.size w wr) := (unhide HQ5).below (unhide HWS) (Nat.le_refl _) (fun q hq e => by omega)
                      have HSZ : Hid (w.heap.size ≤ S.heap.size) := (unhide HWS).size
                      have HRZ : Hid (w.heap.size ≤ P.heap.size) := (unhide HPB).size
                      clear HZ HXWS HNS5 HDS5 HQ5 HXV HXLT
                      go_wp2_with (first
                        | (refine wpList_load_part rfl 28 (.tmp 7) rfl gV 0 rfl 28 _ [.int .i64 0, .int .i64 clock, .slice va N.length vc, .slice da D.length dc, .slice ra Z.length rc] (unhide HX5) rfl _ Tryz.underlying28 rfl (by kernel_rfl) ?_)
                        | (refine wpList_store_part rfl 28 (.tmp 4) (.tmp 163) rfl w.heap.size 0 _ rfl rfl 28 _ (unhide HWQ) (by kernel_rfl) (by simp) (by simp [Value.oneCell']) ?_; intro wZ XZ OZ))
                      have XR : Hid (Box wZ w.heap.size [.int .i64 0, .int .i64 clock, .slice va N.length vc, .slice da D.length dc, .slice ra Z.length rc] 28) := XZ
                      have BR : Hid (Below w.heap.size w wZ) := (unhide OZ).below (unhide HB5) (Nat.le_refl _) (fun q hq e => by omega)
                      have eN : N = liveN clock L := by rw [liveN, ← unhide HNW]; exact unhide HNN
                      have eD : D = liveD clock L := by rw [liveD, ← unhide HNW, ← eN]; exact unhide HDD
                      have eZ : Z = liveZ clock L := by rw [liveZ, ← eN, ← eD]; exact unhide HZZ
                      have oN : wZ.ownsRow w.heap.size 46 11 (.slice va N.length vc) N.length (vflat N) := own_base ((unhide OZ).own (unhide HN5) (fun q hq e => by have := (unhide HOl q hq).1; omega)) (fun q hq => by have := (unhide HOl q hq).1; omega)
                      have oD : wZ.ownsRow w.heap.size 46 11 (.slice da D.length dc) D.length (vflat D) := own_base ((unhide OZ).own (unhide HD5) (fun q hq e => by have := ((unhide HD5).lt q hq).1; have := (unhide HXWP).lt; omega)) (fun q hq => by have := ((unhide HD5).lt q hq).1; have := unhide HRZ; omega)
                      have oZ : wZ.ownsRow w.heap.size 2 1 (.slice ra Z.length rc) Z.length (nums Z) := own_base ((unhide OZ).own (unhide HZO) (fun q hq e => by have := ((unhide HZO).lt q hq).1; have := unhide HSZ; omega)) (fun q hq => by have := ((unhide HZO).lt q hq).1; have := unhide HSZ; omega)
                      refine bodyPost_ret (results_cell_row Tryz.results37 _ wZ w.heap.size 28 _ (0, 0) _ rfl (unhide XR) Tryz.underlying28 rfl (by kernel_rfl)) rfl ⟨.inr ⟨unhide HCD, va, vc, da, dc, ra, rc, ?_⟩, unhide BR⟩
                      rw [← eN, ← eD, ← eZ]
                      exact ⟨rfl, oN, oD, oZ⟩
                    have hlt6 : (i5 : Int) < L.length := by omega
                    obtain ⟨b, o, ea, hbb, hcc⟩ := (unhide H0).at hlt5
                    have hce := hcc i5 hlt5
                    have HZS : Hid (deadOf N D (L.take (i5 + 1)) = Z ++ (if (!decide (L[i5].line ∈ X)) = true then [L[i5].line] else [])) := by rw [Hid, dead_succ hlt5, ← unhide HZ, ← unhide HXX]
                    clear HZ
                    generalize L[i5] = x at *
                    have u0 : wr.cell? ⟨b, o + i5 * 11, none⟩ = some (.int .i64 x.line) := ((unhide HQ5).cell (b := b) (by have := (unhide HWS).size; omega) (by omega) _).trans (((unhide HWS).cell (p := ⟨b, o + i5 * 11, none⟩) hbb).trans (hce 0 _ rfl))
                    have hbr : b < wr.heap.size := by have := (unhide HWS).size; omega
                    have hgv5 : gV < wr.heap.size := by omega
                    clear hcc hce
                    subst ea
                    have HXW5 : Hid (IntsAt wr la X) := own_intsAt rfl ((unhide HQ5).own (unhide HXO) (fun q hq e => by have := (unhide HXLT q hq).1; omega))
                    go_wp2_with fail
                    refine (l1Has_any la lc X x.line wr (unhide HXW5) (by omega)).mono ?_
                    rintro r w5 ⟨rfl, e5⟩
                    rw [e5]
                    clear e5
                    cases hin : decide (x.line ∈ X)
                    case true =>
                      have HZ2 : Hid (Z = deadOf N D (L.take (i5 + 1))) := by rw [Hid, unhide HZS, hin]; simp
                      clear HZS
                      go_wp2_with fail
                      go_roundw
                      case rel => exact ⟨i5 + 1, ra, rc, Z, by omega, by go_num, by omega, HZ2, HQ5, hz5, HX5, HZO⟩
                      case measure => simp [intOf]; omega
                    have HZ2 : Hid (Z ++ [x.line] = deadOf N D (L.take (i5 + 1))) := by rw [Hid, unhide HZS, hin]; simp
                    have y4 : wr.cell? ⟨gV, 4, none⟩ = some (.slice ra Z.length rc) := (unhide HX5).cell 4
                    have f4 : wr.frozen? ⟨gV, 4, none⟩ = false := (unhide HX5).frozen 4
                    have HOA : Hid ((wr.drew.alloc (.cells #[.int .i64 x.line] 2)).ownsRow S.heap.size 2 1 (.slice ra Z.length rc) Z.length (nums Z)) := own_below (unhide HZO) (((Below.refl _ wr).drew).alloc (Nat.le_refl _) _)
                    have HXA : Hid (Box (wr.drew.alloc (.cells #[.int .i64 x.line] 2)) gV [.int .i64 0, .int .i64 clock, .slice va N.length vc, .slice da D.length dc, .slice ra Z.length rc] 28) := ((unhide HX5).drew).alloc _
                    have HQA : Hid (Out (fun q => q = gV) S (wr.drew.alloc (.cells #[.int .i64 x.line] 2))) := (unhide HQ5).trans (Out.ofBelow (F := fun _ => False) (((Below.refl _ wr).drew).alloc (Nat.le_refl _) _)) (fun _ _ h => h.elim)
                    have RA : Hid (RowAt (wr.drew.alloc (.cells #[.int .i64 x.line] 2)) (some ⟨wr.heap.size, 0, none⟩) (nums [x.line])) := rowAt_box (box_new wr.drew [.int .i64 x.line] 2)
                    have hzA : S.heap.size ≤ (wr.drew.alloc (.cells #[.int .i64 x.line] 2)).heap.size := by rw [World.size_alloc]; show S.heap.size ≤ wr.heap.size + 1; omega
                    have HZA := hide hzA
                    clear hzA HZS HX5 HZO HQ5
                    go_wp2_with fail
                    go_region_law (first | (refine step_append_xs _ rfl _ _ 24 rfl S.heap.size 2 j0 _ 1 8 Tryz.underlying24 hji hj0 hj1 hj2 rfl (by decide) (by decide) (.slice ra Z.length rc) Z.length (nums Z) rfl (unhide HOA) _ 1 1 (nums [x.line]) rfl rfl (unhide RA) (by simp [nums, Value.oneCell']) (by omega) (unhide HZA) ?_; intro v' w3 hown hgrow hloc; have X3 := (unhide HXA).grown hgrow (fun e => by have := ((unhide HOA).lt _ e).1; omega); have y5 := X3.cell 4; have f5 := X3.frozen 4; simp at y5; obtain ⟨a3, c3, e3, -⟩ := rowAt_own hown; subst e3; have HOW := hide hown; have HGR := hide hgrow; have HX3 := hide X3; clear X3 hown hgrow hloc))
                    all_goals
                      clear u0 y4 f4 y5 f5
                      generalize hU : w3.setCell _ _ = U
                      have hl : Z.length + 1 = (Z ++ [x.line]).length := by simp
                      have X4 : Hid (Box U gV [.int .i64 0, .int .i64 clock, .slice va N.length vc, .slice da D.length dc, .slice a3 (Z.length + 1) c3] 28) := (unhide HX3).set' hU
                      have O4 : Hid (U.ownsRow S.heap.size 2 1 (.slice a3 (Z.length + 1) c3) (Z.length + 1) (nums Z ++ nums [x.line])) := own_stay (unhide HOW) (fun q hq _ => by rw [← hU]; exact Below.heap_setCell w3 _ _ q (by have := ((unhide HOW).lt q hq).1; show q ≠ gV; omega))
                      have Q3 : Hid (Out (fun q => q = gV) S w3) := (unhide HQA).trans (Out.ofGrown (unhide HGR)) (fun q hq e => by have := ((unhide HOA).lt q e.symm).1; omega)
                      have Q4 : Hid (Out (fun q => q = gV) S U) := out_set' (unhide Q3) hU (.inl rfl)
                      rw [hl, show nums Z ++ nums [x.line] = nums (Z ++ [x.line]) by simp [nums]] at O4
                      rw [hl] at X4
                      have hz4 : S.heap.size ≤ U.heap.size := (unhide Q4).size
                      clear HX3 HOW HGR Q3 HQA HXA HOA RA HZA hU
                      go_wp2_with fail
                      go_roundw
                      case rel => exact ⟨i5 + 1, a3, c3, Z ++ [x.line], by omega, by go_num, by omega, HZ2, Q4, hz4, X4, O4⟩
                      case measure => simp [intOf]; omega
                have hlt3 : (e : Int) < D.length := by omega
                obtain ⟨b, o, ea, hbb, hcc⟩ := (unhide HVDR).at hlt2
                have hce := hcc e hlt2
                have HXS : Hid (linesOf (D.take (e + 1)) = linesOf (D.take e) ++ [D[e].line]) := by rw [Hid, List.take_succ_eq_append_getElem hlt2, linesOf, List.map_append]; rfl
                generalize D[e] = x at *
                have u0 : wr.cell? ⟨b, o + e * 11, none⟩ = some (.int .i64 x.line) := ((unhide HBZ).cell (p := ⟨b, o + e * 11, none⟩) hbb).trans (hce 0 _ rfl)
                clear hcc hce
                rw [ea] at y2
                have hzr := (unhide HBZ).size
                have hbr : b < wr.heap.size := by omega
                have hgr : gV < wr.heap.size := by omega
                have HXA : Hid ((wr.alloc (.cells #[.int .i64 x.line] 2)).ownsRow R.heap.size 2 1 (.slice la X.length lc) X.length (nums X)) := own_below (unhide HXO) ((Below.refl _ _).alloc (Nat.le_refl _) _)
                have HBA : Hid (Below R.heap.size R (wr.alloc (.cells #[.int .i64 x.line] 2))) := (unhide HBZ).alloc hzr _
                have RA : Hid (RowAt (wr.alloc (.cells #[.int .i64 x.line] 2)) (some ⟨wr.heap.size, 0, none⟩) (nums [x.line])) := rowAt_box (box_new wr [.int .i64 x.line] 2)
                have HXF : Hid (X ++ [x.line] = X0 ++ linesOf (D.take (e + 1))) := by rw [Hid, unhide HXS, ← List.append_assoc, ← unhide HXE]
                clear HXE HXS HXO HBZ ea
                go_wp2_with (at_builtin; refine wpList_append_xs _ rfl _ _ 24 rfl R.heap.size 2 j0 _ 1 8 Tryz.underlying24 hji hj0 hj1 hj2 rfl (by decide) (by decide) (.slice la X.length lc) X.length (nums X) rfl (unhide HXA) _ 1 1 (nums [x.line]) rfl rfl (unhide RA) (by simp [nums, Value.oneCell']) (by omega) (by simp; omega) ?_; intro v' w6 hown hgrow hloc; obtain ⟨a3, c3, e3, -⟩ := rowAt_own hown; subst e3; have HOW := hide hown; have B6 := hide ((unhide HBA).grown hgrow (by simp; omega) (fun q hq => ((unhide HXA).lt q hq).1)); clear hown hgrow hloc)
                have hl : X.length + 1 = (X ++ [x.line]).length := by simp
                have HOW2 : Hid (w6.ownsRow R.heap.size 2 1 (.slice a3 (X ++ [x.line]).length c3) (X ++ [x.line]).length (nums (X ++ [x.line]))) := by rw [← hl, show nums (X ++ [x.line]) = nums X ++ nums [x.line] by simp [nums]]; exact unhide HOW
                clear HOW HBA HXA RA
                go_roundw
                case rel => exact ⟨e + 1, a3, c3, X ++ [x.line], by omega, by go_num, by rw [hl], by omega, HXF, B6, HOW2⟩
                case measure => simp [intOf]; omega
            have hlt3 : (e : Int) < N.length := by omega
            obtain ⟨b, o, ea, hbb, hcc⟩ := (unhide HVNR).at hlt2
            have hce := hcc e hlt2
            have HXS : Hid (linesOf (N.take (e + 1)) = linesOf (N.take e) ++ [N[e].line]) := by rw [Hid, List.take_succ_eq_append_getElem hlt2, linesOf, List.map_append]; rfl
            generalize N[e] = x at *
            have u0 : wr.cell? ⟨b, o + e * 11, none⟩ = some (.int .i64 x.line) := ((unhide HBZ).cell (p := ⟨b, o + e * 11, none⟩) hbb).trans (hce 0 _ rfl)
            clear hcc hce
            rw [ea] at y2
            have hzr := (unhide HBZ).size
            have hbr : b < wr.heap.size := by omega
            have hgr : gV < wr.heap.size := by omega
            have HXA : Hid ((wr.alloc (.cells #[.int .i64 x.line] 2)).ownsRow R.heap.size 2 1 (.slice la X.length lc) X.length (nums X)) := own_below (unhide HXO) ((Below.refl _ _).alloc (Nat.le_refl _) _)
            have HBA : Hid (Below R.heap.size R (wr.alloc (.cells #[.int .i64 x.line] 2))) := (unhide HBZ).alloc hzr _
            have RA : Hid (RowAt (wr.alloc (.cells #[.int .i64 x.line] 2)) (some ⟨wr.heap.size, 0, none⟩) (nums [x.line])) := rowAt_box (box_new wr [.int .i64 x.line] 2)
            have HXF : Hid (X ++ [x.line] = ([] : List Int) ++ linesOf (N.take (e + 1))) := by rw [Hid, unhide HXS, ← List.append_assoc, ← unhide HXE]
            clear HXE HXS HXO HBZ ea
            go_wp2_with (at_builtin; refine wpList_append_xs _ rfl _ _ 24 rfl R.heap.size 2 j0 _ 1 8 Tryz.underlying24 hji hj0 hj1 hj2 rfl (by decide) (by decide) (.slice la X.length lc) X.length (nums X) rfl (unhide HXA) _ 1 1 (nums [x.line]) rfl rfl (unhide RA) (by simp [nums, Value.oneCell']) (by omega) (by simp; omega) ?_; intro v' w6 hown hgrow hloc; obtain ⟨a3, c3, e3, -⟩ := rowAt_own hown; subst e3; have HOW := hide hown; have B6 := hide ((unhide HBA).grown hgrow (by simp; omega) (fun q hq => ((unhide HXA).lt q hq).1)); clear hown hgrow hloc)
            have hl : X.length + 1 = (X ++ [x.line]).length := by simp
            have HOW2 : Hid (w6.ownsRow R.heap.size 2 1 (.slice a3 (X ++ [x.line]).length c3) (X ++ [x.line]).length (nums (X ++ [x.line]))) := by rw [← hl, show nums (X ++ [x.line]) = nums X ++ nums [x.line] by simp [nums]]; exact unhide HOW
            clear HOW HBA HXA RA
            go_roundw
            case rel => exact ⟨e + 1, a3, c3, X ++ [x.line], by omega, by go_num, by rw [hl], by omega, HXF, B6, HOW2⟩
            case measure => simp [intOf]; omega
        have hlt' : (i : Int) < NW.length := by omega
        have hco := own_vers rfl (unhide HNP) i hlt
        have HDS : Hid (datasOf N (NW.take (i + 1)) = D ++ (if isPiece (blks N) NW[i].x.b = true then [NW[i]] else [])) := by rw [Hid, datas_succ hlt, ← unhide HD]
        clear HD
        generalize NW[i] = x at *
        have HCO : Hid (∀ (j : Nat) (v : Value), x.cells[j]? = some v → wr.cell? ⟨gn, i * 11 + j, none⟩ = some v) := fun j v hv => ((unhide HQ).cell (b := gn) (by omega) (by omega) (i * 11 + j)).trans (hco j v hv)
        clear hco
        have u1 : wr.cell? ⟨gn, i * 11 + 1, none⟩ = some (.int .i64 x.x.b.k) := unhide HCO 1 _ rfl
        have u2 : wr.cell? ⟨gn, i * 11 + 2, none⟩ = some (.int .i64 x.x.b.u) := unhide HCO 2 _ rfl
        have u3 : wr.cell? ⟨gn, i * 11 + 3, none⟩ = some (.int .i64 x.x.b.i) := unhide HCO 3 _ rfl
        have u4 : wr.cell? ⟨gn, i * 11 + 4, none⟩ = some (.int .i64 x.x.b.e) := unhide HCO 4 _ rfl
        have y2 : wr.cell? ⟨gV, 2, none⟩ = some (.slice va N.length vc) := (unhide HX).cell 2
        have hgr : gn < wr.heap.size := by omega
        have hgv : gV < wr.heap.size := by omega
        obtain ⟨Wh, hWh, hWhz, HBh, HXh⟩ := boxes1 wr [.int .i64 x.x.b.k, .int .i64 x.x.b.u, .int .i64 x.x.b.i, .int .i64 x.x.b.e] 40
        have HVN : Hid (VersAt Wh va N) := own_versAt rfl (own_below ((unhide HQ).own (unhide HO) (fun q hq e => by have := (unhide HOl q hq).1; omega)) (unhide HBh))
        go_wp2_with fail
        rw [← hWh]
        clear hWh u1 u2 u3 u4 y2
        refine (l4Of_any va vc N x.x.b.u Wh (unhide HVN) (by omega)).mono ?_
        rintro r w4 ⟨hr, hb4⟩
        obtain ⟨q, ok, hq, hpc⟩ := ofVal_piece (blks N) x.x.b
        rw [hq] at hr
        simp only [nodeCells] at hr
        subst hr
        have HPC := hide hpc
        clear hq hpc
        obtain ⟨W2, hW2, hW2z, HBn, HXn⟩ := boxes1 w4 [.int .i64 q.nu, .bool q.nd, .int .i64 q.np, .string q.nn, .int .i64 q.ns] 42
        have H42 : Hid (Below Wh.heap.size Wh W2) := below_step hb4 (unhide HBn) hb4.size
        have HR2 : Hid (Below wr.heap.size wr W2) := below_step (unhide HBh) (unhide H42) (unhide HBh).size
        have HXh2 := hide ((unhide HXh).below (unhide H42))
        have hz42 := (unhide H42).size
        obtain ⟨gh, hgh⟩ : ∃ gh, gh = wr.heap.size := ⟨_, rfl⟩
        have hgh2 : gh < W2.heap.size := by omega
        have hgn4 : w4.heap.size < W2.heap.size := by omega
        rw [← hgh] at HXh2
        go_upto_region 15 with fail
        rw [← hW2, ← hgh]
        have h0 : W2.cell? ⟨gh, 0, none⟩ = some (.int .i64 x.x.b.k) := (unhide HXh2).cell 0
        have h2 : W2.cell? ⟨gh, 2, none⟩ = some (.int .i64 x.x.b.i) := (unhide HXh2).cell 2
        have n1 : W2.cell? ⟨w4.heap.size, 1, none⟩ = some (.bool q.nd) := (unhide HXn).cell 1
        have n4 : W2.cell? ⟨w4.heap.size, 4, none⟩ = some (.int .i64 q.ns) := (unhide HXn).cell 4
        have hzr := (unhide HR2).size
        have HQ2 : Hid (Out (fun q => q = gV) P W2) := (unhide HQ).trans (Out.ofBelow (F := fun _ => False) (unhide HR2)) (fun _ _ h => h.elim)
        have HX2 := hide ((unhide HX).below (unhide HR2))
        have HDO2 := hide (own_below (unhide HDO) (unhide HR2))
        have HCO2 : Hid (∀ (j : Nat) (v : Value), x.cells[j]? = some v → W2.cell? ⟨gn, i * 11 + j, none⟩ = some v) := fun j v hv => ((unhide HR2).cell (p := ⟨gn, i * 11 + j, none⟩) hgr).trans (unhide HCO j v hv)
        clear hb4 HBn HBh HXh HVN H42 HR2 HXh2 HXn HX HDO HCO HQ hW2 hgh hWhz hW2z hz42
        have hzP2 : P.heap.size ≤ W2.heap.size := by omega
        have HNO : Hid (isPiece (blks N) x.x.b = false → D = datasOf N (NW.take (i + 1))) := fun hh => by rw [unhide HDS, hh]; simp
        have HYES : Hid (isPiece (blks N) x.x.b = true → D ++ [x] = datasOf N (NW.take (i + 1))) := fun hh => by rw [unhide HDS, hh]; simp
        clear HDS
        cases hk : (x.x.b.k == 2)
        · as_aux_lemma =>
            have HD2 := hide (unhide HNO (by rw [unhide HPC, hk]; simp))
            clear HNO HYES HPC
            go_wp2_with fail
            go_roundw
            case rel => exact ⟨i + 1, da, dc, D, by omega, by go_num, by omega, HD2, HQ2, hzP2, HX2, HDO2⟩
            case measure => simp [intOf]; omega
        cases ok
        · as_aux_lemma =>
            have HD2 := hide (unhide HNO (by rw [unhide HPC]; simp))
            clear HNO HYES HPC
            go_wp2_with fail
            go_roundw
            case rel => exact ⟨i + 1, da, dc, D, by omega, by go_num, by omega, HD2, HQ2, hzP2, HX2, HDO2⟩
            case measure => simp [intOf]; omega
        cases hnd : q.nd
        case true =>
            rw [hnd] at n1
            have HD2 := hide (unhide HNO (by rw [unhide HPC, hnd]; simp))
            clear HNO HYES HPC
            go_wp2_with fail
            go_roundw
            case rel => exact ⟨i + 1, da, dc, D, by omega, by go_num, by omega, HD2, HQ2, hzP2, HX2, HDO2⟩
            case measure => simp [intOf]; omega
        rw [hnd] at n1
        by_cases hin : x.x.b.i < q.ns
        case neg =>
            have hinb := decide_eq_false hin
            have HD2 := hide (unhide HNO (by rw [unhide HPC, hinb]; simp))
            clear HNO HYES HPC
            go_wp2_with fail
            go_roundw
            case rel => exact ⟨i + 1, da, dc, D, by omega, by go_num, by omega, HD2, HQ2, hzP2, HX2, HDO2⟩
            case measure => simp [intOf]; omega
        have hinb := decide_eq_true hin
        have HD2 := hide (unhide HYES (by rw [unhide HPC, hk, hnd, hinb]; rfl))
        have u0 : W2.cell? ⟨gn, i * 11, none⟩ = some (.int .i64 x.line) := unhide HCO2 0 _ rfl
        have u1 : W2.cell? ⟨gn, i * 11 + 1, none⟩ = some (.int .i64 x.x.b.k) := unhide HCO2 1 _ rfl
        have u2 : W2.cell? ⟨gn, i * 11 + 2, none⟩ = some (.int .i64 x.x.b.u) := unhide HCO2 2 _ rfl
        have u3 : W2.cell? ⟨gn, i * 11 + 3, none⟩ = some (.int .i64 x.x.b.i) := unhide HCO2 3 _ rfl
        have u4 : W2.cell? ⟨gn, i * 11 + 4, none⟩ = some (.int .i64 x.x.b.e) := unhide HCO2 4 _ rfl
        have u5 : W2.cell? ⟨gn, i * 11 + 5, none⟩ = some (.int .i64 x.x.b.nu) := unhide HCO2 5 _ rfl
        have u6 : W2.cell? ⟨gn, i * 11 + 6, none⟩ = some (.bool x.x.b.nd) := unhide HCO2 6 _ rfl
        have u7 : W2.cell? ⟨gn, i * 11 + 7, none⟩ = some (.int .i64 x.x.b.np) := unhide HCO2 7 _ rfl
        have u8 : W2.cell? ⟨gn, i * 11 + 8, none⟩ = some (.string x.x.b.nn) := unhide HCO2 8 _ rfl
        have u9 : W2.cell? ⟨gn, i * 11 + 9, none⟩ = some (.int .i64 x.x.b.ns) := unhide HCO2 9 _ rfl
        have u10 : W2.cell? ⟨gn, i * 11 + 10, none⟩ = some (.slice x.x.a x.x.b.nl.length x.x.c) := unhide HCO2 10 _ rfl
        have y3 : W2.cell? ⟨gV, 3, none⟩ = some (.slice da D.length dc) := (unhide HX2).cell 3
        have f3 : W2.frozen? ⟨gV, 3, none⟩ = false := (unhide HX2).frozen 3
        have hgr2 : gn < W2.heap.size := by omega
        have hgv2 : gV < W2.heap.size := by omega
        have HOA : Hid ((W2.drew.alloc (.cells #[.int .i64 x.line, .int .i64 x.x.b.k, .int .i64 x.x.b.u, .int .i64 x.x.b.i, .int .i64 x.x.b.e, .int .i64 x.x.b.nu, .bool x.x.b.nd, .int .i64 x.x.b.np, .string x.x.b.nn, .int .i64 x.x.b.ns, .slice x.x.a x.x.b.nl.length x.x.c] 46)).ownsRow P.heap.size 46 11 (.slice da D.length dc) D.length (vflat D)) := own_below (unhide HDO2) (((Below.refl _ W2).drew).alloc (Nat.le_refl _) _)
        have HXA : Hid (Box (W2.drew.alloc (.cells #[.int .i64 x.line, .int .i64 x.x.b.k, .int .i64 x.x.b.u, .int .i64 x.x.b.i, .int .i64 x.x.b.e, .int .i64 x.x.b.nu, .bool x.x.b.nd, .int .i64 x.x.b.np, .string x.x.b.nn, .int .i64 x.x.b.ns, .slice x.x.a x.x.b.nl.length x.x.c] 46)) gV [.int .i64 0, .int .i64 clock, .slice va N.length vc, .slice da D.length dc, .slice none 0 0] 28) := ((unhide HX2).drew).alloc _
        have HQA : Hid (Out (fun q => q = gV) P (W2.drew.alloc (.cells #[.int .i64 x.line, .int .i64 x.x.b.k, .int .i64 x.x.b.u, .int .i64 x.x.b.i, .int .i64 x.x.b.e, .int .i64 x.x.b.nu, .bool x.x.b.nd, .int .i64 x.x.b.np, .string x.x.b.nn, .int .i64 x.x.b.ns, .slice x.x.a x.x.b.nl.length x.x.c] 46))) := (unhide HQ2).trans (Out.ofBelow (F := fun _ => False) (((Below.refl _ W2).drew).alloc (Nat.le_refl _) _)) (fun _ _ h => h.elim)
        have RA : Hid (RowAt (W2.drew.alloc (.cells #[.int .i64 x.line, .int .i64 x.x.b.k, .int .i64 x.x.b.u, .int .i64 x.x.b.i, .int .i64 x.x.b.e, .int .i64 x.x.b.nu, .bool x.x.b.nd, .int .i64 x.x.b.np, .string x.x.b.nn, .int .i64 x.x.b.ns, .slice x.x.a x.x.b.nl.length x.x.c] 46)) (some ⟨W2.heap.size, 0, none⟩) (VerA.cells x)) := rowAt_box (box_new W2.drew [.int .i64 x.line, .int .i64 x.x.b.k, .int .i64 x.x.b.u, .int .i64 x.x.b.i, .int .i64 x.x.b.e, .int .i64 x.x.b.nu, .bool x.x.b.nd, .int .i64 x.x.b.np, .string x.x.b.nn, .int .i64 x.x.b.ns, .slice x.x.a x.x.b.nl.length x.x.c] 46)
        have hzA : P.heap.size ≤ (W2.drew.alloc (.cells #[.int .i64 x.line, .int .i64 x.x.b.k, .int .i64 x.x.b.u, .int .i64 x.x.b.i, .int .i64 x.x.b.e, .int .i64 x.x.b.nu, .bool x.x.b.nd, .int .i64 x.x.b.np, .string x.x.b.nn, .int .i64 x.x.b.ns, .slice x.x.a x.x.b.nl.length x.x.c] 46)).heap.size := by rw [World.size_alloc]; show P.heap.size ≤ W2.heap.size + 1; omega
        have HZA := hide hzA
        clear hzA HCO2 HX2 HDO2 HQ2
        go_wp2_with fail
        go_region_law (first | (refine step_append_xs _ rfl _ _ 26 rfl P.heap.size 46 i0 _ 11 112 Tryz.underlying26 hii hz0 hz1 hz2 rfl (by decide) (by decide) (.slice da D.length dc) D.length (vflat D) rfl (unhide HOA) _ 1 1 (VerA.cells x) rfl rfl (unhide RA) (VerA.one _) (by omega) (unhide HZA) ?_; intro v' w3 hown hgrow hloc; have X3 := (unhide HXA).grown hgrow (fun e => by have := ((unhide HOA).lt _ e).1; omega); have y4 := X3.cell 3; have f4 := X3.frozen 3; simp at y4; obtain ⟨a3, c3, e3, -⟩ := rowAt_own hown; subst e3; have HOW := hide hown; have HGR := hide hgrow; have HX3 := hide X3; clear X3 hown hgrow hloc))
        all_goals
          clear u0 u1 u2 u3 u4 u5 u6 u7 u8 u9 u10 y3 f3 y4 f4
          generalize hU : w3.setCell _ _ = U
          have X4 : Hid (Box U gV [.int .i64 0, .int .i64 clock, .slice va N.length vc, .slice a3 (D.length + 1) c3, .slice none 0 0] 28) := (unhide HX3).set' hU
          have O4 : Hid (U.ownsRow P.heap.size 46 11 (.slice a3 (D.length + 1) c3) (D.length + 1) (vflat D ++ VerA.cells x)) := own_stay (unhide HOW) (fun q hq _ => by rw [← hU]; exact Below.heap_setCell w3 _ _ q (by have := ((unhide HOW).lt q hq).1; show q ≠ gV; omega))
          have Q3 : Hid (Out (fun q => q = gV) P w3) := (unhide HQA).trans (Out.ofGrown (unhide HGR)) (fun q hq e => by have := ((unhide HOA).lt q e.symm).1; omega)
          have Q4 : Hid (Out (fun q => q = gV) P U) := out_set' (unhide Q3) hU (.inl rfl)
          have hl : D.length + 1 = (D ++ [x]).length := by simp
          rw [hl, ← vflat_snoc] at O4
          rw [hl] at X4
          have hz4 : P.heap.size ≤ U.heap.size := (unhide Q4).size
          clear HX3 HOW HGR Q3 HQA HXA HOA RA HZA hU
          go_wp2_with fail
          go_roundw
          case rel => exact ⟨i + 1, a3, c3, D ++ [x], by omega, by go_num, by omega, HD2, Q4, hz4, X4, O4⟩
          case measure => simp [intOf]; omega
    have hlt' : (i : Int) < NW.length := by omega
    have hco := own_vers rfl (own_below (unhide hON2) (unhide HB)) i hlt
    have hgn : gn < w2.heap.size := ((unhide hON2).lt gn rfl).2
    have HNS : Hid (nodesOf (NW.take (i + 1)) = N ++ (if (NW[i].x.b.k == 1) = true then [NW[i]] else [])) := by rw [Hid, nodes_succ hlt, ← unhide HN]
    clear HN
    generalize NW[i] = x at *
    have u0 : wr.cell? ⟨gn, i * 11, none⟩ = some (.int .i64 x.line) := hco 0 _ rfl
    have u1 : wr.cell? ⟨gn, i * 11 + 1, none⟩ = some (.int .i64 x.x.b.k) := hco 1 _ rfl
    cases hk : (x.x.b.k == 1)
    · have HN2 : Hid (N = nodesOf (NW.take (i + 1))) := by rw [Hid, unhide HNS, hk]; simp
      clear HNS
      go_wp2_with fail
      go_roundw
      case rel => exact ⟨i + 1, va, vc, N, by omega, by go_num, by omega, HN2, HB, hz, HX, HO⟩
      case measure => simp [intOf]; omega
    have HN2 : Hid (N ++ [x] = nodesOf (NW.take (i + 1))) := by rw [Hid, unhide HNS, hk]; simp
    clear HNS
    have u2 : wr.cell? ⟨gn, i * 11 + 2, none⟩ = some (.int .i64 x.x.b.u) := hco 2 _ rfl
    have u3 : wr.cell? ⟨gn, i * 11 + 3, none⟩ = some (.int .i64 x.x.b.i) := hco 3 _ rfl
    have u4 : wr.cell? ⟨gn, i * 11 + 4, none⟩ = some (.int .i64 x.x.b.e) := hco 4 _ rfl
    have u5 : wr.cell? ⟨gn, i * 11 + 5, none⟩ = some (.int .i64 x.x.b.nu) := hco 5 _ rfl
    have u6 : wr.cell? ⟨gn, i * 11 + 6, none⟩ = some (.bool x.x.b.nd) := hco 6 _ rfl
    have u7 : wr.cell? ⟨gn, i * 11 + 7, none⟩ = some (.int .i64 x.x.b.np) := hco 7 _ rfl
    have u8 : wr.cell? ⟨gn, i * 11 + 8, none⟩ = some (.string x.x.b.nn) := hco 8 _ rfl
    have u9 : wr.cell? ⟨gn, i * 11 + 9, none⟩ = some (.int .i64 x.x.b.ns) := hco 9 _ rfl
    have u10 : wr.cell? ⟨gn, i * 11 + 10, none⟩ = some (.slice x.x.a x.x.b.nl.length x.x.c) := hco 10 _ rfl
    have y2 : wr.cell? ⟨w2.heap.size, 2, none⟩ = some (.slice va N.length vc) := (unhide HX).cell 2
    have f2 : wr.frozen? ⟨w2.heap.size, 2, none⟩ = false := (unhide HX).frozen 2
    have hgr : gn < wr.heap.size := by omega
    have hgv : w2.heap.size < wr.heap.size := by omega
    have HOA : Hid ((wr.drew.alloc (.cells #[.int .i64 x.line, .int .i64 x.x.b.k, .int .i64 x.x.b.u, .int .i64 x.x.b.i, .int .i64 x.x.b.e, .int .i64 x.x.b.nu, .bool x.x.b.nd, .int .i64 x.x.b.np, .string x.x.b.nn, .int .i64 x.x.b.ns, .slice x.x.a x.x.b.nl.length x.x.c] 46)).ownsRow (w2.heap.size + 1) 46 11 (.slice va N.length vc) N.length (vflat N)) := own_below (unhide HO) (((Below.refl _ wr).drew).alloc (Nat.le_refl _) _)
    have HXA : Hid (Box (wr.drew.alloc (.cells #[.int .i64 x.line, .int .i64 x.x.b.k, .int .i64 x.x.b.u, .int .i64 x.x.b.i, .int .i64 x.x.b.e, .int .i64 x.x.b.nu, .bool x.x.b.nd, .int .i64 x.x.b.np, .string x.x.b.nn, .int .i64 x.x.b.ns, .slice x.x.a x.x.b.nl.length x.x.c] 46)) w2.heap.size [.int .i64 0, .int .i64 clock, .slice va N.length vc, .slice none 0 0, .slice none 0 0] 28) := ((unhide HX).drew).alloc _
    have HBA : Hid (Below w2.heap.size w2 (wr.drew.alloc (.cells #[.int .i64 x.line, .int .i64 x.x.b.k, .int .i64 x.x.b.u, .int .i64 x.x.b.i, .int .i64 x.x.b.e, .int .i64 x.x.b.nu, .bool x.x.b.nd, .int .i64 x.x.b.np, .string x.x.b.nn, .int .i64 x.x.b.ns, .slice x.x.a x.x.b.nl.length x.x.c] 46))) := ((unhide HB).drew).alloc (by show w2.heap.size ≤ wr.heap.size; omega) _
    have RA : Hid (RowAt (wr.drew.alloc (.cells #[.int .i64 x.line, .int .i64 x.x.b.k, .int .i64 x.x.b.u, .int .i64 x.x.b.i, .int .i64 x.x.b.e, .int .i64 x.x.b.nu, .bool x.x.b.nd, .int .i64 x.x.b.np, .string x.x.b.nn, .int .i64 x.x.b.ns, .slice x.x.a x.x.b.nl.length x.x.c] 46)) (some ⟨wr.heap.size, 0, none⟩) (VerA.cells x)) := rowAt_box (box_new wr.drew [.int .i64 x.line, .int .i64 x.x.b.k, .int .i64 x.x.b.u, .int .i64 x.x.b.i, .int .i64 x.x.b.e, .int .i64 x.x.b.nu, .bool x.x.b.nd, .int .i64 x.x.b.np, .string x.x.b.nn, .int .i64 x.x.b.ns, .slice x.x.a x.x.b.nl.length x.x.c] 46)
    have hzA : w2.heap.size + 1 ≤ (wr.drew.alloc (.cells #[.int .i64 x.line, .int .i64 x.x.b.k, .int .i64 x.x.b.u, .int .i64 x.x.b.i, .int .i64 x.x.b.e, .int .i64 x.x.b.nu, .bool x.x.b.nd, .int .i64 x.x.b.np, .string x.x.b.nn, .int .i64 x.x.b.ns, .slice x.x.a x.x.b.nl.length x.x.c] 46)).heap.size := by rw [World.size_alloc]; show w2.heap.size + 1 ≤ wr.heap.size + 1; omega
    have HZA := hide hzA
    clear hzA hco HX HO HB
    go_wp2_with fail
    go_region_law (first | (refine step_append_xs _ rfl _ _ 26 rfl (w2.heap.size + 1) 46 i0 _ 11 112 Tryz.underlying26 hii hz0 hz1 hz2 rfl (by decide) (by decide) (.slice va N.length vc) N.length (vflat N) rfl (unhide HOA) _ 1 1 (VerA.cells x) rfl rfl (unhide RA) (VerA.one _) (by omega) (unhide HZA) ?_; intro v' w3 hown hgrow hloc; have X3 := (unhide HXA).grown hgrow (fun e => by have := ((unhide HOA).lt _ e).1; omega); have y3 := X3.cell 2; have f3 := X3.frozen 2; simp at y3; obtain ⟨a3, c3, e3, -⟩ := rowAt_own hown; subst e3; have HOW := hide hown; have HGR := hide hgrow; have HX3 := hide X3; clear X3 hown hgrow hloc))
    all_goals
      clear u0 u1 u2 u3 u4 u5 u6 u7 u8 u9 u10 y2 f2 y3 f3
      generalize hU : w3.setCell _ _ = U
      have X4 : Hid (Box U w2.heap.size [.int .i64 0, .int .i64 clock, .slice a3 (N.length + 1) c3, .slice none 0 0, .slice none 0 0] 28) := (unhide HX3).set' hU
      have O4 : Hid (U.ownsRow (w2.heap.size + 1) 46 11 (.slice a3 (N.length + 1) c3) (N.length + 1) (vflat N ++ VerA.cells x)) := own_stay (unhide HOW) (fun q hq _ => by rw [← hU]; exact Below.heap_setCell w3 _ _ q (by have := ((unhide HOW).lt q hq).1; show q ≠ w2.heap.size; omega))
      have B3 : Hid (Below w2.heap.size w2 w3) := (unhide HBA).grown (unhide HGR) (by have := unhide HZA; omega) (fun q hq => by have := ((unhide HOA).lt q hq).1; omega)
      have B4 : Hid (Below w2.heap.size w2 U) := below_set' (unhide B3) hU (Nat.le_refl _)
      have hl : N.length + 1 = (N ++ [x]).length := by simp
      rw [hl, ← vflat_snoc] at O4
      rw [hl] at X4
      have hz4 : w2.heap.size + 1 ≤ U.heap.size := (unhide X4).lt
      clear HX3 HOW HGR B3 HBA HXA HOA RA HZA hU
      go_wp2_with fail
      go_roundw
      case rel => exact ⟨i + 1, a3, c3, N ++ [x], by omega, by go_num, by omega, HN2, B4, hz4, X4, O4⟩
      case measure => simp [intOf]; omega
end Go.Proofs.YtiopofemelninaaGreat
/-
  What versions in words may be (no Go in sight).
-/
namespace Go.Proofs.YtiopofemelninaaGreat
open Go.RowKit
set_option linter.unusedVariables false

/-- What a version's head and node may be. -/
structure GoodB (clock : Int) (b : Blk) : Prop where
  k : b.k = 1 ∨ b.k = 2 ∨ b.k = 3
  u : 1 ≤ b.u ∧ b.u ≤ 999
  i : 0 ≤ b.i ∧ b.i ≤ 3
  i0 : b.k ≠ 2 → b.i = 0
  e : 1 ≤ b.e ∧ b.e ≤ 9999
  node : b.e ≤ clock - 2 → b.k = 1 → b.nu = b.u ∧ nodeNums b.nu b.nd b.np b.ns = true
theorem nodeNums_facts {u p s : Int} {d : Bool} (h : nodeNums u d p s = true) : (1 ≤ u ∧ u ≤ 999) ∧ (0 ≤ p ∧ p ≤ 999) ∧ p ≠ u ∧ (0 ≤ s ∧ s ≤ 4) ∧ (d = true → s = 0) := by
  unfold nodeNums at h
  simp only [Bool.and_eq_true, inB, decide_eq_true_eq, Bool.not_eq_true'] at h
  obtain ⟨⟨⟨⟨h1, h2⟩, h3⟩, h4⟩, h5⟩ := h
  refine ⟨h1, h2, by simpa using h3, h4, fun hd => ?_⟩
  rw [hd] at h5
  simpa using h5
theorem whOk_facts {x : Int} (h : whOk x = true) (h0 : x % 4 ≠ 0) : (x % 4 = 1 ∨ x % 4 = 2 ∨ x % 4 = 3) ∧ (1 ≤ x / 16 % 1000 ∧ x / 16 % 1000 ≤ 999) ∧ (0 ≤ x / 4 % 4 ∧ x / 4 % 4 ≤ 3) ∧ (x % 4 ≠ 2 → x / 4 % 4 = 0) ∧ (1 ≤ x / 16000 ∧ x / 16000 ≤ 9999) := by
  unfold whOk headOk at h
  rw [if_neg h0] at h
  simp only [Bool.and_eq_true, Bool.or_eq_true, inB, decide_eq_true_eq] at h
  obtain ⟨_, ⟨⟨⟨h1, h2⟩, h3⟩, h4⟩, h5⟩ := h
  refine ⟨by omega, h2, h3, fun h6 => ?_, h5⟩
  rcases h4 with h4 | h4
  · exact absurd h4 h6
  · exact h4
theorem headBlk_good {clock x : Int} (h : whOk x = true) (h0 : x % 4 ≠ 0) (hs : ¬ x / 16000 ≤ clock - 2) : GoodB clock (headBlk x) := by
  obtain ⟨h1, h2, h3, h4, h5⟩ := whOk_facts h h0
  exact ⟨h1, h2, h3, h4, h5, fun he => absurd he hs⟩
theorem readBlk_good {clock : Int} {l : List Int} (hc : readCode l = 0) (h0 : l.getD 0 0 % 4 ≠ 0) : GoodB clock (readBlk l) ∧ (readBlk l).e = l.getD 0 0 / 16000 := by
  unfold readCode at hc
  split at hc
  · rename_i x0 x1 x2 x3 x4 x5 x6 x7
    have h0' : x0 % 4 ≠ 0 := h0
    split at hc
    · rename_i hw
      split at hc
      · rename_i hag
        obtain ⟨h1, h2, h3, h4, h5⟩ := whOk_facts hw h0'
        have hb : readBlk [x0, x1, x2, x3, x4, x5, x6, x7] = toldBlk x0 x1 x2 x3 x4 := by
          have hr : readCode [x0, x1, x2, x3, x4, x5, x6, x7] = 0 := by
            unfold readCode
            simp only [hw, if_true, if_neg h0', if_pos hag]
          unfold readBlk
          simp only [hr, if_true]
        rw [hb]
        have hag1 := hag.1
        unfold toldBlk
        unfold againCode at hag1
        rcases h1 with h1 | h1 | h1
        · rw [if_pos h1] at hag1 ⊢
          have hn := (nodeCode_eq0 (orI_zero hag1).1).1
          exact ⟨⟨.inl rfl, h2, by simp, fun _ => rfl, h5, fun _ _ => ⟨rfl, hn⟩⟩, rfl⟩
        · rw [if_neg (by omega), if_pos h1]
          exact ⟨⟨.inr (.inl rfl), h2, h3, fun hk => absurd rfl hk, h5, fun _ hk => absurd hk (by simp)⟩, rfl⟩
        · rw [if_neg (by omega), if_neg (by omega), if_pos h1]
          exact ⟨⟨.inr (.inr rfl), h2, by simp, fun _ => rfl, h5, fun _ hk => absurd hk (by simp)⟩, rfl⟩
      · exact absurd hc (by decide)
    · exact absurd hc (by decide)
  · exact absurd hc (by decide)
theorem stepVers_good {clock line : Int} {l : List Int} (h : stepCode clock l = 0) : ∀ v ∈ stepVers clock line l, GoodB clock v.2 := by
  intro v hv
  unfold stepVers at hv
  unfold stepCode at h
  split at hv
  · cases hv
  · rename_i h0
    split at h
    · rename_i hw
      split at hv
      · rename_i hs
        rw [if_pos hs] at h
        rcases List.mem_singleton.1 hv with rfl
        exact (readBlk_good h h0).1
      · rename_i hs
        rcases List.mem_singleton.1 hv with rfl
        exact headBlk_good hw h0 (by simpa [sureB] using hs)
    · exact absurd h (by decide)
theorem imgRun_good {clock : Int} : ∀ (n : Nat) (line : Int) (ws : List Int), ∀ v ∈ (imgRun clock n line ws).2.1, GoodB clock v.2
  | 0, _, _, v, hv => by cases hv
  | n + 1, line, ws, v, hv => by
    unfold imgRun at hv
    split at hv
    · rename_i h0
      split at hv
      · rcases List.mem_append.1 hv with hv | hv
        · exact stepVers_good h0 v hv
        · exact imgRun_good n _ _ v hv
      · cases hv
    · cases hv
theorem imgVers_good {ws : List Int} : ∀ v ∈ imgVers ws, GoodB (clockVal ws) v.2 := by
  intro v hv
  unfold imgVers at hv
  split at hv
  · exact imgRun_good _ _ _ v hv
  · cases hv
theorem imgVers_len (ws : List Int) : (imgVers ws).length ≤ ws.length := by
  unfold imgVers
  split
  · have := (imgRun_len (clockVal ws) (ws.length / 8 - 1) 1 (ws.drop 8)).1
    omega
  · simp
end Go.Proofs.YtiopofemelninaaGreat
