/-
  What spec.l5Find, spec.l5Item and spec.ItemsFault answer.
-/
import Derived.Test.YtcmekhpphgkglaaDoorIfBase
import Derived.Test.YtcmekhpphgkglaaDoorPathNamesWalk
import Derived.Test.YtcmekhpphgkglaaDoorInWalk
import Derived.BigQuiet
import Derived.Deep.QuietTactic
namespace Go.Proofs.YtcmekhpphgkglaaDoor
open Go.RowKit
set_option linter.unusedVariables false

theorem itm_cells {w : World} {b o : Nat} {x : ItmA} (h : ∀ j v, x.cells[j]? = some v → w.cell? ⟨b, o + j, none⟩ = some v) : w.cell? ⟨b, o, none⟩ = some (.string x.b.p) ∧ w.cell? ⟨b, o + 1, none⟩ = some (.bool x.b.d) ∧ w.cell? ⟨b, o + 2, none⟩ = some (.slice x.a x.b.l.length x.c) := ⟨h 0 _ rfl, h 1 _ rfl, h 2 _ rfl⟩
/-- Where spec.l5Find finds a path. -/
def FoundI (L : List ItmA) (q : ByteArray) (i : Int) : Prop := (i = -1 ∧ findI L q = none) ∨ ∃ k, ∃ h : k < L.length, i = k ∧ findI L q = some L[k].b.d
set_option maxRecDepth 20000 in
set_option maxHeartbeats 1000000 in
theorem l5Find_any (a : Option Addr) (c : Nat) (L : List ItmA) (q : ByteArray) (w : World) (h : ItmsAt w a L) (hn : L.length ≤ 1048576) :
    Calls Tryd.prog 18 #[.slice a L.length c, .string q] w fun e w' => (∃ i, e = .returned (.int .i64 i) ∧ FoundI L q i) ∧ w' = w := by
  have HF := hide h
  clear h
  go_enter Tryd.func18, Tryd.ntmps18
  go_wp2_with fail
  go_loop [5] (fun i => ∃ k : Nat, k ≤ L.length ∧ i = .int .i64 k ∧ Hid (findI L q = findI (L.drop k) q)) (fun i => L.length - (intOf i).toNat)
  case atStart => exact ⟨0, Nat.zero_le _, rfl, rfl⟩
  case round =>
    obtain ⟨k, hk, rfl, HX⟩ := hrel
    by_cases hlt : k < L.length
    · obtain ⟨b1, o1, rfl, hb1, hc1⟩ := (unhide HF).at hlt
      obtain ⟨x0, -, -⟩ := itm_cells (hc1 k hlt).1
      have hst := findI_drop (q := q) hlt
      have hlt' : (k : Int) < L.length := by omega
      cases hq : (L[k].b.p.toList == q.toList)
      · rw [hq, if_neg (by decide)] at hst
        have HY : Hid (findI L q = findI (L.drop (k + 1)) q) := (unhide HX).trans hst
        clear hst HX hc1
        generalize L[k].b.p = p at *
        go_wp2_with fail
        go_round
        case rel => exact ⟨k + 1, by omega, by go_num, HY⟩
        case measure => simp [intOf]; omega
      · rw [hq, if_pos rfl] at hst
        have HV : Hid (FoundI L q k) := .inr ⟨k, hlt, rfl, (unhide HX).trans hst⟩
        clear hst HX hc1
        generalize L[k].b.p = p at *
        go_wp2_with fail
        go_ret
        exact ⟨⟨_, rfl, unhide HV⟩, rfl⟩
    · have HV : Hid (FoundI L q (-1)) := .inl ⟨rfl, (unhide HX).trans (findI_end (by omega))⟩
      clear HX
      go_wp2_with fail
      go_ret
      exact ⟨⟨_, rfl, unhide HV⟩, rfl⟩
set_option maxRecDepth 20000 in
set_option maxHeartbeats 2000000 in
theorem l5Item_any (b o : Nat) (x : ItmA) (w : World) (hb : b < w.heap.size) (hc : ∀ j v, x.cells[j]? = some v → w.cell? ⟨b, o + j, none⟩ = some v) (h : IntsAt w x.a x.b.l) (hn : x.b.l.length ≤ 1048576) (hs : x.b.p.size ≤ 1048576) :
    Calls Tryd.prog 16 #[.pointer (some ⟨b, o, none⟩)] w fun e w' => e = .returned (.int .i64 (itemC x.b)) ∧ Below w.heap.size w w' := by
  have hfd : ∀ (x : Int) (v : Value) (w : World), (Instr.field 70 (.agg #[.int .i64 x, v]) 0).run Tryd.prog w = .ok (.int .i64 x) w := fun x v w => by kernel_rfl
  obtain ⟨x0, x1, x2⟩ := itm_cells hc
  obtain ⟨⟨p, d, l⟩, a, c⟩ := x
  simp only at x0 x1 x2 h hn hs
  have H := hide h
  clear hc h
  go_enter Tryd.func16, Tryd.ntmps16
  go_wp2_with fail
  refine (specPathNames_any p _ hs).mono ?_
  rintro e w1 ⟨hT, hb1⟩
  obtain ⟨v, ps, rfl, -, hrow⟩ := hT
  obtain ⟨av, cv, rfl, -, -, -⟩ := strsAt_own hrow
  clear hrow
  have B1 := hide hb1
  have y0 : w1.cell? ⟨b, o, none⟩ = some (.string p) := (hb1.cell (p := ⟨b, o, none⟩) hb).trans x0
  have y1 : w1.cell? ⟨b, o + 1, none⟩ = some (.bool d) := (hb1.cell (p := ⟨b, o + 1, none⟩) hb).trans x1
  have y2 : w1.cell? ⟨b, o + 2, none⟩ = some (.slice a l.length c) := (hb1.cell (p := ⟨b, o + 2, none⟩) hb).trans x2
  have H1 := hide ((unhide H).below hb1)
  clear hb1 x0 x1 x2 H
  generalize hcd : pnCode p.data.toList = cd at *
  have HC : Hid (itemC ⟨p, d, l⟩ = or0 cd (if isRoot p = true then 1 else if piecesB d l.length = true then (if numsI l = true then 0 else 3) else 1)) := by rw [Hid, itemC, hcd]
  clear hcd
  by_cases hc0 : cd = 0
  case neg =>
    have HV : Hid (itemC ⟨p, d, l⟩ = cd) := by rw [Hid, unhide HC, or0_left hc0]
    have hcb := neq_true hc0
    clear HC hc0
    go_wp2_with fail
    go_ret
    exact ⟨ret_int (unhide HV).symm, unhide B1⟩
  subst hc0
  have HD : Hid (itemC ⟨p, d, l⟩ = (if isRoot p = true then 1 else if piecesB d l.length = true then (if numsI l = true then 0 else 3) else 1)) := (unhide HC).trans (or0_right rfl)
  clear HC
  cases hr : isRoot p
  case true =>
    have HV : Hid (itemC ⟨p, d, l⟩ = 1) := by rw [Hid, unhide HD, hr, if_pos rfl]
    clear HD
    rw [isRoot] at hr
    go_wp2_with fail
    go_ret
    exact ⟨ret_int (unhide HV).symm, unhide B1⟩
  have HE : Hid (itemC ⟨p, d, l⟩ = (if piecesB d l.length = true then (if numsI l = true then 0 else 3) else 1)) := by rw [Hid, unhide HD, hr, if_neg (by decide)]
  clear HD
  rw [isRoot] at hr
  cases hpc : piecesB d l.length
  case false =>
    have HV : Hid (itemC ⟨p, d, l⟩ = 1) := by rw [Hid, unhide HE, hpc, if_neg (by decide)]
    clear HE
    rcases pieces_no hpc with ⟨rfl, h1⟩ | ⟨rfl, h1⟩ | ⟨rfl, h1, h2⟩
    · have hzb : decide (0 < l.length) = true := decide_eq_true (by omega)
      clear hpc h1
      go_wp2_with fail
      go_ret
      exact ⟨ret_int (unhide HV).symm, unhide B1⟩
    · have hm2 : ((l.length : Int) % 4 != 0) = true := by simpa using h1
      clear hpc h1
      go_wp2_with fail
      go_ret
      exact ⟨ret_int (unhide HV).symm, unhide B1⟩
    · have hm2 : ((l.length : Int) % 4 != 0) = false := by simpa using h1
      clear hpc h1
      go_wp2_with fail
      go_ret
      exact ⟨ret_int (unhide HV).symm, unhide B1⟩
  have HG : Hid (itemC ⟨p, d, l⟩ = if numsI l = true then 0 else 3) := by rw [Hid, unhide HE, hpc, if_pos rfl]
  clear HE
  obtain ⟨h1, h2, h3⟩ := pieces_yes hpc
  have hm2 : ((l.length : Int) % 4 != 0) = false := by simpa using h1
  have hg : ¬ ((16 : Int) < l.length) := by omega
  clear h1 h2 hpc
  cases d
  · clear h3
    go_wp2_with fail
    go_loop [5] (fun i => ∃ n : Nat, n ≤ l.length ∧ i = .int .i64 n ∧ Hid (numsI l = numsI (l.drop n))) (fun i => l.length - (intOf i).toNat)
    case atStart => exact ⟨0, Nat.zero_le _, rfl, rfl⟩
    case round =>
      obtain ⟨n, hn2, rfl, HX⟩ := hrel
      by_cases hlt : n < l.length
      · obtain ⟨b1, o1, rfl, hb1, hc1⟩ := (unhide H1).at hlt
        have hc := hc1 n hlt
        have hst := numsI_drop hlt
        clear hc1
        generalize l[n] = x at *
        cases hx : inB x 0 9999
        · have HV : Hid (itemC ⟨p, false, l⟩ = 3) := by rw [Hid, unhide HG, unhide HX, hst, hx]; rfl
          clear hst HX HG
          go_wp2_with (go_at_call 31; refine (l1In_any _ _ _ _).mono ?_; rintro r w1 ⟨rfl, rfl⟩; rw [hx])
          go_ret
          exact ⟨ret_int (unhide HV).symm, unhide B1⟩
        · have HY : Hid (numsI l = numsI (l.drop (n + 1))) := by rw [Hid, unhide HX, hst, hx]; rfl
          clear hst HX HG
          go_wp2_with (go_at_call 31; refine (l1In_any _ _ _ _).mono ?_; rintro r w1 ⟨rfl, rfl⟩; rw [hx])
          go_round
          case rel => exact ⟨n + 1, by omega, by go_num, HY⟩
          case measure => simp [intOf]; omega
      · have HV : Hid (itemC ⟨p, false, l⟩ = 0) := by rw [Hid, unhide HG, unhide HX, numsI_end (by omega), if_pos rfl]
        clear HX HG
        go_wp2_with fail
        go_ret
        exact ⟨ret_int (unhide HV).symm, unhide B1⟩
  · have hzb : decide (0 < l.length) = false := decide_eq_false (by have := h3 rfl; omega)
    clear h3
    go_wp2_with fail
    go_loop [5] (fun i => ∃ n : Nat, n ≤ l.length ∧ i = .int .i64 n ∧ Hid (numsI l = numsI (l.drop n))) (fun i => l.length - (intOf i).toNat)
    case atStart => exact ⟨0, Nat.zero_le _, rfl, rfl⟩
    case round =>
      obtain ⟨n, hn2, rfl, HX⟩ := hrel
      by_cases hlt : n < l.length
      · obtain ⟨b1, o1, rfl, hb1, hc1⟩ := (unhide H1).at hlt
        have hc := hc1 n hlt
        have hst := numsI_drop hlt
        clear hc1
        generalize l[n] = x at *
        cases hx : inB x 0 9999
        · have HV : Hid (itemC ⟨p, true, l⟩ = 3) := by rw [Hid, unhide HG, unhide HX, hst, hx]; rfl
          clear hst HX HG
          go_wp2_with (go_at_call 31; refine (l1In_any _ _ _ _).mono ?_; rintro r w1 ⟨rfl, rfl⟩; rw [hx])
          go_ret
          exact ⟨ret_int (unhide HV).symm, unhide B1⟩
        · have HY : Hid (numsI l = numsI (l.drop (n + 1))) := by rw [Hid, unhide HX, hst, hx]; rfl
          clear hst HX HG
          go_wp2_with (go_at_call 31; refine (l1In_any _ _ _ _).mono ?_; rintro r w1 ⟨rfl, rfl⟩; rw [hx])
          go_round
          case rel => exact ⟨n + 1, by omega, by go_num, HY⟩
          case measure => simp [intOf]; omega
      · have HV : Hid (itemC ⟨p, true, l⟩ = 0) := by rw [Hid, unhide HG, unhide HX, numsI_end (by omega), if_pos rfl]
        clear HX HG
        go_wp2_with fail
        go_ret
        exact ⟨ret_int (unhide HV).symm, unhide B1⟩
def ItmA.sized (x : ItmA) : Prop := x.b.p.size ≤ 1048576
set_option maxRecDepth 20000 in
set_option maxHeartbeats 4000000 in
theorem specItemsFault_any (a : Option Addr) (c : Nat) (L : List ItmA) (w : World) (h : ItmsAt w a L) (hn : L.length ≤ 1048576) (hs : ∀ x ∈ L, x.sized) :
    Calls Tryd.prog 6 #[.slice a L.length c] w fun r w' => r = .returned (.int .i64 (itemsCode L)) ∧ Below w.heap.size w w' := by
  have HF := hide h
  have HS := hide hs
  clear h hs
  by_cases hl : (60 : Int) < L.length
  · have HV : Hid (itemsCode L = 2) := by rw [Hid, itemsCode, if_pos hl]
    go_enter Tryd.func6, Tryd.ntmps6
    go_wp2_with fail
    go_ret
    exact ⟨ret_int (unhide HV).symm, Below.refl _ _⟩
  have HQ : Hid (itemsCode L = or0 (itemsC L) (treeI L none L)) := by rw [Hid, itemsCode, if_neg hl]
  go_enter Tryd.func6, Tryd.ntmps6
  go_wp2_with fail
  go_loopw [3] (fun i wr => ∃ k : Nat, k ≤ L.length ∧ i = .int .i64 k ∧ Hid (Below w.heap.size w wr) ∧ Hid (itemsC L = itemsC (L.drop k))) (fun i _ => L.length - (intOf i).toNat)
  case atStart => exact ⟨0, Nat.zero_le _, rfl, Below.refl _ _, rfl⟩
  case round =>
    obtain ⟨k, hk, rfl, HB, HX⟩ := hrel
    by_cases hlt : k < L.length
    · obtain ⟨b1, o1, rfl, hb1, hc1⟩ := (unhide HF).at hlt
      have hbw := unhide HB
      have hx := hc1 k hlt
      have hsz : L[k].b.p.size ≤ 1048576 := unhide HS _ (List.getElem_mem hlt)
      have hst := itemsC_drop hlt
      generalize L[k] = y at *
      have zb1 : b1 < wr.heap.size := by have := hbw.size; omega
      have hlt' : (k : Int) < L.length := by omega
      have HN := hide (l5Item_any b1 (o1 + k * 3) y wr zb1 (fun j v hj => (hbw.cell (p := ⟨b1, o1 + k * 3 + j, none⟩) hb1).trans (hx.1 j v hj)) (hx.2.1.below hbw) hx.2.2 hsz)
      have HY : Hid (itemsC L = or0 (itemC y.b) (itemsC (L.drop (k + 1)))) := (unhide HX).trans hst
      clear hc1 hx hst hbw HX
      generalize itemC y.b = cd at *
      go_wp2_with fail
      refine (unhide HN).mono ?_
      rintro r w2 ⟨rfl, hb2⟩
      have B2 := hide (below_step (unhide HB) hb2 (unhide HB).size)
      clear hb2 HB HN
      by_cases hc0 : cd = 0
      · have HZ : Hid (itemsC L = itemsC (L.drop (k + 1))) := by rw [Hid, unhide HY, or0_right hc0]
        subst hc0
        clear HY
        go_wp2_with fail
        go_roundw
        case rel => exact ⟨k + 1, by omega, by go_num, B2, HZ⟩
        case measure => simp [intOf]; omega
      · have HV : Hid (itemsCode L = cd) := by rw [Hid, unhide HQ, unhide HY, or0_left hc0, or0_left hc0]
        have hcb := neq_true hc0
        clear HY hc0 HQ
        go_wp2_with fail
        go_ret
        exact ⟨ret_int (unhide HV).symm, unhide B2⟩
    · have hz : itemsC L = 0 := by rw [unhide HX, itemsC_end (by omega)]
      have HZ := hide (itemsC_zero hz)
      have HC : Hid (itemsCode L = treeI L none L) := by rw [Hid, unhide HQ, or0_right hz]
      clear HX hz HQ
      go_wp2_with fail
      go_loopw [5] (fun i wr => ∃ k : Nat, k ≤ L.length ∧ i = .int .i64 k ∧ Hid (Below w.heap.size w wr) ∧ Hid (treeI L none L = treeI L (prevO L k) (L.drop k))) (fun i _ => L.length - (intOf i).toNat)
      case atStart => exact ⟨0, Nat.zero_le _, rfl, HB, rfl⟩
      case round =>
        clear HB
        obtain ⟨k, hk, rfl, HB, HX⟩ := hrel
        by_cases hlt2 : k < L.length
        · obtain ⟨b1, o1, rfl, hb1, hc1⟩ := (unhide HF).at hlt2
          have hw := unhide HB
          cases k with
          | zero =>
            have x0 : wr.cell? ⟨b1, o1 + 0 * 3, none⟩ = some (.string L[0].b.p) := (hw.cell (p := ⟨b1, o1 + 0 * 3, none⟩) hb1).trans (itm_cells (hc1 0 hlt2).1).1
            clear hw
            have hle2 : leqO L[0].b.p (prevO L (0)) = false := rfl
            have hst := treeI_drop (M := L) hlt2
            rw [hle2, if_neg (by decide)] at hst
            have HY : Hid (itemsCode L = or0 (parC L L[0].b.p) (treeI L (prevO L (0 + 1)) (L.drop (0 + 1)))) := (unhide HC).trans ((unhide HX).trans hst)
            have HY2 : Hid (treeI L none L = or0 (parC L L[0].b.p) (treeI L (prevO L (0 + 1)) (L.drop (0 + 1)))) := (unhide HX).trans hst
            obtain ⟨rr, hrr⟩ := pn_head (itemC_path (unhide HZ _ (List.getElem_mem hlt2))).1
            have hsz : L[0].b.p.size ≤ 1048576 := unhide HS _ (List.getElem_mem hlt2)
            have HRR := hide hrr
            clear hle2 hst hrr HX
            generalize L[0].b.p = p at *
            go_wp2_with fail
            go_quiet (fail)
            obtain ⟨U, hU⟩ : ∃ U, U = wr.drewN nq := ⟨_, rfl⟩
            have BU : Hid (Below w.heap.size w U) := by rw [hU]; exact below_drewN (unhide HB) _
            have u0 : U.cell? ⟨b1, o1 + (0) * 3, none⟩ = some (.string p) := by rw [hU]; simpa using x0
            simp only [Nat.zero_mul, Nat.add_zero] at u0
            rw [← hU]
            clear hU HB x0
            go_wp2_with fail
            refine (l5Parent_any p _ hsz rr (unhide HRR)).mono ?_
            rintro e w3 ⟨rfl, rfl⟩
            have HPC : Hid (parC L p = if isRoot (parB p) = true then 0 else match findI L (parB p) with
              | none => 4
              | some true => 0
              | some false => 8) := rfl
            generalize parB p = q at *
            cases hrt : isRoot q
            case true =>
              have HN : Hid (treeI L none L = treeI L (prevO L (0 + 1)) (L.drop (0 + 1))) := by rw [Hid, unhide HY2, or0_right (by rw [unhide HPC, hrt, if_pos rfl])]
              clear HY HY2 HPC
              rw [isRoot] at hrt
              go_wp2_with fail
              go_roundw
              case rel => exact ⟨0 + 1, by omega, by go_num, BU, HN⟩
              case measure => simp [intOf]; omega
            have HQC : Hid (parC L p = match findI L q with
              | none => 4
              | some true => 0
              | some false => 8) := by rw [Hid, unhide HPC, hrt, if_neg (by decide)]
            clear HPC
            rw [isRoot] at hrt
            go_wp2_with fail
            refine (l5Find_any _ _ L q _ ((unhide HF).below (unhide BU)) hn).mono ?_
            rintro e w4 ⟨⟨i, rfl, hfo⟩, rfl⟩
            rcases hfo with ⟨rfl, hfi⟩ | ⟨f, hf, rfl, hfi⟩
            · have HV : Hid (itemsCode L = 4) := by rw [Hid, unhide HY, unhide HQC, hfi, or0_left (by decide)]
              clear HY HY2 HQC hfi
              go_wp2_with fail
              go_ret
              exact ⟨ret_int (unhide HV).symm, unhide BU⟩
            · have v1 : w4.cell? ⟨b1, o1 + f * 3 + 1, none⟩ = some (.bool L[f].b.d) := ((unhide BU).cell (p := ⟨b1, o1 + f * 3 + 1, none⟩) hb1).trans (itm_cells (hc1 f hf).1).2.1
              have hf' : (f : Int) < L.length := by omega
              cases hd : L[f].b.d
              · rw [hd] at hfi v1
                have HV : Hid (itemsCode L = 8) := by rw [Hid, unhide HY, unhide HQC, hfi, or0_left (by decide)]
                clear HY HY2 HQC hfi hd hc1
                go_wp2_with fail
                go_ret
                exact ⟨ret_int (unhide HV).symm, unhide BU⟩
              · rw [hd] at hfi v1
                have HN : Hid (treeI L none L = treeI L (prevO L (0 + 1)) (L.drop (0 + 1))) := by rw [Hid, unhide HY2, or0_right (by rw [unhide HQC, hfi])]
                clear HY HY2 HQC hfi hd hc1
                go_wp2_with fail
                go_roundw
                case rel => exact ⟨0 + 1, by omega, by go_num, BU, HN⟩
                case measure => simp [intOf]; omega
          | succ j =>
            have hlj : j < L.length := by omega
            have x0 : wr.cell? ⟨b1, o1 + (j + 1) * 3, none⟩ = some (.string L[j + 1].b.p) := (hw.cell (p := ⟨b1, o1 + (j + 1) * 3, none⟩) hb1).trans (itm_cells (hc1 (j + 1) hlt2).1).1
            have y0 : wr.cell? ⟨b1, o1 + j * 3, none⟩ = some (.string L[j].b.p) := (hw.cell (p := ⟨b1, o1 + j * 3, none⟩) hb1).trans (itm_cells (hc1 j hlj).1).1
            have hlj' : (j : Int) < L.length := by omega
            have hlj2 : ((j + 1 : Nat) : Int) < L.length := by omega
            clear hw
            cases hle : leqB L[j + 1].b.p L[j].b.p
            case true =>
              have hst := treeI_drop (M := L) hlt2
              rw [prevO_succ hlj, leqO, hle, if_pos rfl, or0_left (by decide)] at hst
              have HV : Hid (itemsCode L = 1) := (unhide HC).trans ((unhide HX).trans (by rw [prevO_succ hlj]; exact hst))
              clear hst HX HC hc1
              rw [leqB] at hle
              generalize L[j + 1].b.p = p at *
              generalize L[j].b.p = q at *
              go_wp2_with fail
              go_quiet (fail)
              go_wp2_with fail
              go_ret
              exact ⟨ret_int (unhide HV).symm, below_drewN (unhide HB) _⟩
            have hpv := prevO_succ hlj
            have hle3 := hle
            rw [leqB] at hle
            have hle2 : leqO L[j + 1].b.p (prevO L (j + 1)) = false := by rw [hpv]; exact hle3
            have hst := treeI_drop (M := L) hlt2
            rw [hle2, if_neg (by decide)] at hst
            have HY : Hid (itemsCode L = or0 (parC L L[j + 1].b.p) (treeI L (prevO L (j + 1 + 1)) (L.drop (j + 1 + 1)))) := (unhide HC).trans ((unhide HX).trans hst)
            have HY2 : Hid (treeI L none L = or0 (parC L L[j + 1].b.p) (treeI L (prevO L (j + 1 + 1)) (L.drop (j + 1 + 1)))) := (unhide HX).trans hst
            obtain ⟨rr, hrr⟩ := pn_head (itemC_path (unhide HZ _ (List.getElem_mem hlt2))).1
            have hsz : L[j + 1].b.p.size ≤ 1048576 := unhide HS _ (List.getElem_mem hlt2)
            have HRR := hide hrr
            clear hle2 hst hrr HX
            clear hle3
            generalize L[j + 1].b.p = p at *
            generalize L[j].b.p = p' at *
            go_wp2_with fail
            go_quiet (fail)
            obtain ⟨U, hU⟩ : ∃ U, U = wr.drewN nq := ⟨_, rfl⟩
            have BU : Hid (Below w.heap.size w U) := by rw [hU]; exact below_drewN (unhide HB) _
            have u0 : U.cell? ⟨b1, o1 + (j + 1) * 3, none⟩ = some (.string p) := by rw [hU]; simpa using x0
            rw [← hU]
            clear hU HB x0 y0 hle hpv
            go_wp2_with fail
            refine (l5Parent_any p _ hsz rr (unhide HRR)).mono ?_
            rintro e w3 ⟨rfl, rfl⟩
            have HPC : Hid (parC L p = if isRoot (parB p) = true then 0 else match findI L (parB p) with
              | none => 4
              | some true => 0
              | some false => 8) := rfl
            generalize parB p = q at *
            cases hrt : isRoot q
            case true =>
              have HN : Hid (treeI L none L = treeI L (prevO L (j + 1 + 1)) (L.drop (j + 1 + 1))) := by rw [Hid, unhide HY2, or0_right (by rw [unhide HPC, hrt, if_pos rfl])]
              clear HY HY2 HPC
              rw [isRoot] at hrt
              go_wp2_with fail
              go_roundw
              case rel => exact ⟨j + 1 + 1, by omega, by go_num, BU, HN⟩
              case measure => simp [intOf]; omega
            have HQC : Hid (parC L p = match findI L q with
              | none => 4
              | some true => 0
              | some false => 8) := by rw [Hid, unhide HPC, hrt, if_neg (by decide)]
            clear HPC
            rw [isRoot] at hrt
            go_wp2_with fail
            refine (l5Find_any _ _ L q _ ((unhide HF).below (unhide BU)) hn).mono ?_
            rintro e w4 ⟨⟨i, rfl, hfo⟩, rfl⟩
            rcases hfo with ⟨rfl, hfi⟩ | ⟨f, hf, rfl, hfi⟩
            · have HV : Hid (itemsCode L = 4) := by rw [Hid, unhide HY, unhide HQC, hfi, or0_left (by decide)]
              clear HY HY2 HQC hfi
              go_wp2_with fail
              go_ret
              exact ⟨ret_int (unhide HV).symm, unhide BU⟩
            · have v1 : w4.cell? ⟨b1, o1 + f * 3 + 1, none⟩ = some (.bool L[f].b.d) := ((unhide BU).cell (p := ⟨b1, o1 + f * 3 + 1, none⟩) hb1).trans (itm_cells (hc1 f hf).1).2.1
              have hf' : (f : Int) < L.length := by omega
              cases hd : L[f].b.d
              · rw [hd] at hfi v1
                have HV : Hid (itemsCode L = 8) := by rw [Hid, unhide HY, unhide HQC, hfi, or0_left (by decide)]
                clear HY HY2 HQC hfi hd hc1
                go_wp2_with fail
                go_ret
                exact ⟨ret_int (unhide HV).symm, unhide BU⟩
              · rw [hd] at hfi v1
                have HN : Hid (treeI L none L = treeI L (prevO L (j + 1 + 1)) (L.drop (j + 1 + 1))) := by rw [Hid, unhide HY2, or0_right (by rw [unhide HQC, hfi])]
                clear HY HY2 HQC hfi hd hc1
                go_wp2_with fail
                go_roundw
                case rel => exact ⟨j + 1 + 1, by omega, by go_num, BU, HN⟩
                case measure => simp [intOf]; omega
        · have HV : Hid (itemsCode L = 0) := by rw [Hid, unhide HC, unhide HX, treeI_end (by omega)]
          clear HX HC
          go_wp2_with fail
          go_ret
          exact ⟨ret_int (unhide HV).symm, unhide HB⟩
end Go.Proofs.YtcmekhpphgkglaaDoor
