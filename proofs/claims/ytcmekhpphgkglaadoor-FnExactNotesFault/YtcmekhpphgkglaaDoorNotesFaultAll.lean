/-
  Several texts in one: NfMath, EvSpecA, NfSpecA, NfSpec, NfImpl, NfImpl2, StrsWalk, NoteTo, NoteEq, FnExactNotesFaultWalk.
-/
import Derived.Test.YtcmekhpphgkglaaDoorEvMath
import Derived.Test.YtcmekhpphgkglaaDoorPathOfWalk
import Derived.Test.YtcmekhpphgkglaaDoorNoteSzF
import Derived.Test.YtcmekhpphgkglaaDoorOpSpec2
import Derived.Test.YtcmekhpphgkglaaDoorOpImpl2
import Derived.Test.YtcmekhpphgkglaaDoorNoteSame
import Derived.Test.YtcmekhpphgkglaaDoorWideBox
import Derived.Deep.CutRange
import Derived.Deep.RegionHeld3
import Derived.Test.YtcmekhpphgkglaaDoorProg
import Derived.Test.YtcmekhpphgkglaaDoorStrsMath
import Derived.WalkKit
import Derived.WalkLawsBesides
import Derived.OwnWalk
import Derived.BigQuiet
import Derived.Deep.QuietTactic
import Derived.Test.YtcmekhpphgkglaaDoorNoteMath
import Derived.Test.YtcmekhpphgkglaaDoorOpLaws
import Derived.Test.YtcmekhpphgkglaaDoorResWalk
import Derived.Test.YtcmekhpphgkglaaDoorDevEq
/-
  What a note's form and a note's code are.
-/
namespace Go.Proofs.YtcmekhpphgkglaaDoor
open Go.RowKit
set_option linter.unusedVariables false

def noRep (rc : Int) (rn : List Int) (rs : List ByteArray) : Bool := (rc == 0) && ((rn.length : Int) == 0) && ((rs.length : Int) == 0)
def ntForm (k wo : Int) (ok : Int) (op ot : ByteArray) (od : Bool) (oi : Int) (on : List Int) (rc : Int) (rn : List Int) (rs : List ByteArray) : Bool := inB k 1 4 && ((k == 1) || (k == 2) || ((wo == 0) && noOp ok op ot od oi on)) && ((k == 2) || noRep rc rn rs)
def numsB (l : List Int) : Bool := l.all fun v => inB v 0 9999
def repCode (rc : Int) (rn : List Int) (rs : List ByteArray) : Int := if inB rc 0 9 = true then (if (16 : Int) < rn.length then 2 else if (60 : Int) < rs.length then 2 else if numsB rn = true then (if allNames rs = true then 0 else 5) else 3) else 3
def opPart (k : Int) (ok : Int) (op ot : ByteArray) (od : Bool) (oi : Int) (on : List Int) : Int := if k = 1 then opCode ok op ot od oi on else if k = 2 then opCode ok op ot od oi on else 0
def ntCode (k wo e : Int) (ok : Int) (op ot : ByteArray) (od : Bool) (oi : Int) (on : List Int) (rc : Int) (rn : List Int) (rs : List ByteArray) : Int := if ntForm k wo ok op ot od oi on rc rn rs = true then (if inB wo 0 3 = true then (if inB e 0 9999 = true then or0 (opPart k ok op ot od oi on) (repCode rc rn rs) else 3) else 3) else 1
def Nte.code (x : Nte) : Int := ntCode x.k x.wo x.e x.ok x.op x.ot x.od x.oi x.on x.rc x.rn x.rs
def ntsCode : List Nte → Int
  | [] => 0
  | x :: l => or0 x.code (ntsCode l)
def notesCode (l : List Nte) : Int := if (600 : Int) < l.length then 2 else ntsCode l
def codesOf (l : List NteA) : Int := ntsCode (l.map NteA.b)
theorem codesOf_drop {l : List NteA} {k : Nat} (h : k < l.length) : codesOf (l.drop k) = or0 l[k].b.code (codesOf (l.drop (k + 1))) := by
  rw [codesOf, List.drop_eq_getElem_cons h, List.map_cons, ntsCode, codesOf]
theorem codesOf_end {l : List NteA} {k : Nat} (h : l.length ≤ k) : codesOf (l.drop k) = 0 := by
  rw [codesOf, List.drop_of_length_le h]
  rfl
theorem ntKinds {k : Int} (h : inB k 1 4 = true) : k = 1 ∨ k = 2 ∨ k = 3 ∨ k = 4 := by
  have := inB_true.1 h
  omega
theorem numsB_drop {l : List Int} {k : Nat} (h : k < l.length) : numsB (l.drop k) = (inB l[k] 0 9999 && numsB (l.drop (k + 1))) := by
  rw [numsB, List.drop_eq_getElem_cons h, List.all_cons]
  rfl
theorem numsB_end {l : List Int} {k : Nat} (h : l.length ≤ k) : numsB (l.drop k) = true := by
  rw [numsB, List.drop_of_length_le h]
  rfl
theorem allNames_drop {l : List ByteArray} {k : Nat} (h : k < l.length) : allNames (l.drop k) = (isNameL l[k].data.toList && allNames (l.drop (k + 1))) := by
  rw [allNames, List.drop_eq_getElem_cons h, List.all_cons]
  rfl
theorem allNames_end {l : List ByteArray} {k : Nat} (h : l.length ≤ k) : allNames (l.drop k) = true := by
  rw [allNames, List.drop_of_length_le h]
  rfl
/-- Of a note what its kind may have. -/
def needN (x : Nte) : Nte := if x.k = 1 then ⟨x.k, x.wo, x.e, x.ok, x.op, x.ot, x.od, x.oi, x.on, 0, [], []⟩ else if x.k = 2 then x else ⟨x.k, 0, x.e, 0, ⟨#[]⟩, ⟨#[]⟩, false, 0, [], 0, [], []⟩
theorem need_form (k wo e : Int) (ok : Int) (op ot : ByteArray) (od : Bool) (oi : Int) (on : List Int) (rc : Int) (rn : List Int) (rs : List ByteArray) (h : inB k 1 4 = true) : sameNte ⟨k, wo, e, ok, op, ot, od, oi, on, rc, rn, rs⟩ (needN ⟨k, wo, e, ok, op, ot, od, oi, on, rc, rn, rs⟩) = ntForm k wo ok op ot od oi on rc rn rs := by
  have hl : ∀ l : List Int, decide (l = []) = ((l.length : Int) == 0) := by intro l; cases l <;> simp; omega
  have hs : decide (rs = []) = ((rs.length : Int) == 0) := by cases rs <;> simp; omega
  have hp := noB_eq op
  have ht := noB_eq ot
  rcases ntKinds h with rfl | rfl | rfl | rfl
  all_goals
    rw [ntForm, h]
    simp only [needN, sameNte, sameO, noOp, noRep]
    simp only [reduceIte, Int.reduceEq, hp, ht, hl, hs, beq_self_eq_true, decide_true, Int.reduceBEq]
    generalize noB op = xp
    generalize noB ot = xt
    generalize ((on.length : Int) == 0) = xn
    generalize ((rn.length : Int) == 0) = xr
    generalize ((rs.length : Int) == 0) = xs
    generalize (oi == 0) = xi
    generalize (ok == 0) = xo
    generalize (wo == 0) = xw
    generalize (rc == 0) = xc
    revert xp xt xn xr xs xi xo xw xc od
    decide
end Go.Proofs.YtcmekhpphgkglaaDoor
/-
  What spec.l7NoOp and spec.l7Form answer.
-/
namespace Go.Proofs.YtcmekhpphgkglaaDoor
open Go.RowKit
set_option linter.unusedVariables false

set_option maxRecDepth 20000 in
set_option maxHeartbeats 4000000 in
theorem l7NoOp_any (b o : Nat) (ok : Int) (op ot : ByteArray) (od : Bool) (oi : Int) (on : List Int) (a1 : Option Addr) (c1 : Nat) (w : World) (x0 : w.cell? ⟨b, o, none⟩ = some (.int .i64 ok)) (x1 : w.cell? ⟨b, o + 1, none⟩ = some (.string op)) (x2 : w.cell? ⟨b, o + 2, none⟩ = some (.string ot)) (x3 : w.cell? ⟨b, o + 3, none⟩ = some (.bool od)) (x4 : w.cell? ⟨b, o + 4, none⟩ = some (.int .i64 oi)) (x5 : w.cell? ⟨b, o + 5, none⟩ = some (.slice a1 on.length c1)) :
    Calls Tryd.prog 42 #[.pointer (some ⟨b, o, none⟩)] w fun r w' => r = .returned (.bool (noOp ok op ot od oi on)) ∧ w' = w := by
  have ep := noB_is op
  have ep2 : op.toList.isEmpty = noB op := by rw [noB]; cases op.toList <;> simp
  have et := noB_is ot
  have et2 : ot.toList.isEmpty = noB ot := by rw [noB]; cases ot.toList <;> simp
  have HV0 : Hid (noOp ok op ot od oi on = ((ok == 0) && noB op && noB ot && !od && (oi == 0) && ((on.length : Int) == 0))) := rfl
  generalize noB op = xp at *
  generalize noB ot = xt at *
  generalize ho : (ok == 0) = xo at *
  generalize hi : (oi == 0) = xi at *
  generalize hn : ((on.length : Int) == 0) = xn at *
  cases xo
  · have HV := HV0
    clear HV0
    go_enter Tryd.func42, Tryd.ntmps42
    go_wp2_with fail
    go_ret
    exact ⟨ret_bool (by rw [unhide HV]; simp), rfl⟩
  · cases xp
    · have HV := HV0
      clear HV0
      replace ep := ep.trans (by simp : (false = true) = False)
      go_enter Tryd.func42, Tryd.ntmps42
      go_wp2_with fail
      go_ret
      exact ⟨ret_bool (by rw [unhide HV]; simp), rfl⟩
    · cases xt
      · have HV := HV0
        clear HV0
        replace ep := ep.trans (by simp : (true = true) = True)
        replace et := et.trans (by simp : (false = true) = False)
        go_enter Tryd.func42, Tryd.ntmps42
        go_wp2_with fail
        go_ret
        exact ⟨ret_bool (by rw [unhide HV]; simp), rfl⟩
      · cases od
        · cases xi
          · have HV := HV0
            clear HV0
            replace ep := ep.trans (by simp : (true = true) = True)
            replace et := et.trans (by simp : (true = true) = True)
            go_enter Tryd.func42, Tryd.ntmps42
            go_wp2_with fail
            go_ret
            exact ⟨ret_bool (by rw [unhide HV]; simp), rfl⟩
          · cases xn
            · have HV := HV0
              clear HV0
              replace ep := ep.trans (by simp : (true = true) = True)
              replace et := et.trans (by simp : (true = true) = True)
              go_enter Tryd.func42, Tryd.ntmps42
              go_wp2_with fail
              go_ret
              exact ⟨ret_bool (by rw [unhide HV]; simp), rfl⟩
            · have HV := HV0
              clear HV0
              replace ep := ep.trans (by simp : (true = true) = True)
              replace et := et.trans (by simp : (true = true) = True)
              go_enter Tryd.func42, Tryd.ntmps42
              go_wp2_with fail
              go_ret
              exact ⟨ret_bool (by rw [unhide HV]; simp), rfl⟩
        · have HV := HV0
          clear HV0
          replace ep := ep.trans (by simp : (true = true) = True)
          replace et := et.trans (by simp : (true = true) = True)
          go_enter Tryd.func42, Tryd.ntmps42
          go_wp2_with fail
          go_ret
          exact ⟨ret_bool (by rw [unhide HV]; simp), rfl⟩
end Go.Proofs.YtcmekhpphgkglaaDoor
/-
  What spec.l9NoReply and spec.l9Reply answer.
-/
namespace Go.Proofs.YtcmekhpphgkglaaDoor
open Go.RowKit
set_option linter.unusedVariables false

set_option maxHeartbeats 1000000 in
theorem l9NoReply_any (b o : Nat) (rc : Int) (rn : List Int) (rs : List ByteArray) (a2 a3 : Option Addr) (c2 c3 : Nat) (w : World) (x0 : w.cell? ⟨b, o, none⟩ = some (.int .i64 rc)) (x1 : w.cell? ⟨b, o + 1, none⟩ = some (.slice a2 rn.length c2)) (x2 : w.cell? ⟨b, o + 2, none⟩ = some (.slice a3 rs.length c3)) :
    Calls Tryd.prog 43 #[.pointer (some ⟨b, o, none⟩)] w fun r w' => r = .returned (.bool (noRep rc rn rs)) ∧ w' = w := by
  have HV0 : Hid (noRep rc rn rs = ((rc == 0) && ((rn.length : Int) == 0) && ((rs.length : Int) == 0))) := rfl
  generalize hc : (rc == 0) = xc at *
  generalize hn : ((rn.length : Int) == 0) = xn at *
  generalize hs : ((rs.length : Int) == 0) = xs at *
  cases xc
  · go_enter Tryd.func43, Tryd.ntmps43
    go_wp2_with fail
    go_ret
    exact ⟨ret_bool (by rw [unhide HV0]; simp), rfl⟩
  cases xn
  · go_enter Tryd.func43, Tryd.ntmps43
    go_wp2_with fail
    go_ret
    exact ⟨ret_bool (by rw [unhide HV0]; simp), rfl⟩
  · go_enter Tryd.func43, Tryd.ntmps43
    go_wp2_with fail
    go_ret
    exact ⟨ret_bool (by rw [unhide HV0]; simp), rfl⟩
set_option maxRecDepth 20000 in
set_option maxHeartbeats 2000000 in
theorem l9Reply_any (b o : Nat) (rc : Int) (rn : List Int) (rs : List ByteArray) (a2 a3 : Option Addr) (c2 c3 : Nat) (w : World) (x0 : w.cell? ⟨b, o, none⟩ = some (.int .i64 rc)) (x1 : w.cell? ⟨b, o + 1, none⟩ = some (.slice a2 rn.length c2)) (x2 : w.cell? ⟨b, o + 2, none⟩ = some (.slice a3 rs.length c3)) (h2 : IntsAt w a2 rn) (h3 : StrsAt w a3 rs) (hs : ∀ s ∈ rs, s.size ≤ maxLen) :
    Calls Tryd.prog 45 #[.pointer (some ⟨b, o, none⟩)] w fun r w' => r = .returned (.int .i64 (repCode rc rn rs)) ∧ w' = w := by
  have H2 := hide h2
  have H3 := hide h3
  have HS := hide hs
  clear h2 h3 hs
  cases hrc : inB rc 0 9
  · have HV : Hid (repCode rc rn rs = 3) := by rw [Hid, repCode, hrc]; rfl
    go_enter Tryd.func45, Tryd.ntmps45
    go_wp2_with (go_at_call 31; refine (l1In_any _ _ _ _).mono ?_; rintro r w1 ⟨rfl, rfl⟩; rw [hrc])
    go_ret
    exact ⟨ret_int (unhide HV).symm, rfl⟩
  have HC : Hid (repCode rc rn rs = (if (16 : Int) < rn.length then 2 else if (60 : Int) < rs.length then 2 else if numsB rn = true then (if allNames rs = true then 0 else 5) else 3)) := by rw [Hid, repCode, if_pos hrc]
  by_cases h16 : (16 : Int) < rn.length
  · have HV : Hid (repCode rc rn rs = 2) := by rw [Hid, unhide HC, if_pos h16]
    clear HC
    go_enter Tryd.func45, Tryd.ntmps45
    go_wp2_with (go_at_call 31; refine (l1In_any _ _ _ _).mono ?_; rintro r w1 ⟨rfl, rfl⟩; rw [hrc])
    go_ret
    exact ⟨ret_int (unhide HV).symm, rfl⟩
  by_cases h60 : (60 : Int) < rs.length
  · have HV : Hid (repCode rc rn rs = 2) := by rw [Hid, unhide HC, if_neg h16, if_pos h60]
    clear HC
    go_enter Tryd.func45, Tryd.ntmps45
    go_wp2_with (go_at_call 31; refine (l1In_any _ _ _ _).mono ?_; rintro r w1 ⟨rfl, rfl⟩; rw [hrc])
    go_ret
    exact ⟨ret_int (unhide HV).symm, rfl⟩
  have HE : Hid (repCode rc rn rs = (if numsB rn = true then (if allNames rs = true then 0 else 5) else 3)) := by rw [Hid, unhide HC, if_neg h16, if_neg h60]
  clear HC
  go_enter Tryd.func45, Tryd.ntmps45
  go_wp2_with (go_at_call 31; refine (l1In_any _ _ _ _).mono ?_; rintro r w1 ⟨rfl, rfl⟩; rw [hrc])
  go_loop [3] (fun i => ∃ n : Nat, n ≤ rn.length ∧ i = .int .i64 n ∧ Hid (numsB rn = numsB (rn.drop n))) (fun i => rn.length - (intOf i).toNat)
  case atStart => exact ⟨0, Nat.zero_le _, rfl, rfl⟩
  case round =>
    obtain ⟨n, hn2, rfl, HX⟩ := hrel
    by_cases hlt : n < rn.length
    · obtain ⟨b1, o1, rfl, hb1, hc1⟩ := (unhide H2).at hlt
      have hc := hc1 n hlt
      have hst := numsB_drop hlt
      clear hc1
      generalize rn[n] = x at *
      cases hx : inB x 0 9999
      · have HV : Hid (repCode rc rn rs = 3) := by rw [Hid, unhide HE, unhide HX, hst, hx]; rfl
        clear hst HX HE
        go_wp2_with (go_at_call 31; refine (l1In_any _ _ _ _).mono ?_; rintro r w1 ⟨rfl, rfl⟩; rw [hx])
        go_ret
        exact ⟨ret_int (unhide HV).symm, rfl⟩
      · have HY : Hid (numsB rn = numsB (rn.drop (n + 1))) := by rw [Hid, unhide HX, hst, hx]; rfl
        clear hst HX HE
        go_wp2_with (go_at_call 31; refine (l1In_any _ _ _ _).mono ?_; rintro r w1 ⟨rfl, rfl⟩; rw [hx])
        go_round
        case rel => exact ⟨n + 1, by omega, by go_num, HY⟩
        case measure => simp [intOf]; omega
    · have HY : Hid (repCode rc rn rs = (if allNames rs = true then 0 else 5)) := by rw [Hid, unhide HE, unhide HX, numsB_end (by omega), if_pos rfl]
      clear HX HE H2
      go_wp2_with fail
      go_loop [4] (fun i => ∃ m : Nat, m ≤ rs.length ∧ i = .int .i64 m ∧ Hid (allNames rs = allNames (rs.drop m))) (fun i => rs.length - (intOf i).toNat)
      case atStart => exact ⟨0, Nat.zero_le _, rfl, rfl⟩
      case round =>
        obtain ⟨m, hm2, rfl, HX⟩ := hrel
        by_cases hlt2 : m < rs.length
        · obtain ⟨b1, o1, rfl, hb1, hc1⟩ := (unhide H3).at hlt2
          have hc := hc1 m hlt2
          have hst := allNames_drop hlt2
          have hsz := unhide HS rs[m] (List.getElem_mem hlt2)
          clear hc1
          generalize rs[m] = s at *
          cases hx : isNameL s.data.toList
          · have HV : Hid (repCode rc rn rs = 5) := by rw [Hid, unhide HY, unhide HX, hst, hx]; rfl
            clear hst HX HY
            go_wp2_with fail
            refine (specIsName_any _ _ hsz).mono ?_
            rintro r w1 ⟨rfl, rfl⟩
            rw [hx]
            go_wp2_with fail
            go_ret
            exact ⟨ret_int (unhide HV).symm, rfl⟩
          · have HZ : Hid (allNames rs = allNames (rs.drop (m + 1))) := by rw [Hid, unhide HX, hst, hx]; rfl
            clear hst HX HY
            go_wp2_with fail
            refine (specIsName_any _ _ hsz).mono ?_
            rintro r w1 ⟨rfl, rfl⟩
            rw [hx]
            go_wp2_with fail
            go_round
            case rel => exact ⟨m + 1, by omega, by go_num, HZ⟩
            case measure => simp [intOf]; omega
        · have HV : Hid (repCode rc rn rs = 0) := by rw [Hid, unhide HY, unhide HX, allNames_end (by omega), if_pos rfl]
          clear HX HY
          go_wp2_with fail
          go_ret
          exact ⟨ret_int (unhide HV).symm, rfl⟩
end Go.Proofs.YtcmekhpphgkglaaDoor
/-
  What spec.l9Note and spec.NotesFault answer.
-/
namespace Go.Proofs.YtcmekhpphgkglaaDoor
open Go.RowKit
set_option linter.unusedVariables false

set_option maxRecDepth 20000 in
set_option maxHeartbeats 4000000 in
theorem l9Note_0 (b o : Nat) (k : Int) (wo e : Int) (ok : Int) (op ot : ByteArray) (od : Bool) (oi : Int) (on : List Int) (rc : Int) (rn : List Int) (rs : List ByteArray) (a1 a2 a3 : Option Addr) (c1 c2 c3 : Nat) (w : World) (hb : b < w.heap.size) (y0 : w.cell? ⟨b, o, none⟩ = some (.int .i64 k)) (y1 : w.cell? ⟨b, o + 1, none⟩ = some (.int .i64 wo)) (y2 : w.cell? ⟨b, o + 2, none⟩ = some (.int .i64 e)) (y3 : w.cell? ⟨b, o + 3, none⟩ = some (.int .i64 ok)) (y4 : w.cell? ⟨b, o + 4, none⟩ = some (.string op)) (y5 : w.cell? ⟨b, o + 5, none⟩ = some (.string ot)) (y6 : w.cell? ⟨b, o + 6, none⟩ = some (.bool od)) (y7 : w.cell? ⟨b, o + 7, none⟩ = some (.int .i64 oi)) (y8 : w.cell? ⟨b, o + 8, none⟩ = some (.slice a1 on.length c1)) (y9 : w.cell? ⟨b, o + 9, none⟩ = some (.int .i64 rc)) (y10 : w.cell? ⟨b, o + 10, none⟩ = some (.slice a2 rn.length c2)) (y11 : w.cell? ⟨b, o + 11, none⟩ = some (.slice a3 rs.length c3)) (h : IntsAt w a1 on) (h2 : IntsAt w a2 rn) (h3 : StrsAt w a3 rs) (hn : on.length ≤ 1048576) (hp : op.size ≤ 1048576) (ht : ot.size ≤ 1048576) (hs : ∀ s ∈ rs, s.size ≤ maxLen) (hin : inB k 1 4 = false) :
    Calls Tryd.prog 25 #[.pointer (some ⟨b, o, none⟩)] w fun r w' => r = .returned (.int .i64 (ntCode k wo e ok op ot od oi on rc rn rs)) ∧ Below w.heap.size w w' := by
  have h3 : (k == 3) = false := by have : k ≠ 3 := fun e => by rw [e] at hin; exact absurd hin (by decide)
                                   simpa using this
  have h4 : (k == 4) = false := by have : k ≠ 4 := fun e => by rw [e] at hin; exact absurd hin (by decide)
                                   simpa using this
  have HV : Hid (ntCode k wo e ok op ot od oi on rc rn rs = 1) := by rw [Hid, ntCode, ntForm, hin]; rfl
  clear h h2
  go_enter Tryd.func25, Tryd.ntmps25
  go_wp2_with (go_at_call 31; refine (l1In_any _ _ _ _).mono ?_; rintro r w1 ⟨rfl, rfl⟩; rw [hin])
  go_ret
  exact ⟨ret_int (unhide HV).symm, Below.refl _ _⟩
set_option maxRecDepth 20000 in
set_option maxHeartbeats 4000000 in
theorem l9Note_1 (b o : Nat) (wo e : Int) (ok : Int) (op ot : ByteArray) (od : Bool) (oi : Int) (on : List Int) (rc : Int) (rn : List Int) (rs : List ByteArray) (a1 a2 a3 : Option Addr) (c1 c2 c3 : Nat) (w : World) (hb : b < w.heap.size) (y0 : w.cell? ⟨b, o, none⟩ = some (.int .i64 1)) (y1 : w.cell? ⟨b, o + 1, none⟩ = some (.int .i64 wo)) (y2 : w.cell? ⟨b, o + 2, none⟩ = some (.int .i64 e)) (y3 : w.cell? ⟨b, o + 3, none⟩ = some (.int .i64 ok)) (y4 : w.cell? ⟨b, o + 4, none⟩ = some (.string op)) (y5 : w.cell? ⟨b, o + 5, none⟩ = some (.string ot)) (y6 : w.cell? ⟨b, o + 6, none⟩ = some (.bool od)) (y7 : w.cell? ⟨b, o + 7, none⟩ = some (.int .i64 oi)) (y8 : w.cell? ⟨b, o + 8, none⟩ = some (.slice a1 on.length c1)) (y9 : w.cell? ⟨b, o + 9, none⟩ = some (.int .i64 rc)) (y10 : w.cell? ⟨b, o + 10, none⟩ = some (.slice a2 rn.length c2)) (y11 : w.cell? ⟨b, o + 11, none⟩ = some (.slice a3 rs.length c3)) (h : IntsAt w a1 on) (h2 : IntsAt w a2 rn) (h3 : StrsAt w a3 rs) (hn : on.length ≤ 1048576) (hp : op.size ≤ 1048576) (ht : ot.size ≤ 1048576) (hs : ∀ s ∈ rs, s.size ≤ maxLen) :
    Calls Tryd.prog 25 #[.pointer (some ⟨b, o, none⟩)] w fun r w' => r = .returned (.int .i64 (ntCode 1 wo e ok op ot od oi on rc rn rs)) ∧ Below w.heap.size w w' := by
  have hin : inB 1 1 4 = true := by decide
  have H := hide h
  have H2 := hide h2
  have H3 := hide h3
  have HS := hide hs
  clear h h2 h3 hs
  have HNR := hide (l9NoReply_any b (o + 9) rc rn rs a2 a3 c2 c3 w y9 y10 y11)
  generalize hr : noRep rc rn rs = xr at *
  have HV0 : Hid (ntForm 1 wo ok op ot od oi on rc rn rs = (xr)) := by
    rw [Hid, ntForm, hin]
    simp [hr]
  have HHr := hide hr
  clear hr
  cases xr
  · have HV : Hid (ntCode 1 wo e ok op ot od oi on rc rn rs = 1) := by rw [Hid, ntCode, unhide HV0]; simp
    clear HV0
    go_enter Tryd.func25, Tryd.ntmps25
    go_wp2_with (first | (go_at_call 31; refine (l1In_any _ _ _ _).mono ?_; rintro r w1 ⟨rfl, rfl⟩; first | rw [hin]) | (go_at_call 42; refine (unhide HNO).mono ?_; rintro r w1 ⟨rfl, rfl⟩; try rw [unhide HHz]) | (go_at_call 43; refine (unhide HNR).mono ?_; rintro r w1 ⟨rfl, rfl⟩; try rw [unhide HHr]))
    go_ret
    exact ⟨ret_int (unhide HV).symm, Below.refl _ _⟩
  · have HC : Hid (ntCode 1 wo e ok op ot od oi on rc rn rs = (if inB wo 0 3 = true then (if inB e 0 9999 = true then or0 (opPart 1 ok op ot od oi on) (repCode rc rn rs) else 3) else 3)) := by rw [Hid, ntCode, unhide HV0]; simp
    clear HV0
    cases hwo : inB wo 0 3
    · have HV : Hid (ntCode 1 wo e ok op ot od oi on rc rn rs = 3) := by rw [Hid, unhide HC, hwo]; rfl
      clear HC
      go_enter Tryd.func25, Tryd.ntmps25
      go_wp2_with (first | (go_at_call 31; refine (l1In_any _ _ _ _).mono ?_; rintro r w1 ⟨rfl, rfl⟩; first | rw [hin] | rw [hwo]) | (go_at_call 42; refine (unhide HNO).mono ?_; rintro r w1 ⟨rfl, rfl⟩; try rw [unhide HHz]) | (go_at_call 43; refine (unhide HNR).mono ?_; rintro r w1 ⟨rfl, rfl⟩; try rw [unhide HHr]))
      go_ret
      exact ⟨ret_int (unhide HV).symm, Below.refl _ _⟩
    cases he : inB e 0 9999
    · have HV : Hid (ntCode 1 wo e ok op ot od oi on rc rn rs = 3) := by rw [Hid, unhide HC, hwo, he]; rfl
      clear HC
      go_enter Tryd.func25, Tryd.ntmps25
      go_wp2_with (first | (go_at_call 31; refine (l1In_any _ _ _ _).mono ?_; rintro r w1 ⟨rfl, rfl⟩; first | rw [hin] | rw [hwo] | rw [he]) | (go_at_call 42; refine (unhide HNO).mono ?_; rintro r w1 ⟨rfl, rfl⟩; try rw [unhide HHz]) | (go_at_call 43; refine (unhide HNR).mono ?_; rintro r w1 ⟨rfl, rfl⟩; try rw [unhide HHr]))
      go_ret
      exact ⟨ret_int (unhide HV).symm, Below.refl _ _⟩
    have HD : Hid (ntCode 1 wo e ok op ot od oi on rc rn rs = or0 (opPart 1 ok op ot od oi on) (repCode rc rn rs)) := by rw [Hid, unhide HC, hwo, he, if_pos rfl, if_pos rfl]
    clear HC
    generalize hcd : opCode ok op ot od oi on = cd at *
    have HY : Hid (ntCode 1 wo e ok op ot od oi on rc rn rs = or0 cd (repCode rc rn rs)) := by rw [Hid, unhide HD, opPart]; simp [hcd]
    have HCD := hide hcd
    clear hcd HD
    go_enter Tryd.func25, Tryd.ntmps25
    go_wp2_with (first | (go_at_call 31; refine (l1In_any _ _ _ _).mono ?_; rintro r w1 ⟨rfl, rfl⟩; first | rw [hin] | rw [hwo] | rw [he]) | (go_at_call 42; refine (unhide HNO).mono ?_; rintro r w1 ⟨rfl, rfl⟩; try rw [unhide HHz]) | (go_at_call 43; refine (unhide HNR).mono ?_; rintro r w1 ⟨rfl, rfl⟩; try rw [unhide HHr]))
    refine (specOpFault_any ok op ot od oi on a1 c1 _ (unhide H) hn hp ht).mono ?_
    rintro r w4 ⟨rfl, hb4⟩
    rw [unhide HCD]
    have z9 : w4.cell? ⟨b, o + 9, none⟩ = some (.int .i64 rc) := (hb4.cell (p := ⟨b, o + 9, none⟩) hb).trans y9
    have z10 : w4.cell? ⟨b, o + 10, none⟩ = some (.slice a2 rn.length c2) := (hb4.cell (p := ⟨b, o + 10, none⟩) hb).trans y10
    have z11 : w4.cell? ⟨b, o + 11, none⟩ = some (.slice a3 rs.length c3) := (hb4.cell (p := ⟨b, o + 11, none⟩) hb).trans y11
    have HRP := hide (l9Reply_any b (o + 9) rc rn rs a2 a3 c2 c3 w4 z9 z10 z11 ((unhide H2).below hb4) ((unhide H3).below hb4) (unhide HS))
    have B4 := hide hb4
    clear hb4 y0 y1 y2 y3 y4 y5 y6 y7 y8 y9 y10 y11 z9 z10 z11 H2 H3
    by_cases hc0 : cd = 0
    · have HV : Hid (ntCode 1 wo e ok op ot od oi on rc rn rs = repCode rc rn rs) := by rw [Hid, unhide HY, or0_right hc0]
      subst hc0
      clear HY
      go_wp2_with (go_at_call 45; refine (unhide HRP).mono ?_; rintro r w5 ⟨rfl, rfl⟩)
      go_ret
      exact ⟨ret_int (unhide HV).symm, unhide B4⟩
    · have HV : Hid (ntCode 1 wo e ok op ot od oi on rc rn rs = cd) := by rw [Hid, unhide HY, or0_left hc0]
      have hcb := neq_true hc0
      clear HY hc0
      go_wp2_with fail
      go_ret
      exact ⟨ret_int (unhide HV).symm, unhide B4⟩
set_option maxRecDepth 20000 in
set_option maxHeartbeats 4000000 in
theorem l9Note_2 (b o : Nat) (wo e : Int) (ok : Int) (op ot : ByteArray) (od : Bool) (oi : Int) (on : List Int) (rc : Int) (rn : List Int) (rs : List ByteArray) (a1 a2 a3 : Option Addr) (c1 c2 c3 : Nat) (w : World) (hb : b < w.heap.size) (y0 : w.cell? ⟨b, o, none⟩ = some (.int .i64 2)) (y1 : w.cell? ⟨b, o + 1, none⟩ = some (.int .i64 wo)) (y2 : w.cell? ⟨b, o + 2, none⟩ = some (.int .i64 e)) (y3 : w.cell? ⟨b, o + 3, none⟩ = some (.int .i64 ok)) (y4 : w.cell? ⟨b, o + 4, none⟩ = some (.string op)) (y5 : w.cell? ⟨b, o + 5, none⟩ = some (.string ot)) (y6 : w.cell? ⟨b, o + 6, none⟩ = some (.bool od)) (y7 : w.cell? ⟨b, o + 7, none⟩ = some (.int .i64 oi)) (y8 : w.cell? ⟨b, o + 8, none⟩ = some (.slice a1 on.length c1)) (y9 : w.cell? ⟨b, o + 9, none⟩ = some (.int .i64 rc)) (y10 : w.cell? ⟨b, o + 10, none⟩ = some (.slice a2 rn.length c2)) (y11 : w.cell? ⟨b, o + 11, none⟩ = some (.slice a3 rs.length c3)) (h : IntsAt w a1 on) (h2 : IntsAt w a2 rn) (h3 : StrsAt w a3 rs) (hn : on.length ≤ 1048576) (hp : op.size ≤ 1048576) (ht : ot.size ≤ 1048576) (hs : ∀ s ∈ rs, s.size ≤ maxLen) :
    Calls Tryd.prog 25 #[.pointer (some ⟨b, o, none⟩)] w fun r w' => r = .returned (.int .i64 (ntCode 2 wo e ok op ot od oi on rc rn rs)) ∧ Below w.heap.size w w' := by
  have hin : inB 2 1 4 = true := by decide
  have H := hide h
  have H2 := hide h2
  have H3 := hide h3
  have HS := hide hs
  clear h h2 h3 hs
  have HV0 : Hid (ntForm 2 wo ok op ot od oi on rc rn rs = (true)) := by
    rw [Hid, ntForm, hin]
    simp []
  have HC : Hid (ntCode 2 wo e ok op ot od oi on rc rn rs = (if inB wo 0 3 = true then (if inB e 0 9999 = true then or0 (opPart 2 ok op ot od oi on) (repCode rc rn rs) else 3) else 3)) := by rw [Hid, ntCode, unhide HV0]; simp
  clear HV0
  cases hwo : inB wo 0 3
  · have HV : Hid (ntCode 2 wo e ok op ot od oi on rc rn rs = 3) := by rw [Hid, unhide HC, hwo]; rfl
    clear HC
    go_enter Tryd.func25, Tryd.ntmps25
    go_wp2_with (first | (go_at_call 31; refine (l1In_any _ _ _ _).mono ?_; rintro r w1 ⟨rfl, rfl⟩; first | rw [hin] | rw [hwo]) | (go_at_call 42; refine (unhide HNO).mono ?_; rintro r w1 ⟨rfl, rfl⟩; try rw [unhide HHz]) | (go_at_call 43; refine (unhide HNR).mono ?_; rintro r w1 ⟨rfl, rfl⟩; try rw [unhide HHr]))
    go_ret
    exact ⟨ret_int (unhide HV).symm, Below.refl _ _⟩
  cases he : inB e 0 9999
  · have HV : Hid (ntCode 2 wo e ok op ot od oi on rc rn rs = 3) := by rw [Hid, unhide HC, hwo, he]; rfl
    clear HC
    go_enter Tryd.func25, Tryd.ntmps25
    go_wp2_with (first | (go_at_call 31; refine (l1In_any _ _ _ _).mono ?_; rintro r w1 ⟨rfl, rfl⟩; first | rw [hin] | rw [hwo] | rw [he]) | (go_at_call 42; refine (unhide HNO).mono ?_; rintro r w1 ⟨rfl, rfl⟩; try rw [unhide HHz]) | (go_at_call 43; refine (unhide HNR).mono ?_; rintro r w1 ⟨rfl, rfl⟩; try rw [unhide HHr]))
    go_ret
    exact ⟨ret_int (unhide HV).symm, Below.refl _ _⟩
  have HD : Hid (ntCode 2 wo e ok op ot od oi on rc rn rs = or0 (opPart 2 ok op ot od oi on) (repCode rc rn rs)) := by rw [Hid, unhide HC, hwo, he, if_pos rfl, if_pos rfl]
  clear HC
  generalize hcd : opCode ok op ot od oi on = cd at *
  have HY : Hid (ntCode 2 wo e ok op ot od oi on rc rn rs = or0 cd (repCode rc rn rs)) := by rw [Hid, unhide HD, opPart]; simp [hcd]
  have HCD := hide hcd
  clear hcd HD
  go_enter Tryd.func25, Tryd.ntmps25
  go_wp2_with (first | (go_at_call 31; refine (l1In_any _ _ _ _).mono ?_; rintro r w1 ⟨rfl, rfl⟩; first | rw [hin] | rw [hwo] | rw [he]) | (go_at_call 42; refine (unhide HNO).mono ?_; rintro r w1 ⟨rfl, rfl⟩; try rw [unhide HHz]) | (go_at_call 43; refine (unhide HNR).mono ?_; rintro r w1 ⟨rfl, rfl⟩; try rw [unhide HHr]))
  refine (specOpFault_any ok op ot od oi on a1 c1 _ (unhide H) hn hp ht).mono ?_
  rintro r w4 ⟨rfl, hb4⟩
  rw [unhide HCD]
  have z9 : w4.cell? ⟨b, o + 9, none⟩ = some (.int .i64 rc) := (hb4.cell (p := ⟨b, o + 9, none⟩) hb).trans y9
  have z10 : w4.cell? ⟨b, o + 10, none⟩ = some (.slice a2 rn.length c2) := (hb4.cell (p := ⟨b, o + 10, none⟩) hb).trans y10
  have z11 : w4.cell? ⟨b, o + 11, none⟩ = some (.slice a3 rs.length c3) := (hb4.cell (p := ⟨b, o + 11, none⟩) hb).trans y11
  have HRP := hide (l9Reply_any b (o + 9) rc rn rs a2 a3 c2 c3 w4 z9 z10 z11 ((unhide H2).below hb4) ((unhide H3).below hb4) (unhide HS))
  have B4 := hide hb4
  clear hb4 y0 y1 y2 y3 y4 y5 y6 y7 y8 y9 y10 y11 z9 z10 z11 H2 H3
  by_cases hc0 : cd = 0
  · have HV : Hid (ntCode 2 wo e ok op ot od oi on rc rn rs = repCode rc rn rs) := by rw [Hid, unhide HY, or0_right hc0]
    subst hc0
    clear HY
    go_wp2_with (go_at_call 45; refine (unhide HRP).mono ?_; rintro r w5 ⟨rfl, rfl⟩)
    go_ret
    exact ⟨ret_int (unhide HV).symm, unhide B4⟩
  · have HV : Hid (ntCode 2 wo e ok op ot od oi on rc rn rs = cd) := by rw [Hid, unhide HY, or0_left hc0]
    have hcb := neq_true hc0
    clear HY hc0
    go_wp2_with fail
    go_ret
    exact ⟨ret_int (unhide HV).symm, unhide B4⟩
set_option maxRecDepth 20000 in
set_option maxHeartbeats 4000000 in
theorem l9Note_3 (b o : Nat) (wo e : Int) (ok : Int) (op ot : ByteArray) (od : Bool) (oi : Int) (on : List Int) (rc : Int) (rn : List Int) (rs : List ByteArray) (a1 a2 a3 : Option Addr) (c1 c2 c3 : Nat) (w : World) (hb : b < w.heap.size) (y0 : w.cell? ⟨b, o, none⟩ = some (.int .i64 3)) (y1 : w.cell? ⟨b, o + 1, none⟩ = some (.int .i64 wo)) (y2 : w.cell? ⟨b, o + 2, none⟩ = some (.int .i64 e)) (y3 : w.cell? ⟨b, o + 3, none⟩ = some (.int .i64 ok)) (y4 : w.cell? ⟨b, o + 4, none⟩ = some (.string op)) (y5 : w.cell? ⟨b, o + 5, none⟩ = some (.string ot)) (y6 : w.cell? ⟨b, o + 6, none⟩ = some (.bool od)) (y7 : w.cell? ⟨b, o + 7, none⟩ = some (.int .i64 oi)) (y8 : w.cell? ⟨b, o + 8, none⟩ = some (.slice a1 on.length c1)) (y9 : w.cell? ⟨b, o + 9, none⟩ = some (.int .i64 rc)) (y10 : w.cell? ⟨b, o + 10, none⟩ = some (.slice a2 rn.length c2)) (y11 : w.cell? ⟨b, o + 11, none⟩ = some (.slice a3 rs.length c3)) (h : IntsAt w a1 on) (h2 : IntsAt w a2 rn) (h3 : StrsAt w a3 rs) (hn : on.length ≤ 1048576) (hp : op.size ≤ 1048576) (ht : ot.size ≤ 1048576) (hs : ∀ s ∈ rs, s.size ≤ maxLen) :
    Calls Tryd.prog 25 #[.pointer (some ⟨b, o, none⟩)] w fun r w' => r = .returned (.int .i64 (ntCode 3 wo e ok op ot od oi on rc rn rs)) ∧ Below w.heap.size w w' := by
  have hin : inB 3 1 4 = true := by decide
  have H := hide h
  have H2 := hide h2
  have H3 := hide h3
  have HS := hide hs
  clear h h2 h3 hs
  have HNR := hide (l9NoReply_any b (o + 9) rc rn rs a2 a3 c2 c3 w y9 y10 y11)
  have HNO := hide (l7NoOp_any b (o + 3) ok op ot od oi on a1 c1 w y3 y4 y5 y6 y7 y8)
  generalize hw : (wo == 0) = xw at *
  generalize hz : noOp ok op ot od oi on = xz at *
  generalize hr : noRep rc rn rs = xr at *
  have HV0 : Hid (ntForm 3 wo ok op ot od oi on rc rn rs = (xw && xz && xr)) := by
    rw [Hid, ntForm, hin]
    simp [hw, hz, hr]
  have HHz := hide hz
  clear hz
  have HHr := hide hr
  clear hr
  cases xw
  · have HV : Hid (ntCode 3 wo e ok op ot od oi on rc rn rs = 1) := by rw [Hid, ntCode, unhide HV0]; simp
    clear HV0
    have hw2 : (wo != 0) = true := by rw [bne, hw]; rfl
    go_enter Tryd.func25, Tryd.ntmps25
    go_wp2_with (first | (go_at_call 31; refine (l1In_any _ _ _ _).mono ?_; rintro r w1 ⟨rfl, rfl⟩; first | rw [hin]) | (go_at_call 42; refine (unhide HNO).mono ?_; rintro r w1 ⟨rfl, rfl⟩; try rw [unhide HHz]) | (go_at_call 43; refine (unhide HNR).mono ?_; rintro r w1 ⟨rfl, rfl⟩; try rw [unhide HHr]))
    go_ret
    exact ⟨ret_int (unhide HV).symm, Below.refl _ _⟩
  · cases xz
    · have HV : Hid (ntCode 3 wo e ok op ot od oi on rc rn rs = 1) := by rw [Hid, ntCode, unhide HV0]; simp
      clear HV0
      have hw2 : (wo != 0) = false := by rw [bne, hw]; rfl
      go_enter Tryd.func25, Tryd.ntmps25
      go_wp2_with (first | (go_at_call 31; refine (l1In_any _ _ _ _).mono ?_; rintro r w1 ⟨rfl, rfl⟩; first | rw [hin]) | (go_at_call 42; refine (unhide HNO).mono ?_; rintro r w1 ⟨rfl, rfl⟩; try rw [unhide HHz]) | (go_at_call 43; refine (unhide HNR).mono ?_; rintro r w1 ⟨rfl, rfl⟩; try rw [unhide HHr]))
      go_ret
      exact ⟨ret_int (unhide HV).symm, Below.refl _ _⟩
    · cases xr
      · have HV : Hid (ntCode 3 wo e ok op ot od oi on rc rn rs = 1) := by rw [Hid, ntCode, unhide HV0]; simp
        clear HV0
        have hw2 : (wo != 0) = false := by rw [bne, hw]; rfl
        go_enter Tryd.func25, Tryd.ntmps25
        go_wp2_with (first | (go_at_call 31; refine (l1In_any _ _ _ _).mono ?_; rintro r w1 ⟨rfl, rfl⟩; first | rw [hin]) | (go_at_call 42; refine (unhide HNO).mono ?_; rintro r w1 ⟨rfl, rfl⟩; try rw [unhide HHz]) | (go_at_call 43; refine (unhide HNR).mono ?_; rintro r w1 ⟨rfl, rfl⟩; try rw [unhide HHr]))
        go_ret
        exact ⟨ret_int (unhide HV).symm, Below.refl _ _⟩
      · have HC : Hid (ntCode 3 wo e ok op ot od oi on rc rn rs = (if inB wo 0 3 = true then (if inB e 0 9999 = true then or0 (opPart 3 ok op ot od oi on) (repCode rc rn rs) else 3) else 3)) := by rw [Hid, ntCode, unhide HV0]; simp
        clear HV0
        have hw2 : (wo != 0) = false := by rw [bne, hw]; rfl
        cases hwo : inB wo 0 3
        · have HV : Hid (ntCode 3 wo e ok op ot od oi on rc rn rs = 3) := by rw [Hid, unhide HC, hwo]; rfl
          clear HC
          go_enter Tryd.func25, Tryd.ntmps25
          go_wp2_with (first | (go_at_call 31; refine (l1In_any _ _ _ _).mono ?_; rintro r w1 ⟨rfl, rfl⟩; first | rw [hin] | rw [hwo]) | (go_at_call 42; refine (unhide HNO).mono ?_; rintro r w1 ⟨rfl, rfl⟩; try rw [unhide HHz]) | (go_at_call 43; refine (unhide HNR).mono ?_; rintro r w1 ⟨rfl, rfl⟩; try rw [unhide HHr]))
          go_ret
          exact ⟨ret_int (unhide HV).symm, Below.refl _ _⟩
        cases he : inB e 0 9999
        · have HV : Hid (ntCode 3 wo e ok op ot od oi on rc rn rs = 3) := by rw [Hid, unhide HC, hwo, he]; rfl
          clear HC
          go_enter Tryd.func25, Tryd.ntmps25
          go_wp2_with (first | (go_at_call 31; refine (l1In_any _ _ _ _).mono ?_; rintro r w1 ⟨rfl, rfl⟩; first | rw [hin] | rw [hwo] | rw [he]) | (go_at_call 42; refine (unhide HNO).mono ?_; rintro r w1 ⟨rfl, rfl⟩; try rw [unhide HHz]) | (go_at_call 43; refine (unhide HNR).mono ?_; rintro r w1 ⟨rfl, rfl⟩; try rw [unhide HHr]))
          go_ret
          exact ⟨ret_int (unhide HV).symm, Below.refl _ _⟩
        have HD : Hid (ntCode 3 wo e ok op ot od oi on rc rn rs = or0 (opPart 3 ok op ot od oi on) (repCode rc rn rs)) := by rw [Hid, unhide HC, hwo, he, if_pos rfl, if_pos rfl]
        clear HC
        have HV : Hid (ntCode 3 wo e ok op ot od oi on rc rn rs = repCode rc rn rs) := by rw [Hid, unhide HD, opPart]; simp [or0]
        clear HD
        have HRP := hide (l9Reply_any b (o + 9) rc rn rs a2 a3 c2 c3 w y9 y10 y11 (unhide H2) (unhide H3) (unhide HS))
        go_enter Tryd.func25, Tryd.ntmps25
        go_wp2_with (first | (go_at_call 45; refine (unhide HRP).mono ?_; rintro r w5 ⟨rfl, rfl⟩) | (first | (go_at_call 31; refine (l1In_any _ _ _ _).mono ?_; rintro r w1 ⟨rfl, rfl⟩; first | rw [hin] | rw [hwo] | rw [he]) | (go_at_call 42; refine (unhide HNO).mono ?_; rintro r w1 ⟨rfl, rfl⟩; try rw [unhide HHz]) | (go_at_call 43; refine (unhide HNR).mono ?_; rintro r w1 ⟨rfl, rfl⟩; try rw [unhide HHr])))
        go_ret
        exact ⟨ret_int (unhide HV).symm, Below.refl _ _⟩
set_option maxRecDepth 20000 in
set_option maxHeartbeats 4000000 in
theorem l9Note_4 (b o : Nat) (wo e : Int) (ok : Int) (op ot : ByteArray) (od : Bool) (oi : Int) (on : List Int) (rc : Int) (rn : List Int) (rs : List ByteArray) (a1 a2 a3 : Option Addr) (c1 c2 c3 : Nat) (w : World) (hb : b < w.heap.size) (y0 : w.cell? ⟨b, o, none⟩ = some (.int .i64 4)) (y1 : w.cell? ⟨b, o + 1, none⟩ = some (.int .i64 wo)) (y2 : w.cell? ⟨b, o + 2, none⟩ = some (.int .i64 e)) (y3 : w.cell? ⟨b, o + 3, none⟩ = some (.int .i64 ok)) (y4 : w.cell? ⟨b, o + 4, none⟩ = some (.string op)) (y5 : w.cell? ⟨b, o + 5, none⟩ = some (.string ot)) (y6 : w.cell? ⟨b, o + 6, none⟩ = some (.bool od)) (y7 : w.cell? ⟨b, o + 7, none⟩ = some (.int .i64 oi)) (y8 : w.cell? ⟨b, o + 8, none⟩ = some (.slice a1 on.length c1)) (y9 : w.cell? ⟨b, o + 9, none⟩ = some (.int .i64 rc)) (y10 : w.cell? ⟨b, o + 10, none⟩ = some (.slice a2 rn.length c2)) (y11 : w.cell? ⟨b, o + 11, none⟩ = some (.slice a3 rs.length c3)) (h : IntsAt w a1 on) (h2 : IntsAt w a2 rn) (h3 : StrsAt w a3 rs) (hn : on.length ≤ 1048576) (hp : op.size ≤ 1048576) (ht : ot.size ≤ 1048576) (hs : ∀ s ∈ rs, s.size ≤ maxLen) :
    Calls Tryd.prog 25 #[.pointer (some ⟨b, o, none⟩)] w fun r w' => r = .returned (.int .i64 (ntCode 4 wo e ok op ot od oi on rc rn rs)) ∧ Below w.heap.size w w' := by
  have hin : inB 4 1 4 = true := by decide
  have H := hide h
  have H2 := hide h2
  have H3 := hide h3
  have HS := hide hs
  clear h h2 h3 hs
  have HNR := hide (l9NoReply_any b (o + 9) rc rn rs a2 a3 c2 c3 w y9 y10 y11)
  have HNO := hide (l7NoOp_any b (o + 3) ok op ot od oi on a1 c1 w y3 y4 y5 y6 y7 y8)
  generalize hw : (wo == 0) = xw at *
  generalize hz : noOp ok op ot od oi on = xz at *
  generalize hr : noRep rc rn rs = xr at *
  have HV0 : Hid (ntForm 4 wo ok op ot od oi on rc rn rs = (xw && xz && xr)) := by
    rw [Hid, ntForm, hin]
    simp [hw, hz, hr]
  have HHz := hide hz
  clear hz
  have HHr := hide hr
  clear hr
  cases xw
  · have HV : Hid (ntCode 4 wo e ok op ot od oi on rc rn rs = 1) := by rw [Hid, ntCode, unhide HV0]; simp
    clear HV0
    have hw2 : (wo != 0) = true := by rw [bne, hw]; rfl
    go_enter Tryd.func25, Tryd.ntmps25
    go_wp2_with (first | (go_at_call 31; refine (l1In_any _ _ _ _).mono ?_; rintro r w1 ⟨rfl, rfl⟩; first | rw [hin]) | (go_at_call 42; refine (unhide HNO).mono ?_; rintro r w1 ⟨rfl, rfl⟩; try rw [unhide HHz]) | (go_at_call 43; refine (unhide HNR).mono ?_; rintro r w1 ⟨rfl, rfl⟩; try rw [unhide HHr]))
    go_ret
    exact ⟨ret_int (unhide HV).symm, Below.refl _ _⟩
  · cases xz
    · have HV : Hid (ntCode 4 wo e ok op ot od oi on rc rn rs = 1) := by rw [Hid, ntCode, unhide HV0]; simp
      clear HV0
      have hw2 : (wo != 0) = false := by rw [bne, hw]; rfl
      go_enter Tryd.func25, Tryd.ntmps25
      go_wp2_with (first | (go_at_call 31; refine (l1In_any _ _ _ _).mono ?_; rintro r w1 ⟨rfl, rfl⟩; first | rw [hin]) | (go_at_call 42; refine (unhide HNO).mono ?_; rintro r w1 ⟨rfl, rfl⟩; try rw [unhide HHz]) | (go_at_call 43; refine (unhide HNR).mono ?_; rintro r w1 ⟨rfl, rfl⟩; try rw [unhide HHr]))
      go_ret
      exact ⟨ret_int (unhide HV).symm, Below.refl _ _⟩
    · cases xr
      · have HV : Hid (ntCode 4 wo e ok op ot od oi on rc rn rs = 1) := by rw [Hid, ntCode, unhide HV0]; simp
        clear HV0
        have hw2 : (wo != 0) = false := by rw [bne, hw]; rfl
        go_enter Tryd.func25, Tryd.ntmps25
        go_wp2_with (first | (go_at_call 31; refine (l1In_any _ _ _ _).mono ?_; rintro r w1 ⟨rfl, rfl⟩; first | rw [hin]) | (go_at_call 42; refine (unhide HNO).mono ?_; rintro r w1 ⟨rfl, rfl⟩; try rw [unhide HHz]) | (go_at_call 43; refine (unhide HNR).mono ?_; rintro r w1 ⟨rfl, rfl⟩; try rw [unhide HHr]))
        go_ret
        exact ⟨ret_int (unhide HV).symm, Below.refl _ _⟩
      · have HC : Hid (ntCode 4 wo e ok op ot od oi on rc rn rs = (if inB wo 0 3 = true then (if inB e 0 9999 = true then or0 (opPart 4 ok op ot od oi on) (repCode rc rn rs) else 3) else 3)) := by rw [Hid, ntCode, unhide HV0]; simp
        clear HV0
        have hw2 : (wo != 0) = false := by rw [bne, hw]; rfl
        cases hwo : inB wo 0 3
        · have HV : Hid (ntCode 4 wo e ok op ot od oi on rc rn rs = 3) := by rw [Hid, unhide HC, hwo]; rfl
          clear HC
          go_enter Tryd.func25, Tryd.ntmps25
          go_wp2_with (first | (go_at_call 31; refine (l1In_any _ _ _ _).mono ?_; rintro r w1 ⟨rfl, rfl⟩; first | rw [hin] | rw [hwo]) | (go_at_call 42; refine (unhide HNO).mono ?_; rintro r w1 ⟨rfl, rfl⟩; try rw [unhide HHz]) | (go_at_call 43; refine (unhide HNR).mono ?_; rintro r w1 ⟨rfl, rfl⟩; try rw [unhide HHr]))
          go_ret
          exact ⟨ret_int (unhide HV).symm, Below.refl _ _⟩
        cases he : inB e 0 9999
        · have HV : Hid (ntCode 4 wo e ok op ot od oi on rc rn rs = 3) := by rw [Hid, unhide HC, hwo, he]; rfl
          clear HC
          go_enter Tryd.func25, Tryd.ntmps25
          go_wp2_with (first | (go_at_call 31; refine (l1In_any _ _ _ _).mono ?_; rintro r w1 ⟨rfl, rfl⟩; first | rw [hin] | rw [hwo] | rw [he]) | (go_at_call 42; refine (unhide HNO).mono ?_; rintro r w1 ⟨rfl, rfl⟩; try rw [unhide HHz]) | (go_at_call 43; refine (unhide HNR).mono ?_; rintro r w1 ⟨rfl, rfl⟩; try rw [unhide HHr]))
          go_ret
          exact ⟨ret_int (unhide HV).symm, Below.refl _ _⟩
        have HD : Hid (ntCode 4 wo e ok op ot od oi on rc rn rs = or0 (opPart 4 ok op ot od oi on) (repCode rc rn rs)) := by rw [Hid, unhide HC, hwo, he, if_pos rfl, if_pos rfl]
        clear HC
        have HV : Hid (ntCode 4 wo e ok op ot od oi on rc rn rs = repCode rc rn rs) := by rw [Hid, unhide HD, opPart]; simp [or0]
        clear HD
        have HRP := hide (l9Reply_any b (o + 9) rc rn rs a2 a3 c2 c3 w y9 y10 y11 (unhide H2) (unhide H3) (unhide HS))
        go_enter Tryd.func25, Tryd.ntmps25
        go_wp2_with (first | (go_at_call 45; refine (unhide HRP).mono ?_; rintro r w5 ⟨rfl, rfl⟩) | (first | (go_at_call 31; refine (l1In_any _ _ _ _).mono ?_; rintro r w1 ⟨rfl, rfl⟩; first | rw [hin] | rw [hwo] | rw [he]) | (go_at_call 42; refine (unhide HNO).mono ?_; rintro r w1 ⟨rfl, rfl⟩; try rw [unhide HHz]) | (go_at_call 43; refine (unhide HNR).mono ?_; rintro r w1 ⟨rfl, rfl⟩; try rw [unhide HHr])))
        go_ret
        exact ⟨ret_int (unhide HV).symm, Below.refl _ _⟩
theorem l9Note_any (b o : Nat) (k wo e : Int) (ok : Int) (op ot : ByteArray) (od : Bool) (oi : Int) (on : List Int) (rc : Int) (rn : List Int) (rs : List ByteArray) (a1 a2 a3 : Option Addr) (c1 c2 c3 : Nat) (w : World) (hb : b < w.heap.size) (y0 : w.cell? ⟨b, o, none⟩ = some (.int .i64 k)) (y1 : w.cell? ⟨b, o + 1, none⟩ = some (.int .i64 wo)) (y2 : w.cell? ⟨b, o + 2, none⟩ = some (.int .i64 e)) (y3 : w.cell? ⟨b, o + 3, none⟩ = some (.int .i64 ok)) (y4 : w.cell? ⟨b, o + 4, none⟩ = some (.string op)) (y5 : w.cell? ⟨b, o + 5, none⟩ = some (.string ot)) (y6 : w.cell? ⟨b, o + 6, none⟩ = some (.bool od)) (y7 : w.cell? ⟨b, o + 7, none⟩ = some (.int .i64 oi)) (y8 : w.cell? ⟨b, o + 8, none⟩ = some (.slice a1 on.length c1)) (y9 : w.cell? ⟨b, o + 9, none⟩ = some (.int .i64 rc)) (y10 : w.cell? ⟨b, o + 10, none⟩ = some (.slice a2 rn.length c2)) (y11 : w.cell? ⟨b, o + 11, none⟩ = some (.slice a3 rs.length c3)) (h : IntsAt w a1 on) (h2 : IntsAt w a2 rn) (h3 : StrsAt w a3 rs) (hn : on.length ≤ 1048576) (hp : op.size ≤ 1048576) (ht : ot.size ≤ 1048576) (hs : ∀ s ∈ rs, s.size ≤ maxLen) :
    Calls Tryd.prog 25 #[.pointer (some ⟨b, o, none⟩)] w fun r w' => r = .returned (.int .i64 (ntCode k wo e ok op ot od oi on rc rn rs)) ∧ Below w.heap.size w w' := by
  cases hin : inB k 1 4
  · exact l9Note_0 b o k wo e ok op ot od oi on rc rn rs a1 a2 a3 c1 c2 c3 w hb y0 y1 y2 y3 y4 y5 y6 y7 y8 y9 y10 y11 h h2 h3 hn hp ht hs hin
  rcases ntKinds hin with rfl | rfl | rfl | rfl
  · exact l9Note_1 b o wo e ok op ot od oi on rc rn rs a1 a2 a3 c1 c2 c3 w hb y0 y1 y2 y3 y4 y5 y6 y7 y8 y9 y10 y11 h h2 h3 hn hp ht hs
  · exact l9Note_2 b o wo e ok op ot od oi on rc rn rs a1 a2 a3 c1 c2 c3 w hb y0 y1 y2 y3 y4 y5 y6 y7 y8 y9 y10 y11 h h2 h3 hn hp ht hs
  · exact l9Note_3 b o wo e ok op ot od oi on rc rn rs a1 a2 a3 c1 c2 c3 w hb y0 y1 y2 y3 y4 y5 y6 y7 y8 y9 y10 y11 h h2 h3 hn hp ht hs
  · exact l9Note_4 b o wo e ok op ot od oi on rc rn rs a1 a2 a3 c1 c2 c3 w hb y0 y1 y2 y3 y4 y5 y6 y7 y8 y9 y10 y11 h h2 h3 hn hp ht hs
def NteA.sized (x : NteA) : Prop := x.full ∧ ∀ s ∈ x.b.rs, s.size ≤ maxLen
set_option maxRecDepth 20000 in
set_option maxHeartbeats 4000000 in
theorem specNotesFault_any (a : Option Addr) (c : Nat) (L : List NteA) (w : World) (h : NtesAt w a L) (hn : L.length ≤ 1048576) (hs : ∀ x ∈ L, x.sized) :
    Calls Tryd.prog 11 #[.slice a L.length c] w fun r w' => r = .returned (.int .i64 (notesCode (L.map NteA.b))) ∧ Below w.heap.size w w' := by
  have HF := hide h
  have HS := hide hs
  clear h hs
  by_cases hl : (600 : Int) < L.length
  · have HV : Hid (notesCode (L.map NteA.b) = 2) := by rw [Hid, notesCode, if_pos (by simpa using hl)]
    go_enter Tryd.func11, Tryd.ntmps11
    go_wp2_with fail
    go_ret
    exact ⟨ret_int (unhide HV).symm, Below.refl _ _⟩
  have HC : Hid (notesCode (L.map NteA.b) = codesOf L) := by rw [Hid, notesCode, if_neg (by simpa using hl)]; rfl
  go_enter Tryd.func11, Tryd.ntmps11
  go_wp2_with fail
  go_loopw [3] (fun i wr => ∃ k : Nat, k ≤ L.length ∧ i = .int .i64 k ∧ Hid (Below w.heap.size w wr) ∧ Hid (codesOf L = codesOf (L.drop k))) (fun i _ => L.length - (intOf i).toNat)
  case atStart => exact ⟨0, Nat.zero_le _, rfl, Below.refl _ _, rfl⟩
  case round =>
    obtain ⟨k, hk, rfl, HB, HX⟩ := hrel
    by_cases hlt : k < L.length
    · obtain ⟨b1, o1, rfl, hb1, hc1⟩ := (unhide HF).at hlt
      have hbw := unhide HB
      have hx := hc1 k hlt
      have hsz := unhide HS _ (List.getElem_mem hlt)
      have hst := codesOf_drop hlt
      generalize L[k] = y at *
      obtain ⟨⟨k', wo, e, ok, op, ot, od, oi, on, rc, rn, rs⟩, a1, c1, a2, c2, a3, c3⟩ := y
      have zb1 : b1 < wr.heap.size := by have := hbw.size; omega
      obtain ⟨⟨⟨s1, s2, s3⟩, s4, s5⟩, s6⟩ := hsz
      have SD := hide (hx.2.1.below hbw)
      have HN := hide (l9Note_any b1 (o1 + k * 12) k' wo e ok op ot od oi on rc rn rs a1 a2 a3 c1 c2 c3 wr zb1
        ((hbw.cell (p := ⟨b1, o1 + k * 12, none⟩) hb1).trans (hx.1 0 _ rfl))
        ((hbw.cell (p := ⟨b1, o1 + k * 12 + 1, none⟩) hb1).trans (hx.1 1 _ rfl))
        ((hbw.cell (p := ⟨b1, o1 + k * 12 + 2, none⟩) hb1).trans (hx.1 2 _ rfl))
        ((hbw.cell (p := ⟨b1, o1 + k * 12 + 3, none⟩) hb1).trans (hx.1 3 _ rfl))
        ((hbw.cell (p := ⟨b1, o1 + k * 12 + 4, none⟩) hb1).trans (hx.1 4 _ rfl))
        ((hbw.cell (p := ⟨b1, o1 + k * 12 + 5, none⟩) hb1).trans (hx.1 5 _ rfl))
        ((hbw.cell (p := ⟨b1, o1 + k * 12 + 6, none⟩) hb1).trans (hx.1 6 _ rfl))
        ((hbw.cell (p := ⟨b1, o1 + k * 12 + 7, none⟩) hb1).trans (hx.1 7 _ rfl))
        ((hbw.cell (p := ⟨b1, o1 + k * 12 + 8, none⟩) hb1).trans (hx.1 8 _ rfl))
        ((hbw.cell (p := ⟨b1, o1 + k * 12 + 9, none⟩) hb1).trans (hx.1 9 _ rfl))
        ((hbw.cell (p := ⟨b1, o1 + k * 12 + 10, none⟩) hb1).trans (hx.1 10 _ rfl))
        ((hbw.cell (p := ⟨b1, o1 + k * 12 + 11, none⟩) hb1).trans (hx.1 11 _ rfl))
        (unhide SD).1 (unhide SD).2.1 (unhide SD).2.2 s1 s4 s5 s6)
      have HY : Hid (codesOf L = or0 (ntCode k' wo e ok op ot od oi on rc rn rs) (codesOf (L.drop (k + 1)))) := by rw [Hid, unhide HX, hst]; rfl
      clear hc1 hx hst hbw SD s1 s2 s3 s4 s5 s6 HX
      generalize ntCode k' wo e ok op ot od oi on rc rn rs = cd at *
      go_wp2_with fail
      refine (unhide HN).mono ?_
      rintro r w2 ⟨rfl, hb2⟩
      have B2 := hide (below_step (unhide HB) hb2 (unhide HB).size)
      clear hb2 HB HN
      by_cases hc0 : cd = 0
      · have HZ : Hid (codesOf L = codesOf (L.drop (k + 1))) := by rw [Hid, unhide HY, or0_right hc0]
        subst hc0
        clear HY
        go_wp2_with fail
        go_roundw
        case rel => exact ⟨k + 1, by omega, by go_num, B2, HZ⟩
        case measure => simp [intOf]; omega
      · have HV : Hid (notesCode (L.map NteA.b) = cd) := by rw [Hid, unhide HC, unhide HY, or0_left hc0]
        have hcb := neq_true hc0
        clear HY hc0 HC
        go_wp2_with fail
        go_ret
        exact ⟨ret_int (unhide HV).symm, unhide B2⟩
    · have HV : Hid (notesCode (L.map NteA.b) = 0) := by rw [Hid, unhide HC, unhide HX, codesOf_end (by omega)]
      clear HX HC
      go_wp2_with fail
      go_ret
      exact ⟨ret_int (unhide HV).symm, unhide HB⟩
end Go.Proofs.YtcmekhpphgkglaaDoor
/-
  What impl.neededOfNote and impl.replyFault answer.
-/
namespace Go.Proofs.YtcmekhpphgkglaaDoor
open Go.RowKit
set_option linter.unusedVariables false

set_option maxRecDepth 20000 in
set_option maxHeartbeats 4000000 in
theorem neededNt1 (wo e : Int) (ok : Int) (op ot : ByteArray) (od : Bool) (oi : Int) (on : List Int) (rc : Int) (rn : List Int) (rs : List ByteArray) (a1 a2 a3 : Option Addr) (c1 c2 c3 : Nat) (w : World) (h : NteA.side w ⟨⟨1, wo, e, ok, op, ot, od, oi, on, rc, rn, rs⟩, a1, c1, a2, c2, a3, c3⟩) :
    Calls Tryd.prog 49 #[.agg #[.int .i64 1, .int .i64 wo, .int .i64 e, .int .i64 ok, .string op, .string ot, .bool od, .int .i64 oi, .slice a1 on.length c1, .int .i64 rc, .slice a2 rn.length c2, .slice a3 rs.length c3]] w fun r w' => (∃ y : NteA, r = .returned (.agg y.cells.toArray) ∧ y.b = needN ⟨1, wo, e, ok, op, ot, od, oi, on, rc, rn, rs⟩ ∧ y.side w') ∧ Below w.heap.size w w' := by
  obtain ⟨W, hW, hWz, HB0, HP0, HX0, HY0⟩ := boxes3 w [.int .i64 1, .int .i64 wo, .int .i64 e, .int .i64 ok, .string op, .string ot, .bool od, .int .i64 oi, .slice a1 on.length c1, .int .i64 rc, .slice a2 rn.length c2, .slice a3 rs.length c3] [.int .i64 0, .int .i64 0, .int .i64 0, .int .i64 0, .string ⟨#[]⟩, .string ⟨#[]⟩, .bool false, .int .i64 0, .slice none 0 0, .int .i64 0, .slice none 0 0, .slice none 0 0] [.int .i64 1, .int .i64 wo, .int .i64 e, .int .i64 ok, .string op, .string ot, .bool od, .int .i64 oi, .slice a1 on.length c1, .int .i64 0, .slice none 0 0, .slice none 0 0] 64 64 64
  have H0 := hide h
  clear h
  go_enter Tryd.func49, Tryd.ntmps49
  go_upto_region 8 with fail
  rw [← hW]
  clear hW
  go_wp2_with (first
    | (refine wpList_load_part rfl 64 (.tmp 3) rfl (w.heap.size + 1 + 1) 0 rfl 64 _ [.int .i64 1, .int .i64 wo, .int .i64 e, .int .i64 ok, .string op, .string ot, .bool od, .int .i64 oi, .slice a1 on.length c1, .int .i64 0, .slice none 0 0, .slice none 0 0] (unhide HY0) rfl _ Tryd.underlying64 rfl (by kernel_rfl) ?_)
    | (refine wpList_store_part rfl 64 (.tmp 2) (.tmp 22) rfl (w.heap.size + 1) 0 _ rfl rfl 64 _ (unhide HX0) (by kernel_rfl) (by simp) (by simp [Value.oneCell']) ?_; intro wZ XZ OZ))
  have XR : Hid (Box wZ (w.heap.size + 1) [.int .i64 1, .int .i64 wo, .int .i64 e, .int .i64 ok, .string op, .string ot, .bool od, .int .i64 oi, .slice a1 on.length c1, .int .i64 0, .slice none 0 0, .slice none 0 0] 64) := XZ
  have BR : Hid (Below w.heap.size w wZ) := (unhide OZ).below (unhide HB0) (Nat.le_refl _) (fun q hq e => by omega)
  refine bodyPost_ret (results_cell_row Tryd.results49 _ wZ (w.heap.size + 1) 64 _ (0, 0) _ rfl (unhide XR) Tryd.underlying64 rfl (by kernel_rfl)) rfl ⟨⟨⟨⟨1, wo, e, ok, op, ot, od, oi, on, 0, [], []⟩, a1, c1, none, 0, none, 0⟩, rfl, rfl, ⟨(unhide H0).1.below (unhide BR), .inl rfl, .inl rfl⟩⟩, unhide BR⟩
set_option maxRecDepth 20000 in
set_option maxHeartbeats 4000000 in
theorem neededNt2 (wo e : Int) (ok : Int) (op ot : ByteArray) (od : Bool) (oi : Int) (on : List Int) (rc : Int) (rn : List Int) (rs : List ByteArray) (a1 a2 a3 : Option Addr) (c1 c2 c3 : Nat) (w : World) (h : NteA.side w ⟨⟨2, wo, e, ok, op, ot, od, oi, on, rc, rn, rs⟩, a1, c1, a2, c2, a3, c3⟩) :
    Calls Tryd.prog 49 #[.agg #[.int .i64 2, .int .i64 wo, .int .i64 e, .int .i64 ok, .string op, .string ot, .bool od, .int .i64 oi, .slice a1 on.length c1, .int .i64 rc, .slice a2 rn.length c2, .slice a3 rs.length c3]] w fun r w' => (∃ y : NteA, r = .returned (.agg y.cells.toArray) ∧ y.b = needN ⟨2, wo, e, ok, op, ot, od, oi, on, rc, rn, rs⟩ ∧ y.side w') ∧ Below w.heap.size w w' := by
  obtain ⟨W, hW, hWz, HB0, HP0, HX0, HY0⟩ := boxes3 w [.int .i64 2, .int .i64 wo, .int .i64 e, .int .i64 ok, .string op, .string ot, .bool od, .int .i64 oi, .slice a1 on.length c1, .int .i64 rc, .slice a2 rn.length c2, .slice a3 rs.length c3] [.int .i64 0, .int .i64 0, .int .i64 0, .int .i64 0, .string ⟨#[]⟩, .string ⟨#[]⟩, .bool false, .int .i64 0, .slice none 0 0, .int .i64 0, .slice none 0 0, .slice none 0 0] [.int .i64 2, .int .i64 wo, .int .i64 e, .int .i64 ok, .string op, .string ot, .bool od, .int .i64 oi, .slice a1 on.length c1, .int .i64 rc, .slice a2 rn.length c2, .slice a3 rs.length c3] 64 64 64
  have H0 := hide h
  clear h
  go_enter Tryd.func49, Tryd.ntmps49
  go_upto_region 8 with fail
  rw [← hW]
  clear hW
  go_wp2_with (first
    | (refine wpList_load_part rfl 64 (.tmp 3) rfl (w.heap.size + 1 + 1) 0 rfl 64 _ [.int .i64 2, .int .i64 wo, .int .i64 e, .int .i64 ok, .string op, .string ot, .bool od, .int .i64 oi, .slice a1 on.length c1, .int .i64 rc, .slice a2 rn.length c2, .slice a3 rs.length c3] (unhide HY0) rfl _ Tryd.underlying64 rfl (by kernel_rfl) ?_)
    | (refine wpList_store_part rfl 64 (.tmp 2) (.tmp 22) rfl (w.heap.size + 1) 0 _ rfl rfl 64 _ (unhide HX0) (by kernel_rfl) (by simp) (by simp [Value.oneCell']) ?_; intro wZ XZ OZ))
  have XR : Hid (Box wZ (w.heap.size + 1) [.int .i64 2, .int .i64 wo, .int .i64 e, .int .i64 ok, .string op, .string ot, .bool od, .int .i64 oi, .slice a1 on.length c1, .int .i64 rc, .slice a2 rn.length c2, .slice a3 rs.length c3] 64) := XZ
  have BR : Hid (Below w.heap.size w wZ) := (unhide OZ).below (unhide HB0) (Nat.le_refl _) (fun q hq e => by omega)
  refine bodyPost_ret (results_cell_row Tryd.results49 _ wZ (w.heap.size + 1) 64 _ (0, 0) _ rfl (unhide XR) Tryd.underlying64 rfl (by kernel_rfl)) rfl ⟨⟨⟨⟨2, wo, e, ok, op, ot, od, oi, on, rc, rn, rs⟩, a1, c1, a2, c2, a3, c3⟩, rfl, rfl, (unhide H0).below (unhide BR)⟩, unhide BR⟩
set_option maxRecDepth 20000 in
set_option maxHeartbeats 4000000 in
theorem neededNt3 (wo e : Int) (ok : Int) (op ot : ByteArray) (od : Bool) (oi : Int) (on : List Int) (rc : Int) (rn : List Int) (rs : List ByteArray) (a1 a2 a3 : Option Addr) (c1 c2 c3 : Nat) (w : World) (h : NteA.side w ⟨⟨3, wo, e, ok, op, ot, od, oi, on, rc, rn, rs⟩, a1, c1, a2, c2, a3, c3⟩) :
    Calls Tryd.prog 49 #[.agg #[.int .i64 3, .int .i64 wo, .int .i64 e, .int .i64 ok, .string op, .string ot, .bool od, .int .i64 oi, .slice a1 on.length c1, .int .i64 rc, .slice a2 rn.length c2, .slice a3 rs.length c3]] w fun r w' => (∃ y : NteA, r = .returned (.agg y.cells.toArray) ∧ y.b = needN ⟨3, wo, e, ok, op, ot, od, oi, on, rc, rn, rs⟩ ∧ y.side w') ∧ Below w.heap.size w w' := by
  obtain ⟨W, hW, hWz, HB0, HP0, HX0, HY0⟩ := boxes3 w [.int .i64 3, .int .i64 wo, .int .i64 e, .int .i64 ok, .string op, .string ot, .bool od, .int .i64 oi, .slice a1 on.length c1, .int .i64 rc, .slice a2 rn.length c2, .slice a3 rs.length c3] [.int .i64 0, .int .i64 0, .int .i64 0, .int .i64 0, .string ⟨#[]⟩, .string ⟨#[]⟩, .bool false, .int .i64 0, .slice none 0 0, .int .i64 0, .slice none 0 0, .slice none 0 0] [.int .i64 3, .int .i64 0, .int .i64 e, .int .i64 0, .string ⟨#[]⟩, .string ⟨#[]⟩, .bool false, .int .i64 0, .slice none 0 0, .int .i64 0, .slice none 0 0, .slice none 0 0] 64 64 64
  have H0 := hide h
  clear h
  go_enter Tryd.func49, Tryd.ntmps49
  go_upto_region 8 with fail
  rw [← hW]
  clear hW
  go_wp2_with (first
    | (refine wpList_load_part rfl 64 (.tmp 3) rfl (w.heap.size + 1 + 1) 0 rfl 64 _ [.int .i64 3, .int .i64 0, .int .i64 e, .int .i64 0, .string ⟨#[]⟩, .string ⟨#[]⟩, .bool false, .int .i64 0, .slice none 0 0, .int .i64 0, .slice none 0 0, .slice none 0 0] (unhide HY0) rfl _ Tryd.underlying64 rfl (by kernel_rfl) ?_)
    | (refine wpList_store_part rfl 64 (.tmp 2) (.tmp 22) rfl (w.heap.size + 1) 0 _ rfl rfl 64 _ (unhide HX0) (by kernel_rfl) (by simp) (by simp [Value.oneCell']) ?_; intro wZ XZ OZ))
  have XR : Hid (Box wZ (w.heap.size + 1) [.int .i64 3, .int .i64 0, .int .i64 e, .int .i64 0, .string ⟨#[]⟩, .string ⟨#[]⟩, .bool false, .int .i64 0, .slice none 0 0, .int .i64 0, .slice none 0 0, .slice none 0 0] 64) := XZ
  have BR : Hid (Below w.heap.size w wZ) := (unhide OZ).below (unhide HB0) (Nat.le_refl _) (fun q hq e => by omega)
  refine bodyPost_ret (results_cell_row Tryd.results49 _ wZ (w.heap.size + 1) 64 _ (0, 0) _ rfl (unhide XR) Tryd.underlying64 rfl (by kernel_rfl)) rfl ⟨⟨⟨⟨3, 0, e, 0, ⟨#[]⟩, ⟨#[]⟩, false, 0, [], 0, [], []⟩, none, 0, none, 0, none, 0⟩, rfl, rfl, ⟨.inl rfl, .inl rfl, .inl rfl⟩⟩, unhide BR⟩
set_option maxRecDepth 20000 in
set_option maxHeartbeats 4000000 in
theorem neededNt4 (wo e : Int) (ok : Int) (op ot : ByteArray) (od : Bool) (oi : Int) (on : List Int) (rc : Int) (rn : List Int) (rs : List ByteArray) (a1 a2 a3 : Option Addr) (c1 c2 c3 : Nat) (w : World) (h : NteA.side w ⟨⟨4, wo, e, ok, op, ot, od, oi, on, rc, rn, rs⟩, a1, c1, a2, c2, a3, c3⟩) :
    Calls Tryd.prog 49 #[.agg #[.int .i64 4, .int .i64 wo, .int .i64 e, .int .i64 ok, .string op, .string ot, .bool od, .int .i64 oi, .slice a1 on.length c1, .int .i64 rc, .slice a2 rn.length c2, .slice a3 rs.length c3]] w fun r w' => (∃ y : NteA, r = .returned (.agg y.cells.toArray) ∧ y.b = needN ⟨4, wo, e, ok, op, ot, od, oi, on, rc, rn, rs⟩ ∧ y.side w') ∧ Below w.heap.size w w' := by
  obtain ⟨W, hW, hWz, HB0, HP0, HX0, HY0⟩ := boxes3 w [.int .i64 4, .int .i64 wo, .int .i64 e, .int .i64 ok, .string op, .string ot, .bool od, .int .i64 oi, .slice a1 on.length c1, .int .i64 rc, .slice a2 rn.length c2, .slice a3 rs.length c3] [.int .i64 0, .int .i64 0, .int .i64 0, .int .i64 0, .string ⟨#[]⟩, .string ⟨#[]⟩, .bool false, .int .i64 0, .slice none 0 0, .int .i64 0, .slice none 0 0, .slice none 0 0] [.int .i64 4, .int .i64 0, .int .i64 e, .int .i64 0, .string ⟨#[]⟩, .string ⟨#[]⟩, .bool false, .int .i64 0, .slice none 0 0, .int .i64 0, .slice none 0 0, .slice none 0 0] 64 64 64
  have H0 := hide h
  clear h
  go_enter Tryd.func49, Tryd.ntmps49
  go_upto_region 8 with fail
  rw [← hW]
  clear hW
  go_wp2_with (first
    | (refine wpList_load_part rfl 64 (.tmp 3) rfl (w.heap.size + 1 + 1) 0 rfl 64 _ [.int .i64 4, .int .i64 0, .int .i64 e, .int .i64 0, .string ⟨#[]⟩, .string ⟨#[]⟩, .bool false, .int .i64 0, .slice none 0 0, .int .i64 0, .slice none 0 0, .slice none 0 0] (unhide HY0) rfl _ Tryd.underlying64 rfl (by kernel_rfl) ?_)
    | (refine wpList_store_part rfl 64 (.tmp 2) (.tmp 22) rfl (w.heap.size + 1) 0 _ rfl rfl 64 _ (unhide HX0) (by kernel_rfl) (by simp) (by simp [Value.oneCell']) ?_; intro wZ XZ OZ))
  have XR : Hid (Box wZ (w.heap.size + 1) [.int .i64 4, .int .i64 0, .int .i64 e, .int .i64 0, .string ⟨#[]⟩, .string ⟨#[]⟩, .bool false, .int .i64 0, .slice none 0 0, .int .i64 0, .slice none 0 0, .slice none 0 0] 64) := XZ
  have BR : Hid (Below w.heap.size w wZ) := (unhide OZ).below (unhide HB0) (Nat.le_refl _) (fun q hq e => by omega)
  refine bodyPost_ret (results_cell_row Tryd.results49 _ wZ (w.heap.size + 1) 64 _ (0, 0) _ rfl (unhide XR) Tryd.underlying64 rfl (by kernel_rfl)) rfl ⟨⟨⟨⟨4, 0, e, 0, ⟨#[]⟩, ⟨#[]⟩, false, 0, [], 0, [], []⟩, none, 0, none, 0, none, 0⟩, rfl, rfl, ⟨.inl rfl, .inl rfl, .inl rfl⟩⟩, unhide BR⟩
theorem neededOfNote_any (x : NteA) (w : World) (h : x.side w) (hk : inB x.b.k 1 4 = true) :
    Calls Tryd.prog 49 #[.agg x.cells.toArray] w fun r w' => (∃ y : NteA, r = .returned (.agg y.cells.toArray) ∧ y.b = needN x.b ∧ y.side w') ∧ Below w.heap.size w w' := by
  obtain ⟨⟨k, wo, e, ok, op, ot, od, oi, on, rc, rn, rs⟩, a1, c1, a2, c2, a3, c3⟩ := x
  rcases ntKinds hk with h1 | h1 | h1 | h1
  · simp only at h1
    subst h1
    exact neededNt1 wo e ok op ot od oi on rc rn rs a1 a2 a3 c1 c2 c3 w h
  · simp only at h1
    subst h1
    exact neededNt2 wo e ok op ot od oi on rc rn rs a1 a2 a3 c1 c2 c3 w h
  · simp only at h1
    subst h1
    exact neededNt3 wo e ok op ot od oi on rc rn rs a1 a2 a3 c1 c2 c3 w h
  · simp only at h1
    subst h1
    exact neededNt4 wo e ok op ot od oi on rc rn rs a1 a2 a3 c1 c2 c3 w h
set_option maxRecDepth 20000 in
set_option maxHeartbeats 2000000 in
theorem replyFault_any (rc : Int) (rn : List Int) (rs : List ByteArray) (a2 a3 : Option Addr) (c2 c3 : Nat) (w : World) (h2 : IntsAt w a2 rn) (h3 : StrsAt w a3 rs) (hm : rn.length ≤ 1048576) (hl : rs.length ≤ 1048576) (hs : ∀ s ∈ rs, s.size ≤ maxLen) :
    Calls Tryd.prog 51 #[.agg #[.int .i64 rc, .slice a2 rn.length c2, .slice a3 rs.length c3]] w fun r w' => r = .returned (.int .i64 (repCode rc rn rs)) ∧ Below w.heap.size w w' := by
  obtain ⟨W, hW, hWz, HB0, HX0⟩ := boxes1 w [.int .i64 rc, .slice a2 rn.length c2, .slice a3 rs.length c3] 62
  have H2 := hide (h2.below (unhide HB0))
  have H3 := hide (h3.below (unhide HB0))
  have HS := hide hs
  have q0 := (unhide HX0).cell 0
  have q1 := (unhide HX0).cell 1
  have q2 := (unhide HX0).cell 2
  simp only [List.getElem?_cons_zero, List.getElem?_cons_succ] at q0 q1 q2
  clear h2 h3 hs
  cases hrc : inB rc 0 9
  · have HV : Hid (repCode rc rn rs = 3) := by rw [Hid, repCode, hrc]; rfl
    go_enter Tryd.func51, Tryd.ntmps51
    go_upto_region 1 with fail
    rw [← hW]
    clear hW
    go_wp2_with (go_at_call 35; refine (isWithin_any _ _ _ _).mono ?_; rintro r w1 ⟨rfl, rfl⟩; rw [hrc])
    go_ret
    exact ⟨ret_int (unhide HV).symm, unhide HB0⟩
  have HC : Hid (repCode rc rn rs = (if (16 : Int) < rn.length then 2 else if (60 : Int) < rs.length then 2 else if numsB rn = true then (if allNames rs = true then 0 else 5) else 3)) := by rw [Hid, repCode, if_pos hrc]
  by_cases h16 : (16 : Int) < rn.length
  · have HV : Hid (repCode rc rn rs = 2) := by rw [Hid, unhide HC, if_pos h16]
    clear HC
    go_enter Tryd.func51, Tryd.ntmps51
    go_upto_region 1 with fail
    rw [← hW]
    clear hW
    go_wp2_with (go_at_call 35; refine (isWithin_any _ _ _ _).mono ?_; rintro r w1 ⟨rfl, rfl⟩; rw [hrc])
    go_ret
    exact ⟨ret_int (unhide HV).symm, unhide HB0⟩
  by_cases h60 : (60 : Int) < rs.length
  · have HV : Hid (repCode rc rn rs = 2) := by rw [Hid, unhide HC, if_neg h16, if_pos h60]
    clear HC
    go_enter Tryd.func51, Tryd.ntmps51
    go_upto_region 1 with fail
    rw [← hW]
    clear hW
    go_wp2_with (go_at_call 35; refine (isWithin_any _ _ _ _).mono ?_; rintro r w1 ⟨rfl, rfl⟩; rw [hrc])
    go_ret
    exact ⟨ret_int (unhide HV).symm, unhide HB0⟩
  have HE : Hid (repCode rc rn rs = (if numsB rn = true then (if allNames rs = true then 0 else 5) else 3)) := by rw [Hid, unhide HC, if_neg h16, if_neg h60]
  clear HC
  go_enter Tryd.func51, Tryd.ntmps51
  go_upto_region 1 with fail
  rw [← hW]
  clear hW
  go_wp2_with (go_at_call 35; refine (isWithin_any _ _ _ _).mono ?_; rintro r w1 ⟨rfl, rfl⟩; rw [hrc])
  go_loop [22] (fun i => ∃ n : Nat, n ≤ rn.length ∧ i = .int .i64 n ∧ Hid (numsB rn = numsB (rn.drop n))) (fun i => rn.length - (intOf i).toNat)
  case atStart => exact ⟨0, Nat.zero_le _, rfl, rfl⟩
  case round =>
    obtain ⟨n, hn2, rfl, HX⟩ := hrel
    by_cases hlt : n < rn.length
    · obtain ⟨b1, o1, rfl, hb1, hc1⟩ := (unhide H2).at hlt
      have hc := hc1 n hlt
      have hst := numsB_drop hlt
      clear hc1
      generalize rn[n] = x at *
      cases hx : inB x 0 9999
      · have HV : Hid (repCode rc rn rs = 3) := by rw [Hid, unhide HE, unhide HX, hst, hx]; rfl
        clear hst HX HE
        go_wp2_with (go_at_call 35; refine (isWithin_any _ _ _ _).mono ?_; rintro r w1 ⟨rfl, rfl⟩; rw [hx])
        go_ret
        exact ⟨ret_int (unhide HV).symm, unhide HB0⟩
      · have HY : Hid (numsB rn = numsB (rn.drop (n + 1))) := by rw [Hid, unhide HX, hst, hx]; rfl
        clear hst HX HE
        go_wp2_with (go_at_call 35; refine (isWithin_any _ _ _ _).mono ?_; rintro r w1 ⟨rfl, rfl⟩; rw [hx])
        go_round
        case rel => exact ⟨n + 1, by omega, by go_num, HY⟩
        case measure => simp [intOf]; omega
    · have HY : Hid (repCode rc rn rs = (if allNames rs = true then 0 else 5)) := by rw [Hid, unhide HE, unhide HX, numsB_end (by omega), if_pos rfl]
      clear HX HE H2
      go_wp2_with fail
      refine (areNames_any a3 c3 rs _ (unhide H3) (unhide HS) (by unfold maxLen; omega)).mono ?_
      rintro r w5 ⟨rfl, hb5⟩
      have B5 := hide (below_step (unhide HB0) hb5 (by omega))
      clear hb5 HB0
      cases hx : allNames rs
      · have HV : Hid (repCode rc rn rs = 5) := by rw [Hid, unhide HY, hx]; rfl
        clear HY
        go_wp2_with fail
        go_ret
        exact ⟨ret_int (unhide HV).symm, unhide B5⟩
      · have HV : Hid (repCode rc rn rs = 0) := by rw [Hid, unhide HY, hx, if_pos rfl]
        clear HY
        go_wp2_with fail
        go_ret
        exact ⟨ret_int (unhide HV).symm, unhide B5⟩
end Go.Proofs.YtcmekhpphgkglaaDoor
/-
  What impl.noteFault and impl.NotesFault answer.
-/
namespace Go.Proofs.YtcmekhpphgkglaaDoor
open Go.RowKit
set_option linter.unusedVariables false

theorem keepNf12 {W0 w' w1 : World} {b0 b1 b2 b3 b4 b5 b6 b7 b8 b9 b10 b11 o0 o1 o2 o3 o4 o5 o6 o7 o8 o9 o10 o11 : Nat} {v0 v1 v2 v3 v4 v5 v6 v7 v8 v9 v10 v11 : Value} (h0 : b0 < W0.heap.size) (h1 : b1 < W0.heap.size) (h2 : b2 < W0.heap.size) (h3 : b3 < W0.heap.size) (h4 : b4 < W0.heap.size) (h5 : b5 < W0.heap.size) (h6 : b6 < W0.heap.size) (h7 : b7 < W0.heap.size) (h8 : b8 < W0.heap.size) (h9 : b9 < W0.heap.size) (h10 : b10 < W0.heap.size) (h11 : b11 < W0.heap.size) (hS : Below W0.heap.size W0 w' ∧ w'.cell? ⟨b0, o0, none⟩ = some v0 ∧ w'.cell? ⟨b1, o1, none⟩ = some v1 ∧ w'.cell? ⟨b2, o2, none⟩ = some v2 ∧ w'.cell? ⟨b3, o3, none⟩ = some v3 ∧ w'.cell? ⟨b4, o4, none⟩ = some v4 ∧ w'.cell? ⟨b5, o5, none⟩ = some v5 ∧ w'.cell? ⟨b6, o6, none⟩ = some v6 ∧ w'.cell? ⟨b7, o7, none⟩ = some v7 ∧ w'.cell? ⟨b8, o8, none⟩ = some v8 ∧ w'.cell? ⟨b9, o9, none⟩ = some v9 ∧ w'.cell? ⟨b10, o10, none⟩ = some v10 ∧ w'.cell? ⟨b11, o11, none⟩ = some v11) (hb : Below w'.heap.size w' w1) : Below W0.heap.size W0 w1 ∧ w1.cell? ⟨b0, o0, none⟩ = some v0 ∧ w1.cell? ⟨b1, o1, none⟩ = some v1 ∧ w1.cell? ⟨b2, o2, none⟩ = some v2 ∧ w1.cell? ⟨b3, o3, none⟩ = some v3 ∧ w1.cell? ⟨b4, o4, none⟩ = some v4 ∧ w1.cell? ⟨b5, o5, none⟩ = some v5 ∧ w1.cell? ⟨b6, o6, none⟩ = some v6 ∧ w1.cell? ⟨b7, o7, none⟩ = some v7 ∧ w1.cell? ⟨b8, o8, none⟩ = some v8 ∧ w1.cell? ⟨b9, o9, none⟩ = some v9 ∧ w1.cell? ⟨b10, o10, none⟩ = some v10 ∧ w1.cell? ⟨b11, o11, none⟩ = some v11 := by
  obtain ⟨h, d0, d1, d2, d3, d4, d5, d6, d7, d8, d9, d10, d11⟩ := hS
  have hz := h.size
  exact ⟨h.trans (hb.mono hz), ((bcell hb).1 _ _ (by omega)).trans d0, ((bcell hb).1 _ _ (by omega)).trans d1, ((bcell hb).1 _ _ (by omega)).trans d2, ((bcell hb).1 _ _ (by omega)).trans d3, ((bcell hb).1 _ _ (by omega)).trans d4, ((bcell hb).1 _ _ (by omega)).trans d5, ((bcell hb).1 _ _ (by omega)).trans d6, ((bcell hb).1 _ _ (by omega)).trans d7, ((bcell hb).1 _ _ (by omega)).trans d8, ((bcell hb).1 _ _ (by omega)).trans d9, ((bcell hb).1 _ _ (by omega)).trans d10, ((bcell hb).1 _ _ (by omega)).trans d11⟩
set_option maxRecDepth 20000 in
set_option maxHeartbeats 4000000 in
theorem noteFault_any (k wo e : Int) (ok : Int) (op ot : ByteArray) (od : Bool) (oi : Int) (on : List Int) (rc : Int) (rn : List Int) (rs : List ByteArray) (a1 a2 a3 : Option Addr) (c1 c2 c3 : Nat) (m : Int) (w : World) (h : NteA.side w ⟨⟨k, wo, e, ok, op, ot, od, oi, on, rc, rn, rs⟩, a1, c1, a2, c2, a3, c3⟩) (hm : NteA.small ⟨⟨k, wo, e, ok, op, ot, od, oi, on, rc, rn, rs⟩, a1, c1, a2, c2, a3, c3⟩) (hp : op.size ≤ 1048576) (ht : ot.size ≤ 1048576) (hs : ∀ s ∈ rs, s.size ≤ maxLen) (hmx : MaxAt w m) :
    Calls Tryd.prog 27 #[.agg #[.int .i64 k, .int .i64 wo, .int .i64 e, .int .i64 ok, .string op, .string ot, .bool od, .int .i64 oi, .slice a1 on.length c1, .int .i64 rc, .slice a2 rn.length c2, .slice a3 rs.length c3]] w fun r w' => r = .returned (.int .i64 (ntCode k wo e ok op ot od oi on rc rn rs)) ∧ Below w.heap.size w w' := by
  obtain ⟨W, hW, hWz, HB0, HX0⟩ := boxes1 w [.int .i64 k, .int .i64 wo, .int .i64 e, .int .i64 ok, .string op, .string ot, .bool od, .int .i64 oi, .slice a1 on.length c1, .int .i64 rc, .slice a2 rn.length c2, .slice a3 rs.length c3] 64
  have H := hide (h.below (unhide HB0))
  have HMX := hide (hmx.below (unhide HB0))
  have HM := hide hm
  have HS := hide hs
  clear h hmx hm hs
  have q0 := (unhide HX0).cell 0
  have q1 := (unhide HX0).cell 1
  have q2 := (unhide HX0).cell 2
  have q3 := (unhide HX0).cell 3
  have q4 := (unhide HX0).cell 4
  have q5 := (unhide HX0).cell 5
  have q6 := (unhide HX0).cell 6
  have q7 := (unhide HX0).cell 7
  have q8 := (unhide HX0).cell 8
  have q9 := (unhide HX0).cell 9
  have q10 := (unhide HX0).cell 10
  have q11 := (unhide HX0).cell 11
  simp only [List.getElem?_cons_zero, List.getElem?_cons_succ] at q0 q1 q2 q3 q4 q5 q6 q7 q8 q9 q10 q11
  generalize hbe : w.heap.size = b at *
  have HBE := hide hbe
  clear hbe
  have hbW : b < W.heap.size := by omega
  have hD : (fun w' => Below W.heap.size W w' ∧ w'.cell? ⟨b, 0, none⟩ = some (.int .i64 k) ∧ w'.cell? ⟨b, 1, none⟩ = some (.int .i64 wo) ∧ w'.cell? ⟨b, 2, none⟩ = some (.int .i64 e) ∧ w'.cell? ⟨b, 3, none⟩ = some (.int .i64 ok) ∧ w'.cell? ⟨b, 4, none⟩ = some (.string op) ∧ w'.cell? ⟨b, 5, none⟩ = some (.string ot) ∧ w'.cell? ⟨b, 6, none⟩ = some (.bool od) ∧ w'.cell? ⟨b, 7, none⟩ = some (.int .i64 oi) ∧ w'.cell? ⟨b, 8, none⟩ = some (.slice a1 on.length c1) ∧ w'.cell? ⟨b, 9, none⟩ = some (.int .i64 rc) ∧ w'.cell? ⟨b, 10, none⟩ = some (.slice a2 rn.length c2) ∧ w'.cell? ⟨b, 11, none⟩ = some (.slice a3 rs.length c3)) W.drew := ⟨(Below.refl _ _).drew, q0, q1, q2, q3, q4, q5, q6, q7, q8, q9, q10, q11⟩
  have HD := hide hD
  clear hD q0 q1 q2 q3 q4 q5 q6 q7 q8 q9 q10 q11
  cases hin : inB k 1 4
  · have HV : Hid (ntCode k wo e ok op ot od oi on rc rn rs = 1) := by rw [Hid, ntCode, ntForm, hin]; rfl
    go_enter Tryd.func27, Tryd.ntmps27
    go_upto_region 1 with fail
    rw [unhide HBE, ← hW]
    clear hW
    refine wp_region_held_drew (S := (fun w' => Below W.heap.size W w' ∧ w'.cell? ⟨b, 0, none⟩ = some (.int .i64 k) ∧ w'.cell? ⟨b, 1, none⟩ = some (.int .i64 wo) ∧ w'.cell? ⟨b, 2, none⟩ = some (.int .i64 e) ∧ w'.cell? ⟨b, 3, none⟩ = some (.int .i64 ok) ∧ w'.cell? ⟨b, 4, none⟩ = some (.string op) ∧ w'.cell? ⟨b, 5, none⟩ = some (.string ot) ∧ w'.cell? ⟨b, 6, none⟩ = some (.bool od) ∧ w'.cell? ⟨b, 7, none⟩ = some (.int .i64 oi) ∧ w'.cell? ⟨b, 8, none⟩ = some (.slice a1 on.length c1) ∧ w'.cell? ⟨b, 9, none⟩ = some (.int .i64 rc) ∧ w'.cell? ⟨b, 10, none⟩ = some (.slice a2 rn.length c2) ∧ w'.cell? ⟨b, 11, none⟩ = some (.slice a3 rs.length c3))) (by kernel_rfl) (unhide HD) (fun hHeld => ?_)
    refine wpAnyH_take (i := 0) (oi := { dst := some 4, op := Op.fieldAddr 64 (Operand.tmp 1) 0, type := 0, pos := "l09_audit.go:44", after := #[], guard := none }) (v := .pointer (some ⟨b, 0, none⟩)) rfl (by kernel_rfl) (by kernel_rfl) (by kernel_rfl) (fun _ _ _ h => h) (Or.inl ⟨by rfl, ?_⟩) (by assumption) ?_
    · (intro w hSw; (try dsimp only at hSw); go_simp)
    try simp only [Act.put, List.setIfInBounds_toArray, List.set_cons_zero, List.set_cons_succ]
    refine wpAnyH_take (i := 1) (oi := { dst := some 5, op := Op.load 2 (Operand.tmp 4), type := 2, pos := "l09_audit.go:44", after := #[{ on := 0, ground := Ground.data }], guard := none }) (v := .int .i64 k) rfl (by kernel_rfl) (by kernel_rfl) (by kernel_rfl) (fun _ _ _ h => h) (Or.inl ⟨by rfl, ?_⟩) (by assumption) ?_
    · (intro w hSw; (try dsimp only at hSw); go_simp)
    try simp only [Act.put, List.setIfInBounds_toArray, List.set_cons_zero, List.set_cons_succ]
    refine wpAnyH_ready (rs := [2]) (by kernel_rfl) (by simp) ?_
    refine AllReadyH.cons (o := { dst := some 6, op := Op.call { callee := Callee.value (Operand.func 35), args := #[Operand.tmp 5, Operand.const (Value.int IntKind.i64 1), Operand.const (Value.int IntKind.i64 4)], argTypes := #[2, 2, 2] }, type := 4, pos := "l09_audit.go:44", after := #[{ on := 1, ground := Ground.data }], guard := none }) rfl (fun K hK => ?_) AllReadyH.nil
    go_simp
    refine (isWithinB_any _ _ _ _).mono ?_
    rintro r v1 ⟨rfl, hb5⟩
    rw [hin]
    refine hK.out _ _ (keepNf12 hbW hbW hbW hbW hbW hbW hbW hbW hbW hbW hbW hbW hHeld hb5) (fun hHeld1 => ?_)
    clear hb5
    clear hHeld
    clear hK K
    try simp only [Act.put, List.setIfInBounds_toArray, List.set_cons_zero, List.set_cons_succ]
    refine wpAnyH_take (i := 3) (oi := { dst := some 7, op := Op.unOp UnOp.not 4 (Operand.tmp 6), type := 4, pos := "l09_audit.go:44", after := #[{ on := 2, ground := Ground.data }], guard := none }) (v := .bool true) rfl (by kernel_rfl) (by kernel_rfl) (by kernel_rfl) (fun _ _ _ h => h) (Or.inl ⟨by rfl, ?_⟩) (by assumption) ?_
    · (intro w hSw; (try dsimp only at hSw); go_simp)
    try simp only [Act.put, List.setIfInBounds_toArray, List.set_cons_zero, List.set_cons_succ]
    refine wpAnyH_take (i := 4) (oi := { dst := some 8, op := Op.move (Operand.tmp 7), type := 4, pos := "l09_audit.go:44", after := #[{ on := 3, ground := Ground.data }, { on := 2, ground := Ground.chain }], guard := none }) (v := .bool true) rfl (by kernel_rfl) (by kernel_rfl) (by kernel_rfl) (fun _ _ _ h => h) (Or.inl ⟨by rfl, ?_⟩) (by assumption) ?_
    · (intro w hSw; (try dsimp only at hSw); go_simp)
    try simp only [Act.put, List.setIfInBounds_toArray, List.set_cons_zero, List.set_cons_succ]
    refine wpAnyH_take (i := 5) (oi := { dst := some 9, op := Op.load 64 (Operand.tmp 1), type := 64, pos := "l09_audit.go:44", after := #[{ on := 4, ground := Ground.guard }], guard := some (4, false) }) (v := undef) rfl (by kernel_rfl) (by kernel_rfl) (by kernel_rfl) (fun _ _ _ h => h) (Or.inr ⟨by rfl, rfl⟩) (by assumption) ?_
    try simp only [Act.put, List.setIfInBounds_toArray, List.set_cons_zero, List.set_cons_succ]
    refine wpAnyH_take (i := 6) (oi := { dst := some 10, op := Op.load 64 (Operand.tmp 1), type := 64, pos := "l09_audit.go:44", after := #[{ on := 4, ground := Ground.guard }], guard := some (4, false) }) (v := undef) rfl (by kernel_rfl) (by kernel_rfl) (by kernel_rfl) (fun _ _ _ h => h) (Or.inr ⟨by rfl, rfl⟩) (by assumption) ?_
    try simp only [Act.put, List.setIfInBounds_toArray, List.set_cons_zero, List.set_cons_succ]
    refine wpAnyH_ready (rs := [7]) (by kernel_rfl) (by simp) ?_
    refine AllReadyH.cons (o := { dst := some 11, op := Op.call { callee := Callee.value (Operand.func 49), args := #[Operand.tmp 10], argTypes := #[64] }, type := 64, pos := "l09_audit.go:44", after := #[{ on := 6, ground := Ground.data }, { on := 4, ground := Ground.chain }, { on := 4, ground := Ground.guard }], guard := some (4, false) }) rfl (fun K hK => ?_) AllReadyH.nil
    rw [if_neg (by first | exact Bool.false_ne_true | simp | decide)]
    refine hK.out _ _ (by assumption) (fun hHeld2 => ?_)
    clear hK K
    try simp only [Act.put, List.setIfInBounds_toArray, List.set_cons_zero, List.set_cons_succ]
    refine wpAnyH_ready (rs := [8]) (by kernel_rfl) (by simp) ?_
    refine AllReadyH.cons (o := { dst := some 12, op := Op.call { callee := Callee.value (Operand.func 48), args := #[Operand.tmp 9, Operand.tmp 11], argTypes := #[64, 64] }, type := 4, pos := "l09_audit.go:44", after := #[{ on := 5, ground := Ground.data }, { on := 7, ground := Ground.data }, { on := 7, ground := Ground.chain }, { on := 4, ground := Ground.guard }], guard := some (4, false) }) rfl (fun K hK => ?_) AllReadyH.nil
    rw [if_neg (by first | exact Bool.false_ne_true | simp | decide)]
    refine hK.out _ _ (by assumption) (fun hHeld3 => ?_)
    clear hK K
    try simp only [Act.put, List.setIfInBounds_toArray, List.set_cons_zero, List.set_cons_succ]
    refine wpAnyH_take (i := 9) (oi := { dst := some 13, op := Op.unOp UnOp.not 4 (Operand.tmp 12), type := 4, pos := "l09_audit.go:44", after := #[{ on := 8, ground := Ground.data }, { on := 4, ground := Ground.guard }], guard := some (4, false) }) (v := undef) rfl (by kernel_rfl) (by kernel_rfl) (by kernel_rfl) (fun _ _ _ h => h) (Or.inr ⟨by rfl, rfl⟩) (by assumption) ?_
    try simp only [Act.put, List.setIfInBounds_toArray, List.set_cons_zero, List.set_cons_succ]
    refine wpAnyH_take (i := 10) (oi := { dst := some 14, op := Op.pick (Operand.tmp 8) (Operand.const (Value.bool true)) (Operand.tmp 13), type := 4, pos := "l09_audit.go:44", after := #[{ on := 4, ground := Ground.data }, { on := 9, ground := Ground.data }], guard := none }) (v := .bool true) rfl (by kernel_rfl) (by kernel_rfl) (by kernel_rfl) (fun _ _ _ h => h) (Or.inl ⟨by rfl, ?_⟩) (by assumption) ?_
    · (intro w hSw; (try dsimp only at hSw); go_simp)
    try simp only [Act.put, List.setIfInBounds_toArray, List.set_cons_zero, List.set_cons_succ]
    refine wpAnyH_done (by kernel_rfl) ?_ _
    go_wp2_with fail
    go_ret
    exact ⟨ret_int (unhide HV).symm, below_step (unhide HB0) hHeld3.1 (by omega)⟩
  have FI := hide (need_form k wo e ok op ot od oi on rc rn rs hin)
  cases hf : ntForm k wo ok op ot od oi on rc rn rs
  · have HV : Hid (ntCode k wo e ok op ot od oi on rc rn rs = 1) := by rw [Hid, ntCode, hf]; rfl
    go_enter Tryd.func27, Tryd.ntmps27
    go_upto_region 1 with fail
    rw [unhide HBE, ← hW]
    clear hW
    go_region_held3 (fun w' => Below W.heap.size W w' ∧ w'.cell? ⟨b, 0, none⟩ = some (.int .i64 k) ∧ w'.cell? ⟨b, 1, none⟩ = some (.int .i64 wo) ∧ w'.cell? ⟨b, 2, none⟩ = some (.int .i64 e) ∧ w'.cell? ⟨b, 3, none⟩ = some (.int .i64 ok) ∧ w'.cell? ⟨b, 4, none⟩ = some (.string op) ∧ w'.cell? ⟨b, 5, none⟩ = some (.string ot) ∧ w'.cell? ⟨b, 6, none⟩ = some (.bool od) ∧ w'.cell? ⟨b, 7, none⟩ = some (.int .i64 oi) ∧ w'.cell? ⟨b, 8, none⟩ = some (.slice a1 on.length c1) ∧ w'.cell? ⟨b, 9, none⟩ = some (.int .i64 rc) ∧ w'.cell? ⟨b, 10, none⟩ = some (.slice a2 rn.length c2) ∧ w'.cell? ⟨b, 11, none⟩ = some (.slice a3 rs.length c3)) (first | exact unhide HD | assumption | exact keepNf12 hbW hbW hbW hbW hbW hbW hbW hbW hbW hbW hbW hbW (by assumption) (by assumption))
      (first
        | (go_at_call 35; refine (isWithin_any _ _ _ _).mono ?_; rintro r w5 ⟨rfl, rfl⟩; rw [hin])
        | (go_at_call 49; refine (neededOfNote_any ⟨⟨k, wo, e, ok, op, ot, od, oi, on, rc, rn, rs⟩, a1, c1, a2, c2, a3, c3⟩ _ ((unhide H).below (And.left (by assumption))) hin).mono ?_; rintro r w5 ⟨⟨⟨y, d1, e1, d2, e2, d3, e3⟩, rfl, hyb, hys⟩, hb5⟩; simp only at hyb; subst hyb; have YS := hide hys; clear hys)
        | (go_at_call 48; refine (sameNote_any ⟨⟨k, wo, e, ok, op, ot, od, oi, on, rc, rn, rs⟩, a1, c1, a2, c2, a3, c3⟩ _ _ ((unhide H).below (And.left (by assumption))) (by first | exact unhide YS | exact (unhide YS).below (by assumption)) (unhide HM)).mono ?_; rintro r w5 ⟨rfl, hb5⟩; rw [unhide FI, hf]))
    rename_i hSF
    obtain ⟨s0, c0, c1_, c2_, c3_, c4, c5, c6, c7, c8, c9, c10, c11⟩ := hSF
    have S0 := hide s0
    have B0 := hide (below_step (unhide HB0) s0 (by omega))
    have zb := s0.size
    have zbb := Nat.lt_of_lt_of_le hbW zb
    clear s0 HD
    go_wp2_with fail
    go_ret
    exact ⟨ret_int (unhide HV).symm, unhide B0⟩
  have HC : Hid (ntCode k wo e ok op ot od oi on rc rn rs = (if inB wo 0 3 = true then (if inB e 0 9999 = true then or0 (opPart k ok op ot od oi on) (repCode rc rn rs) else 3) else 3)) := by rw [Hid, ntCode, if_pos hf]
  go_enter Tryd.func27, Tryd.ntmps27
  go_upto_region 1 with fail
  rw [unhide HBE, ← hW]
  clear hW
  go_region_held3 (fun w' => Below W.heap.size W w' ∧ w'.cell? ⟨b, 0, none⟩ = some (.int .i64 k) ∧ w'.cell? ⟨b, 1, none⟩ = some (.int .i64 wo) ∧ w'.cell? ⟨b, 2, none⟩ = some (.int .i64 e) ∧ w'.cell? ⟨b, 3, none⟩ = some (.int .i64 ok) ∧ w'.cell? ⟨b, 4, none⟩ = some (.string op) ∧ w'.cell? ⟨b, 5, none⟩ = some (.string ot) ∧ w'.cell? ⟨b, 6, none⟩ = some (.bool od) ∧ w'.cell? ⟨b, 7, none⟩ = some (.int .i64 oi) ∧ w'.cell? ⟨b, 8, none⟩ = some (.slice a1 on.length c1) ∧ w'.cell? ⟨b, 9, none⟩ = some (.int .i64 rc) ∧ w'.cell? ⟨b, 10, none⟩ = some (.slice a2 rn.length c2) ∧ w'.cell? ⟨b, 11, none⟩ = some (.slice a3 rs.length c3)) (first | exact unhide HD | assumption | exact keepNf12 hbW hbW hbW hbW hbW hbW hbW hbW hbW hbW hbW hbW (by assumption) (by assumption))
    (first
      | (go_at_call 35; refine (isWithin_any _ _ _ _).mono ?_; rintro r w5 ⟨rfl, rfl⟩; rw [hin])
      | (go_at_call 49; refine (neededOfNote_any ⟨⟨k, wo, e, ok, op, ot, od, oi, on, rc, rn, rs⟩, a1, c1, a2, c2, a3, c3⟩ _ ((unhide H).below (And.left (by assumption))) hin).mono ?_; rintro r w5 ⟨⟨⟨y, d1, e1, d2, e2, d3, e3⟩, rfl, hyb, hys⟩, hb5⟩; simp only at hyb; subst hyb; have YS := hide hys; clear hys)
      | (go_at_call 48; refine (sameNote_any ⟨⟨k, wo, e, ok, op, ot, od, oi, on, rc, rn, rs⟩, a1, c1, a2, c2, a3, c3⟩ _ _ ((unhide H).below (And.left (by assumption))) (by first | exact unhide YS | exact (unhide YS).below (by assumption)) (unhide HM)).mono ?_; rintro r w5 ⟨rfl, hb5⟩; rw [unhide FI, hf]))
  rename_i hSF
  obtain ⟨s0, c0, c1_, c2_, c3_, c4, c5, c6, c7, c8, c9, c10, c11⟩ := hSF
  have S0 := hide s0
  have B0 := hide (below_step (unhide HB0) s0 (by omega))
  have zb := s0.size
  have zbb := Nat.lt_of_lt_of_le hbW zb
  clear s0 HD
  clear hf FI
  cases hwo : inB wo 0 3
  · have HV : Hid (ntCode k wo e ok op ot od oi on rc rn rs = 3) := by rw [Hid, unhide HC, hwo]; rfl
    clear HC
    go_wp2_with (go_at_call 35; refine (isWithin_any _ _ _ _).mono ?_; rintro r w1 ⟨rfl, rfl⟩; first | rw [hwo])
    go_ret
    exact ⟨ret_int (unhide HV).symm, unhide B0⟩
  cases he : inB e 0 9999
  · have HV : Hid (ntCode k wo e ok op ot od oi on rc rn rs = 3) := by rw [Hid, unhide HC, hwo, he]; rfl
    clear HC
    go_wp2_with (go_at_call 35; refine (isWithin_any _ _ _ _).mono ?_; rintro r w1 ⟨rfl, rfl⟩; first | rw [hwo] | rw [he])
    go_ret
    exact ⟨ret_int (unhide HV).symm, unhide B0⟩
  have HY : Hid (ntCode k wo e ok op ot od oi on rc rn rs = or0 (opPart k ok op ot od oi on) (repCode rc rn rs)) := by rw [Hid, unhide HC, hwo, he, if_pos rfl, if_pos rfl]
  clear HC
  go_upto_region 5 with (go_at_call 35; refine (isWithin_any _ _ _ _).mono ?_; rintro r w1 ⟨rfl, rfl⟩; first | rw [hwo] | rw [he])
  clear hwo he
  by_cases hk1 : k = 1
  · generalize hcd : opCode ok op ot od oi on = cd at *
    have HZ : Hid (ntCode k wo e ok op ot od oi on rc rn rs = or0 cd (repCode rc rn rs)) := by rw [Hid, unhide HY, opPart, if_pos hk1, hcd]
    have HCD := hide hcd
    have hkb : (k == 1) = true := by simpa using hk1
    clear HY hcd hk1
    go_wp2_with fail
    refine (implOpFault_any ok op ot od oi on a1 c1 m _ ((unhide H).below (unhide S0)).1 ((unhide HMX).below (unhide S0)) (unhide HM).1 hp ht).mono ?_
    rintro r w9 ⟨rfl, hb9⟩
    rw [unhide HCD]
    have B9 := hide (below_step (unhide B0) hb9 (by omega))
    have S9 := hide (below_step (unhide S0) hb9 zb)
    have z9 := ((bcell hb9).1 _ _ zbb).trans c9
    have z10 := ((bcell hb9).1 _ _ zbb).trans c10
    have z11 := ((bcell hb9).1 _ _ zbb).trans c11
    have z99 := hb9.size
    clear hb9 B0 S0 c0 c1_ c2_ c3_ c4 c5 c6 c7 c8 c9 c10 c11
    by_cases hc0 : cd = 0
    · have HV : Hid (ntCode k wo e ok op ot od oi on rc rn rs = repCode rc rn rs) := by rw [Hid, unhide HZ, or0_right hc0]
      subst hc0
      clear HZ
      go_wp2_with fail
      refine (replyFault_any rc rn rs a2 a3 c2 c3 _ ((unhide H).below (unhide S9)).2.1 ((unhide H).below (unhide S9)).2.2 (unhide HM).2.1 (unhide HM).2.2 (unhide HS)).mono ?_
      rintro r w10 ⟨rfl, hb10⟩
      have B10 := hide (below_step (unhide B9) hb10 (by omega))
      clear hb10 B9 S9 H HM z9 z10 z11
      go_wp2_with fail
      go_ret
      exact ⟨ret_int (unhide HV).symm, unhide B10⟩
    · have HV : Hid (ntCode k wo e ok op ot od oi on rc rn rs = cd) := by rw [Hid, unhide HZ, or0_left hc0]
      have hcb := neq_true hc0
      clear HZ hc0
      go_wp2_with fail
      go_ret
      exact ⟨ret_int (unhide HV).symm, unhide B9⟩
  by_cases hk2 : k = 2
  · generalize hcd : opCode ok op ot od oi on = cd at *
    have HZ : Hid (ntCode k wo e ok op ot od oi on rc rn rs = or0 cd (repCode rc rn rs)) := by rw [Hid, unhide HY, opPart, if_neg hk1, if_pos hk2, hcd]
    have HCD := hide hcd
    have hkb : (k == 1) = false := by simpa using hk1
    have hkb2 : (k == 2) = true := by simpa using hk2
    clear HY hcd hk1 hk2
    go_wp2_with fail
    refine (implOpFault_any ok op ot od oi on a1 c1 m _ ((unhide H).below (unhide S0)).1 ((unhide HMX).below (unhide S0)) (unhide HM).1 hp ht).mono ?_
    rintro r w9 ⟨rfl, hb9⟩
    rw [unhide HCD]
    have B9 := hide (below_step (unhide B0) hb9 (by omega))
    have S9 := hide (below_step (unhide S0) hb9 zb)
    have z9 := ((bcell hb9).1 _ _ zbb).trans c9
    have z10 := ((bcell hb9).1 _ _ zbb).trans c10
    have z11 := ((bcell hb9).1 _ _ zbb).trans c11
    have z99 := hb9.size
    clear hb9 B0 S0 c0 c1_ c2_ c3_ c4 c5 c6 c7 c8 c9 c10 c11
    by_cases hc0 : cd = 0
    · have HV : Hid (ntCode k wo e ok op ot od oi on rc rn rs = repCode rc rn rs) := by rw [Hid, unhide HZ, or0_right hc0]
      subst hc0
      clear HZ
      go_wp2_with fail
      refine (replyFault_any rc rn rs a2 a3 c2 c3 _ ((unhide H).below (unhide S9)).2.1 ((unhide H).below (unhide S9)).2.2 (unhide HM).2.1 (unhide HM).2.2 (unhide HS)).mono ?_
      rintro r w10 ⟨rfl, hb10⟩
      have B10 := hide (below_step (unhide B9) hb10 (by omega))
      clear hb10 B9 S9 H HM z9 z10 z11
      go_wp2_with fail
      go_ret
      exact ⟨ret_int (unhide HV).symm, unhide B10⟩
    · have HV : Hid (ntCode k wo e ok op ot od oi on rc rn rs = cd) := by rw [Hid, unhide HZ, or0_left hc0]
      have hcb := neq_true hc0
      clear HZ hc0
      go_wp2_with fail
      go_ret
      exact ⟨ret_int (unhide HV).symm, unhide B9⟩
  have HV : Hid (ntCode k wo e ok op ot od oi on rc rn rs = repCode rc rn rs) := by rw [Hid, unhide HY, opPart, if_neg hk1, if_neg hk2]; rfl
  have hkb : (k == 1) = false := by simpa using hk1
  have hkb2 : (k == 2) = false := by simpa using hk2
  clear HY hk1 hk2
  go_wp2_with fail
  refine (replyFault_any rc rn rs a2 a3 c2 c3 _ ((unhide H).below (unhide S0)).2.1 ((unhide H).below (unhide S0)).2.2 (unhide HM).2.1 (unhide HM).2.2 (unhide HS)).mono ?_
  rintro r w9 ⟨rfl, hb9⟩
  have B9 := hide (below_step (unhide B0) hb9 (by omega))
  clear hb9 B0 S0 H HM c0 c1_ c2_ c3_ c4 c5 c6 c7 c8 c9 c10 c11
  go_wp2_with fail
  go_ret
  exact ⟨ret_int (unhide HV).symm, unhide B9⟩
set_option maxRecDepth 20000 in
set_option maxHeartbeats 4000000 in
theorem implNotesFault_any (a : Option Addr) (c : Nat) (L : List NteA) (m : Int) (w : World) (h : NtesAt w a L) (hn : L.length ≤ 1048576) (hs : ∀ x ∈ L, x.sized) (hmx : MaxAt w m) :
    Calls Tryd.prog 13 #[.slice a L.length c] w fun r w' => r = .returned (.int .i64 (notesCode (L.map NteA.b))) ∧ Below w.heap.size w w' := by
  have HF := hide h
  have HS := hide hs
  have HMX := hide hmx
  clear h hs hmx
  by_cases hl : (600 : Int) < L.length
  · have HV : Hid (notesCode (L.map NteA.b) = 2) := by rw [Hid, notesCode, if_pos (by simpa using hl)]
    go_enter Tryd.func13, Tryd.ntmps13
    go_wp2_with fail
    go_ret
    exact ⟨ret_int (unhide HV).symm, Below.refl _ _⟩
  have HC : Hid (notesCode (L.map NteA.b) = codesOf L) := by rw [Hid, notesCode, if_neg (by simpa using hl)]; rfl
  go_enter Tryd.func13, Tryd.ntmps13
  go_wp2_with fail
  go_loopw [11] (fun i wr => ∃ k : Nat, k ≤ L.length ∧ i = .int .i64 k ∧ Hid (Below w.heap.size w wr) ∧ Hid (codesOf L = codesOf (L.drop k))) (fun i _ => L.length - (intOf i).toNat)
  case atStart => exact ⟨0, Nat.zero_le _, rfl, Below.refl _ _, rfl⟩
  case round =>
    obtain ⟨k, hk, rfl, HB, HX⟩ := hrel
    by_cases hlt : k < L.length
    · obtain ⟨b1, o1, rfl, hb1, hc1⟩ := (unhide HF).at hlt
      have hbw := unhide HB
      have hx := hc1 k hlt
      have hsz := unhide HS _ (List.getElem_mem hlt)
      have hst := codesOf_drop hlt
      generalize L[k] = y at *
      obtain ⟨⟨k', wo, e, ok, op, ot, od, oi, on, rc, rn, rs⟩, a1, c1, a2, c2, a3, c3⟩ := y
      obtain ⟨⟨s1, s4, s5⟩, s6⟩ := hsz
      have x0 : wr.cell? ⟨b1, o1 + k * 12, none⟩ = some (.int .i64 k') := (hbw.cell (p := ⟨b1, o1 + k * 12, none⟩) hb1).trans (hx.1 0 _ rfl)
      have x1 : wr.cell? ⟨b1, o1 + k * 12 + 1, none⟩ = some (.int .i64 wo) := (hbw.cell (p := ⟨b1, o1 + k * 12 + 1, none⟩) hb1).trans (hx.1 1 _ rfl)
      have x2 : wr.cell? ⟨b1, o1 + k * 12 + 2, none⟩ = some (.int .i64 e) := (hbw.cell (p := ⟨b1, o1 + k * 12 + 2, none⟩) hb1).trans (hx.1 2 _ rfl)
      have x3 : wr.cell? ⟨b1, o1 + k * 12 + 3, none⟩ = some (.int .i64 ok) := (hbw.cell (p := ⟨b1, o1 + k * 12 + 3, none⟩) hb1).trans (hx.1 3 _ rfl)
      have x4 : wr.cell? ⟨b1, o1 + k * 12 + 4, none⟩ = some (.string op) := (hbw.cell (p := ⟨b1, o1 + k * 12 + 4, none⟩) hb1).trans (hx.1 4 _ rfl)
      have x5 : wr.cell? ⟨b1, o1 + k * 12 + 5, none⟩ = some (.string ot) := (hbw.cell (p := ⟨b1, o1 + k * 12 + 5, none⟩) hb1).trans (hx.1 5 _ rfl)
      have x6 : wr.cell? ⟨b1, o1 + k * 12 + 6, none⟩ = some (.bool od) := (hbw.cell (p := ⟨b1, o1 + k * 12 + 6, none⟩) hb1).trans (hx.1 6 _ rfl)
      have x7 : wr.cell? ⟨b1, o1 + k * 12 + 7, none⟩ = some (.int .i64 oi) := (hbw.cell (p := ⟨b1, o1 + k * 12 + 7, none⟩) hb1).trans (hx.1 7 _ rfl)
      have x8 : wr.cell? ⟨b1, o1 + k * 12 + 8, none⟩ = some (.slice a1 on.length c1) := (hbw.cell (p := ⟨b1, o1 + k * 12 + 8, none⟩) hb1).trans (hx.1 8 _ rfl)
      have x9 : wr.cell? ⟨b1, o1 + k * 12 + 9, none⟩ = some (.int .i64 rc) := (hbw.cell (p := ⟨b1, o1 + k * 12 + 9, none⟩) hb1).trans (hx.1 9 _ rfl)
      have x10 : wr.cell? ⟨b1, o1 + k * 12 + 10, none⟩ = some (.slice a2 rn.length c2) := (hbw.cell (p := ⟨b1, o1 + k * 12 + 10, none⟩) hb1).trans (hx.1 10 _ rfl)
      have x11 : wr.cell? ⟨b1, o1 + k * 12 + 11, none⟩ = some (.slice a3 rs.length c3) := (hbw.cell (p := ⟨b1, o1 + k * 12 + 11, none⟩) hb1).trans (hx.1 11 _ rfl)
      obtain ⟨W, hW, hWz, HB0, HX0⟩ := boxes1 wr [.int .i64 k', .int .i64 wo, .int .i64 e, .int .i64 ok, .string op, .string ot, .bool od, .int .i64 oi, .slice a1 on.length c1, .int .i64 rc, .slice a2 rn.length c2, .slice a3 rs.length c3] 64
      have HN := hide (noteFault_any k' wo e ok op ot od oi on rc rn rs a1 a2 a3 c1 c2 c3 m W ((hx.2.1.below hbw).below (unhide HB0)) s1 s4 s5 s6 (((unhide HMX).below hbw).below (unhide HB0)))
      have HY : Hid (codesOf L = or0 (ntCode k' wo e ok op ot od oi on rc rn rs) (codesOf (L.drop (k + 1)))) := by rw [Hid, unhide HX, hst]; rfl
      have BW := hide (below_step (unhide HB) (unhide HB0) (unhide HB).size)
      have zw := (unhide HB).size
      have q0 := (unhide HX0).cell 0
      have q1 := (unhide HX0).cell 1
      have q2 := (unhide HX0).cell 2
      have q3 := (unhide HX0).cell 3
      have q4 := (unhide HX0).cell 4
      have q5 := (unhide HX0).cell 5
      have q6 := (unhide HX0).cell 6
      have q7 := (unhide HX0).cell 7
      have q8 := (unhide HX0).cell 8
      have q9 := (unhide HX0).cell 9
      have q10 := (unhide HX0).cell 10
      have q11 := (unhide HX0).cell 11
      simp only [List.getElem?_cons_zero, List.getElem?_cons_succ] at q0 q1 q2 q3 q4 q5 q6 q7 q8 q9 q10 q11
      clear hc1 hx hst hbw s1 s4 s5 s6 HX HX0 HB0
      generalize ntCode k' wo e ok op ot od oi on rc rn rs = cd at *
      go_upto_region 6 with fail
      rw [← hW]
      clear hW HB
      go_wp2_with fail
      refine (unhide HN).mono ?_
      rintro r w2 ⟨rfl, hb2⟩
      have B2 := hide (below_step (unhide BW) hb2 (by omega))
      clear hb2 BW HN x0 x1 x2 x3 x4 x5 x6 x7 x8 x9 x10 x11 q0 q1 q2 q3 q4 q5 q6 q7 q8 q9 q10 q11
      by_cases hc0 : cd = 0
      · have HZ : Hid (codesOf L = codesOf (L.drop (k + 1))) := by rw [Hid, unhide HY, or0_right hc0]
        subst hc0
        clear HY
        go_wp2_with fail
        go_roundw
        case rel => exact ⟨k + 1, by omega, by go_num, B2, HZ⟩
        case measure => simp [intOf]; omega
      · have HV : Hid (notesCode (L.map NteA.b) = cd) := by rw [Hid, unhide HC, unhide HY, or0_left hc0]
        have hcb := neq_true hc0
        clear HY hc0 HC
        go_wp2_with fail
        go_ret
        exact ⟨ret_int (unhide HV).symm, unhide B2⟩
    · have HV : Hid (notesCode (L.map NteA.b) = 0) := by rw [Hid, unhide HC, unhide HX, codesOf_end (by omega)]
      clear HX HC
      go_wp2_with fail
      go_ret
      exact ⟨ret_int (unhide HV).symm, unhide HB⟩
end Go.Proofs.YtcmekhpphgkglaaDoor
/-
  What the laws' own helpers on slices of strings answer.
-/
namespace Go.Proofs.YtcmekhpphgkglaaDoor
open Go.RowKit

set_option maxHeartbeats 1000000 in
theorem szStringS_any (a : Option Addr) (c : Nat) (l : List ByteArray) (w : World) (h : StrsAt w a l) (hs : ∀ s ∈ l, s.size ≤ maxLen) (hn : l.length ≤ maxLen) :
    Calls Tryd.prog 62 #[.slice a l.length c, .int .i64 1048576] w fun e w' => (∃ r : Int, e = .returned (.int .i64 r) ∧ (0 ≤ r → l.length ≤ 1048576)) ∧ w' = w := by
  unfold maxLen at hn hs
  by_cases h0 : (1048576 : Int) - l.length < 0
  · go_enter Tryd.func62, Tryd.ntmps62
    go_wp2
    go_ret
    exact ⟨⟨-1, rfl, by omega⟩, rfl⟩
  go_enter Tryd.func62, Tryd.ntmps62
  go_wp2
  go_loop [1, 5] (fun t i => ∃ (k : Nat) (v : Int), k ≤ l.length ∧ i = .int .i64 k ∧ t = .int .i64 v ∧ 0 ≤ v ∧ v ≤ 1048576) (fun _ i => l.length - (intOf i).toNat)
  case atStart => exact ⟨0, _, Nat.zero_le _, rfl, rfl, by omega, by omega⟩
  case round =>
    obtain ⟨k, v, hk, rfl, rfl, v0, v1⟩ := hrel
    by_cases hlt : k < l.length
    · obtain ⟨b, o, rfl, hb, hc⟩ := h.at hlt
      have hck := hc k hlt
      have hsz := hs l[k] (List.getElem_mem hlt)
      clear hc hs h
      generalize l[k] = s at *
      by_cases hv : v - s.size < 0
      · go_wp2
        go_ret
        exact ⟨⟨-1, rfl, by omega⟩, rfl⟩
      · go_wp2
        go_round
        case rel => exact ⟨k + 1, _, by omega, by go_num, rfl, by omega, by omega⟩
        case measure => simp [intOf]; omega
    · go_wp2
      go_ret
      exact ⟨⟨_, rfl, by omega⟩, rfl⟩

theorem infoString : (Tryd.prog.info? 9).map (fun i => (i.zero, i.size, i.bytes)) = some (some (.string ⟨#[]⟩), 1, 16) := by kernel_rfl

set_option maxHeartbeats 1000000 in
theorem toStringS_own (a : Option Addr) (c : Nat) (l : List ByteArray) (w : World) (h : StrsAt w a l) (hn : l.length ≤ 1048576) :
    Calls Tryd.prog 66 #[.slice a l.length c] w fun e w' => e = .returned (.slice (some ⟨w.heap.size, 0, none⟩) l.length l.length) ∧ w'.ownsRow w.heap.size 9 1 (.slice (some ⟨w.heap.size, 0, none⟩) l.length l.length) l.length (l.map Value.string) ∧ Below w.heap.size w w' := by
  obtain ⟨i0, hi, hz0, hz1, hz2⟩ := info_parts infoString
  go_enter Tryd.func66, Tryd.ntmps66
  go_wp2_with (at_make; refine wpList_make_full _ rfl _ _ 54 rfl w.heap.size 9 i0 (.string ⟨#[]⟩) 1 Tryd.underlying54 hi hz0 hz1 .i64 .i64 _ _ l.length rfl rfl rfl rfl (by rw [hz2]; omega) (by unfold maxLen; omega) (Nat.le_refl _) ?_; intro w1 hown hgrow)
  have hxs : (madeCells (Value.string ⟨#[]⟩).cells (l.length * 1)).toList.length = l.length := by
    have := hown.1
    omega
  generalize (madeCells (Value.string ⟨#[]⟩).cells (l.length * 1)).toList = xs0 at *
  have hbel : Below w.heap.size w w1 := (Below.refl _ _).grown hgrow (Nat.le_refl _) (fun k hk => by cases hk)
  clear hgrow
  go_loopw [4] (fun i wr => ∃ (k : Nat) (xs : List Value), k ≤ l.length ∧ i = .int .i64 k ∧ xs.length = l.length ∧ wr.ownsRow w.heap.size 9 1 (.slice (some ⟨w.heap.size, 0, none⟩) l.length l.length) l.length xs ∧ Below w.heap.size w wr ∧ Hid (∀ j (h : j < l.length), j < k → xs[j]? = some (.string l[j]))) (fun i _ => l.length - (intOf i).toNat)
  case atStart => exact ⟨0, xs0, Nat.zero_le _, rfl, hxs, hown, hbel, fun j _ hj => absurd hj (Nat.not_lt_zero j)⟩
  case round =>
    obtain ⟨k, xs, hk, rfl, hxl, how, hbw, HX⟩ := hrel
    clear hbel hown hxs
    by_cases hlt : k < l.length
    · obtain ⟨b, o, rfl, hb, hc⟩ := h.at hlt
      have hck : wr.cell? ⟨b, o + k, none⟩ = some (.string l[k]) := by
        rw [hbw.cell (p := ⟨b, o + k, none⟩) hb]
        exact hc k hlt
      have hfz := how.frozenAt k
      have hkc := how.cellAt k (by omega)
      rw [List.getElem?_eq_getElem (by omega)] at hkc
      obtain ⟨hst, hgr⟩ := how.stored k (.string l[k])
      have hbw2 := hbw.setCell (p := ⟨w.heap.size, k, none⟩) (Nat.le_refl _) (.string l[k])
      have HS := hide hst
      have HB2 := hide hbw2
      have HC := hide hc
      have HX2 : Hid (∀ j (h : j < l.length), j < k + 1 → (xs.set k (.string l[k]))[j]? = some (.string l[j])) := by
        intro j hj hj1
        rw [List.getElem?_set]
        by_cases e : k = j
        · subst e
          simp [hxl, hlt]
        · rw [if_neg e]
          exact unhide HX j hj (by omega)
      clear hst hgr hbw2 hc h how hbw
      go_wp2
      go_roundw
      case rel => exact ⟨k + 1, xs.set k (.string l[k]), by omega, by go_num, by simpa using hxl, unhide HS, unhide HB2, HX2⟩
      case measure => simp [intOf]; omega
    · have HS := hide how
      have HB := hide hbw
      clear how hbw
      go_wp2
      go_ret
      refine ⟨rfl, ?_, unhide HB⟩
      have hw := unhide HS
      have hxe : xs = l.map Value.string := by
        apply List.ext_getElem?
        intro j
        by_cases hj : j < l.length
        · rw [unhide HX j hj (by omega), List.getElem?_map, List.getElem?_eq_getElem hj]; rfl
        · rw [List.getElem?_eq_none (by omega), List.getElem?_eq_none (by rw [List.length_map]; omega)]
      rw [← hxe]
      exact hw
theorem toStringS_any (a : Option Addr) (c : Nat) (l : List ByteArray) (w : World) (h : StrsAt w a l) (hn : l.length ≤ 1048576) :
    Calls Tryd.prog 66 #[.slice a l.length c] w fun e w' => e = .returned (.slice (some ⟨w.heap.size, 0, none⟩) l.length l.length) ∧ StrsAt w' (some ⟨w.heap.size, 0, none⟩) l ∧ Below w.heap.size w w' :=
  (toStringS_own a c l w h hn).mono fun _ w' ⟨h1, h2, h3⟩ => ⟨h1, by
    by_cases hz : l = []
    · exact .inl hz
    · refine .inr ⟨w.heap.size, 0, rfl, (h2.lt _ rfl).2, fun j hj => ?_⟩
      rw [Nat.zero_add, h2.cellAt j (by omega), List.getElem?_map, List.getElem?_eq_getElem hj]
      rfl, h3⟩

set_option maxHeartbeats 1000000 in
theorem eqStringS_same (a b : Option Addr) (c d : Nat) (l : List ByteArray) (w : World) (h : StrsAt w a l) (h2 : StrsAt w b l) (hn : l.length ≤ 1048576) :
    Calls Tryd.prog 73 #[.slice a l.length c, .slice b l.length d] w fun e w' => e = .returned (.bool true) ∧ Below w.heap.size w w' := by
  have hne := int_neq_self (l.length : Int)
  go_enter Tryd.func73, Tryd.ntmps73
  go_wp2
  go_loopw [5] (fun i wr => ∃ (k n : Nat), k ≤ l.length ∧ i = .int .i64 k ∧ wr = w.drewN n) (fun i _ => l.length - (intOf i).toNat)
  case atStart => exact ⟨0, 0, Nat.zero_le _, rfl, rfl⟩
  case round =>
    obtain ⟨k, n, hk, rfl, rfl⟩ := hrel
    by_cases hlt : k < l.length
    · obtain ⟨b1, o1, rfl, _, hc1⟩ := h.at hlt
      obtain ⟨b2, o2, rfl, _, hc2⟩ := h2.at hlt
      have hk1 := hc1 k hlt
      have hk2 := hc2 k hlt
      have hlt' : (k : Int) < l.length := by omega
      clear hc1 hc2 h h2
      go_wp2
      go_quiet (fail)
      go_wp2
      exact ⟨⟨k + 1, _, by omega, by go_num, rfl⟩, by simp [intOf]; omega⟩
    · go_wp2
      go_ret
      exact ⟨rfl, below_drewN (Below.refl _ _) _⟩
end Go.Proofs.YtcmekhpphgkglaaDoor
/-
  What the laws' own copies of notes answer.
-/
namespace Go.Proofs.YtcmekhpphgkglaaDoor
open Go.RowKit
set_option linter.unusedVariables false

theorem strs_box {w : World} {g : Nat} {l : List ByteArray} {t : TypeId} (h : Box w g (l.map Value.string) t) : StrsAt w (some ⟨g, 0, none⟩) l :=
  .inr ⟨g, 0, rfl, h.lt, fun i hi => by rw [Nat.zero_add, h.cell, List.getElem?_map, List.getElem?_eq_getElem hi]; rfl⟩
theorem box_rowR {w : World} {base g n : Nat} {xs : List Value} {e : TypeId} {s : Nat} (h : w.ownsRow base e s (.slice (some ⟨g, 0, none⟩) n n) n xs) : Box w g xs e ∧ base ≤ g := by
  rcases h.2 with ⟨h1, _⟩ | ⟨g', cap, cur, h1, h2, h3, h4, h5, h6, h7⟩
  · cases h1
  · cases h1
    have hc : cur = xs.toArray := by
      rw [List.take_of_length_le (by rw [Array.length_toList, h6]; exact Nat.le_refl _)] at h7
      rw [← h7]
    rw [hc] at h3
    exact ⟨h3, h2⟩
theorem toStringS_ex (a : Option Addr) (c : Nat) (l : List ByteArray) (w : World) (h : StrsAt w a l) (hn : l.length ≤ 1048576) :
    Calls Tryd.prog 66 #[.slice a l.length c] w fun e w' => (∃ g, e = .returned (.slice (some ⟨g, 0, none⟩) l.length l.length) ∧ w.heap.size ≤ g ∧ Box w' g (l.map Value.string) 9) ∧ Below w.heap.size w w' :=
  (toStringS_own a c l w h hn).mono fun _ _ ⟨h1, h2, h3⟩ => ⟨⟨_, h1, Nat.le_refl _, (box_rowR h2).1⟩, h3⟩
set_option maxRecDepth 20000 in
set_option maxHeartbeats 2000000 in
theorem toReply_any (rc : Int) (rn : List Int) (rs : List ByteArray) (a2 : Option Addr) (c2 : Nat) (a3 : Option Addr) (c3 : Nat) (w : World) (h : IntsAt w a2 rn) (h3 : StrsAt w a3 rs) (hn : rn.length ≤ 1048576) (hs : rs.length ≤ 1048576) :
    Calls Tryd.prog 47 #[.agg #[.int .i64 rc, .slice a2 rn.length c2, .slice a3 rs.length c3]] w fun r w' => (∃ g2 g3, r = .returned (.agg #[.int .i64 rc, .slice (some ⟨g2, 0, none⟩) rn.length rn.length, .slice (some ⟨g3, 0, none⟩) rs.length rs.length]) ∧ w.heap.size ≤ g2 ∧ w.heap.size ≤ g3 ∧ Box w' g2 (nums rn) 2 ∧ Box w' g3 (rs.map Value.string) 9) ∧ Below w.heap.size w w' := by
  obtain ⟨W, hW, hWz, HB0, HP0, HX0, HY0⟩ := boxes3 w [.int .i64 rc, .slice a2 rn.length c2, .slice a3 rs.length c3] [.int .i64 0, .slice none 0 0, .slice none 0 0] [.int .i64 rc, .slice none 0 0, .slice none 0 0] 56 62 62
  have H := hide (h.below (unhide HB0))
  have H3 := hide h3
  clear h h3
  go_enter Tryd.func47, Tryd.ntmps47
  go_wp2_with fail
  rw [← hW]
  clear hW
  refine (toInt64S_ex a2 c2 rn _ (unhide H) hn).mono ?_
  rintro r w5 ⟨⟨g2, rfl, ho⟩, hb5⟩
  have HP5 := hide ((unhide HP0).below hb5)
  have HX5 := hide ((unhide HX0).below hb5)
  have HY5 := hide ((unhide HY0).below hb5)
  have B5 := hide (below_step (unhide HB0) hb5 (by omega))
  have IN := hide (box_rowR ho).1
  have LN : Hid (w.heap.size + 1 + 1 < g2) := by have := ho.lt g2 rfl; show _ < _; omega
  have z5 : w.heap.size + 1 + 1 < w5.heap.size := by have := hb5.size; omega
  clear hb5 ho HP0 HX0 HY0 HB0 H
  have np1 : w.heap.size ≠ w.heap.size + 1 + 1 := by omega
  have p2 := (unhide HP5).cell 2
  have t1 := (unhide HY5).cell 1
  have f1 := (unhide HY5).frozen 1
  simp only [List.getElem?_cons_zero, List.getElem?_cons_succ] at p2 t1
  go_wp2_with fail
  generalize hU : w5.setCell _ _ = U
  have HXU := hide ((unhide HX5).other' hU (by show w.heap.size + 1 ≠ w.heap.size + 1 + 1; omega))
  have HYU : Hid (Box U (w.heap.size + 1 + 1) [.int .i64 rc, .slice (some ⟨g2, 0, none⟩) rn.length rn.length, .slice none 0 0] 62) := (unhide HY5).set' hU
  have BU := hide (below_set' (unhide B5) hU (by show w.heap.size ≤ w.heap.size + 1 + 1; omega))
  have OU : Hid (Out (fun q => q = w.heap.size + 1 + 1) w5 U) := out_set' (Out.refl _ w5) hU (.inl rfl)
  have INU := hide ((unhide IN).out (unhide OU) (by have := unhide LN; omega))
  have zU : w.heap.size + 1 + 1 < U.heap.size := by have := size_set' hU; omega
  clear hU p2 t1 f1 HP5 HX5 HY5 B5 OU IN z5
  refine (toStringS_ex a3 c3 rs _ ((unhide H3).below (unhide BU)) hs).mono ?_
  rintro r w6 ⟨⟨g3, rfl, hg3, hs3⟩, hb6⟩
  have HX6 := hide ((unhide HXU).below hb6)
  have HY6 := hide ((unhide HYU).below hb6)
  have B6 := hide (below_step (unhide BU) hb6 (by omega))
  have IN6 := hide ((unhide INU).below hb6)
  have SN6 := hide hs3
  have LS : Hid (w.heap.size + 1 + 1 < g3) := by show _ < _; omega
  have z6 : w.heap.size + 1 + 1 < w6.heap.size := by have := hb6.size; omega
  clear hb6 hs3 hg3 HXU HYU BU INU H3
  have t2 := (unhide HY6).cell 2
  have f2 := (unhide HY6).frozen 2
  simp only [List.getElem?_cons_zero, List.getElem?_cons_succ] at t2
  have HYV : Hid (Box (w6.setCell ⟨w.heap.size + 1 + 1, 2, none⟩ (.slice (some ⟨g3, 0, none⟩) rs.length rs.length)) (w.heap.size + 1 + 1) [.int .i64 rc, .slice (some ⟨g2, 0, none⟩) rn.length rn.length, .slice (some ⟨g3, 0, none⟩) rs.length rs.length] 62) := (unhide HY6).set 2 _
  have HXV := hide ((unhide HX6).set_other (p := ⟨w.heap.size + 1 + 1, 2, none⟩) (by show w.heap.size + 1 ≠ w.heap.size + 1 + 1; omega) (.slice (some ⟨g3, 0, none⟩) rs.length rs.length))
  have BV := hide ((unhide B6).setCell (p := ⟨w.heap.size + 1 + 1, 2, none⟩) (by show w.heap.size ≤ w.heap.size + 1 + 1; omega) (.slice (some ⟨g3, 0, none⟩) rs.length rs.length))
  have OV : Hid (Out (fun q => q = w.heap.size + 1 + 1) w6 (w6.setCell ⟨w.heap.size + 1 + 1, 2, none⟩ (.slice (some ⟨g3, 0, none⟩) rs.length rs.length))) := (Out.refl (fun q => q = w.heap.size + 1 + 1) w6).setCell (p := ⟨w.heap.size + 1 + 1, 2, none⟩) (.inl rfl) _
  have INV := hide ((unhide IN6).out (unhide OV) (by have := unhide LN; omega))
  have SNV := hide ((unhide SN6).out (unhide OV) (by have := unhide LS; omega))
  go_wp2_with (first
    | (refine wpList_load_part rfl 62 (.tmp 3) rfl (w.heap.size + 1 + 1) 0 rfl 62 _ [.int .i64 rc, .slice (some ⟨g2, 0, none⟩) rn.length rn.length, .slice (some ⟨g3, 0, none⟩) rs.length rs.length] (unhide HYV) rfl _ Tryd.underlying62 rfl (by kernel_rfl) ?_)
    | (refine wpList_store_part rfl 62 (.tmp 2) (.tmp 15) rfl (w.heap.size + 1) 0 _ rfl rfl 62 _ (unhide HXV) (by kernel_rfl) (by simp) (by simp [Value.oneCell']) ?_; intro wZ XZ OZ))
  have XR : Hid (Box wZ (w.heap.size + 1) [.int .i64 rc, .slice (some ⟨g2, 0, none⟩) rn.length rn.length, .slice (some ⟨g3, 0, none⟩) rs.length rs.length] 62) := XZ
  have BR : Hid (Below w.heap.size w wZ) := (unhide OZ).below (unhide BV) (Nat.le_refl _) (fun q hq e => by omega)
  have INR := hide ((unhide INV).out (unhide OZ) (by have := unhide LN; omega))
  have SNR := hide ((unhide SNV).out (unhide OZ) (by have := unhide LS; omega))
  clear XZ OZ HXV HYV BV INV SNV OV IN6 SN6 t2 f2
  refine bodyPost_ret (results_cell_row Tryd.results47 _ wZ (w.heap.size + 1) 62 _ (0, 0) _ rfl (unhide XR) Tryd.underlying62 rfl (by kernel_rfl)) rfl ⟨⟨g2, g3, rfl, by have := unhide LN; omega, by have := unhide LS; omega, unhide INR, unhide SNR⟩, unhide BR⟩
def NteA.past (B : Nat) (x : NteA) : Prop := (∀ ad, x.a1 = some ad → B ≤ ad.block) ∧ (∀ ad, x.a2 = some ad → B ≤ ad.block) ∧ (∀ ad, x.a3 = some ad → B ≤ ad.block)
theorem NteA.side.out {F : Nat → Prop} {w w' : World} {x : NteA} (h : x.side w) (ho : Out F w w') {B : Nat} (hp : x.past B) (hF : ∀ q, F q → q < B) : x.side w' :=
  ⟨ho.ints h.1 (fun ad e f => by have := hp.1 ad e; have := hF _ f; omega), ho.ints h.2.1 (fun ad e f => by have := hp.2.1 ad e; have := hF _ f; omega), ho.strs h.2.2 (fun ad e f => by have := hp.2.2 ad e; have := hF _ f; omega)⟩
/-- The lists of a note in rows of their own. -/
def NteA.boxed (w : World) (B : Nat) (x : NteA) : Prop := (∃ g, x.a1 = some ⟨g, 0, none⟩ ∧ B ≤ g ∧ Box w g (nums x.b.on) 2) ∧ (∃ g, x.a2 = some ⟨g, 0, none⟩ ∧ B ≤ g ∧ Box w g (nums x.b.rn) 2) ∧ (∃ g, x.a3 = some ⟨g, 0, none⟩ ∧ B ≤ g ∧ Box w g (x.b.rs.map Value.string) 9)
theorem boxL_ints {w : World} {g : Nat} {l : List Int} {t : TypeId} (h : Box w g (nums l) t) : IntsAt w (some ⟨g, 0, none⟩) l :=
  .inr ⟨g, 0, rfl, h.lt, fun i hi => by rw [Nat.zero_add, h.cell]; exact nums_at hi⟩
theorem NteA.boxed.side {w : World} {B : Nat} {x : NteA} (h : x.boxed w B) : x.side w := by
  obtain ⟨⟨g1, e1, _, h1⟩, ⟨g2, e2, _, h2⟩, ⟨g3, e3, _, h3⟩⟩ := h
  exact ⟨by rw [e1]; exact boxL_ints h1, by rw [e2]; exact boxL_ints h2, by rw [e3]; exact strs_box h3⟩
theorem NteA.boxed.past {w : World} {B : Nat} {x : NteA} (h : x.boxed w B) : x.past B := by
  obtain ⟨⟨g1, e1, k1, h1⟩, ⟨g2, e2, k2, h2⟩, ⟨g3, e3, k3, h3⟩⟩ := h
  exact ⟨fun ad e => by rw [e1] at e; cases e; exact k1, fun ad e => by rw [e2] at e; cases e; exact k2, fun ad e => by rw [e3] at e; cases e; exact k3⟩
theorem NteA.boxed.below {w w' : World} {B : Nat} {x : NteA} (h : x.boxed w B) (hb : Below w.heap.size w w') : x.boxed w' B := by
  obtain ⟨⟨g1, e1, k1, h1⟩, ⟨g2, e2, k2, h2⟩, ⟨g3, e3, k3, h3⟩⟩ := h
  exact ⟨⟨g1, e1, k1, h1.below hb⟩, ⟨g2, e2, k2, h2.below hb⟩, ⟨g3, e3, k3, h3.below hb⟩⟩
theorem NteA.boxed.out {F : Nat → Prop} {w w' : World} {B : Nat} {x : NteA} (h : x.boxed w B) (ho : Out F w w') (hF : ∀ q, B ≤ q → ¬ F q) : x.boxed w' B := by
  obtain ⟨⟨g1, e1, k1, h1⟩, ⟨g2, e2, k2, h2⟩, ⟨g3, e3, k3, h3⟩⟩ := h
  exact ⟨⟨g1, e1, k1, h1.out ho (hF g1 k1)⟩, ⟨g2, e2, k2, h2.out ho (hF g2 k2)⟩, ⟨g3, e3, k3, h3.out ho (hF g3 k3)⟩⟩
theorem NteA.boxed.mono {w : World} {B B' : Nat} {x : NteA} (h : x.boxed w B) (hB : B' ≤ B) : x.boxed w B' := by
  obtain ⟨⟨g1, e1, k1, h1⟩, ⟨g2, e2, k2, h2⟩, ⟨g3, e3, k3, h3⟩⟩ := h
  exact ⟨⟨g1, e1, by omega, h1⟩, ⟨g2, e2, by omega, h2⟩, ⟨g3, e3, by omega, h3⟩⟩
set_option maxRecDepth 20000 in
set_option maxHeartbeats 4000000 in
theorem toNote_any (x : NteA) (w : World) (h : x.side w) (hm : x.small) :
    Calls Tryd.prog 26 #[.agg #[.int .i64 x.b.k, .int .i64 x.b.wo, .int .i64 x.b.e, .int .i64 x.b.ok, .string x.b.op, .string x.b.ot, .bool x.b.od, .int .i64 x.b.oi, .slice x.a1 x.b.on.length x.c1, .int .i64 x.b.rc, .slice x.a2 x.b.rn.length x.c2, .slice x.a3 x.b.rs.length x.c3]] w fun r w' => (∃ y : NteA, r = .returned (.agg y.cells.toArray) ∧ y.b = x.b ∧ y.boxed w' w.heap.size) ∧ Below w.heap.size w w' := by
  obtain ⟨⟨k, wo, e, ok, op, ot, od, oi, on, rc, rn, rs⟩, a1, c1, a2, c2, a3, c3⟩ := x
  obtain ⟨m1, m2, m3⟩ := hm
  obtain ⟨h1, h2, h3⟩ := h
  simp only at m1 m2 m3 h1 h2 h3
  obtain ⟨W, hW, hWz, HB0, HP0, HX0, HY0⟩ := boxes3 w [.int .i64 k, .int .i64 wo, .int .i64 e, .int .i64 ok, .string op, .string ot, .bool od, .int .i64 oi, .slice a1 on.length c1, .int .i64 rc, .slice a2 rn.length c2, .slice a3 rs.length c3] [.int .i64 0, .int .i64 0, .int .i64 0, .int .i64 0, .string ⟨#[]⟩, .string ⟨#[]⟩, .bool false, .int .i64 0, .slice none 0 0, .int .i64 0, .slice none 0 0, .slice none 0 0] [.int .i64 k, .int .i64 wo, .int .i64 e, .int .i64 0, .string ⟨#[]⟩, .string ⟨#[]⟩, .bool false, .int .i64 0, .slice none 0 0, .int .i64 0, .slice none 0 0, .slice none 0 0] 58 64 64
  have H1 := hide (h1.below (unhide HB0))
  have H2 := hide h2
  have H3 := hide h3
  clear h1 h2 h3
  go_enter Tryd.func26, Tryd.ntmps26
  go_wp2_with fail
  rw [← hW]
  clear hW
  have np1 : w.heap.size ≠ w.heap.size + 1 + 1 := by omega
  refine (toOp_any ok op ot od oi on a1 c1 _ (unhide H1) m1).mono ?_
  rintro r w3 ⟨⟨g1, rfl, ho⟩, hb3⟩
  have HP3 := hide ((unhide HP0).below hb3)
  have HX3 := hide ((unhide HX0).below hb3)
  have HY3 := hide ((unhide HY0).below hb3)
  have B3 := hide (below_step (unhide HB0) hb3 (by omega))
  have I3 := hide (box_rowR ho).1
  have L1 : Hid (w.heap.size + 1 + 1 < g1) := by have := ho.lt g1 rfl; show _ < _; omega
  have z3 : w.heap.size + 1 + 1 < w3.heap.size := by have := hb3.size; omega
  clear hb3 ho HP0 HX0 HY0 HB0 H1
  go_wp2_with (first | (refine wpList_store_part rfl 61 (.tmp 16) (.tmp 15) rfl (w.heap.size + 1 + 1) 3 _ rfl rfl 64 _ (unhide HY3) (by kernel_rfl) (by simp) (by simp [Value.oneCell']) ?_; intro w4 X4 O4; have p9 := ((unhide HP3).out (unhide O4) np1).cell 9; have p10 := ((unhide HP3).out (unhide O4) np1).cell 10; have p11 := ((unhide HP3).out (unhide O4) np1).cell 11; simp only [List.getElem?_cons_zero, List.getElem?_cons_succ] at p9 p10 p11))
  have HX4 := hide ((unhide HX3).out (unhide O4) (by show ¬ w.heap.size + 1 = w.heap.size + 1 + 1; omega))
  have HY4 : Hid (Box w4 (w.heap.size + 1 + 1) [.int .i64 k, .int .i64 wo, .int .i64 e, .int .i64 ok, .string op, .string ot, .bool od, .int .i64 oi, .slice (some ⟨g1, 0, none⟩) on.length on.length, .int .i64 0, .slice none 0 0, .slice none 0 0] 64) := X4
  have B4 := hide ((unhide O4).below (unhide B3) (Nat.le_refl _) (fun q hq e => by omega))
  have I4 := hide ((unhide I3).out (unhide O4) (by have := unhide L1; omega))
  have z4 : w.heap.size + 1 + 1 < w4.heap.size := by have := (unhide O4).size; omega
  clear X4 O4 HP3 HX3 HY3 B3 I3 p9 p10 p11
  refine (toReply_any rc rn rs a2 c2 a3 c3 _ ((unhide H2).below (unhide B4)) ((unhide H3).below (unhide B4)) m2 m3).mono ?_
  rintro r w5 ⟨⟨g2, g3, rfl, hg2, hg3, hi2, hs3⟩, hb5⟩
  have HX5 := hide ((unhide HX4).below hb5)
  have HY5 := hide ((unhide HY4).below hb5)
  have B5 := hide (below_step (unhide B4) hb5 (by omega))
  have I5 := hide ((unhide I4).below hb5)
  have J5 := hide hi2
  have S5 := hide hs3
  have L2 : Hid (w.heap.size + 1 + 1 < g2) := by show _ < _; omega
  have L3 : Hid (w.heap.size + 1 + 1 < g3) := by show _ < _; omega
  have z5 : w.heap.size + 1 + 1 < w5.heap.size := by have := hb5.size; omega
  clear hb5 hi2 hs3 hg2 hg3 HX4 HY4 B4 I4 H2 H3
  go_wp2_with (first
    | (refine wpList_store_part rfl 62 (.tmp 20) (.tmp 19) rfl (w.heap.size + 1 + 1) 9 _ rfl rfl 64 _ (unhide HY5) (by kernel_rfl) (by simp) (by simp [Value.oneCell']) ?_; intro w6 X6 O6; have HY6 : Hid (Box w6 (w.heap.size + 1 + 1) [.int .i64 k, .int .i64 wo, .int .i64 e, .int .i64 ok, .string op, .string ot, .bool od, .int .i64 oi, .slice (some ⟨g1, 0, none⟩) on.length on.length, .int .i64 rc, .slice (some ⟨g2, 0, none⟩) rn.length rn.length, .slice (some ⟨g3, 0, none⟩) rs.length rs.length] 64) := X6; have HX6 := hide ((unhide HX5).out (unhide O6) (by show ¬ w.heap.size + 1 = w.heap.size + 1 + 1; omega)); have B6 := hide ((unhide O6).below (unhide B5) (Nat.le_refl _) (fun q hq e => by omega)); have I6 := hide ((unhide I5).out (unhide O6) (by have := unhide L1; omega)); have J6 := hide ((unhide J5).out (unhide O6) (by have := unhide L2; omega)); have S6 := hide ((unhide S5).out (unhide O6) (by have := unhide L3; omega)); clear X6 O6 HX5 HY5 B5 I5 J5 S5)
    | (refine wpList_load_part rfl 64 (.tmp 3) rfl (w.heap.size + 1 + 1) 0 rfl 64 _ [.int .i64 k, .int .i64 wo, .int .i64 e, .int .i64 ok, .string op, .string ot, .bool od, .int .i64 oi, .slice (some ⟨g1, 0, none⟩) on.length on.length, .int .i64 rc, .slice (some ⟨g2, 0, none⟩) rn.length rn.length, .slice (some ⟨g3, 0, none⟩) rs.length rs.length] (unhide HY6) rfl _ Tryd.underlying64 rfl (by kernel_rfl) ?_)
    | (refine wpList_store_part rfl 64 (.tmp 2) (.tmp 21) rfl (w.heap.size + 1) 0 _ rfl rfl 64 _ (unhide HX6) (by kernel_rfl) (by simp) (by simp [Value.oneCell']) ?_; intro wZ XZ OZ))
  have XR : Hid (Box wZ (w.heap.size + 1) [.int .i64 k, .int .i64 wo, .int .i64 e, .int .i64 ok, .string op, .string ot, .bool od, .int .i64 oi, .slice (some ⟨g1, 0, none⟩) on.length on.length, .int .i64 rc, .slice (some ⟨g2, 0, none⟩) rn.length rn.length, .slice (some ⟨g3, 0, none⟩) rs.length rs.length] 64) := XZ
  have BR : Hid (Below w.heap.size w wZ) := (unhide OZ).below (unhide B6) (Nat.le_refl _) (fun q hq e => by omega)
  have IR := hide ((unhide I6).out (unhide OZ) (by have := unhide L1; omega))
  have JR := hide ((unhide J6).out (unhide OZ) (by have := unhide L2; omega))
  have SR := hide ((unhide S6).out (unhide OZ) (by have := unhide L3; omega))
  clear XZ OZ HX6 HY6 B6 I6 J6 S6
  refine bodyPost_ret (results_cell_row Tryd.results26 _ wZ (w.heap.size + 1) 64 _ (0, 0) _ rfl (unhide XR) Tryd.underlying64 rfl (by kernel_rfl)) rfl ⟨⟨⟨⟨k, wo, e, ok, op, ot, od, oi, on, rc, rn, rs⟩, some ⟨g1, 0, none⟩, on.length, some ⟨g2, 0, none⟩, rn.length, some ⟨g3, 0, none⟩, rs.length⟩, rfl, rfl, ⟨⟨g1, rfl, by have := unhide L1; omega, unhide IR⟩, ⟨g2, rfl, by have := unhide L2; omega, unhide JR⟩, ⟨g3, rfl, by have := unhide L3; omega, unhide SR⟩⟩⟩, unhide BR⟩
def flatNte (L : List NteA) : List Value := L.flatMap NteA.cells
theorem cells_lenNte (x : NteA) : x.cells.length = 12 := rfl
theorem flat_lenNte (L : List NteA) : (flatNte L).length = L.length * 12 := by
  induction L with
  | nil => rfl
  | cons x L ih => simp only [flatNte, List.flatMap_cons, List.length_append, cells_lenNte, List.length_cons] at *; omega
theorem flat_snocNte (L : List NteA) (x : NteA) : flatNte (L ++ [x]) = flatNte L ++ x.cells := by simp [flatNte]
theorem flat_atNte : ∀ (L : List NteA) (i : Nat) (h : i < L.length) (j : Nat) (v : Value), (L[i].cells)[j]? = some v → (flatNte L)[i * 12 + j]? = some v
  | x :: L, 0, _, j, v, hv => by
    have hj : j < x.cells.length := (List.getElem?_eq_some_iff.1 hv).1
    simp only [flatNte, List.flatMap_cons, Nat.zero_mul, Nat.zero_add]
    rw [List.getElem?_append_left hj]; exact hv
  | x :: L, i + 1, h, j, v, hv => by
    have hr := flat_atNte L i (by simpa using h) j v (by simpa using hv)
    simp only [flatNte, List.flatMap_cons]
    rw [List.getElem?_append_right (by rw [cells_lenNte]; omega), cells_lenNte, show (i + 1) * 12 + j - 12 = i * 12 + j by omega]
    exact hr
theorem take_partNte {cs A C : List Value} {n m : Nat} (hA : cs.take n = A) (hn : n ≤ cs.length) (hm : C.length = m) : (cs.take n ++ C ++ cs.drop (n + m)).take (n + m) = A ++ C := by
  have hl : (cs.take n ++ C).length = n + m := by rw [List.length_append, List.length_take, hm]; omega
  rw [List.take_append_of_le_length (by omega), List.take_of_length_le (by omega), hA]
theorem box_Nte {w : World} {g : Nat} {L : List NteA} {t : TypeId} (h : Box w g (flatNte L) t) (hi : ∀ x ∈ L, x.side w ∧ x.small) : NtesAt w (some ⟨g, 0, none⟩) L := by
  refine .inr ⟨g, 0, rfl, h.lt, fun i hl => ⟨fun j v hv => ?_, hi _ (List.getElem_mem hl)⟩⟩
  rw [Nat.zero_add, h.cell]
  exact flat_atNte L i hl j v hv
theorem infoNte : (Tryd.prog.info? 64).map (fun i => (i.zero, i.size, i.bytes)) = some (some (.agg #[.int .i64 0, .int .i64 0, .int .i64 0, .int .i64 0, .string ⟨#[]⟩, .string ⟨#[]⟩, .bool false, .int .i64 0, .slice none 0 0, .int .i64 0, .slice none 0 0, .slice none 0 0]), 12, 160) := by kernel_rfl
theorem box_rowNNte {w : World} {base g n : Nat} {xs : List Value} {e : TypeId} {s : Nat} (h : w.ownsRow base e s (.slice (some ⟨g, 0, none⟩) n n) n xs) : Box w g xs e ∧ base ≤ g := by
  rcases h.2 with ⟨h1, _⟩ | ⟨g', cap, cur, h1, h2, h3, h4, h5, h6, h7⟩
  · cases h1
  · cases h1
    have hc : cur = xs.toArray := by
      rw [List.take_of_length_le (by rw [Array.length_toList, h6]; exact Nat.le_refl _)] at h7
      rw [← h7]
    rw [hc] at h3
    exact ⟨h3, h2⟩

set_option maxRecDepth 20000 in
set_option maxHeartbeats 4000000 in
theorem toNoteS_box (a : Option Addr) (c : Nat) (L : List NteA) (w : World) (h : NtesAt w a L) (hn : L.length ≤ 1048576) :
    Calls Tryd.prog 12 #[.slice a L.length c] w fun r w' => (∃ g L', r = .returned (.slice (some ⟨g, 0, none⟩) L.length L.length) ∧ Box w' g (flatNte L') 64 ∧ (∀ y ∈ L', y.boxed w' w.heap.size ∧ y.small) ∧ L'.map NteA.b = L.map NteA.b ∧ w.heap.size ≤ g) ∧ Below w.heap.size w w' := by
  obtain ⟨i0, hi, hz0, hz1, hz2⟩ := info_parts infoNte
  go_enter Tryd.func12, Tryd.ntmps12
  go_wp2_with (at_make; refine wpList_make_full _ rfl _ _ 32 rfl w.heap.size 64 i0 _ 12 Tryd.underlying32 hi hz0 hz1 .i64 .i64 _ _ L.length rfl rfl rfl rfl (by rw [hz2]; omega) (by unfold maxLen; omega) (Nat.le_refl _) ?_; intro w1 hown hgrow)
  have hbel : Below w.heap.size w w1 := (Below.refl _ _).grown hgrow (Nat.le_refl _) (fun k hk => by cases hk)
  obtain ⟨hbox, -⟩ := box_rowNNte hown
  have hlen := hown.1
  generalize (madeCells _ _).toList = cs0 at *
  clear hgrow hown
  go_loopw [4] (fun i wr => ∃ (k : Nat) (cs : List Value) (L' : List NteA), k ≤ L.length ∧ i = .int .i64 k ∧ cs.length = L.length * 12 ∧ L'.length = k ∧ w.heap.size < wr.heap.size ∧ Hid (Box wr w.heap.size cs 64) ∧ Hid (Below w.heap.size w wr) ∧ Hid (cs.take (k * 12) = flatNte L') ∧ Hid (L'.map NteA.b = (L.take k).map NteA.b) ∧ Hid (∀ x ∈ L', x.boxed wr (w.heap.size + 1) ∧ x.small)) (fun i _ => L.length - (intOf i).toNat)
  case atStart => exact ⟨0, cs0, [], Nat.zero_le _, rfl, hlen, rfl, hbox.lt, hbox, hbel, by simp [Hid, flatNte], rfl, by simp [Hid]⟩
  case round =>
    obtain ⟨k, cs, L', hk, rfl, hcl, hl', hzr, HX, HB, HF, HM, HI⟩ := hrel
    clear hbel hbox hlen
    by_cases hlt : k < L.length
    · obtain ⟨b1, o1, rfl, hb1, hc1⟩ := h.at hlt
      have hbw := unhide HB
      have hx := hc1 k hlt
      have hxe : L.take (k + 1) = L.take k ++ [L[k]] := List.take_succ_eq_append_getElem hlt
      generalize L[k] = x at *
      have HXE := hide hxe
      have I1 := hide (hx.2.1.below hbw)
      have SM := hide hx.2.2
      have zb1 : b1 < wr.heap.size := by omega
      have x0 : wr.cell? ⟨b1, o1 + k * 12, none⟩ = some (.int .i64 x.b.k) := (hbw.cell (p := ⟨b1, o1 + k * 12, none⟩) hb1).trans (hx.1 0 _ rfl)
      have x1 : wr.cell? ⟨b1, o1 + k * 12 + 1, none⟩ = some (.int .i64 x.b.wo) := (hbw.cell (p := ⟨b1, o1 + k * 12 + 1, none⟩) hb1).trans (hx.1 1 _ rfl)
      have x2 : wr.cell? ⟨b1, o1 + k * 12 + 2, none⟩ = some (.int .i64 x.b.e) := (hbw.cell (p := ⟨b1, o1 + k * 12 + 2, none⟩) hb1).trans (hx.1 2 _ rfl)
      have x3 : wr.cell? ⟨b1, o1 + k * 12 + 3, none⟩ = some (.int .i64 x.b.ok) := (hbw.cell (p := ⟨b1, o1 + k * 12 + 3, none⟩) hb1).trans (hx.1 3 _ rfl)
      have x4 : wr.cell? ⟨b1, o1 + k * 12 + 4, none⟩ = some (.string x.b.op) := (hbw.cell (p := ⟨b1, o1 + k * 12 + 4, none⟩) hb1).trans (hx.1 4 _ rfl)
      have x5 : wr.cell? ⟨b1, o1 + k * 12 + 5, none⟩ = some (.string x.b.ot) := (hbw.cell (p := ⟨b1, o1 + k * 12 + 5, none⟩) hb1).trans (hx.1 5 _ rfl)
      have x6 : wr.cell? ⟨b1, o1 + k * 12 + 6, none⟩ = some (.bool x.b.od) := (hbw.cell (p := ⟨b1, o1 + k * 12 + 6, none⟩) hb1).trans (hx.1 6 _ rfl)
      have x7 : wr.cell? ⟨b1, o1 + k * 12 + 7, none⟩ = some (.int .i64 x.b.oi) := (hbw.cell (p := ⟨b1, o1 + k * 12 + 7, none⟩) hb1).trans (hx.1 7 _ rfl)
      have x8 : wr.cell? ⟨b1, o1 + k * 12 + 8, none⟩ = some (.slice x.a1 x.b.on.length x.c1) := (hbw.cell (p := ⟨b1, o1 + k * 12 + 8, none⟩) hb1).trans (hx.1 8 _ rfl)
      have x9 : wr.cell? ⟨b1, o1 + k * 12 + 9, none⟩ = some (.int .i64 x.b.rc) := (hbw.cell (p := ⟨b1, o1 + k * 12 + 9, none⟩) hb1).trans (hx.1 9 _ rfl)
      have x10 : wr.cell? ⟨b1, o1 + k * 12 + 10, none⟩ = some (.slice x.a2 x.b.rn.length x.c2) := (hbw.cell (p := ⟨b1, o1 + k * 12 + 10, none⟩) hb1).trans (hx.1 10 _ rfl)
      have x11 : wr.cell? ⟨b1, o1 + k * 12 + 11, none⟩ = some (.slice x.a3 x.b.rs.length x.c3) := (hbw.cell (p := ⟨b1, o1 + k * 12 + 11, none⟩) hb1).trans (hx.1 11 _ rfl)
      clear hc1 hx h hbw hxe
      go_wp2_with fail
      clear x0 x1 x2 x3 x4 x5 x6 x7 x8 x9 x10 x11
      refine (toNote_any x _ (unhide I1) (unhide SM)).mono ?_
      rintro r w2 ⟨⟨y, rfl, hyb, hys⟩, hb2⟩
      have HX2 := hide ((unhide HX).below hb2)
      have B2 := hide (below_step (unhide HB) hb2 (by omega))
      have YB := hide hyb
      have YS : Hid (y.boxed w2 (w.heap.size + 1)) := hys.mono (by omega)
      have YM : Hid y.small := by have := unhide SM; unfold NteA.small at *; rw [Hid, hyb]; exact this
      have z2 : w.heap.size < w2.heap.size := by have := hb2.size; omega
      have HI2 : Hid (∀ x ∈ L', x.boxed w2 (w.heap.size + 1) ∧ x.small) := fun x hx => ⟨(unhide HI x hx).1.below hb2, (unhide HI x hx).2⟩
      clear hyb hys hb2 HX HB HI I1
      go_wp2_with (first | (refine wpList_store_part rfl 64 (.tmp 21) (.tmp 20) rfl w.heap.size (k * 12) _ rfl rfl 64 cs (unhide HX2) (by kernel_rfl) (by show k * 12 + 12 ≤ cs.length; omega) (by simp [NteA.cells, Value.oneCell']) ?_; intro wZ XZ OZ))
      have hcs : (cs.take (k * 12) ++ y.cells ++ cs.drop (k * 12 + 12)).length = L.length * 12 := by
        simp only [List.length_append, List.length_take, List.length_drop, cells_lenNte]
        omega
      have oz := (unhide OZ).size
      refine ⟨⟨k + 1, _, L' ++ [y], by omega, by go_num, hcs, by simp [hl'], by omega, XZ, (unhide OZ).below (unhide B2) (Nat.le_refl _) (fun q hq e => by omega), ?_, ?_, ?_⟩, by simp [intOf]; omega⟩
      · rw [Hid, flat_snocNte, show (k + 1) * 12 = k * 12 + 12 by omega]
        exact take_partNte (unhide HF) (by omega) rfl
      · rw [Hid, unhide HXE, List.map_append, List.map_append, unhide HM]
        simp [unhide YB]
      · intro x hx
        rcases List.mem_append.1 hx with hx | hx
        · obtain ⟨q1, q2⟩ := unhide HI2 x hx
          exact ⟨q1.out (unhide OZ) (fun q hq e => by omega), q2⟩
        · simp only [List.mem_singleton] at hx
          subst hx
          exact ⟨(unhide YS).out (unhide OZ) (fun q hq e => by omega), unhide YM⟩
    · have hk4 : k = L.length := by omega
      subst hk4
      have hcf : cs = flatNte L' := by
        have := unhide HF
        rwa [List.take_of_length_le (by omega)] at this
      have hmm : L'.map NteA.b = L.map NteA.b := by
        have := unhide HM
        rwa [List.take_of_length_le (by omega)] at this
      subst hcf
      have HMM := hide hmm
      clear hmm
      go_wp2_with fail
      go_ret
      exact ⟨⟨_, L', rfl, unhide HX, fun y hy => ⟨(unhide HI y hy).1.mono (by omega), (unhide HI y hy).2⟩, unhide HMM, Nat.le_refl _⟩, unhide HB⟩
theorem toNoteS_past (a : Option Addr) (c : Nat) (L : List NteA) (w : World) (h : NtesAt w a L) (hn : L.length ≤ 1048576) :
    Calls Tryd.prog 12 #[.slice a L.length c] w fun r w' => (∃ g L', r = .returned (.slice (some ⟨g, 0, none⟩) L.length L.length) ∧ NtesAt w' (some ⟨g, 0, none⟩) L' ∧ L'.map NteA.b = L.map NteA.b ∧ w.heap.size ≤ g ∧ (∀ y ∈ L', y.past w.heap.size)) ∧ Below w.heap.size w w' :=
  (toNoteS_box a c L w h hn).mono fun _ _ ⟨⟨g, L', h1, h2, h3, h4, h5⟩, hb⟩ => ⟨⟨g, L', h1, box_Nte h2 (fun x hx => ⟨(h3 x hx).1.side, (h3 x hx).2⟩), h4, h5, fun y hy => (h3 y hy).1.past⟩, hb⟩
theorem toNoteS_any (a : Option Addr) (c : Nat) (L : List NteA) (w : World) (h : NtesAt w a L) (hn : L.length ≤ 1048576) :
    Calls Tryd.prog 12 #[.slice a L.length c] w fun r w' => (∃ g L', r = .returned (.slice (some ⟨g, 0, none⟩) L.length L.length) ∧ NtesAt w' (some ⟨g, 0, none⟩) L' ∧ L'.map NteA.b = L.map NteA.b) ∧ Below w.heap.size w w' :=
  (toNoteS_past a c L w h hn).mono fun _ _ ⟨⟨g, L', h1, h2, h3, _, _⟩, hb⟩ => ⟨⟨g, L', h1, h2, h3⟩, hb⟩
end Go.Proofs.YtcmekhpphgkglaaDoor
/-
  What laws.eqNoteS answers of the same notes.
-/
namespace Go.Proofs.YtcmekhpphgkglaaDoor
open Go.RowKit
set_option linter.unusedVariables false

theorem keepC24 {W0 w' w1 : World} {b0 b1 b2 b3 b4 b5 b6 b7 b8 b9 b10 b11 b12 b13 b14 b15 b16 b17 b18 b19 b20 b21 b22 b23 o0 o1 o2 o3 o4 o5 o6 o7 o8 o9 o10 o11 o12 o13 o14 o15 o16 o17 o18 o19 o20 o21 o22 o23 : Nat} {v0 v1 v2 v3 v4 v5 v6 v7 v8 v9 v10 v11 v12 v13 v14 v15 v16 v17 v18 v19 v20 v21 v22 v23 : Value} (h0 : b0 < W0.heap.size) (h1 : b1 < W0.heap.size) (h2 : b2 < W0.heap.size) (h3 : b3 < W0.heap.size) (h4 : b4 < W0.heap.size) (h5 : b5 < W0.heap.size) (h6 : b6 < W0.heap.size) (h7 : b7 < W0.heap.size) (h8 : b8 < W0.heap.size) (h9 : b9 < W0.heap.size) (h10 : b10 < W0.heap.size) (h11 : b11 < W0.heap.size) (h12 : b12 < W0.heap.size) (h13 : b13 < W0.heap.size) (h14 : b14 < W0.heap.size) (h15 : b15 < W0.heap.size) (h16 : b16 < W0.heap.size) (h17 : b17 < W0.heap.size) (h18 : b18 < W0.heap.size) (h19 : b19 < W0.heap.size) (h20 : b20 < W0.heap.size) (h21 : b21 < W0.heap.size) (h22 : b22 < W0.heap.size) (h23 : b23 < W0.heap.size) (hS : Below W0.heap.size W0 w' ∧ w'.cell? ⟨b0, o0, none⟩ = some v0 ∧ w'.cell? ⟨b1, o1, none⟩ = some v1 ∧ w'.cell? ⟨b2, o2, none⟩ = some v2 ∧ w'.cell? ⟨b3, o3, none⟩ = some v3 ∧ w'.cell? ⟨b4, o4, none⟩ = some v4 ∧ w'.cell? ⟨b5, o5, none⟩ = some v5 ∧ w'.cell? ⟨b6, o6, none⟩ = some v6 ∧ w'.cell? ⟨b7, o7, none⟩ = some v7 ∧ w'.cell? ⟨b8, o8, none⟩ = some v8 ∧ w'.cell? ⟨b9, o9, none⟩ = some v9 ∧ w'.cell? ⟨b10, o10, none⟩ = some v10 ∧ w'.cell? ⟨b11, o11, none⟩ = some v11 ∧ w'.cell? ⟨b12, o12, none⟩ = some v12 ∧ w'.cell? ⟨b13, o13, none⟩ = some v13 ∧ w'.cell? ⟨b14, o14, none⟩ = some v14 ∧ w'.cell? ⟨b15, o15, none⟩ = some v15 ∧ w'.cell? ⟨b16, o16, none⟩ = some v16 ∧ w'.cell? ⟨b17, o17, none⟩ = some v17 ∧ w'.cell? ⟨b18, o18, none⟩ = some v18 ∧ w'.cell? ⟨b19, o19, none⟩ = some v19 ∧ w'.cell? ⟨b20, o20, none⟩ = some v20 ∧ w'.cell? ⟨b21, o21, none⟩ = some v21 ∧ w'.cell? ⟨b22, o22, none⟩ = some v22 ∧ w'.cell? ⟨b23, o23, none⟩ = some v23) (hb : Below w'.heap.size w' w1) : Below W0.heap.size W0 w1 ∧ w1.cell? ⟨b0, o0, none⟩ = some v0 ∧ w1.cell? ⟨b1, o1, none⟩ = some v1 ∧ w1.cell? ⟨b2, o2, none⟩ = some v2 ∧ w1.cell? ⟨b3, o3, none⟩ = some v3 ∧ w1.cell? ⟨b4, o4, none⟩ = some v4 ∧ w1.cell? ⟨b5, o5, none⟩ = some v5 ∧ w1.cell? ⟨b6, o6, none⟩ = some v6 ∧ w1.cell? ⟨b7, o7, none⟩ = some v7 ∧ w1.cell? ⟨b8, o8, none⟩ = some v8 ∧ w1.cell? ⟨b9, o9, none⟩ = some v9 ∧ w1.cell? ⟨b10, o10, none⟩ = some v10 ∧ w1.cell? ⟨b11, o11, none⟩ = some v11 ∧ w1.cell? ⟨b12, o12, none⟩ = some v12 ∧ w1.cell? ⟨b13, o13, none⟩ = some v13 ∧ w1.cell? ⟨b14, o14, none⟩ = some v14 ∧ w1.cell? ⟨b15, o15, none⟩ = some v15 ∧ w1.cell? ⟨b16, o16, none⟩ = some v16 ∧ w1.cell? ⟨b17, o17, none⟩ = some v17 ∧ w1.cell? ⟨b18, o18, none⟩ = some v18 ∧ w1.cell? ⟨b19, o19, none⟩ = some v19 ∧ w1.cell? ⟨b20, o20, none⟩ = some v20 ∧ w1.cell? ⟨b21, o21, none⟩ = some v21 ∧ w1.cell? ⟨b22, o22, none⟩ = some v22 ∧ w1.cell? ⟨b23, o23, none⟩ = some v23 := by
  obtain ⟨h, d0, d1, d2, d3, d4, d5, d6, d7, d8, d9, d10, d11, d12, d13, d14, d15, d16, d17, d18, d19, d20, d21, d22, d23⟩ := hS
  have hz := h.size
  exact ⟨h.trans (hb.mono hz), ((bcell hb).1 _ _ (by omega)).trans d0, ((bcell hb).1 _ _ (by omega)).trans d1, ((bcell hb).1 _ _ (by omega)).trans d2, ((bcell hb).1 _ _ (by omega)).trans d3, ((bcell hb).1 _ _ (by omega)).trans d4, ((bcell hb).1 _ _ (by omega)).trans d5, ((bcell hb).1 _ _ (by omega)).trans d6, ((bcell hb).1 _ _ (by omega)).trans d7, ((bcell hb).1 _ _ (by omega)).trans d8, ((bcell hb).1 _ _ (by omega)).trans d9, ((bcell hb).1 _ _ (by omega)).trans d10, ((bcell hb).1 _ _ (by omega)).trans d11, ((bcell hb).1 _ _ (by omega)).trans d12, ((bcell hb).1 _ _ (by omega)).trans d13, ((bcell hb).1 _ _ (by omega)).trans d14, ((bcell hb).1 _ _ (by omega)).trans d15, ((bcell hb).1 _ _ (by omega)).trans d16, ((bcell hb).1 _ _ (by omega)).trans d17, ((bcell hb).1 _ _ (by omega)).trans d18, ((bcell hb).1 _ _ (by omega)).trans d19, ((bcell hb).1 _ _ (by omega)).trans d20, ((bcell hb).1 _ _ (by omega)).trans d21, ((bcell hb).1 _ _ (by omega)).trans d22, ((bcell hb).1 _ _ (by omega)).trans d23⟩
set_option maxRecDepth 20000 in
set_option maxHeartbeats 2000000 in
theorem eqReply_same (rc : Int) (rn : List Int) (rs : List ByteArray) (a2 a2' a3 a3' : Option Addr) (c2 c2' c3 c3' : Nat) (w : World) (h : IntsAt w a2 rn) (h2 : IntsAt w a2' rn) (h3 : StrsAt w a3 rs) (h4 : StrsAt w a3' rs) (hn : rn.length ≤ 1048576) (hs : rs.length ≤ 1048576) :
    Calls Tryd.prog 53 #[.agg #[.int .i64 rc, .slice a2 rn.length c2, .slice a3 rs.length c3], .agg #[.int .i64 rc, .slice a2' rn.length c2', .slice a3' rs.length c3']] w fun r w' => r = .returned (.bool true) ∧ Below w.heap.size w w' := by
  obtain ⟨W, hW, hWz, HB0, HX0, HY0⟩ := boxes2 w [.int .i64 rc, .slice a2 rn.length c2, .slice a3 rs.length c3] [.int .i64 rc, .slice a2' rn.length c2', .slice a3' rs.length c3'] 62 62
  have H := hide (h.below (unhide HB0))
  have H2 := hide (h2.below (unhide HB0))
  have H3 := hide (h3.below (unhide HB0))
  have H4 := hide (h4.below (unhide HB0))
  clear h h2 h3 h4
  have hrr := int_neq_self rc
  go_enter Tryd.func53, Tryd.ntmps53
  go_wp2_with fail
  rw [← hW]
  clear hW
  refine (eqInt64S_same a2 a2' c2 c2' rn _ (unhide H) (unhide H2) hn).mono ?_
  rintro r w3 ⟨rfl, hb3⟩
  have X3 := hide ((unhide HX0).below hb3)
  have Y3 := hide ((unhide HY0).below hb3)
  have I3 := hide ((unhide H3).below hb3)
  have I4 := hide ((unhide H4).below hb3)
  have B3 := hide (below_step (unhide HB0) hb3 (by omega))
  have z3 := hb3.size
  clear hb3 HX0 HY0 H H2 H3 H4 HB0
  have x2 := (unhide X3).cell 2
  have y2 := (unhide Y3).cell 2
  simp only [List.getElem?_cons_zero, List.getElem?_cons_succ] at x2 y2
  go_wp2_with fail
  refine (eqStringS_same a3 a3' c3 c3' rs _ (unhide I3) (unhide I4) hs).mono ?_
  rintro r w4 ⟨rfl, hb4⟩
  have B4 := hide (below_step (unhide B3) hb4 (by omega))
  clear hb4 B3 X3 Y3 x2 y2
  go_wp2_with fail
  go_ret
  exact ⟨rfl, unhide B4⟩
set_option maxRecDepth 20000 in
set_option maxHeartbeats 4000000 in
theorem eqNote_same (x : Nte) (a1 a1' a2 a2' a3 a3' : Option Addr) (c1 c1' c2 c2' c3 c3' : Nat) (w : World) (h : NteA.side w ⟨x, a1, c1, a2, c2, a3, c3⟩) (h2 : NteA.side w ⟨x, a1', c1', a2', c2', a3', c3'⟩) (hm : NteA.small ⟨x, a1, c1, a2, c2, a3, c3⟩) :
    Calls Tryd.prog 28 #[.agg #[.int .i64 x.k, .int .i64 x.wo, .int .i64 x.e, .int .i64 x.ok, .string x.op, .string x.ot, .bool x.od, .int .i64 x.oi, .slice a1 x.on.length c1, .int .i64 x.rc, .slice a2 x.rn.length c2, .slice a3 x.rs.length c3], .agg #[.int .i64 x.k, .int .i64 x.wo, .int .i64 x.e, .int .i64 x.ok, .string x.op, .string x.ot, .bool x.od, .int .i64 x.oi, .slice a1' x.on.length c1', .int .i64 x.rc, .slice a2' x.rn.length c2', .slice a3' x.rs.length c3']] w fun r w' => r = .returned (.bool true) ∧ Below w.heap.size w w' := by
  obtain ⟨k, wo, e, ok, op, ot, od, oi, on, rc, rn, rs⟩ := x
  simp only at *
  obtain ⟨W, hW, hWz, HB0, HX0, HY0⟩ := boxes2 w [.int .i64 k, .int .i64 wo, .int .i64 e, .int .i64 ok, .string op, .string ot, .bool od, .int .i64 oi, .slice a1 on.length c1, .int .i64 rc, .slice a2 rn.length c2, .slice a3 rs.length c3] [.int .i64 k, .int .i64 wo, .int .i64 e, .int .i64 ok, .string op, .string ot, .bool od, .int .i64 oi, .slice a1' on.length c1', .int .i64 rc, .slice a2' rn.length c2', .slice a3' rs.length c3'] 64 64
  have H := hide (h.below (unhide HB0))
  have H2 := hide (h2.below (unhide HB0))
  have HM := hide hm
  clear h h2 hm
  have hkk := int_neq_self k
  have hww := int_neq_self wo
  have hee := int_neq_self e
  go_enter Tryd.func28, Tryd.ntmps28
  go_wp2_with fail
  rw [← hW]
  clear hW
  refine (eqOp_same ok op ot od oi a1 a1' c1 c1' on _ (unhide H).1 (unhide H2).1 (unhide HM).1).mono ?_
  rintro r w3 ⟨rfl, hb3⟩
  have X3 := hide ((unhide HX0).below hb3)
  have Y3 := hide ((unhide HY0).below hb3)
  have I3 := hide ((unhide H).below hb3)
  have I4 := hide ((unhide H2).below hb3)
  have B3 := hide (below_step (unhide HB0) hb3 (by omega))
  have z3 := hb3.size
  clear hb3 HX0 HY0 H H2 HB0
  have x9 := (unhide X3).cell 9
  have y9 := (unhide Y3).cell 9
  have x10 := (unhide X3).cell 10
  have y10 := (unhide Y3).cell 10
  have x11 := (unhide X3).cell 11
  have y11 := (unhide Y3).cell 11
  simp only [List.getElem?_cons_zero, List.getElem?_cons_succ] at x9 y9 x10 y10 x11 y11
  go_wp2_with fail
  refine (eqReply_same rc rn rs a2 a2' a3 a3' c2 c2' c3 c3' _ (unhide I3).2.1 (unhide I4).2.1 (unhide I3).2.2 (unhide I4).2.2 (unhide HM).2.1 (unhide HM).2.2).mono ?_
  rintro r w4 ⟨rfl, hb4⟩
  have B4 := hide (below_step (unhide B3) hb4 (by omega))
  clear hb4 B3 X3 Y3 x9 y9 x10 y10 x11 y11
  go_wp2_with fail
  go_ret
  exact ⟨rfl, unhide B4⟩
set_option maxRecDepth 20000 in
set_option maxHeartbeats 2000000 in
theorem eqNoteS_same (a b : Option Addr) (c d : Nat) (L M : List NteA) (w : World) (h : NtesAt w a L) (h2 : NtesAt w b M) (hn : L.length ≤ 1048576) (hs : L.map NteA.b = M.map NteA.b) :
    Calls Tryd.prog 14 #[.slice a L.length c, .slice b M.length d] w fun r w' => r = .returned (.bool true) ∧ Below w.heap.size w w' := by
  have hlm : L.length = M.length := by simpa using congrArg List.length hs
  have hlb : ((L.length : Int) != (M.length : Int)) = false := by simp; omega
  have HL := hide hlm
  have HSS := hide hs
  clear hlm hs
  go_enter Tryd.func14, Tryd.ntmps14
  go_wp2
  go_loopw [5] (fun i wr => ∃ k : Nat, k ≤ L.length ∧ i = .int .i64 k ∧ Hid (Below w.heap.size w wr)) (fun i _ => L.length - (intOf i).toNat)
  case atStart => exact ⟨0, Nat.zero_le _, rfl, Below.refl _ _⟩
  case round =>
    obtain ⟨k, hk, rfl, HB⟩ := hrel
    by_cases hlt : k < L.length
    · have hlt2 : k < M.length := by have := unhide HL; omega
      have hxy : L[k].b = M[k].b := by
        have := congrArg (fun l => l[k]?) (unhide HSS)
        simpa [hlt, hlt2] using this
      obtain ⟨b1, o1, rfl, hb1, hc1⟩ := h.at hlt
      obtain ⟨b2, o2, rfl, hb2, hc2⟩ := h2.at hlt2
      have hbw := unhide HB
      have hx := hc1 k hlt
      have hy := hc2 k hlt2
      generalize L[k] = x at *
      generalize M[k] = y at *
      have I1 := hide (hx.2.1.below hbw)
      have I2 : Hid (NteA.side wr ⟨x.b, y.a1, y.c1, y.a2, y.c2, y.a3, y.c3⟩) := by have := hy.2.1.below hbw; unfold NteA.side at this; rw [← hxy] at this; exact this
      have SM := hide hx.2.2
      have z0 := hbw.size
      have zb1 : b1 < wr.heap.size := by omega
      have zb2 : b2 < wr.heap.size := by omega
      have x0 : wr.cell? ⟨b1, o1 + k * 12, none⟩ = some (.int .i64 x.b.k) := (hbw.cell (p := ⟨b1, o1 + k * 12, none⟩) hb1).trans (hx.1 0 _ rfl)
      have x1 : wr.cell? ⟨b1, o1 + k * 12 + 1, none⟩ = some (.int .i64 x.b.wo) := (hbw.cell (p := ⟨b1, o1 + k * 12 + 1, none⟩) hb1).trans (hx.1 1 _ rfl)
      have x2 : wr.cell? ⟨b1, o1 + k * 12 + 2, none⟩ = some (.int .i64 x.b.e) := (hbw.cell (p := ⟨b1, o1 + k * 12 + 2, none⟩) hb1).trans (hx.1 2 _ rfl)
      have x3 : wr.cell? ⟨b1, o1 + k * 12 + 3, none⟩ = some (.int .i64 x.b.ok) := (hbw.cell (p := ⟨b1, o1 + k * 12 + 3, none⟩) hb1).trans (hx.1 3 _ rfl)
      have x4 : wr.cell? ⟨b1, o1 + k * 12 + 4, none⟩ = some (.string x.b.op) := (hbw.cell (p := ⟨b1, o1 + k * 12 + 4, none⟩) hb1).trans (hx.1 4 _ rfl)
      have x5 : wr.cell? ⟨b1, o1 + k * 12 + 5, none⟩ = some (.string x.b.ot) := (hbw.cell (p := ⟨b1, o1 + k * 12 + 5, none⟩) hb1).trans (hx.1 5 _ rfl)
      have x6 : wr.cell? ⟨b1, o1 + k * 12 + 6, none⟩ = some (.bool x.b.od) := (hbw.cell (p := ⟨b1, o1 + k * 12 + 6, none⟩) hb1).trans (hx.1 6 _ rfl)
      have x7 : wr.cell? ⟨b1, o1 + k * 12 + 7, none⟩ = some (.int .i64 x.b.oi) := (hbw.cell (p := ⟨b1, o1 + k * 12 + 7, none⟩) hb1).trans (hx.1 7 _ rfl)
      have x8 : wr.cell? ⟨b1, o1 + k * 12 + 8, none⟩ = some (.slice x.a1 x.b.on.length x.c1) := (hbw.cell (p := ⟨b1, o1 + k * 12 + 8, none⟩) hb1).trans (hx.1 8 _ rfl)
      have x9 : wr.cell? ⟨b1, o1 + k * 12 + 9, none⟩ = some (.int .i64 x.b.rc) := (hbw.cell (p := ⟨b1, o1 + k * 12 + 9, none⟩) hb1).trans (hx.1 9 _ rfl)
      have x10 : wr.cell? ⟨b1, o1 + k * 12 + 10, none⟩ = some (.slice x.a2 x.b.rn.length x.c2) := (hbw.cell (p := ⟨b1, o1 + k * 12 + 10, none⟩) hb1).trans (hx.1 10 _ rfl)
      have x11 : wr.cell? ⟨b1, o1 + k * 12 + 11, none⟩ = some (.slice x.a3 x.b.rs.length x.c3) := (hbw.cell (p := ⟨b1, o1 + k * 12 + 11, none⟩) hb1).trans (hx.1 11 _ rfl)
      have y0 : wr.cell? ⟨b2, o2 + k * 12, none⟩ = some (.int .i64 x.b.k) := (hbw.cell (p := ⟨b2, o2 + k * 12, none⟩) hb2).trans (by rw [hxy]; exact hy.1 0 _ rfl)
      have y1 : wr.cell? ⟨b2, o2 + k * 12 + 1, none⟩ = some (.int .i64 x.b.wo) := (hbw.cell (p := ⟨b2, o2 + k * 12 + 1, none⟩) hb2).trans (by rw [hxy]; exact hy.1 1 _ rfl)
      have y2 : wr.cell? ⟨b2, o2 + k * 12 + 2, none⟩ = some (.int .i64 x.b.e) := (hbw.cell (p := ⟨b2, o2 + k * 12 + 2, none⟩) hb2).trans (by rw [hxy]; exact hy.1 2 _ rfl)
      have y3 : wr.cell? ⟨b2, o2 + k * 12 + 3, none⟩ = some (.int .i64 x.b.ok) := (hbw.cell (p := ⟨b2, o2 + k * 12 + 3, none⟩) hb2).trans (by rw [hxy]; exact hy.1 3 _ rfl)
      have y4 : wr.cell? ⟨b2, o2 + k * 12 + 4, none⟩ = some (.string x.b.op) := (hbw.cell (p := ⟨b2, o2 + k * 12 + 4, none⟩) hb2).trans (by rw [hxy]; exact hy.1 4 _ rfl)
      have y5 : wr.cell? ⟨b2, o2 + k * 12 + 5, none⟩ = some (.string x.b.ot) := (hbw.cell (p := ⟨b2, o2 + k * 12 + 5, none⟩) hb2).trans (by rw [hxy]; exact hy.1 5 _ rfl)
      have y6 : wr.cell? ⟨b2, o2 + k * 12 + 6, none⟩ = some (.bool x.b.od) := (hbw.cell (p := ⟨b2, o2 + k * 12 + 6, none⟩) hb2).trans (by rw [hxy]; exact hy.1 6 _ rfl)
      have y7 : wr.cell? ⟨b2, o2 + k * 12 + 7, none⟩ = some (.int .i64 x.b.oi) := (hbw.cell (p := ⟨b2, o2 + k * 12 + 7, none⟩) hb2).trans (by rw [hxy]; exact hy.1 7 _ rfl)
      have y8 : wr.cell? ⟨b2, o2 + k * 12 + 8, none⟩ = some (.slice y.a1 x.b.on.length y.c1) := (hbw.cell (p := ⟨b2, o2 + k * 12 + 8, none⟩) hb2).trans (by rw [hxy]; exact hy.1 8 _ rfl)
      have y9 : wr.cell? ⟨b2, o2 + k * 12 + 9, none⟩ = some (.int .i64 x.b.rc) := (hbw.cell (p := ⟨b2, o2 + k * 12 + 9, none⟩) hb2).trans (by rw [hxy]; exact hy.1 9 _ rfl)
      have y10 : wr.cell? ⟨b2, o2 + k * 12 + 10, none⟩ = some (.slice y.a2 x.b.rn.length y.c2) := (hbw.cell (p := ⟨b2, o2 + k * 12 + 10, none⟩) hb2).trans (by rw [hxy]; exact hy.1 10 _ rfl)
      have y11 : wr.cell? ⟨b2, o2 + k * 12 + 11, none⟩ = some (.slice y.a3 x.b.rs.length y.c3) := (hbw.cell (p := ⟨b2, o2 + k * 12 + 11, none⟩) hb2).trans (by rw [hxy]; exact hy.1 11 _ rfl)
      clear hc1 hc2 hx hy h h2 hbw hxy
      have hD : (fun w' => Below wr.heap.size wr w' ∧ w'.cell? ⟨b1, o1 + k * 12, none⟩ = some (.int .i64 x.b.k) ∧ w'.cell? ⟨b1, o1 + k * 12 + 1, none⟩ = some (.int .i64 x.b.wo) ∧ w'.cell? ⟨b1, o1 + k * 12 + 2, none⟩ = some (.int .i64 x.b.e) ∧ w'.cell? ⟨b1, o1 + k * 12 + 3, none⟩ = some (.int .i64 x.b.ok) ∧ w'.cell? ⟨b1, o1 + k * 12 + 4, none⟩ = some (.string x.b.op) ∧ w'.cell? ⟨b1, o1 + k * 12 + 5, none⟩ = some (.string x.b.ot) ∧ w'.cell? ⟨b1, o1 + k * 12 + 6, none⟩ = some (.bool x.b.od) ∧ w'.cell? ⟨b1, o1 + k * 12 + 7, none⟩ = some (.int .i64 x.b.oi) ∧ w'.cell? ⟨b1, o1 + k * 12 + 8, none⟩ = some (.slice x.a1 x.b.on.length x.c1) ∧ w'.cell? ⟨b1, o1 + k * 12 + 9, none⟩ = some (.int .i64 x.b.rc) ∧ w'.cell? ⟨b1, o1 + k * 12 + 10, none⟩ = some (.slice x.a2 x.b.rn.length x.c2) ∧ w'.cell? ⟨b1, o1 + k * 12 + 11, none⟩ = some (.slice x.a3 x.b.rs.length x.c3) ∧ w'.cell? ⟨b2, o2 + k * 12, none⟩ = some (.int .i64 x.b.k) ∧ w'.cell? ⟨b2, o2 + k * 12 + 1, none⟩ = some (.int .i64 x.b.wo) ∧ w'.cell? ⟨b2, o2 + k * 12 + 2, none⟩ = some (.int .i64 x.b.e) ∧ w'.cell? ⟨b2, o2 + k * 12 + 3, none⟩ = some (.int .i64 x.b.ok) ∧ w'.cell? ⟨b2, o2 + k * 12 + 4, none⟩ = some (.string x.b.op) ∧ w'.cell? ⟨b2, o2 + k * 12 + 5, none⟩ = some (.string x.b.ot) ∧ w'.cell? ⟨b2, o2 + k * 12 + 6, none⟩ = some (.bool x.b.od) ∧ w'.cell? ⟨b2, o2 + k * 12 + 7, none⟩ = some (.int .i64 x.b.oi) ∧ w'.cell? ⟨b2, o2 + k * 12 + 8, none⟩ = some (.slice y.a1 x.b.on.length y.c1) ∧ w'.cell? ⟨b2, o2 + k * 12 + 9, none⟩ = some (.int .i64 x.b.rc) ∧ w'.cell? ⟨b2, o2 + k * 12 + 10, none⟩ = some (.slice y.a2 x.b.rn.length y.c2) ∧ w'.cell? ⟨b2, o2 + k * 12 + 11, none⟩ = some (.slice y.a3 x.b.rs.length y.c3)) wr.drew := ⟨(Below.refl _ _).drew, x0, x1, x2, x3, x4, x5, x6, x7, x8, x9, x10, x11, y0, y1, y2, y3, y4, y5, y6, y7, y8, y9, y10, y11⟩
      have HD := hide hD
      clear hD x0 x1 x2 x3 x4 x5 x6 x7 x8 x9 x10 x11 y0 y1 y2 y3 y4 y5 y6 y7 y8 y9 y10 y11
      go_wp2_with fail
      go_region_held3 (fun w' => Below wr.heap.size wr w' ∧ w'.cell? ⟨b1, o1 + k * 12, none⟩ = some (.int .i64 x.b.k) ∧ w'.cell? ⟨b1, o1 + k * 12 + 1, none⟩ = some (.int .i64 x.b.wo) ∧ w'.cell? ⟨b1, o1 + k * 12 + 2, none⟩ = some (.int .i64 x.b.e) ∧ w'.cell? ⟨b1, o1 + k * 12 + 3, none⟩ = some (.int .i64 x.b.ok) ∧ w'.cell? ⟨b1, o1 + k * 12 + 4, none⟩ = some (.string x.b.op) ∧ w'.cell? ⟨b1, o1 + k * 12 + 5, none⟩ = some (.string x.b.ot) ∧ w'.cell? ⟨b1, o1 + k * 12 + 6, none⟩ = some (.bool x.b.od) ∧ w'.cell? ⟨b1, o1 + k * 12 + 7, none⟩ = some (.int .i64 x.b.oi) ∧ w'.cell? ⟨b1, o1 + k * 12 + 8, none⟩ = some (.slice x.a1 x.b.on.length x.c1) ∧ w'.cell? ⟨b1, o1 + k * 12 + 9, none⟩ = some (.int .i64 x.b.rc) ∧ w'.cell? ⟨b1, o1 + k * 12 + 10, none⟩ = some (.slice x.a2 x.b.rn.length x.c2) ∧ w'.cell? ⟨b1, o1 + k * 12 + 11, none⟩ = some (.slice x.a3 x.b.rs.length x.c3) ∧ w'.cell? ⟨b2, o2 + k * 12, none⟩ = some (.int .i64 x.b.k) ∧ w'.cell? ⟨b2, o2 + k * 12 + 1, none⟩ = some (.int .i64 x.b.wo) ∧ w'.cell? ⟨b2, o2 + k * 12 + 2, none⟩ = some (.int .i64 x.b.e) ∧ w'.cell? ⟨b2, o2 + k * 12 + 3, none⟩ = some (.int .i64 x.b.ok) ∧ w'.cell? ⟨b2, o2 + k * 12 + 4, none⟩ = some (.string x.b.op) ∧ w'.cell? ⟨b2, o2 + k * 12 + 5, none⟩ = some (.string x.b.ot) ∧ w'.cell? ⟨b2, o2 + k * 12 + 6, none⟩ = some (.bool x.b.od) ∧ w'.cell? ⟨b2, o2 + k * 12 + 7, none⟩ = some (.int .i64 x.b.oi) ∧ w'.cell? ⟨b2, o2 + k * 12 + 8, none⟩ = some (.slice y.a1 x.b.on.length y.c1) ∧ w'.cell? ⟨b2, o2 + k * 12 + 9, none⟩ = some (.int .i64 x.b.rc) ∧ w'.cell? ⟨b2, o2 + k * 12 + 10, none⟩ = some (.slice y.a2 x.b.rn.length y.c2) ∧ w'.cell? ⟨b2, o2 + k * 12 + 11, none⟩ = some (.slice y.a3 x.b.rs.length y.c3)) (first | exact unhide HD | assumption | exact keepC24 zb1 zb1 zb1 zb1 zb1 zb1 zb1 zb1 zb1 zb1 zb1 zb1 zb2 zb2 zb2 zb2 zb2 zb2 zb2 zb2 zb2 zb2 zb2 zb2 (by assumption) (by assumption))
        (first
          | (go_at_call 28; refine (eqNote_same x.b x.a1 y.a1 x.a2 y.a2 x.a3 y.a3 x.c1 y.c1 x.c2 y.c2 x.c3 y.c3 _ ((unhide I1).below (And.left (by assumption))) ((unhide I2).below (And.left (by assumption))) (unhide SM)).mono ?_; rintro r w5 ⟨rfl, hb5⟩))
      rename_i hSF
      have B5 := hide (below_step (unhide HB) hSF.1 z0)
      clear hSF HD hb5
      go_wp2_with fail
      exact ⟨⟨k + 1, by omega, by go_num, B5⟩, by simp [intOf]; omega⟩
    · go_wp2_with fail
      go_ret
      exact ⟨rfl, unhide HB⟩
end Go.Proofs.YtcmekhpphgkglaaDoor
/-
  The walk of laws.FnExactNotesFault: it returns true, and writes nothing that was there.
-/
namespace Go.Proofs.YtcmekhpphgkglaaDoor.fnExactNotesFault
open Go.RowKit
set_option linter.unusedVariables false

theorem toNoteS_ex2 (a : Option Addr) (c : Nat) (L : List NteA) (w : World) (h : NtesAt w a L) (hn : L.length ≤ 1048576) :
    Calls Tryd.prog 12 #[.slice a L.length c] w fun r w' => (∃ g L', r = .returned (.slice (some ⟨g, 0, none⟩) (List.length L') (List.length L')) ∧ NtesAt w' (some ⟨g, 0, none⟩) L' ∧ L'.map NteA.b = L.map NteA.b) ∧ Below w.heap.size w w' :=
  (toNoteS_any a c L w h hn).mono fun _ _ ⟨⟨g, L', h1, h2, h3⟩, h4⟩ => ⟨⟨g, L', by rw [show L'.length = L.length from by simpa using congrArg List.length h3]; exact h1, h2, h3⟩, h4⟩
theorem sized_map {L L' : List NteA} (hm : L'.map NteA.b = L.map NteA.b) (hs : ∀ x ∈ L, x.sized) : ∀ x ∈ L', x.sized := by
  intro x hx
  have h1 : x.b ∈ L.map NteA.b := by rw [← hm]; exact List.mem_map_of_mem hx
  obtain ⟨y, hy, hyb⟩ := List.mem_map.1 h1
  have h2 := hs y hy
  unfold NteA.sized NteA.full NteA.small at h2 ⊢
  rw [← hyb]
  exact h2
theorem sized_of {w : World} {a : Option Addr} {L : List NteA} (h : NtesR w a L) (hf : ∀ x ∈ L, x.full) : ∀ x ∈ L, x.sized := by
  intro x hx
  refine ⟨hf x hx, ?_⟩
  rcases h with rfl | ⟨b, o, rfl, hb, hc⟩
  · cases hx
  · obtain ⟨i, hi, rfl⟩ := List.getElem_of_mem hx
    exact (hc i hi).2.2.2.2.2.2.2
set_option maxRecDepth 20000 in
set_option maxHeartbeats 4000000 in
theorem walk (a1 : Option Addr) (c1 : Nat) (L : List NteA) (w : World) (h : NtesR w a1 L) (hn : L.length ≤ maxLen) (hsh : w.ShapedOpen Tryd.prog) :
    Calls Tryd.prog 4 #[.slice a1 L.length c1] w fun e w' => e = .returned (.bool true) ∧ Below w.heap.size w w' := by
  obtain ⟨mx, hm⟩ := Tryd.laysM143.s1_3 w hsh
  have hm0 : w.cell? ⟨0, 0, none⟩ = some (.int .i64 mx) := hm
  have hM : MaxAt w mx := ⟨hm0, lt_of_cell hm0⟩
  clear hsh hm hm0
  have AZ := hide h
  have MZ := hide hM
  clear h hM
  go_enter Tryd.func4, Tryd.ntmps4
  go_wp2_with fail
  refine (szNoteS_full a1 c1 L _ _ (unhide AZ) hn (by decide) (by decide)).mono ?_
  rintro e w1 ⟨⟨x, rfl, hx⟩, hb⟩
  have z1 : w.heap.size ≤ w1.heap.size := hb.size
  have A1 := hide ((unhide AZ).below hb)
  have M1 := hide ((unhide MZ).below hb)
  have B1 := hide hb
  clear hb AZ MZ
  by_cases hx0 : x < 0
  · clear hx
    go_wp2_with fail
    go_ret
    exact ⟨rfl, unhide B1⟩
  have hx1 : 0 ≤ x ∧ x ≤ 1048576 ∧ (L.length : Int) ≤ 1048576 ∧ ∀ y ∈ L, y.full := by
    rcases hx with h | h
    · omega
    · exact h
  obtain ⟨x1, x2, x3, x4⟩ := hx1
  have HZD := hide (sized_of (unhide A1) x4)
  have A2 := hide ((unhide A1).toAt (fun y hy => (x4 y hy).1))
  have hL : L.length ≤ 1048576 := by omega
  clear hx x4 x3 A1
  go_wp2_with fail
  refine (toNoteS_ex2 a1 c1 L _ (unhide A2) hL).mono ?_
  rintro e w3 ⟨⟨gp, L1, rfl, hbp, hmp⟩, hb⟩
  have z3 : w1.heap.size ≤ w3.heap.size := hb.size
  have A3 := hide ((unhide A2).below hb)
  have M3 := hide ((unhide M1).below hb)
  have B3 := hide (below_step (unhide B1) hb (by omega))
  clear hb A2 M1 B1
  have Fp := hide hbp
  have Zp := hide (sized_map hmp (unhide HZD))
  have lp : L1.length ≤ 1048576 := by have := congrArg List.length hmp; simp at this; omega
  have Mp := hide hmp
  clear hbp hmp
  go_wp2_with fail
  refine (specNotesFault_any _ _ L1 _ (unhide Fp) lp (unhide Zp)).mono ?_
  rintro e w4 ⟨rfl, hb⟩
  have z4 : w3.heap.size ≤ w4.heap.size := hb.size
  have A4 := hide ((unhide A3).below hb)
  have M4 := hide ((unhide M3).below hb)
  have B4 := hide (below_step (unhide B3) hb (by omega))
  clear hb A3 M3 B3 Fp Zp
  rw [unhide Mp]
  generalize hcd : notesCode (L.map NteA.b) = cd at *
  have HCD := hide hcd
  clear hcd Mp
  go_wp2_with fail
  refine (toNoteS_ex2 a1 c1 L _ (unhide A4) hL).mono ?_
  rintro e w5 ⟨⟨gq, L2, rfl, hbq, hmq⟩, hb⟩
  have z5 : w4.heap.size ≤ w5.heap.size := hb.size
  have A5 := hide ((unhide A4).below hb)
  have M5 := hide ((unhide M4).below hb)
  have B5 := hide (below_step (unhide B4) hb (by omega))
  clear hb A4 M4 B4
  have Fq := hide hbq
  have Zq := hide (sized_map hmq (unhide HZD))
  have lq : L2.length ≤ 1048576 := by have := congrArg List.length hmq; simp at this; omega
  have Mq := hide hmq
  clear hbq hmq
  go_wp2_with fail
  refine (implNotesFault_any _ _ L2 mx _ (unhide Fq) lq (unhide Zq) (unhide M5)).mono ?_
  rintro e w6 ⟨rfl, hb⟩
  have z6 : w5.heap.size ≤ w6.heap.size := hb.size
  have A6 := hide ((unhide A5).below hb)
  have G6 := hide ((unhide Fq).below hb)
  have B6 := hide (below_step (unhide B5) hb (by omega))
  clear hb A5 M5 B5 Fq Zq
  rw [unhide Mq, unhide HCD]
  have hne := int_neq_self cd
  go_wp2_with fail
  refine (toNoteS_ex2 a1 c1 L _ (unhide A6) hL).mono ?_
  rintro e w7 ⟨⟨gr, L3, rfl, hbr, hmr⟩, hb⟩
  have z7 : w6.heap.size ≤ w7.heap.size := hb.size
  have G7 := hide ((unhide G6).below hb)
  have B7 := hide (below_step (unhide B6) hb (by omega))
  clear hb A6 G6 B6
  have Fr := hide hbr
  have Mr := hide hmr
  clear hbr hmr
  go_wp2_with fail
  refine (eqNoteS_same _ _ _ _ L2 L3 _ (unhide G7) (unhide Fr) lq ((unhide Mq).trans (unhide Mr).symm)).mono ?_
  rintro e w8 ⟨rfl, hb⟩
  have B8 := hide (below_step (unhide B7) hb (by omega))
  clear hb G7 Fr B7
  go_wp2_with fail
  go_ret
  exact ⟨rfl, unhide B8⟩
end Go.Proofs.YtcmekhpphgkglaaDoor.fnExactNotesFault
