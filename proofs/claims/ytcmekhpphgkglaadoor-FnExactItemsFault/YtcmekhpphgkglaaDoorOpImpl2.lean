/-
  What impl.OpFault and impl.IsMutation answer.
-/
import Derived.Test.YtcmekhpphgkglaaDoorOpPaths
namespace Go.Proofs.YtcmekhpphgkglaaDoor
open Go.RowKit
set_option linter.unusedVariables false

theorem isWithinB_any (v lo hi : Int) (w : World) : Calls Tryd.prog 35 #[.int .i64 v, .int .i64 lo, .int .i64 hi] w fun e w' => e = .returned (.bool (inB v lo hi)) ∧ Below w.heap.size w w' :=
  (isWithin_any v lo hi w).mono (by rintro e w' ⟨h, rfl⟩; exact ⟨h, Below.refl _ _⟩)
set_option maxRecDepth 20000 in
set_option maxHeartbeats 4000000 in
theorem implOpFault_any (k : Int) (p t : ByteArray) (d : Bool) (i : Int) (nl : List Int) (a : Option Addr) (c : Nat) (m : Int) (w : World) (h : IntsAt w a nl) (hm : MaxAt w m) (hn : nl.length ≤ 1048576) (hp : p.size ≤ 1048576) (ht : t.size ≤ 1048576) :
    Calls Tryd.prog 50 #[.agg #[.int .i64 k, .string p, .string t, .bool d, .int .i64 i, .slice a nl.length c]] w fun r w' => r = .returned (.int .i64 (opCode k p t d i nl)) ∧ Below w.heap.size w w' := by
  obtain ⟨W, hW, hWz, HB0, HX0⟩ := boxes1 w [.int .i64 k, .string p, .string t, .bool d, .int .i64 i, .slice a nl.length c] 61
  have H := hide (h.below (unhide HB0))
  have HM := hide (hm.below (unhide HB0))
  clear h hm
  have q0 := (unhide HX0).cell 0
  have q1 := (unhide HX0).cell 1
  have q2 := (unhide HX0).cell 2
  have q3 := (unhide HX0).cell 3
  have q4 := (unhide HX0).cell 4
  have q5 := (unhide HX0).cell 5
  simp only [List.getElem?_cons_zero, List.getElem?_cons_succ] at q0 q1 q2 q3 q4 q5
  generalize hbe : w.heap.size = b at *
  have HBE := hide hbe
  clear hbe
  have hbW : b < W.heap.size := by omega
  have hD : (fun w' => Below W.heap.size W w' ∧ w'.cell? ⟨b, 0, none⟩ = some (.int .i64 k) ∧ w'.cell? ⟨b, 1, none⟩ = some (.string p) ∧ w'.cell? ⟨b, 2, none⟩ = some (.string t) ∧ w'.cell? ⟨b, 3, none⟩ = some (.bool d) ∧ w'.cell? ⟨b, 4, none⟩ = some (.int .i64 i) ∧ w'.cell? ⟨b, 5, none⟩ = some (.slice a nl.length c)) W.drew := ⟨(Below.refl _ _).drew, q0, q1, q2, q3, q4, q5⟩
  have HD := hide hD
  clear hD q0 q1 q2 q3 q4 q5
  cases hin : inB k 1 8
  · have HV : Hid (opCode k p t d i nl = 1) := opCode_no (by rw [opForm, hin]; rfl)
    go_enter Tryd.func50, Tryd.ntmps50
    go_wp2_with fail
    rw [unhide HBE, ← hW]
    clear hW
    refine wp_region_held_drew (S := (fun w' => Below W.heap.size W w' ∧ w'.cell? ⟨b, 0, none⟩ = some (.int .i64 k) ∧ w'.cell? ⟨b, 1, none⟩ = some (.string p) ∧ w'.cell? ⟨b, 2, none⟩ = some (.string t) ∧ w'.cell? ⟨b, 3, none⟩ = some (.bool d) ∧ w'.cell? ⟨b, 4, none⟩ = some (.int .i64 i) ∧ w'.cell? ⟨b, 5, none⟩ = some (.slice a nl.length c))) (by kernel_rfl) (unhide HD) (fun hHeld => ?_)
    refine wpAnyH_take (i := 0) (oi := { dst := some 4, op := Op.fieldAddr 61 (Operand.tmp 1) 0, type := 0, pos := "l05_model.go:116", after := #[], guard := none }) (v := .pointer (some ⟨b, 0, none⟩)) rfl (by kernel_rfl) (by kernel_rfl) (by kernel_rfl) (fun _ _ _ h => h) (Or.inl ⟨by rfl, ?_⟩) (by assumption) ?_
    · (intro w hSw; (try dsimp only at hSw); go_simp)
    try simp only [Act.put, List.setIfInBounds_toArray, List.set_cons_zero, List.set_cons_succ]
    refine wpAnyH_take (i := 1) (oi := { dst := some 5, op := Op.load 2 (Operand.tmp 4), type := 2, pos := "l05_model.go:116", after := #[{ on := 0, ground := Ground.data }], guard := none }) (v := .int .i64 k) rfl (by kernel_rfl) (by kernel_rfl) (by kernel_rfl) (fun _ _ _ h => h) (Or.inl ⟨by rfl, ?_⟩) (by assumption) ?_
    · (intro w hSw; (try dsimp only at hSw); go_simp)
    try simp only [Act.put, List.setIfInBounds_toArray, List.set_cons_zero, List.set_cons_succ]
    refine wpAnyH_ready (rs := [2]) (by kernel_rfl) (by simp) ?_
    refine AllReadyH.cons (o := { dst := some 6, op := Op.call { callee := Callee.value (Operand.func 35), args := #[Operand.tmp 5, Operand.const (Value.int IntKind.i64 1), Operand.const (Value.int IntKind.i64 8)], argTypes := #[2, 2, 2] }, type := 4, pos := "l05_model.go:116", after := #[{ on := 1, ground := Ground.data }], guard := none }) rfl (fun K hK => ?_) AllReadyH.nil
    go_simp
    refine (isWithinB_any _ _ _ _).mono ?_
    rintro r v1 ⟨rfl, hb5⟩
    rw [hin]
    refine hK.out _ _ (keepQ6 hbW hHeld hb5) (fun hHeld1 => ?_)
    clear hb5
    clear hHeld
    clear hK K
    try simp only [Act.put, List.setIfInBounds_toArray, List.set_cons_zero, List.set_cons_succ]
    refine wpAnyH_take (i := 3) (oi := { dst := some 7, op := Op.unOp UnOp.not 4 (Operand.tmp 6), type := 4, pos := "l05_model.go:116", after := #[{ on := 2, ground := Ground.data }], guard := none }) (v := .bool true) rfl (by kernel_rfl) (by kernel_rfl) (by kernel_rfl) (fun _ _ _ h => h) (Or.inl ⟨by rfl, ?_⟩) (by assumption) ?_
    · (intro w hSw; (try dsimp only at hSw); go_simp)
    try simp only [Act.put, List.setIfInBounds_toArray, List.set_cons_zero, List.set_cons_succ]
    refine wpAnyH_take (i := 4) (oi := { dst := some 8, op := Op.move (Operand.tmp 7), type := 4, pos := "l05_model.go:116", after := #[{ on := 3, ground := Ground.data }, { on := 2, ground := Ground.chain }], guard := none }) (v := .bool true) rfl (by kernel_rfl) (by kernel_rfl) (by kernel_rfl) (fun _ _ _ h => h) (Or.inl ⟨by rfl, ?_⟩) (by assumption) ?_
    · (intro w hSw; (try dsimp only at hSw); go_simp)
    try simp only [Act.put, List.setIfInBounds_toArray, List.set_cons_zero, List.set_cons_succ]
    refine wpAnyH_take (i := 5) (oi := { dst := some 9, op := Op.load 61 (Operand.tmp 1), type := 61, pos := "l05_model.go:116", after := #[{ on := 4, ground := Ground.guard }], guard := some (4, false) }) (v := undef) rfl (by kernel_rfl) (by kernel_rfl) (by kernel_rfl) (fun _ _ _ h => h) (Or.inr ⟨by rfl, rfl⟩) (by assumption) ?_
    try simp only [Act.put, List.setIfInBounds_toArray, List.set_cons_zero, List.set_cons_succ]
    refine wpAnyH_take (i := 6) (oi := { dst := some 10, op := Op.load 61 (Operand.tmp 1), type := 61, pos := "l05_model.go:116", after := #[{ on := 4, ground := Ground.guard }], guard := some (4, false) }) (v := undef) rfl (by kernel_rfl) (by kernel_rfl) (by kernel_rfl) (fun _ _ _ h => h) (Or.inr ⟨by rfl, rfl⟩) (by assumption) ?_
    try simp only [Act.put, List.setIfInBounds_toArray, List.set_cons_zero, List.set_cons_succ]
    refine wpAnyH_ready (rs := [7]) (by kernel_rfl) (by simp) ?_
    refine AllReadyH.cons (o := { dst := some 11, op := Op.call { callee := Callee.value (Operand.func 69), args := #[Operand.tmp 10], argTypes := #[61] }, type := 61, pos := "l05_model.go:116", after := #[{ on := 6, ground := Ground.data }, { on := 4, ground := Ground.chain }, { on := 4, ground := Ground.guard }], guard := some (4, false) }) rfl (fun K hK => ?_) AllReadyH.nil
    rw [if_neg (by first | exact Bool.false_ne_true | simp | decide)]
    refine hK.out _ _ (by assumption) (fun hHeld2 => ?_)
    clear hK K
    try simp only [Act.put, List.setIfInBounds_toArray, List.set_cons_zero, List.set_cons_succ]
    refine wpAnyH_ready (rs := [8]) (by kernel_rfl) (by simp) ?_
    refine AllReadyH.cons (o := { dst := some 12, op := Op.call { callee := Callee.value (Operand.func 67), args := #[Operand.tmp 9, Operand.tmp 11], argTypes := #[61, 61] }, type := 4, pos := "l05_model.go:116", after := #[{ on := 5, ground := Ground.data }, { on := 7, ground := Ground.data }, { on := 7, ground := Ground.chain }, { on := 4, ground := Ground.guard }], guard := some (4, false) }) rfl (fun K hK => ?_) AllReadyH.nil
    rw [if_neg (by first | exact Bool.false_ne_true | simp | decide)]
    refine hK.out _ _ (by assumption) (fun hHeld3 => ?_)
    clear hK K
    try simp only [Act.put, List.setIfInBounds_toArray, List.set_cons_zero, List.set_cons_succ]
    refine wpAnyH_take (i := 9) (oi := { dst := some 13, op := Op.unOp UnOp.not 4 (Operand.tmp 12), type := 4, pos := "l05_model.go:116", after := #[{ on := 8, ground := Ground.data }, { on := 4, ground := Ground.guard }], guard := some (4, false) }) (v := undef) rfl (by kernel_rfl) (by kernel_rfl) (by kernel_rfl) (fun _ _ _ h => h) (Or.inr ⟨by rfl, rfl⟩) (by assumption) ?_
    try simp only [Act.put, List.setIfInBounds_toArray, List.set_cons_zero, List.set_cons_succ]
    refine wpAnyH_take (i := 10) (oi := { dst := some 14, op := Op.pick (Operand.tmp 8) (Operand.const (Value.bool true)) (Operand.tmp 13), type := 4, pos := "l05_model.go:116", after := #[{ on := 4, ground := Ground.data }, { on := 9, ground := Ground.data }], guard := none }) (v := .bool true) rfl (by kernel_rfl) (by kernel_rfl) (by kernel_rfl) (fun _ _ _ h => h) (Or.inl ⟨by rfl, ?_⟩) (by assumption) ?_
    · (intro w hSw; (try dsimp only at hSw); go_simp)
    try simp only [Act.put, List.setIfInBounds_toArray, List.set_cons_zero, List.set_cons_succ]
    refine wpAnyH_done (by kernel_rfl) ?_ _
    go_wp2_with fail
    go_ret
    exact ⟨ret_int (unhide HV).symm, below_step (unhide HB0) hHeld3.1 (by omega)⟩
  have FI := hide (form_is (p := p) (t := t) (d := d) (i := i) (nl := nl) hin)
  cases hf : opForm k p t d i nl
  · have HV : Hid (opCode k p t d i nl = 1) := opCode_no hf
    go_enter Tryd.func50, Tryd.ntmps50
    go_wp2_with fail
    rw [unhide HBE, ← hW]
    clear hW
    go_region_held3 (fun w' => Below W.heap.size W w' ∧ w'.cell? ⟨b, 0, none⟩ = some (.int .i64 k) ∧ w'.cell? ⟨b, 1, none⟩ = some (.string p) ∧ w'.cell? ⟨b, 2, none⟩ = some (.string t) ∧ w'.cell? ⟨b, 3, none⟩ = some (.bool d) ∧ w'.cell? ⟨b, 4, none⟩ = some (.int .i64 i) ∧ w'.cell? ⟨b, 5, none⟩ = some (.slice a nl.length c)) (first | exact unhide HD | assumption | exact keepQ6 hbW (by assumption) (by assumption))
      (first
        | (go_at_call 35; refine (isWithin_any _ _ _ _).mono ?_; rintro r w5 ⟨rfl, rfl⟩; rw [hin])
        | (go_at_call 69; refine (neededOf_any k p t d i nl a c _ ((unhide H).below (And.left (by assumption))) hin).mono ?_; rintro r w5 ⟨⟨nb, ne, rfl, hni⟩, hb5⟩; have NI := hide hni; clear hni)
        | (go_at_call 67; refine (sameOp_any k i (nI k i) p t (nP k p) (nT k t) d (nD k d) nl (nN k nl) a nb c ne _ ((unhide H).below (And.left (by assumption))) (by first | exact unhide NI | exact (unhide NI).below (by assumption)) hn).mono ?_; rintro r w5 ⟨rfl, hb5⟩; rw [unhide FI, hf]))
    rename_i hSF
    obtain ⟨s0, c0, c1, c2, c3, c4, c5⟩ := hSF
    have S0 := hide s0
    have B0 := hide (below_step (unhide HB0) s0 (by omega))
    have zb := s0.size
    have zbb := Nat.lt_of_lt_of_le hbW zb
    clear s0 HD
    go_wp2_with fail
    go_ret
    exact ⟨ret_int (unhide HV).symm, unhide B0⟩
  have HT := hide (opCode_top hf)
  go_enter Tryd.func50, Tryd.ntmps50
  go_wp2_with fail
  rw [unhide HBE, ← hW]
  clear hW
  go_region_held3 (fun w' => Below W.heap.size W w' ∧ w'.cell? ⟨b, 0, none⟩ = some (.int .i64 k) ∧ w'.cell? ⟨b, 1, none⟩ = some (.string p) ∧ w'.cell? ⟨b, 2, none⟩ = some (.string t) ∧ w'.cell? ⟨b, 3, none⟩ = some (.bool d) ∧ w'.cell? ⟨b, 4, none⟩ = some (.int .i64 i) ∧ w'.cell? ⟨b, 5, none⟩ = some (.slice a nl.length c)) (first | exact unhide HD | assumption | exact keepQ6 hbW (by assumption) (by assumption))
    (first
      | (go_at_call 35; refine (isWithin_any _ _ _ _).mono ?_; rintro r w5 ⟨rfl, rfl⟩; rw [hin])
      | (go_at_call 69; refine (neededOf_any k p t d i nl a c _ ((unhide H).below (And.left (by assumption))) hin).mono ?_; rintro r w5 ⟨⟨nb, ne, rfl, hni⟩, hb5⟩; have NI := hide hni; clear hni)
      | (go_at_call 67; refine (sameOp_any k i (nI k i) p t (nP k p) (nT k t) d (nD k d) nl (nN k nl) a nb c ne _ ((unhide H).below (And.left (by assumption))) (by first | exact unhide NI | exact (unhide NI).below (by assumption)) hn).mono ?_; rintro r w5 ⟨rfl, hb5⟩; rw [unhide FI, hf]))
  rename_i hSF
  obtain ⟨s0, c0, c1, c2, c3, c4, c5⟩ := hSF
  have S0 := hide s0
  have B0 := hide (below_step (unhide HB0) s0 (by omega))
  have zb := s0.size
  have zbb := Nat.lt_of_lt_of_le hbW zb
  clear s0 HD
  clear hf FI
  go_wp2_with fail
  refine (pathsFault_any k p t d i nl.length a c m _ ((unhide HM).below (unhide S0)) hp ht).mono ?_
  rintro r w7 ⟨rfl, hb7⟩
  have I7 := hide (((unhide H).below (unhide S0)).below hb7)
  have B7 := hide (below_step (unhide B0) hb7 (by omega))
  have d0 := (hb7.cell (p := ⟨b, 0, none⟩) zbb).trans c0
  have d4 := (hb7.cell (p := ⟨b, 4, none⟩) zbb).trans c4
  have d5 := (hb7.cell (p := ⟨b, 5, none⟩) zbb).trans c5
  clear hb7 c0 c1 c2 c3 c4 c5 S0 B0 zb zbb
  by_cases hpc : pathsCode k p t = 0
  case neg =>
    have hpb := neq_true hpc
    have HV : Hid (opCode k p t d i nl = pathsCode k p t) := by rw [Hid, unhide HT, or0_left hpc]
    clear hpc HT
    go_wp2_with fail
    go_ret
    exact ⟨ret_int (unhide HV).symm, unhide B7⟩
  have hpb := neq_false hpc
  have HT2 : Hid (opCode k p t d i nl = if inB i 0 (topI k) = true then (if k = 2 then numsCode nl else 0) else 3) := by rw [Hid, unhide HT, or0_right hpc]
  clear hpc HT
  cases hx : inB i 0 (topI k)
  · have HV : Hid (opCode k p t d i nl = 3) := by rw [Hid, unhide HT2, hx]; rfl
    clear HT2
    go_wp2_with fail
    go_quiet (first | (go_at_call 71; exact Calls.quiet_of_same (topIndex_any _ _)) | (go_at_call 35; exact Calls.quiet_of_same (isWithin_any _ _ _ _)))
    go_wp2_with fail
    go_ret
    exact ⟨ret_int (unhide HV).symm, below_drewN (unhide B7) _⟩
  have HT3 : Hid (opCode k p t d i nl = if k = 2 then numsCode nl else 0) := by rw [Hid, unhide HT2, hx]; rfl
  clear HT2
  by_cases h2 : k = 2
  · subst h2
    have HV : Hid (opCode 2 p t d i nl = numsCode nl) := by rw [Hid, unhide HT3, if_pos rfl]
    clear HT3
    go_wp2_with fail
    go_quiet (first | (go_at_call 71; exact Calls.quiet_of_same (topIndex_any _ _)) | (go_at_call 35; exact Calls.quiet_of_same (isWithin_any _ _ _ _)))
    go_wp2_with fail
    refine (implNumbersFault_any a c nl _ ((unhide I7).below (below_drewN (Below.refl _ _) _)) hn).mono ?_
    rintro r w9 ⟨rfl, rfl⟩
    go_wp2_with fail
    go_ret
    exact ⟨ret_int (unhide HV).symm, below_drewN (unhide B7) _⟩
  have h2b : (k == 2) = false := by simpa using h2
  have HV : Hid (opCode k p t d i nl = 0) := by rw [Hid, unhide HT3, if_neg h2]
  clear HT3 h2
  go_wp2_with fail
  go_quiet (first | (go_at_call 71; exact Calls.quiet_of_same (topIndex_any _ _)) | (go_at_call 35; exact Calls.quiet_of_same (isWithin_any _ _ _ _)))
  go_wp2_with fail
  go_ret
  exact ⟨ret_int (unhide HV).symm, below_drewN (unhide B7) _⟩
end Go.Proofs.YtcmekhpphgkglaaDoor
