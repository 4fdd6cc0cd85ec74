/-
  What spec.SameNotes answers.
-/
import Derived.Test.YtdnfadbkpajloaaQSame
namespace Go.Proofs.Ytdnfadbkpajloaa
open Go.RowKit
set_option linter.unusedVariables false

set_option maxRecDepth 20000 in
set_option maxHeartbeats 4000000 in
theorem specSameNotes_any (a b : Option Addr) (c d : Nat) (L M : List NteA) (w : World) (h : NtesAt w a L) (h2 : NtesAt w b M) (hn : L.length ≤ 1048576) (hm : M.length ≤ 1048576) :
    Calls Try.prog 59 #[.slice a L.length c, .slice b M.length d] w fun r w' => r = .returned (.bool (sameNtes L M)) ∧ Below w.heap.size w w' := by
  by_cases hl : L.length = M.length
  · have hlb : ((L.length : Int) != (M.length : Int)) = false := by simp; omega
    have HL := hide hl
    clear hl
    go_enter Try.func59, Try.ntmps59
    go_wp2
    go_loopw [5] (fun i wr => ∃ k : Nat, k ≤ L.length ∧ i = .int .i64 k ∧ Hid (Below w.heap.size w wr) ∧ Hid (sameNtes L M = sameNtes (L.drop k) (M.drop k))) (fun i _ => L.length - (intOf i).toNat)
    case atStart => exact ⟨0, Nat.zero_le _, rfl, Below.refl _ _, by simp [Hid]⟩
    case round =>
      obtain ⟨k, hk, rfl, HB, HX⟩ := hrel
      by_cases hlt : k < L.length
      · have hlt2 : k < M.length := by have := unhide HL; omega
        have hst := sameNtes_drop hlt hlt2
        obtain ⟨b1, o1, rfl, hb1, hc1⟩ := h.at hlt
        obtain ⟨b2, o2, rfl, hb2, hc2⟩ := h2.at hlt2
        have hbw := unhide HB
        have hx := hc1 k hlt
        have hy := hc2 k hlt2
        generalize L[k] = x at *
        generalize M[k] = y at *
        have I1 := hide (hx.2.1.below hbw)
        have I2 := hide (hy.2.1.below hbw)
        have SM := hide hx.2.2
        have z0 := hbw.size
        have zb1 : b1 < wr.heap.size := by omega
        have zb2 : b2 < wr.heap.size := by omega
        have x0 : wr.cell? ⟨b1, o1 + k * 12, none⟩ = some (.int .i64 x.b.k) := (hbw.cell (p := ⟨b1, o1 + k * 12, none⟩) hb1).trans (hx.1 0 _ rfl)
        have x1 : wr.cell? ⟨b1, o1 + k * 12 + 1, none⟩ = some (.int .i64 x.b.wo) := (hbw.cell (p := ⟨b1, o1 + k * 12 + 1, none⟩) hb1).trans (hx.1 1 _ rfl)
        have x2 : wr.cell? ⟨b1, o1 + k * 12 + 2, none⟩ = some (.int .i64 x.b.e) := (hbw.cell (p := ⟨b1, o1 + k * 12 + 2, none⟩) hb1).trans (hx.1 2 _ rfl)
        have x3 : wr.cell? ⟨b1, o1 + k * 12 + 3, none⟩ = some (.int .i64 x.b.ok) := (hbw.cell (p := ⟨b1, o1 + k * 12 + 3, none⟩) hb1).trans (hx.1 3 _ rfl)
        have x4 : wr.cell? ⟨b1, o1 + k * 12 + 4, none⟩ = some (.string x.b.op) := (hbw.cell (p := ⟨b1, o1 + k * 12 + 4, none⟩) hb1).trans (hx.1 4 _ rfl)
        have x5 : wr.cell? ⟨b1, o1 + k * 12 + 5, none⟩ = some (.string x.b.ot) := (hbw.cell (p := ⟨b1, o1 + k * 12 + 5, none⟩) hb1).trans (hx.1 5 _ rfl)
        have x6 : wr.cell? ⟨b1, o1 + k * 12 + 6, none⟩ = some (.bool x.b.od) := (hbw.cell (p := ⟨b1, o1 + k * 12 + 6, none⟩) hb1).trans (hx.1 6 _ rfl)
        have x7 : wr.cell? ⟨b1, o1 + k * 12 + 7, none⟩ = some (.int .i64 x.b.oi) := (hbw.cell (p := ⟨b1, o1 + k * 12 + 7, none⟩) hb1).trans (hx.1 7 _ rfl)
        have x8 : wr.cell? ⟨b1, o1 + k * 12 + 8, none⟩ = some (.slice x.a1 x.b.on.length x.c1) := (hbw.cell (p := ⟨b1, o1 + k * 12 + 8, none⟩) hb1).trans (hx.1 8 _ rfl)
        have x9 : wr.cell? ⟨b1, o1 + k * 12 + 9, none⟩ = some (.int .i64 x.b.rc) := (hbw.cell (p := ⟨b1, o1 + k * 12 + 9, none⟩) hb1).trans (hx.1 9 _ rfl)
        have x10 : wr.cell? ⟨b1, o1 + k * 12 + 10, none⟩ = some (.slice x.a2 x.b.rn.length x.c2) := (hbw.cell (p := ⟨b1, o1 + k * 12 + 10, none⟩) hb1).trans (hx.1 10 _ rfl)
        have x11 : wr.cell? ⟨b1, o1 + k * 12 + 11, none⟩ = some (.slice x.a3 x.b.rs.length x.c3) := (hbw.cell (p := ⟨b1, o1 + k * 12 + 11, none⟩) hb1).trans (hx.1 11 _ rfl)
        have y0 : wr.cell? ⟨b2, o2 + k * 12, none⟩ = some (.int .i64 y.b.k) := (hbw.cell (p := ⟨b2, o2 + k * 12, none⟩) hb2).trans (hy.1 0 _ rfl)
        have y1 : wr.cell? ⟨b2, o2 + k * 12 + 1, none⟩ = some (.int .i64 y.b.wo) := (hbw.cell (p := ⟨b2, o2 + k * 12 + 1, none⟩) hb2).trans (hy.1 1 _ rfl)
        have y2 : wr.cell? ⟨b2, o2 + k * 12 + 2, none⟩ = some (.int .i64 y.b.e) := (hbw.cell (p := ⟨b2, o2 + k * 12 + 2, none⟩) hb2).trans (hy.1 2 _ rfl)
        have y3 : wr.cell? ⟨b2, o2 + k * 12 + 3, none⟩ = some (.int .i64 y.b.ok) := (hbw.cell (p := ⟨b2, o2 + k * 12 + 3, none⟩) hb2).trans (hy.1 3 _ rfl)
        have y4 : wr.cell? ⟨b2, o2 + k * 12 + 4, none⟩ = some (.string y.b.op) := (hbw.cell (p := ⟨b2, o2 + k * 12 + 4, none⟩) hb2).trans (hy.1 4 _ rfl)
        have y5 : wr.cell? ⟨b2, o2 + k * 12 + 5, none⟩ = some (.string y.b.ot) := (hbw.cell (p := ⟨b2, o2 + k * 12 + 5, none⟩) hb2).trans (hy.1 5 _ rfl)
        have y6 : wr.cell? ⟨b2, o2 + k * 12 + 6, none⟩ = some (.bool y.b.od) := (hbw.cell (p := ⟨b2, o2 + k * 12 + 6, none⟩) hb2).trans (hy.1 6 _ rfl)
        have y7 : wr.cell? ⟨b2, o2 + k * 12 + 7, none⟩ = some (.int .i64 y.b.oi) := (hbw.cell (p := ⟨b2, o2 + k * 12 + 7, none⟩) hb2).trans (hy.1 7 _ rfl)
        have y8 : wr.cell? ⟨b2, o2 + k * 12 + 8, none⟩ = some (.slice y.a1 y.b.on.length y.c1) := (hbw.cell (p := ⟨b2, o2 + k * 12 + 8, none⟩) hb2).trans (hy.1 8 _ rfl)
        have y9 : wr.cell? ⟨b2, o2 + k * 12 + 9, none⟩ = some (.int .i64 y.b.rc) := (hbw.cell (p := ⟨b2, o2 + k * 12 + 9, none⟩) hb2).trans (hy.1 9 _ rfl)
        have y10 : wr.cell? ⟨b2, o2 + k * 12 + 10, none⟩ = some (.slice y.a2 y.b.rn.length y.c2) := (hbw.cell (p := ⟨b2, o2 + k * 12 + 10, none⟩) hb2).trans (hy.1 10 _ rfl)
        have y11 : wr.cell? ⟨b2, o2 + k * 12 + 11, none⟩ = some (.slice y.a3 y.b.rs.length y.c3) := (hbw.cell (p := ⟨b2, o2 + k * 12 + 11, none⟩) hb2).trans (hy.1 11 _ rfl)
        have HST := hide ((unhide HX).trans hst)
        clear hst hc1 hc2 hx hy h h2 hbw
        have hsb : sameNte x.b y.b = ((x.b.k == y.b.k) && (x.b.wo == y.b.wo) && (x.b.e == y.b.e) && (sameO x.b.ok y.b.ok x.b.op y.b.op x.b.ot y.b.ot x.b.od y.b.od x.b.oi y.b.oi x.b.on y.b.on) && (x.b.rc == y.b.rc) && decide (x.b.rn = y.b.rn) && decide (x.b.rs = y.b.rs)) := rfl
        generalize sameNte x.b y.b = vs at *
        have HSB := hide hsb
        clear hsb
        cases hb0 : (x.b.k == y.b.k)
        · have HV : Hid (sameNtes L M = false) := by rw [Hid, unhide HST, unhide HSB, hb0]; simp
          have hm0 : (x.b.k != y.b.k) = true := by rw [bne, hb0]; rfl
          go_wp2_with fail
          try simp only [List.append_eq, List.cons_append, List.nil_append]
          go_quiet (fail)
          all_goals
            go_wp2_with fail
            go_ret
            exact ⟨ret_bool (unhide HV).symm, below_drewN (unhide HB) _⟩
        cases hb1 : (x.b.wo == y.b.wo)
        · have HV : Hid (sameNtes L M = false) := by rw [Hid, unhide HST, unhide HSB, hb0, hb1]; simp
          have hm0 : (x.b.k != y.b.k) = false := by rw [bne, hb0]; rfl
          have hm1 : (x.b.wo != y.b.wo) = true := by rw [bne, hb1]; rfl
          go_wp2_with fail
          try simp only [List.append_eq, List.cons_append, List.nil_append]
          go_quiet (fail)
          all_goals
            go_wp2_with fail
            go_ret
            exact ⟨ret_bool (unhide HV).symm, below_drewN (unhide HB) _⟩
        cases hb2 : (x.b.e == y.b.e)
        · have HV : Hid (sameNtes L M = false) := by rw [Hid, unhide HST, unhide HSB, hb0, hb1, hb2]; simp
          have hm0 : (x.b.k != y.b.k) = false := by rw [bne, hb0]; rfl
          have hm1 : (x.b.wo != y.b.wo) = false := by rw [bne, hb1]; rfl
          have hm2 : (x.b.e != y.b.e) = true := by rw [bne, hb2]; rfl
          go_wp2_with fail
          try simp only [List.append_eq, List.cons_append, List.nil_append]
          go_quiet (fail)
          all_goals
            go_wp2_with fail
            go_ret
            exact ⟨ret_bool (unhide HV).symm, below_drewN (unhide HB) _⟩
        have hm0 : (x.b.k != y.b.k) = false := by rw [bne, hb0]; rfl
        have hm1 : (x.b.wo != y.b.wo) = false := by rw [bne, hb1]; rfl
        have hm2 : (x.b.e != y.b.e) = false := by rw [bne, hb2]; rfl
        have HSC : Hid (vs = ((sameO x.b.ok y.b.ok x.b.op y.b.op x.b.ot y.b.ot x.b.od y.b.od x.b.oi y.b.oi x.b.on y.b.on) && (x.b.rc == y.b.rc) && decide (x.b.rn = y.b.rn) && decide (x.b.rs = y.b.rs))) := by rw [Hid, unhide HSB, hb0, hb1, hb2]; simp
        clear HSB hb0 hb1 hb2
        have HCO : Hid (∀ n, Calls Try.prog 126 #[.pointer (some ⟨b1, o1 + k * 12 + 3, none⟩), .pointer (some ⟨b2, o2 + k * 12 + 3, none⟩)] (wr.drewN n) fun r w' => r = .returned (.bool (sameO x.b.ok y.b.ok x.b.op y.b.op x.b.ot y.b.ot x.b.od y.b.od x.b.oi y.b.oi x.b.on y.b.on)) ∧ Drawn (wr.drewN n) w') := fun n => l7SameOpsQ_any b1 (o1 + k * 12 + 3) b2 (o2 + k * 12 + 3) x.b.ok y.b.ok x.b.op y.b.op x.b.ot y.b.ot x.b.od y.b.od x.b.oi y.b.oi x.b.on y.b.on x.a1 y.a1 x.c1 y.c1 _ x3 x4 x5 x6 x7 x8 y3 y4 y5 y6 y7 y8 ((unhide I1).below (below_drewN (Below.refl _ _) _)).1 ((unhide I2).below (below_drewN (Below.refl _ _) _)).1 (unhide SM).1
        have HCN : Hid (∀ n, Calls Try.prog 101 #[.slice x.a2 x.b.rn.length x.c2, .slice y.a2 y.b.rn.length y.c2] (wr.drewN n) fun r w' => r = .returned (.bool (decide (x.b.rn = y.b.rn))) ∧ Drawn (wr.drewN n) w') := fun n => l1SameQ_any x.a2 y.a2 x.c2 y.c2 x.b.rn y.b.rn _ ((unhide I1).below (below_drewN (Below.refl _ _) _)).2.1 ((unhide I2).below (below_drewN (Below.refl _ _) _)).2.1 (unhide SM).2.1
        have HCT : Hid (∀ n, Calls Try.prog 127 #[.slice x.a3 x.b.rs.length x.c3, .slice y.a3 y.b.rs.length y.c3] (wr.drewN n) fun r w' => r = .returned (.bool (decide (x.b.rs = y.b.rs))) ∧ Drawn (wr.drewN n) w') := fun n => l7SameTextsQ_any x.a3 y.a3 x.c3 y.c3 x.b.rs y.b.rs _ ((unhide I1).below (below_drewN (Below.refl _ _) _)).2.2 ((unhide I2).below (below_drewN (Below.refl _ _) _)).2.2 (unhide SM).2.2
        generalize sameO x.b.ok y.b.ok x.b.op y.b.op x.b.ot y.b.ot x.b.od y.b.od x.b.oi y.b.oi x.b.on y.b.on = bo at HSC HCO
        generalize decide (x.b.rn = y.b.rn) = bn at HSC HCN
        generalize decide (x.b.rs = y.b.rs) = bt at HSC HCT
        clear SM I1 I2
        cases bo
        · as_aux_lemma =>
            have HV : Hid (sameNtes L M = false) := by rw [Hid, unhide HST, unhide HSC]; simp
            go_wp2_with fail
            try simp only [List.append_eq, List.cons_append, List.nil_append]
            go_quiet (first | (go_at_call 126; exact Calls.quiet_of (unhide HCO _)) | (go_at_call 101; exact Calls.quiet_of (unhide HCN _)) | (go_at_call 127; exact Calls.quiet_of (unhide HCT _)))
            go_wp2_with fail
            go_ret
            exact ⟨ret_bool (unhide HV).symm, below_drewN (unhide HB) _⟩
        cases hb9 : (x.b.rc == y.b.rc)
        · as_aux_lemma =>
            have HV : Hid (sameNtes L M = false) := by rw [Hid, unhide HST, unhide HSC, hb9]; simp
            have hm9 : (x.b.rc != y.b.rc) = true := by rw [bne, hb9]; rfl
            go_wp2_with fail
            try simp only [List.append_eq, List.cons_append, List.nil_append]
            go_quiet (first | (go_at_call 126; exact Calls.quiet_of (unhide HCO _)) | (go_at_call 101; exact Calls.quiet_of (unhide HCN _)) | (go_at_call 127; exact Calls.quiet_of (unhide HCT _)))
            go_wp2_with fail
            go_ret
            exact ⟨ret_bool (unhide HV).symm, below_drewN (unhide HB) _⟩
        have hm9 : (x.b.rc != y.b.rc) = false := by rw [bne, hb9]; rfl
        cases bn
        · as_aux_lemma =>
            have HV : Hid (sameNtes L M = false) := by rw [Hid, unhide HST, unhide HSC]; simp
            go_wp2_with fail
            try simp only [List.append_eq, List.cons_append, List.nil_append]
            go_quiet (first | (go_at_call 126; exact Calls.quiet_of (unhide HCO _)) | (go_at_call 101; exact Calls.quiet_of (unhide HCN _)) | (go_at_call 127; exact Calls.quiet_of (unhide HCT _)))
            go_wp2_with fail
            go_ret
            exact ⟨ret_bool (unhide HV).symm, below_drewN (unhide HB) _⟩
        cases bt
        · as_aux_lemma =>
            have HV : Hid (sameNtes L M = false) := by rw [Hid, unhide HST, unhide HSC, hb9]; simp
            go_wp2_with fail
            try simp only [List.append_eq, List.cons_append, List.nil_append]
            go_quiet (first | (go_at_call 126; exact Calls.quiet_of (unhide HCO _)) | (go_at_call 101; exact Calls.quiet_of (unhide HCN _)) | (go_at_call 127; exact Calls.quiet_of (unhide HCT _)))
            go_wp2_with fail
            go_ret
            exact ⟨ret_bool (unhide HV).symm, below_drewN (unhide HB) _⟩
        have HV : Hid (sameNtes L M = sameNtes (L.drop (k + 1)) (M.drop (k + 1))) := by rw [Hid, unhide HST, unhide HSC, hb9]; rfl
        go_wp2_with fail
        try simp only [List.append_eq, List.cons_append, List.nil_append]
        go_quiet (first | (go_at_call 126; exact Calls.quiet_of (unhide HCO _)) | (go_at_call 101; exact Calls.quiet_of (unhide HCN _)) | (go_at_call 127; exact Calls.quiet_of (unhide HCT _)))
        go_wp2_with fail
        go_roundw
        case rel => exact ⟨k + 1, by omega, by go_num, below_drewN (unhide HB) _, HV⟩
        case measure => simp [intOf]; omega
      · have HV : Hid (sameNtes L M = true) := by
          have hle := unhide HL
          rw [Hid, unhide HX, List.drop_of_length_le (by omega), List.drop_of_length_le (by omega)]; rfl
        go_wp2_with fail
        go_ret
        exact ⟨ret_bool (unhide HV).symm, unhide HB⟩
  · have hlb : ((L.length : Int) != (M.length : Int)) = true := by simp; omega
    have HV := hide (sameNtes_len hl)
    clear hl
    go_enter Try.func59, Try.ntmps59
    go_wp2
    go_ret
    exact ⟨ret_bool (unhide HV).symm, Below.refl _ _⟩
end Go.Proofs.Ytdnfadbkpajloaa
