/-
  What laws.eqItemS answers of the same records.
-/
import Derived.Test.YtcmekhpphgkglaaDoorItemSpec
import Derived.Test.YtcmekhpphgkglaaDoorDevEq
namespace Go.Proofs.YtcmekhpphgkglaaDoor
open Go.RowKit
set_option linter.unusedVariables false

set_option maxRecDepth 20000 in
set_option maxHeartbeats 2000000 in
theorem eqItem_same (p : ByteArray) (d : Bool) (a b : Option Addr) (c e : Nat) (l : List Int) (w : World) (h : IntsAt w a l) (h2 : IntsAt w b l) (hn : l.length ≤ 1048576) :
    Calls Tryd.prog 23 #[.agg #[.string p, .bool d, .slice a l.length c], .agg #[.string p, .bool d, .slice b l.length e]] w fun r w' => r = .returned (.bool true) ∧ Below w.heap.size w w' := by
  obtain ⟨W, hW, hWz, HB0, HX0, HY0⟩ := boxes2 w [.string p, .bool d, .slice a l.length c] [.string p, .bool d, .slice b l.length e] 42 42
  have H := hide (h.below (unhide HB0))
  have H2 := hide (h2.below (unhide HB0))
  clear h h2
  have hpp : (p.toList == p.toList) = true := by simp
  have hdd : (d == d) = true := by simp
  go_enter Tryd.func23, Tryd.ntmps23
  go_wp2_with fail
  rw [← hW]
  clear hW
  refine (eqInt64S_same a b c e l _ (unhide H) (unhide H2) hn).mono ?_
  rintro r w3 ⟨rfl, hb3⟩
  have B3 := hide (below_step (unhide HB0) hb3 (by omega))
  clear hb3
  go_wp2_with fail
  go_ret
  exact ⟨rfl, unhide B3⟩
set_option maxRecDepth 20000 in
set_option maxHeartbeats 2000000 in
theorem eqItemS_same (a b : Option Addr) (c d : Nat) (L M : List ItmA) (w : World) (h : ItmsAt w a L) (h2 : ItmsAt w b M) (hn : L.length ≤ 1048576) (hs : L.map ItmA.b = M.map ItmA.b) :
    Calls Tryd.prog 9 #[.slice a L.length c, .slice b M.length d] w fun r w' => r = .returned (.bool true) ∧ Below w.heap.size w w' := by
  have hlm : L.length = M.length := by simpa using congrArg List.length hs
  have hlb : ((L.length : Int) != (M.length : Int)) = false := by simp; omega
  have HL := hide hlm
  have HSS := hide hs
  clear hlm hs
  go_enter Tryd.func9, Tryd.ntmps9
  go_wp2
  go_loopw [5] (fun i wr => ∃ k : Nat, k ≤ L.length ∧ i = .int .i64 k ∧ Hid (Below w.heap.size w wr)) (fun i _ => L.length - (intOf i).toNat)
  case atStart => exact ⟨0, Nat.zero_le _, rfl, Below.refl _ _⟩
  case round =>
    obtain ⟨k, hk, rfl, HB⟩ := hrel
    by_cases hlt : k < L.length
    · have hlt2 : k < M.length := by have := unhide HL; omega
      have hxy : L[k].b = M[k].b := by
        have := congrArg (fun l => l[k]?) (unhide HSS)
        simpa [hlt, hlt2] using this
      obtain ⟨b1, o1, rfl, hb1, hc1⟩ := h.at hlt
      obtain ⟨b2, o2, rfl, hb2, hc2⟩ := h2.at hlt2
      have hbw := unhide HB
      have hx := hc1 k hlt
      have hy := hc2 k hlt2
      generalize L[k] = x at *
      generalize M[k] = y at *
      have I1 := hide (hx.2.1.keep hbw.size fun _ _ hl => hbw.block _ hl)
      have I2 : Hid (IntsAt wr y.a x.b.l) := by rw [hxy]; exact hy.2.1.keep hbw.size fun _ _ hl => hbw.block _ hl
      have hnl := hx.2.2
      have z0 := hbw.size
      have zb1 : b1 < wr.heap.size := by omega
      have zb2 : b2 < wr.heap.size := by omega
      have x0 : wr.cell? ⟨b1, o1 + k * 3, none⟩ = some (.string x.b.p) := (hbw.cell (p := ⟨b1, o1 + k * 3, none⟩) hb1).trans (hx.1 0 _ rfl)
      have x1 : wr.cell? ⟨b1, o1 + k * 3 + 1, none⟩ = some (.bool x.b.d) := (hbw.cell (p := ⟨b1, o1 + k * 3 + 1, none⟩) hb1).trans (hx.1 1 _ rfl)
      have x2 : wr.cell? ⟨b1, o1 + k * 3 + 2, none⟩ = some (.slice x.a x.b.l.length x.c) := (hbw.cell (p := ⟨b1, o1 + k * 3 + 2, none⟩) hb1).trans (hx.1 2 _ rfl)
      have y0 : wr.cell? ⟨b2, o2 + k * 3, none⟩ = some (.string x.b.p) := (hbw.cell (p := ⟨b2, o2 + k * 3, none⟩) hb2).trans (by rw [hxy]; exact hy.1 0 _ rfl)
      have y1 : wr.cell? ⟨b2, o2 + k * 3 + 1, none⟩ = some (.bool x.b.d) := (hbw.cell (p := ⟨b2, o2 + k * 3 + 1, none⟩) hb2).trans (by rw [hxy]; exact hy.1 1 _ rfl)
      have y2 : wr.cell? ⟨b2, o2 + k * 3 + 2, none⟩ = some (.slice y.a x.b.l.length y.c) := (hbw.cell (p := ⟨b2, o2 + k * 3 + 2, none⟩) hb2).trans (by rw [hxy]; exact hy.1 2 _ rfl)
      clear hc1 hc2 hx hy h h2 hbw hxy
      have hD : (fun w' => Below wr.heap.size wr w' ∧ w'.cell? ⟨b1, o1 + k * 3, none⟩ = some (.string x.b.p) ∧ w'.cell? ⟨b1, o1 + k * 3 + 1, none⟩ = some (.bool x.b.d) ∧ w'.cell? ⟨b1, o1 + k * 3 + 2, none⟩ = some (.slice x.a x.b.l.length x.c) ∧ w'.cell? ⟨b2, o2 + k * 3, none⟩ = some (.string x.b.p) ∧ w'.cell? ⟨b2, o2 + k * 3 + 1, none⟩ = some (.bool x.b.d) ∧ w'.cell? ⟨b2, o2 + k * 3 + 2, none⟩ = some (.slice y.a x.b.l.length y.c)) wr.drew := ⟨(Below.refl _ _).drew, x0, x1, x2, y0, y1, y2⟩
      have HD := hide hD
      clear hD x0 x1 x2 y0 y1 y2
      go_wp2_with fail
      go_region_held3 (fun w' => Below wr.heap.size wr w' ∧ w'.cell? ⟨b1, o1 + k * 3, none⟩ = some (.string x.b.p) ∧ w'.cell? ⟨b1, o1 + k * 3 + 1, none⟩ = some (.bool x.b.d) ∧ w'.cell? ⟨b1, o1 + k * 3 + 2, none⟩ = some (.slice x.a x.b.l.length x.c) ∧ w'.cell? ⟨b2, o2 + k * 3, none⟩ = some (.string x.b.p) ∧ w'.cell? ⟨b2, o2 + k * 3 + 1, none⟩ = some (.bool x.b.d) ∧ w'.cell? ⟨b2, o2 + k * 3 + 2, none⟩ = some (.slice y.a x.b.l.length y.c)) (first | exact unhide HD | assumption | exact keepC6 zb1 zb1 zb1 zb2 zb2 zb2 (by assumption) (by assumption))
        (first
          | (go_at_call 23; refine (eqItem_same _ _ x.a y.a x.c y.c x.b.l _ ((unhide I1).below (And.left (by assumption))) ((unhide I2).below (And.left (by assumption))) hnl).mono ?_; rintro r w5 ⟨rfl, hb5⟩))
      rename_i hSF
      have B5 := hide (below_step (unhide HB) hSF.1 z0)
      clear hSF HD hb5
      go_wp2_with fail
      exact ⟨⟨k + 1, by omega, by go_num, B5⟩, by simp [intOf]; omega⟩
    · go_wp2_with fail
      go_ret
      exact ⟨rfl, unhide HB⟩
end Go.Proofs.YtcmekhpphgkglaaDoor
