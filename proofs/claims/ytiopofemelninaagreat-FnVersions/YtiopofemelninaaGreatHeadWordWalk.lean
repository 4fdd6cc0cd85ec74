/-
  What the functions between a head and its word answer.
-/
import Derived.Test.YtiopofemelninaaGreatHeadFaultWalk
import Derived.Test.YtiopofemelninaaGreatFlt
import Derived.BigQuiet
import Derived.Deep.QuietTactic
namespace Go.Proofs.YtiopofemelninaaGreat
open Go.RowKit

/-- The word of a head. -/
def headWordI (k u i e : Int) : Int := k + 4 * (i + 4 * (u + 1000 * e))

set_option maxHeartbeats 1000000 in
theorem l1HeadWord_any (b : Nat) (k u i e : Int) (w : World) (hok : headOk k u i e = true)
    (c0 : w.cell? ⟨b, 0, none⟩ = some (.int .i64 k)) (c1 : w.cell? ⟨b, 1, none⟩ = some (.int .i64 u)) (c2 : w.cell? ⟨b, 2, none⟩ = some (.int .i64 i)) (c3 : w.cell? ⟨b, 3, none⟩ = some (.int .i64 e)) :
    Calls Tryz.prog 101 #[.pointer (some ⟨b, 0, none⟩)] w fun r w' => r = .returned (.int .i64 (headWordI k u i e)) ∧ ∃ n, w' = w.drewN n := by
  obtain ⟨b1, b2, b3, b4, b5, b6, b7, b8⟩ := headOk_bounds hok
  clear hok
  go_enter Tryz.func101, Tryz.ntmps101
  go_wp2
  go_quiet (fail)
  go_wp2
  go_ret
  exact ⟨ret_int (by unfold headWordI; omega), _, rfl⟩

/-- The mark of a head: what it is, and when. -/
def markV (a b : Int) : Value := .complex .f64 (FloatKind.f64.nearest a) (FloatKind.f64.nearest b)

theorem back (n : Int) (h0 : 0 ≤ n) (h1 : n < 9007199254740992) : floatToIntVal .f64 (FloatKind.f64.nearest n) .i64 = some n := by
  obtain ⟨m, rfl⟩ := Int.eq_ofNat_of_zero_le h0
  exact Flt.back_small m (by omega)

set_option maxHeartbeats 1000000 in
theorem headMark_any (k u i e : Int) (w : World) (hok : headOk k u i e = true) :
    Calls Tryz.prog 145 #[.agg #[.int .i64 k, .int .i64 u, .int .i64 i, .int .i64 e]] w fun r w' => r = .returned (markV (k + 4 * (i + 4 * u)) e) ∧ Below w.heap.size w w' := by
  obtain ⟨b1, b2, b3, b4, b5, b6, b7, b8⟩ := headOk_bounds hok
  clear hok
  go_enter Tryz.func145, Tryz.ntmps145
  go_wp2
  go_ret
  exact ⟨rfl, (Below.refl _ _).alloc (Nat.le_refl _) _⟩
set_option maxHeartbeats 1000000 in
theorem markWord_any (a b : Int) (w : World) (h1 : 0 ≤ a) (h2 : a ≤ 16000) (h3 : 0 ≤ b) (h4 : b ≤ 9999) :
    Calls Tryz.prog 144 #[markV a b] w fun r w' => r = .returned (.int .i64 (a + 16000 * b)) ∧ w' = w := by
  have x0 := back a h1 (by omega)
  have y0 := back b h3 (by omega)
  unfold markV
  generalize FloatKind.f64.nearest a = x at *
  generalize FloatKind.f64.nearest b = y at *
  have hx := fun src dst w hs hd => run_convert_float_int (P := Tryz.prog) w src dst .f64 .i64 x a hs hd x0
  have hy := fun src dst w hs hd => run_convert_float_int (P := Tryz.prog) w src dst .f64 .i64 y b hs hd y0
  clear x0 y0
  go_enter Tryz.func144, Tryz.ntmps144
  go_wp2
  go_ret
  exact ⟨rfl, rfl⟩
set_option maxHeartbeats 1000000 in
theorem wordMark_any (n : Int) (w : World) (h1 : 0 ≤ n) (h2 : n ≤ 159999999) :
    Calls Tryz.prog 104 #[.int .i64 n] w fun r w' => r = .returned (markV (n % 16000) (n / 16000)) ∧ w' = w := by
  go_enter Tryz.func104, Tryz.ntmps104
  go_wp2
  go_ret
  exact ⟨rfl, rfl⟩
set_option maxHeartbeats 1000000 in
theorem markHead_any (a b : Int) (w : World) (h1 : 0 ≤ a) (h2 : a ≤ 16000) (h3 : 0 ≤ b) (h4 : b ≤ 9999) :
    Calls Tryz.prog 103 #[markV a b] w fun r w' => r = .returned (.agg #[.int .i64 (a % 4), .int .i64 (a / 16), .int .i64 (a / 4 % 4), .int .i64 b]) ∧ Below w.heap.size w w' := by
  have x0 := back a h1 (by omega)
  have y0 := back b h3 (by omega)
  unfold markV
  generalize FloatKind.f64.nearest a = x at *
  generalize FloatKind.f64.nearest b = y at *
  have hx := fun src dst w hs hd => run_convert_float_int (P := Tryz.prog) w src dst .f64 .i64 x a hs hd x0
  have hy := fun src dst w hs hd => run_convert_float_int (P := Tryz.prog) w src dst .f64 .i64 y b hs hd y0
  clear x0 y0
  go_enter Tryz.func103, Tryz.ntmps103
  go_wp2
  refine bodyPost_ret (v := .agg #[.int .i64 (a % 4), .int .i64 (a / 16), .int .i64 (a / 4 % 4), .int .i64 b]) (by simp [results, Tryz.results103, go_sem]) rfl ⟨rfl, ?_⟩
  repeat (first | exact Below.refl _ _ | refine Below.alloc ?_ (by simp <;> omega) _)
/-- What HeadWord tells. -/
def hwVal (k u i e : Int) : Value := .agg #[.int .i64 (headCode k u i e), .int .i64 (if headOk k u i e = true then headWordI k u i e else 0)]


set_option maxHeartbeats 1000000 in
theorem implHeadWord_any (k u i e : Int) (w : World) :
    Calls Tryz.prog 131 #[.agg #[.int .i64 k, .int .i64 u, .int .i64 i, .int .i64 e]] w fun r w' => r = .returned (hwVal k u i e) ∧ Below w.heap.size w w' := by
  cases hok : headOk k u i e
  · have hv : hwVal k u i e = .agg #[.int .i64 3, .int .i64 0] := by simp [hwVal, headCode, hok]
    have hc : headCode k u i e = 3 := headCode_three hok
    have HV := hide hv
    clear hv hok
    go_enter Tryz.func131, Tryz.ntmps131
    go_wp2_with fail
    refine (implHeadFault_any k u i e _).mono ?_
    rintro r w1 ⟨rfl, hb1⟩
    obtain ⟨hc1, hf1⟩ := bcell hb1
    have hz1 : w.heap.size + 1 < w1.heap.size := by have := hb1.size; simp at this; omega
    have HB1 := hide hb1
    clear hb1
    go_wp2_with fail
    refine bodyPost_ret (v := .agg #[.int .i64 3, .int .i64 0]) (by simp [results, Tryz.results131, go_sem, hc1]) rfl ⟨by rw [unhide HV], ?_⟩
    refine Below.setCell (Below.setCell ?_ (by simp) _) (by simp) _
    refine below_step ?_ (unhide HB1) (by simp <;> omega)
    repeat (first | exact Below.refl _ _ | refine Below.alloc ?_ (by simp <;> omega) _ | refine Below.setCell ?_ (by simp <;> omega) _ | refine below_drewN ?_ _)
  · have hv : hwVal k u i e = .agg #[.int .i64 0, .int .i64 (headWordI k u i e)] := by simp [hwVal, headCode, hok]
    have hc : headCode k u i e = 0 := headCode_zero hok
    obtain ⟨b1, b2, b3, b4, b5, b6, b7, b8⟩ := headOk_bounds hok
    have HV := hide hv
    have HO := hide hok
    clear hv hok
    go_enter Tryz.func131, Tryz.ntmps131
    go_wp2_with fail
    refine (implHeadFault_any k u i e _).mono ?_
    rintro r w1 ⟨rfl, hb1⟩
    obtain ⟨hc1, hf1⟩ := bcell hb1
    have hz1 : w.heap.size + 1 < w1.heap.size := by have := hb1.size; simp at this; omega
    have HB1 := hide hb1
    clear hb1
    go_wp2_with fail
    refine (headMark_any k u i e _ (unhide HO)).mono ?_
    rintro r w2 ⟨rfl, hb2⟩
    go_wp2_with fail
    refine (markWord_any _ _ _ (by omega) (by omega) (by omega) (by omega)).mono ?_
    rintro r w3 ⟨rfl, rfl⟩
    obtain ⟨hc2, hf2⟩ := bcell hb2
    have hz2 := hb2.size
    have HB2 := hide hb2
    clear hb2
    go_wp2_with fail
    have hw : k + 4 * (i + 4 * u) + 16000 * e = headWordI k u i e := by unfold headWordI; omega
    refine bodyPost_ret (v := .agg #[.int .i64 0, .int .i64 (k + 4 * (i + 4 * u) + 16000 * e)]) (by simp [results, Tryz.results131, go_sem, hc1, hc2, hz1]) rfl ⟨by rw [unhide HV, hw], ?_⟩
    refine Below.setCell (Below.setCell ?_ (by simp) _) (by simp) _
    refine below_step ?_ (unhide HB2) (by omega)
    refine below_step ?_ (unhide HB1) (by simp <;> omega)
    repeat (first | exact Below.refl _ _ | refine Below.alloc ?_ (by simp <;> omega) _ | refine Below.setCell ?_ (by simp <;> omega) _ | refine below_drewN ?_ _)

end Go.Proofs.YtiopofemelninaaGreat
