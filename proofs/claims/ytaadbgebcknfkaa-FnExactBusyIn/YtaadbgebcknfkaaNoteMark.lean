/-
  The laws' own marks of notes, told weakly: they write nothing but the rows of these.
-/
import Derived.Test.YtaadbgebcknfkaaMarkB
import Derived.Test.YtaadbgebcknfkaaNoteTo
namespace Go.Proofs.Ytaadbgebcknfkaa
open Go.RowKit
set_option linter.unusedVariables false

/-- The cells of a list of notes that no mark turns. -/
def NKeep (L : List NteA) (p : Nat) (v : Value) : Prop := ∃ i, ∃ h : i < L.length, (p = i * 12 + 8 ∧ v = .slice L[i].a1 L[i].b.on.length L[i].c1) ∨ (p = i * 12 + 10 ∧ v = .slice L[i].a2 L[i].b.rn.length L[i].c2) ∨ (p = i * 12 + 11 ∧ v = .slice L[i].a3 L[i].b.rs.length L[i].c3)
theorem nKeep_not {L : List NteA} {k j : Nat} (hj : j < 12) (h8 : j ≠ 8) (h10 : j ≠ 10) (h11 : j ≠ 11) : ∀ u, ¬ NKeep L (k * 12 + j) u := by
  rintro u ⟨i, h, ⟨e, -⟩ | ⟨e, -⟩ | ⟨e, -⟩⟩ <;> omega
structure NtesB (w : World) (g : Nat) (L : List NteA) (lo hi : Nat) : Prop where
  row : ∃ xs, Box w g xs 170 ∧ xs.length = L.length * 12 ∧ ∀ i v, NKeep L i v → xs[i]? = some v
  ge : lo ≤ g
  lt : g < hi
  inn : ∀ x ∈ L, RowB w 2 x.a1 (x.b.on.length * 1) lo hi ∧ RowB w 2 x.a2 (x.b.rn.length * 1) lo hi ∧ RowB w 9 x.a3 (x.b.rs.length * 1) lo hi ∧ x.small
theorem ntesB_box {w : World} {g : Nat} {L : List NteA} {lo : Nat} (h : Box w g (flatNte L) 170) (hl : lo ≤ g) (hi : ∀ y ∈ L, y.boxed w lo ∧ y.small) : NtesB w g L lo w.heap.size :=
  ⟨⟨_, h, flat_lenNte L, fun p v hp => by
    obtain ⟨i, hi, ⟨rfl, rfl⟩ | ⟨rfl, rfl⟩ | ⟨rfl, rfl⟩⟩ := hp
    · exact flat_atNte L i hi 8 _ rfl
    · exact flat_atNte L i hi 10 _ rfl
    · exact flat_atNte L i hi 11 _ rfl⟩, hl, h.lt, fun x hx => by
    obtain ⟨⟨⟨g1, e1, k1, h1⟩, ⟨g2, e2, k2, h2⟩, ⟨g3, e3, k3, h3⟩⟩, sm⟩ := hi x hx
    exact ⟨.inr ⟨g1, _, e1, h1, by rw [nums_length]; omega, k1, h1.lt⟩, .inr ⟨g2, _, e2, h2, by rw [nums_length]; omega, k2, h2.lt⟩, .inr ⟨g3, _, e3, h3, by rw [List.length_map]; omega, k3, h3.lt⟩, sm⟩⟩
theorem NtesB.kept {w w' : World} {g : Nat} {L : List NteA} {lo hi : Nat} (h : NtesB w g L lo hi) (hs : Shp w w') (hk : Kept 170 w w') : NtesB w' g L lo hi := by
  obtain ⟨⟨xs, hx, hl, hh⟩, h1, h2, h3⟩ := h
  exact ⟨⟨xs, hk g xs hx, hl, hh⟩, h1, h2, fun x hx => by
    obtain ⟨k1, k2, k3, k4⟩ := h3 x hx
    exact ⟨k1.shp hs, k2.shp hs, k3.shp hs, k4⟩⟩
set_option maxRecDepth 20000 in
set_option maxHeartbeats 4000000 in
theorem markNoteB (g c n : Nat) (L : List NteA) (m : Int) (w : World) (lo hi : Nat) (h : NtesB w g L lo hi) (hL : n = L.length) (hn : n ≤ 1048576) (h0 : 1 ≤ m) (h1 : m ≤ 100000000000000) :
    Calls Try.prog 76 #[.slice (some ⟨g, 0, none⟩) n c, .int .i64 m] w fun e w' => (∃ k : Int, e = .returned (.int .i64 k) ∧ m ≤ k ∧ k ≤ m + n * 3145737) ∧ Shp w w' ∧ Out (fun q => lo ≤ q ∧ q < hi) w w' := by
  subst hL
  obtain ⟨hr, hlo, hhi, hin⟩ := h
  have HI := hide hin
  have HX := hide hr
  clear hin hr
  go_enter Try.func76, Try.ntmps76
  go_wp2_with fail
  go_loopw [1, 5] (fun t i wr => ∃ (k : Nat) (M : Int), k ≤ L.length ∧ i = .int .i64 k ∧ t = .int .i64 M ∧ m ≤ M ∧ M ≤ m + k * 3145737 ∧ Hid (MSt w wr g lo hi 170 (L.length * 12) (NKeep L))) (fun _ i _ => L.length - (intOf i).toNat)
  case atStart => exact ⟨0, m, Nat.zero_le _, rfl, rfl, by omega, by simp, MSt.start (unhide HX)⟩
  case round =>
    obtain ⟨k, M, hk, rfl, rfl, hM0, hM1, HS⟩ := hrel
    clear HX
    by_cases hlt : k < L.length
    · obtain ⟨hr1, hr2, hr3, sm1, sm2, sm3⟩ := unhide HI _ (List.getElem_mem hlt)
      have HR1 := hide (hr1.shp (unhide HS).shp)
      have HR2 := hide (hr2.shp (unhide HS).shp)
      have HR3 := hide (hr3.shp (unhide HS).shp)
      have K8 : Hid (NKeep L (k * 12 + 8) (.slice L[k].a1 L[k].b.on.length L[k].c1)) := ⟨k, hlt, .inl ⟨rfl, rfl⟩⟩
      have K10 : Hid (NKeep L (k * 12 + 10) (.slice L[k].a2 L[k].b.rn.length L[k].c2)) := ⟨k, hlt, .inr (.inl ⟨rfl, rfl⟩)⟩
      have K11 : Hid (NKeep L (k * 12 + 11) (.slice L[k].a3 L[k].b.rs.length L[k].c3)) := ⟨k, hlt, .inr (.inr ⟨rfl, rfl⟩)⟩
      generalize L[k].a1 = a1 at *
      generalize L[k].a2 = a2 at *
      generalize L[k].a3 = a3 at *
      generalize L[k].c1 = c1 at *
      generalize L[k].c2 = c2 at *
      generalize L[k].c3 = c3 at *
      generalize L[k].b.on.length = n1 at *
      generalize L[k].b.rn.length = n2 at *
      generalize L[k].b.rs.length = n3 at *
      clear hr1 hr2 hr3
      obtain ⟨v0, c0'⟩ := (unhide HS).has (i := k * 12) (by omega)
      obtain ⟨v1, c1'⟩ := (unhide HS).has (i := k * 12 + 1) (by omega)
      obtain ⟨v2, c2'⟩ := (unhide HS).has (i := k * 12 + 2) (by omega)
      obtain ⟨v3, c3'⟩ := (unhide HS).has (i := k * 12 + 3) (by omega)
      have f0 := (unhide HS).frozen (k * 12)
      have f1 := (unhide HS).frozen (k * 12 + 1)
      have f2 := (unhide HS).frozen (k * 12 + 2)
      have f3 := (unhide HS).frozen (k * 12 + 3)
      have e2 : M + 1 + 1 = M + 2 := by omega
      have e3 : M + 2 + 1 = M + 3 := by omega
      have e4 : M + 3 + 1 = M + 4 := by omega
      go_wp2_with fail
      clear c0' c1' c2' c3' f0 f1 f2 f3
      obtain ⟨U, hU⟩ : ∃ U, U = (((wr.setCell ⟨g, k * 12, none⟩ (.int .i64 M)).setCell ⟨g, k * 12 + 1, none⟩ (.int .i64 (M + 1))).setCell ⟨g, k * 12 + 2, none⟩ (.int .i64 (M + 2))).setCell ⟨g, k * 12 + 3, none⟩ (.int .i64 (M + 3)) := ⟨_, rfl⟩
      rw [← hU]
      have SU : Hid (MSt w U g lo hi 170 (L.length * 12) (NKeep L)) := by rw [hU]; exact ((((unhide HS).set hlo hhi (k * 12 + 0) _ (nKeep_not (by omega) (by omega) (by omega) (by omega))).set hlo hhi _ _ (nKeep_not (by omega) (by omega) (by omega) (by omega))).set hlo hhi _ _ (nKeep_not (by omega) (by omega) (by omega) (by omega))).set hlo hhi _ _ (nKeep_not (by omega) (by omega) (by omega) (by omega))
      have PU : Hid (Shp wr U) := by rw [hU]; exact ((((Shp.refl wr).setCell _ _ _).setCell _ _ _).setCell _ _ _).setCell _ _ _
      clear hU HS
      refine (markTextB (M + 4) U (by omega) (by omega)).mono ?_
      rintro e w2 ⟨⟨s1, rfl⟩, hb2⟩
      have S2 := hide ((unhide SU).below hb2)
      have P2 := hide ((unhide PU).trans (Shp.ofBelow hb2))
      clear hb2 SU PU
      obtain ⟨v4, c4'⟩ := (unhide S2).has (i := k * 12 + 4) (by omega)
      have f4 := (unhide S2).frozen (k * 12 + 4)
      have e5 : M + 4 + 1 = M + 5 := by omega
      go_wp2_with fail
      clear c4' f4
      obtain ⟨U, hU⟩ : ∃ U, U = w2.setCell ⟨g, k * 12 + 4, none⟩ (.string s1) := ⟨_, rfl⟩
      rw [← hU]
      have SU : Hid (MSt w U g lo hi 170 (L.length * 12) (NKeep L)) := by rw [hU]; exact (unhide S2).set hlo hhi _ _ (nKeep_not (by omega) (by omega) (by omega) (by omega))
      have PU : Hid (Shp wr U) := by rw [hU]; exact (unhide P2).setCell _ _ _
      clear hU S2 P2
      refine (markTextB (M + 5) U (by omega) (by omega)).mono ?_
      rintro e w3 ⟨⟨s2, rfl⟩, hb3⟩
      have S3 := hide ((unhide SU).below hb3)
      have P3 := hide ((unhide PU).trans (Shp.ofBelow hb3))
      clear hb3 SU PU
      obtain ⟨v5, c5'⟩ := (unhide S3).has (i := k * 12 + 5) (by omega)
      obtain ⟨v6, c6'⟩ := (unhide S3).has (i := k * 12 + 6) (by omega)
      obtain ⟨v7, c7'⟩ := (unhide S3).has (i := k * 12 + 7) (by omega)
      have c8' := (unhide S3).cell (unhide K8)
      have f5 := (unhide S3).frozen (k * 12 + 5)
      have f6 := (unhide S3).frozen (k * 12 + 6)
      have f7 := (unhide S3).frozen (k * 12 + 7)
      have e6 : M + 5 + 1 = M + 6 := by omega
      have e7 : M + 6 + 1 = M + 7 := by omega
      have e8 : M + 7 + 1 = M + 8 := by omega
      have r3 : (M + 6).tmod 3 = (M + 6) % 3 := Int.tmod_eq_emod_of_nonneg (by omega)
      have r4 : -9223372036854775808 ≤ (M + 6) % 3 ∧ (M + 6) % 3 ≤ 9223372036854775807 := by omega
      go_wp2_with fail
      clear c5' c6' c7' c8' f5 f6 f7
      obtain ⟨U, hU⟩ : ∃ U, U = ((w3.setCell ⟨g, k * 12 + 5, none⟩ (.string s2)).setCell ⟨g, k * 12 + 6, none⟩ (.bool ((M + 6) % 3 == 0))).setCell ⟨g, k * 12 + 7, none⟩ (.int .i64 (M + 7)) := ⟨_, rfl⟩
      rw [← hU]
      have SU : Hid (MSt w U g lo hi 170 (L.length * 12) (NKeep L)) := by rw [hU]; exact (((unhide S3).set hlo hhi _ _ (nKeep_not (by omega) (by omega) (by omega) (by omega))).set hlo hhi _ _ (nKeep_not (by omega) (by omega) (by omega) (by omega))).set hlo hhi _ _ (nKeep_not (by omega) (by omega) (by omega) (by omega))
      have PU : Hid (Shp wr U) := by rw [hU]; exact (((unhide P3).setCell _ _ _).setCell _ _ _).setCell _ _ _
      clear hU S3 P3
      have Q1 := hide ((unhide HR1).shp (unhide PU))
      refine (markInt64B a1 c1 n1 (M + 8) U lo hi (by have := unhide Q1; rwa [Nat.mul_one] at this) sm1 (by omega) (by omega)).mono ?_
      rintro e w4 ⟨rfl, hs4, ho4⟩
      have S4 := hide ((unhide SU).mark hs4 ho4 (unhide Q1) (by omega) (by decide))
      have P4 := hide ((unhide PU).trans hs4)
      clear hs4 ho4 SU PU Q1 HR1
      obtain ⟨v9, c9'⟩ := (unhide S4).has (i := k * 12 + 9) (by omega)
      have c10' := (unhide S4).cell (unhide K10)
      have f9 := (unhide S4).frozen (k * 12 + 9)
      go_wp2_with fail
      clear c9' c10' f9
      obtain ⟨U, hU⟩ : ∃ U, U = w4.setCell ⟨g, k * 12 + 9, none⟩ (.int .i64 (M + 8 + n1)) := ⟨_, rfl⟩
      rw [← hU]
      have SU : Hid (MSt w U g lo hi 170 (L.length * 12) (NKeep L)) := by rw [hU]; exact (unhide S4).set hlo hhi _ _ (nKeep_not (by omega) (by omega) (by omega) (by omega))
      have PU : Hid (Shp wr U) := by rw [hU]; exact (unhide P4).setCell _ _ _
      clear hU S4 P4
      have Q2 := hide ((unhide HR2).shp (unhide PU))
      refine (markInt64B a2 c2 n2 (M + 8 + n1 + 1) U lo hi (by have := unhide Q2; rwa [Nat.mul_one] at this) sm2 (by omega) (by omega)).mono ?_
      rintro e w5 ⟨rfl, hs5, ho5⟩
      have S5 := hide ((unhide SU).mark hs5 ho5 (unhide Q2) (by omega) (by decide))
      have P5 := hide ((unhide PU).trans hs5)
      clear hs5 ho5 SU PU Q2 HR2
      have c11' := (unhide S5).cell (unhide K11)
      go_wp2_with fail
      clear c11'
      have Q3 := hide ((unhide HR3).shp (unhide P5))
      refine (markStringB a3 c3 n3 (M + 8 + n1 + 1 + n2) w5 lo hi (by have := unhide Q3; rwa [Nat.mul_one] at this) sm3 (by omega) (by omega)).mono ?_
      rintro e w6 ⟨rfl, hs6, ho6⟩
      have S6 := hide ((unhide S5).mark hs6 ho6 (unhide Q3) (by omega) (by decide))
      clear hs6 ho6 S5 P5 Q3 HR3 K8 K10 K11
      go_wp2_with fail
      go_roundw
      case rel => exact ⟨k + 1, M + 8 + n1 + 1 + n2 + n3, by omega, by go_num, by go_num, by omega, by push_cast; omega, S6⟩
      case measure => simp [intOf]; omega
    · have hke : k = L.length := by omega
      subst hke
      go_wp2_with fail
      go_ret
      exact ⟨⟨_, rfl, hM0, hM1⟩, (unhide HS).shp, (unhide HS).out⟩
end Go.Proofs.Ytaadbgebcknfkaa
