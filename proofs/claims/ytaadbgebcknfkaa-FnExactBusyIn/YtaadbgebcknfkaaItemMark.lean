/-
  The laws' own marks of items and notes, told weakly: they write nothing but the rows of these.
-/
import Derived.Test.YtaadbgebcknfkaaMarkB
import Derived.Test.YtaadbgebcknfkaaItemTo
namespace Go.Proofs.Ytaadbgebcknfkaa
open Go.RowKit
set_option linter.unusedVariables false

/-- Items in rows of their own, in the blocks from lo to hi. -/
structure ItmsB (w : World) (g : Nat) (L : List ItmA) (lo hi : Nat) : Prop where
  row : ∃ xs, Box w g xs 165 ∧ xs.length = L.length * 3 ∧ ∀ i (h : i < L.length), xs[i * 3 + 2]? = some (.slice L[i].a L[i].b.l.length L[i].c)
  ge : lo ≤ g
  lt : g < hi
  inn : ∀ x ∈ L, RowB w 2 x.a x.b.l.length lo hi ∧ x.b.l.length ≤ 1048576
theorem itmsB_box {w : World} {g : Nat} {L : List ItmA} {lo : Nat} (h : Box w g (flatItm L) 165) (hl : lo ≤ g) (hi : ∀ y ∈ L, y.boxed w lo ∧ y.b.l.length ≤ 1048576) : ItmsB w g L lo w.heap.size :=
  ⟨⟨_, h, flat_lenItm L, fun i hi => flat_atItm L i hi 2 _ rfl⟩, hl, h.lt, fun x hx => ⟨by
    obtain ⟨k, e, l, b⟩ := (hi x hx).1
    exact .inr ⟨k, _, e, b, by rw [nums_length]; exact Nat.le_refl _, l, b.lt⟩, (hi x hx).2⟩⟩
theorem ItmsB.kept {w w' : World} {g : Nat} {L : List ItmA} {lo hi : Nat} (h : ItmsB w g L lo hi) (hs : Shp w w') (hk : Kept 165 w w') : ItmsB w' g L lo hi := by
  obtain ⟨⟨xs, hx, hl, hh⟩, h1, h2, h3⟩ := h
  exact ⟨⟨xs, hk g xs hx, hl, hh⟩, h1, h2, fun x hx => ⟨(h3 x hx).1.shp hs, (h3 x hx).2⟩⟩
set_option maxRecDepth 20000 in
set_option maxHeartbeats 4000000 in
theorem markItemB (g c n : Nat) (L : List ItmA) (m : Int) (w : World) (lo hi : Nat) (h : ItmsB w g L lo hi) (hL : n = L.length) (hn : n ≤ 1048576) (h0 : 1 ≤ m) (h1 : m ≤ 100000000000000) :
    Calls Try.prog 73 #[.slice (some ⟨g, 0, none⟩) n c, .int .i64 m] w fun e w' => (∃ k : Int, e = .returned (.int .i64 k) ∧ m ≤ k ∧ k ≤ m + n * 1048578) ∧ Shp w w' ∧ Out (fun q => lo ≤ q ∧ q < hi) w w' ∧ ∀ t, t ≠ 2 → t ≠ 165 → Kept t w w' := by
  subst hL
  obtain ⟨hr, hlo, hhi, hin⟩ := h
  have HI := hide hin
  have HX := hide hr
  clear hin hr
  go_enter Try.func73, Try.ntmps73
  go_wp2
  go_loopw [1, 5] (fun t i wr => ∃ (k : Nat) (M : Int), k ≤ L.length ∧ i = .int .i64 k ∧ t = .int .i64 M ∧ m ≤ M ∧ M ≤ m + k * 1048578 ∧ Hid (Shp w wr) ∧ Hid (Out (fun q => lo ≤ q ∧ q < hi) w wr) ∧ Hid (∀ t, t ≠ 2 → t ≠ 165 → Kept t w wr) ∧ Hid (∃ xs, Box wr g xs 165 ∧ xs.length = L.length * 3 ∧ ∀ i (h : i < L.length), xs[i * 3 + 2]? = some (.slice L[i].a L[i].b.l.length L[i].c))) (fun _ i _ => L.length - (intOf i).toNat)
  case atStart => exact ⟨0, m, Nat.zero_le _, rfl, rfl, by omega, by simp, Shp.refl _, Out.refl _ _, fun t _ _ => Kept.refl t _, HX⟩
  case round =>
    obtain ⟨k, M, hk, rfl, rfl, hM0, hM1, HS, HU, HK, HB⟩ := hrel
    clear HX
    by_cases hlt : k < L.length
    · have r3 : (M + 1).tmod 3 = (M + 1) % 3 := Int.tmod_eq_emod_of_nonneg (by omega)
      have r4 : -9223372036854775808 ≤ (M + 1) % 3 ∧ (M + 1) % 3 ≤ 9223372036854775807 := by omega
      have e2 : M + 1 + 1 = M + 2 := by omega
      go_wp2_with fail
      refine (markTextB M _ (by omega) (by omega)).mono ?_
      rintro e w2 ⟨⟨s, rfl⟩, hb2⟩
      obtain ⟨xs, hx, hxl, hxs⟩ := unhide HB
      have hx2 := hx.below hb2
      have HS1 := hide ((unhide HS).trans (Shp.ofBelow hb2))
      have HU1 := hide ((unhide HU).trans (Out.ofBelow (F := fun q => lo ≤ q ∧ q < hi) hb2) (fun _ _ h => h))
      have HK1 : Hid (∀ t, t ≠ 2 → t ≠ 165 → Kept t w w2) := fun t h1 h2 => (unhide HK t h1 h2).trans (Kept.ofBelow hb2)
      obtain ⟨v0, c0⟩ := hx2.has (i := k * 3) (by omega)
      obtain ⟨v1, c1⟩ := hx2.has (i := k * 3 + 1) (by omega)
      have c2 : w2.cell? ⟨g, k * 3 + 2, none⟩ = some (.slice L[k].a L[k].b.l.length L[k].c) := (hx2.cell _).trans (hxs k hlt)
      have f0 := hx2.frozen (k * 3)
      have f1 := hx2.frozen (k * 3 + 1)
      have HX2 := hide hx2
      have HXS := hide hxs
      have HR := hide ((unhide HI _ (List.getElem_mem hlt)).1.shp ((unhide HS1).trans (((Shp.refl w2).setCell g (k * 3) (.string s)).setCell g (k * 3 + 1) (.bool ((M + 1) % 3 == 0)))))
      have hxn := (unhide HI _ (List.getElem_mem hlt)).2
      clear hx hx2 hxs hb2 HS HU HB HK
      go_wp2_with fail
      clear c0 c1 c2 f0 f1
      obtain ⟨V, hV⟩ : ∃ V, V = (w2.setCell ⟨g, k * 3, none⟩ (.string s)).setCell ⟨g, k * 3 + 1, none⟩ (.bool ((M + 1) % 3 == 0)) := ⟨_, rfl⟩
      rw [← hV] at HR ⊢
      have SV := hide (show Shp w V by rw [hV]; exact ((unhide HS1).setCell g (k * 3) (.string s)).setCell g (k * 3 + 1) (.bool ((M + 1) % 3 == 0)))
      have UV := hide (show Out (fun q => lo ≤ q ∧ q < hi) w V by rw [hV]; exact ((unhide HU1).setCell (p := ⟨g, k * 3, none⟩) (.inl ⟨hlo, hhi⟩) (.string s)).setCell (p := ⟨g, k * 3 + 1, none⟩) (.inl ⟨hlo, hhi⟩) (.bool ((M + 1) % 3 == 0)))
      have XV := hide (show Box V g ((xs.set (k * 3) (.string s)).set (k * 3 + 1) (.bool ((M + 1) % 3 == 0))) 165 by rw [hV]; exact ((unhide HX2).set _ _).set _ _)
      have KV : Hid (∀ t, t ≠ 2 → t ≠ 165 → Kept t w V) := fun t h1 h2 => by rw [hV]; exact ((unhide HK1 t h1 h2).setCell (unhide HX2) (Ne.symm h2) _ _).setCell ((unhide HX2).set _ _) (Ne.symm h2) _ _
      clear hV HS1 HU1 HX2 HK1
      refine (markInt64B L[k].a L[k].c L[k].b.l.length (M + 2) V lo hi (unhide HR) hxn (by omega) (by omega)).mono ?_
      rintro e w4 ⟨rfl, hs4, ho4⟩
      have S4 := hide ((unhide SV).trans hs4)
      have U4 := hide ((unhide UV).trans ho4 (fun q _ e => RowB.in (unhide HR) e.1 e.2))
      have X4 : Hid (∃ xs, Box w4 g xs 165 ∧ xs.length = L.length * 3 ∧ ∀ i (h : i < L.length), xs[i * 3 + 2]? = some (.slice L[i].a L[i].b.l.length L[i].c)) := by
        refine ⟨_, (unhide XV).out ho4 ?_, by simpa using hxl, fun i hi => ?_⟩
        · rintro ⟨hp, e⟩
          rcases unhide HR with h | ⟨g', ys, e', hb', -⟩
          · omega
          · rw [e] at e'; cases e'
            have := (unhide XV)
            unfold Box at this hb'
            rw [this] at hb'
            simp at hb'
        · rw [List.getElem?_set_ne (by omega), List.getElem?_set_ne (by omega)]
          exact unhide HXS i hi
      have K4 : Hid (∀ t, t ≠ 2 → t ≠ 165 → Kept t w w4) := fun t h1 h2 => (unhide KV t h1 h2).trans (kept_of (s := 1) ho4 (by have := unhide HR; rwa [Nat.mul_one]) (by omega) (Ne.symm h1))
      clear hs4 ho4 SV UV XV HR HXS KV
      generalize hLN : L[k].b.l.length = ln at *
      clear hLN
      go_wp2_with fail
      go_roundw
      case rel => exact ⟨k + 1, M + 2 + ln, by omega, by go_num, by go_num, by omega, by push_cast; omega, S4, U4, K4, X4⟩
      case measure => simp [intOf]; omega
    · have hke : k = L.length := by omega
      subst hke
      go_wp2_with fail
      go_ret
      exact ⟨⟨_, rfl, hM0, hM1⟩, unhide HS, unhide HU, unhide HK⟩
end Go.Proofs.Ytaadbgebcknfkaa
