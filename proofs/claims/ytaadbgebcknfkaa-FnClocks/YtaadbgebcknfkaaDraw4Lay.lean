/-
  The laws' draws of images: a block is laid into a row.
-/
import Derived.Test.YtaadbgebcknfkaaProg
import Derived.Test.YtaadbgebcknfkaaRowMath
import Derived.WalkKit
import Derived.WalkLawsBesides
namespace Go.Proofs.Ytaadbgebcknfkaa
open Go.RowKit
set_option linter.unusedVariables false

set_option maxRecDepth 20000 in
set_option maxHeartbeats 2000000 in
theorem l4Lay_any (g : Nat) (L : List Int) (k : Nat) (a : Option Addr) (c : Nat) (l : List Int) (w : World) (hg : Box w g (nums L) 2) (h : IntsAt w a l) (hne : ∀ ad, a = some ad → ad.block ≠ g) (hl : l.length = 8) (hk : k * 8 + 8 ≤ L.length) (hL : L.length ≤ 1048576) :
    Calls Try.prog 119 #[.slice (some ⟨g, 0, none⟩) L.length L.length, .int .i64 k, .slice a l.length c] w fun e w' => e = .returned (.tuple #[]) ∧ (∃ L' : List Int, L'.length = L.length ∧ Box w' g (nums L') 2 ∧ ∀ j, j < k * 8 → L'[j]? = L[j]?) ∧ Out (fun q => q = g) w w' := by
  rw [hl]
  have HA := hide h
  have HN := hide hne
  have HL := hide hl
  clear h hne hl
  go_enter Try.func119, Try.ntmps119
  go_wp2_with fail
  go_loopw [6] (fun i wr => ∃ (m : Nat) (L' : List Int), m ≤ 8 ∧ i = .int .i64 m ∧ L'.length = L.length ∧ Hid (Box wr g (nums L') 2) ∧ Hid (Out (fun q => q = g) w wr) ∧ Hid (∀ j, j < k * 8 → L'[j]? = L[j]?)) (fun i _ => 8 - (intOf i).toNat)
  case atStart => exact ⟨0, L, by omega, rfl, rfl, hg, Out.refl _ _, fun j hj => rfl⟩
  case round =>
    obtain ⟨m, L', hm, rfl, hLL, HB, HO, HJ⟩ := hrel
    by_cases hlt : m < 8
    · have hi := (unhide HO).ints (unhide HA) (fun ad e f => unhide HN ad e f)
      have hlt2 : m < l.length := by have := unhide HL; omega
      obtain ⟨b, o, rfl, hb, hc⟩ := hi.at hlt2
      have hck := hc m hlt2
      generalize l[m] = x at *
      have hw := (unhide HB).cell (k * 8 + m)
      rw [nums_at (show k * 8 + m < L'.length by omega)] at hw
      have hf := (unhide HB).frozen (k * 8 + m)
      have HB2 := hide ((unhide HB).set (k * 8 + m) (.int .i64 x))
      have HB3 : Hid (Box (wr.setCell ⟨g, k * 8 + m, none⟩ (.int .i64 x)) g (nums (L'.set (k * 8 + m) x)) 2) := by
        have := unhide HB2
        rwa [nums_set] at this
      have HO2 := hide ((unhide HO).setCell (p := ⟨g, k * 8 + m, none⟩) (.inl rfl) (.int .i64 x))
      have HJ2 : Hid (∀ j, j < k * 8 → (L'.set (k * 8 + m) x)[j]? = L[j]?) := fun j hj => by
        rw [List.getElem?_set_ne (by omega)]
        exact unhide HJ j hj
      clear hc hi HB HO HJ HB2
      go_wp2_with fail
      go_roundw
      case rel => exact ⟨m + 1, L'.set (k * 8 + m) x, by omega, by go_num, by simpa using hLL, HB3, HO2, HJ2⟩
      case measure => simp [intOf]; omega
    · clear hg
      go_wp2_with fail
      exact bodyPost_end (results_none (by first | exact Try.results119 | rfl | kernel_rfl) _ _ _) rfl ⟨rfl, ⟨L', hLL, unhide HB, unhide HJ⟩, unhide HO⟩
end Go.Proofs.Ytaadbgebcknfkaa
