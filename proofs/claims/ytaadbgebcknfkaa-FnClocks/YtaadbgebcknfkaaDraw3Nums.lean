/-
  The laws' draws of numbers.
-/
import Derived.Test.YtaadbgebcknfkaaDraw3Fault
import Derived.Test.YtaadbgebcknfkaaAppInts
import Derived.Test.YtaadbgebcknfkaaDevTo
namespace Go.Proofs.Ytaadbgebcknfkaa
open Go.RowKit
set_option linter.unusedVariables false

theorem ints_one_new (w : World) (x : Int) (t : TypeId) : IntsAt (w.alloc (.cells #[.int .i64 x] t)) (some ⟨w.heap.size, 0, none⟩) [x] := by
  have hb : Box (w.alloc (.cells #[.int .i64 x] t)) w.heap.size [.int .i64 x] t := box_new w [.int .i64 x] t
  refine .inr ⟨w.heap.size, 0, rfl, hb.lt, fun i hi => ?_⟩
  rw [Nat.zero_add, hb.cell i]
  match i, hi with
  | 0, _ => rfl
theorem out_grown {s : Nat} {w W W' : World} {row : Option Nat} (h : Out (fun q => q = s) w W) (hg : W.grownBy W' row) (hr : ∀ q, row = some q → w.heap.size ≤ q) : Out (fun q => q = s) w W' :=
  h.trans (Out.ofGrown hg) (fun q hq e => by have := hr q e.symm; omega)
theorem src_grown {s : Nat} {w W W' : World} {row : Option Nat} {t : TypeId} {a : Option Addr} {n c p : Nat} (h : SrcAt W t s a n c p) (hg : W.grownBy W' row) (hr : ∀ q, row = some q → s < q) : SrcAt W' t s a n c p :=
  h.keep fun k hk => hg.block k (by have := h.lt; omega) (fun e => by have := hr k e.symm; omega)

set_option maxRecDepth 20000 in
set_option maxHeartbeats 2000000 in
theorem numbers_any (s : Nat) (a : Option Addr) (n c p : Nat) (w : World) (h : SrcAt w 132 s a n c p) (hp : p ≤ 500) :
    Calls Try.prog 36 #[.pointer (some ⟨s, 0, none⟩)] w fun r w' => (∃ v l, r = .returned v ∧ w'.ownsRow w.heap.size 2 1 v 4 (nums l) ∧ List.length l = 4 ∧ ∀ x ∈ l, 0 ≤ x ∧ x ≤ 9999) ∧ (∃ q, q ≤ p + 8 ∧ SrcAt w' 132 s a n c q) ∧ Out (fun q => q = s) w w' := by
  obtain ⟨i0, hi, hz0, hz1, hz2⟩ := info_parts infoInt64
  have hsl := h.lt
  have H := hide h
  clear h
  go_enter Try.func36, Try.ntmps36
  go_wp2
  go_loopw [3, 4] (fun v i wr => ∃ (k q : Nat) (l : List Int), k ≤ 4 ∧ i = .int .i64 k ∧ l.length = k ∧ q ≤ p + 2 * k ∧ w.heap.size ≤ wr.heap.size ∧ Hid (∀ x ∈ l, (0 : Int) ≤ x ∧ x ≤ 9999) ∧ Hid (wr.ownsRow w.heap.size 2 1 v k (nums l)) ∧ Hid (SrcAt wr 132 s a n c q) ∧ Hid (Out (fun q => q = s) w wr)) (fun _ i _ => 4 - (intOf i).toNat)
  case atStart => exact ⟨0, p, [], by omega, rfl, rfl, by omega, by simp, by simp [Hid], World.ownsRow_made w #[] 0 (Nat.le_refl _) (by unfold maxLen; omega) rfl, (unhide H).alloc _, (Out.refl _ _).alloc _⟩
  case round =>
    obtain ⟨k, q, l, hk, rfl, hlk, hq, hzw, HN, HO, HS, HU⟩ := hrel
    clear H
    by_cases hlt : k < 4
    · go_wp2_with fail
      refine (next_out s a n c q 90 _ (unhide HS) (by omega) (by omega) (by omega)).mono ?_
      rintro r w1 ⟨⟨v1, rfl, x0, x1⟩, h1, o1⟩
      have O1 := hide (o1.own (unhide HO) (fun g hg e => by have := (unhide HO).lt g hg; omega))
      have S1 := hide h1
      have U1 := hide ((unhide HU).trans o1 (fun _ _ e => e))
      have z1 : wr.heap.size ≤ w1.heap.size := o1.size
      clear h1 o1 HO HS HU
      go_wp2_with fail
      refine (pick_new s a n c (q + 1) (fun x => 0 ≤ x ∧ x ≤ 9999) (nums [0, 5, 9999, v1]).toArray 2 4 w1 (unhide S1) (by omega) rfl (by omega) (by omega) (offerI _ _ (by simp; omega))).mono ?_
      rintro r w2 ⟨⟨x, hxp, rfl⟩, h2, o2⟩
      have HN2 : Hid (∀ y ∈ l ++ [x], (0 : Int) ≤ y ∧ y ≤ 9999) := by
        intro y hy
        rcases List.mem_append.1 hy with hy | hy
        · exact unhide HN y hy
        · simp only [List.mem_singleton] at hy
          subst hy; exact hxp
      clear hxp
      have O2 := hide (o2.own (unhide O1) (fun g hg e => by have := (unhide O1).lt g hg; omega))
      have S2 := hide h2
      have U2 := hide ((unhide U1).trans o2 (fun _ _ e => e))
      have z2 : w1.heap.size ≤ w2.heap.size := o2.size
      clear h2 o2 O1 S1 U1
      go_wp2_with (at_builtin; refine wpList_append_ints _ rfl _ _ 24 rfl w.heap.size 2 i0 (.int .i64 0) Try.underlying24 hi hz0 hz1 hz2 rfl _ k (nums l) rfl ((unhide O2).alloc _) (some ⟨w2.heap.size, 0, none⟩) 1 1 [x] rfl rfl (ints_one_new w2 x _) (by simp; omega) (by simp; omega) ?_; intro v3 w3 hown hgrow hblk; have O3 := hide hown; have G3 := hide (out_grown ((unhide U2).alloc _) hgrow (fun g hg => ((unhide O2).lt g hg).1)); have S3 := hide (src_grown (w := w2) ((unhide S2).alloc _) hgrow (fun g hg => by have := ((unhide O2).lt g hg).1; omega)); have z3 : w2.heap.size ≤ w3.heap.size := (by have := hgrow.size; simp at this; omega); clear hown hgrow hblk)
      go_roundw
      case rel => exact ⟨k + 1, q + 1 + 1, l ++ [x], by omega, by go_num, by simp [hlk], by omega, by omega, HN2, by rw [nums_append]; exact O3, S3, G3⟩
      case measure => simp [intOf]; omega
    · have hk4 : k = 4 := by omega
      subst hk4
      go_wp2_with fail
      go_ret
      exact ⟨⟨_, l, rfl, unhide HO, hlk, unhide HN⟩, ⟨q, by omega, unhide HS⟩, unhide HU⟩
end Go.Proofs.Ytaadbgebcknfkaa
