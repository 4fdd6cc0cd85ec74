/-
  Decimals: what spec.l1Digits and impl.digitsOf answer.
-/
import Derived.Test.YtiopofemelninaaDoorBase
import Derived.Test.YtiopofemelninaaDoorProg
import Derived.WalkKit
import Derived.WalkLawsBesides
import Derived.Test.YtiopofemelninaaDoorRowMath
import Derived.Test.YtiopofemelninaaDoorShelf
import Derived.Lib.ItoaNum
import Derived.Lib.AppendIntMem
import Derived.Deep.RegionHeld3
import Derived.Deep.CutRange
namespace Go.Proofs.YtiopofemelninaaDoor
open Go.RowKit
set_option linter.unusedVariables false

/-- The byte of a digit. -/
def digB (d : Nat) : UInt8 := UInt8.ofNat (48 + d)
theorem dig_one {n : Nat} (h : n < 10) : Lib.decDigits n = [digB n] := by rw [Lib.decDigits, dif_pos h]; rfl
theorem dig_more {n : Nat} (h : ¬ n < 10) : Lib.decDigits n = Lib.decDigits (n / 10) ++ [digB (n % 10)] := by rw [Lib.decDigits, dif_neg h]; rfl
theorem u8_dig' {n : Nat} (h : n < 10) : (48 : Int) + n = (digB n).toNat := by
  rw [digB, UInt8.toNat_ofNat_of_lt' (by show 48 + n < 256; omega)]
  omega
theorem dig_len (n : Nat) : (Lib.decDigits n).length ≤ n + 1 := by
  induction n using Nat.strongRecOn with
  | ind n ih =>
    by_cases h : n < 10
    · rw [dig_one h, List.length_singleton]; omega
    · have := ih (n / 10) (by omega)
      rw [dig_more h, List.length_append, List.length_singleton]; omega
theorem str_eq {s : ByteArray} {L : List UInt8} (h : s.data.toList = L) : s = ⟨L.toArray⟩ := by
  obtain ⟨⟨l⟩⟩ := s
  simp only at h
  subst h
  rfl
theorem cat_list (a b : ByteArray) : (a ++ b).data.toList = a.data.toList ++ b.data.toList := by
  obtain ⟨a⟩ := a
  obtain ⟨b⟩ := b
  rw [ByteArray.mk_append_mk]
theorem u8_wrap (x : Int) : IntKind.u8.wrap x = x % 256 := by
  simp [IntKind.wrap, IntKind.bits, IntKind.signed]
theorem keepB_step {W0 w' w1 : World} (hb : Below w'.heap.size w' w1) (h : Below W0.heap.size W0 w') : Below W0.heap.size W0 w1 := h.trans (hb.mono h.size)
theorem keepB_alloc {W0 w' : World} (o : Obj) (h : Below W0.heap.size W0 w') : Below W0.heap.size W0 (w'.alloc o) := h.alloc h.size o
/-- A byte of our own, told as a string. -/
theorem cv_at (W : World) (b : Nat) (c : UInt8) (x : Int) (hx : x = c.toNat) (hc : W.cell? ⟨b, 0, none⟩ = some (.int .u8 x)) : (convert 77 9 (.slice (some ⟨b, 0, none⟩) 1 1)).run Tryd.prog W = .ok (.string ⟨#[c]⟩) W := by
  have hr := run_convert_bytes_back (P := Tryd.prog) W 77 9 5 ⟨b, 0, none⟩ 1 [c] Tryd.underlying77 Tryd.underlying5 Tryd.underlying9 (fun j hj => by
    obtain rfl : j = 0 := by simpa using hj
    simp only [List.getElem_cons_zero]
    rw [← hx]
    exact hc)
  exact hr
theorem cv_box {w w5 : World} {d : Nat} (hu : (48 : Int) + d = (digB d).toNat) (hb : Below (w.alloc (.cells #[.int .u8 (48 + (d : Int))] 5)).drew.heap.size (w.alloc (.cells #[.int .u8 (48 + (d : Int))] 5)).drew w5) :
    (convert 77 9 (.slice (some ⟨w.heap.size, 0, none⟩) 1 1)).run Tryd.prog w5 = .ok (.string ⟨#[digB d]⟩) w5 :=
  cv_at w5 w.heap.size (digB d) _ hu (((bcell hb).1 _ _ (by simp)).trans (by simp [go_sem]))
theorem u8_dig {n : Nat} (h : n < 10) : (48 : Int) + n = (digB n).toNat := by
  rw [digB, UInt8.toNat_ofNat_of_lt' (by show 48 + n < 256; omega)]
  omega
set_option maxRecDepth 20000 in
set_option maxHeartbeats 400000 in
theorem l1Digits_any (n : Nat) : ∀ (w : World), n ≤ 1000000000 →
    Calls Tryd.prog 31 #[.int .i64 n] w fun e w' => e = .returned (.string ⟨(Lib.decDigits n).toArray⟩) ∧ Below w.heap.size w w' := by
  induction n using Nat.strongRecOn with
  | ind n ih =>
    intro w hn
    by_cases h10 : n < 10
    · have hi : (n : Int) < 10 := by omega
      have hcv := cv_at (w.alloc (.cells #[.int .u8 (48 + (n : Int))] 5)) w.heap.size (digB n) (48 + (n : Int)) (u8_dig h10) (by simp [go_sem])
      have HV := hide (dig_one h10)
      have HB := hide (((Below.refl _ w)).alloc (Nat.le_refl _) (.cells #[.int .u8 (48 + (n : Int))] 5))
      go_enter Tryd.func31, Tryd.ntmps31
      go_wp2_with fail
      go_ret
      exact ⟨by rw [unhide HV]; rfl, unhide HB⟩
    · have hi : ¬ (n : Int) < 10 := by omega
      obtain ⟨d, hd⟩ : ∃ d, d = n % 10 := ⟨_, rfl⟩
      obtain ⟨q, hq⟩ : ∃ q, q = n / 10 := ⟨_, rfl⟩
      have hd10 : d < 10 := by omega
      have hqn : q < n := by omega
      have e1 : (n : Int).tdiv 10 = (q : Int) := by rw [Int.tdiv_eq_ediv_of_nonneg (by omega)]; omega
      have e2 : (n : Int).tmod 10 = (d : Int) := by rw [Int.tmod_eq_emod_of_nonneg (by omega)]; omega
      have HV : Hid (Lib.decDigits n = Lib.decDigits q ++ [digB d]) := by rw [hd, hq]; exact dig_more h10
      have HU := hide (u8_dig hd10)
      have hwq : IntKind.i64.wrap (q : Int) = q := by rw [IntKind.wrap_i64]; omega
      have hadd : ∀ W : World, (Op.stringOp .add ⟨(Lib.decDigits q).toArray⟩ ⟨#[digB d]⟩).run Tryd.prog W = .ok (.string (⟨(Lib.decDigits q).toArray⟩ ++ ⟨#[digB d]⟩)) W := fun W => run_string_add_sum W _ _ (by have := dig_len q; show (Lib.decDigits q).toArray.size + 1 ≤ 9223372036854775807; rw [List.size_toArray]; omega)
      have hw1 : IntKind.i64.wrap (48 + (d : Int)) = 48 + (d : Int) := by rw [IntKind.wrap_i64]; omega
      have hw2 : IntKind.u8.wrap (48 + (d : Int)) = 48 + (d : Int) := by rw [u8_wrap]; omega
      have IH := hide (fun w => ih q hqn w (by omega))
      clear hd hq ih hn h10
      go_enter Tryd.func31, Tryd.ntmps31
      go_upto_region 3 with fail
      have hcA : ∀ W : World, (convert 77 9 (.slice (some ⟨W.heap.size, 0, none⟩) 1 1)).run Tryd.prog (W.alloc (.cells #[.int .u8 (48 + (d : Int))] 5)) = .ok (.string ⟨#[digB d]⟩) (W.alloc (.cells #[.int .u8 (48 + (d : Int))] 5)) := fun W => cv_at _ W.heap.size (digB d) _ (unhide HU) (by simp [go_sem])
      have hcD : (convert 77 9 (.slice (some ⟨w.heap.size, 0, none⟩) 1 1)).run Tryd.prog (w.alloc (.cells #[.int .u8 (48 + (d : Int))] 5)).drew = .ok (.string ⟨#[digB d]⟩) (w.alloc (.cells #[.int .u8 (48 + (d : Int))] 5)).drew := cv_at _ w.heap.size (digB d) _ (unhide HU) (by simp [go_sem])
      go_region_with (first
          | (go_at_call 31; refine (unhide IH _).mono ?_; rintro r w5 ⟨rfl, hb5⟩; first | (have k5 := cv_box (unhide HU) hb5) | skip))
      all_goals
        have hB0 : Below w.heap.size w w5 := by
          first
            | with_reducible exact keepB_step hb5 (Below.refl _ w).drew
            | with_reducible exact keepB_step hb5 (keepB_alloc _ (Below.refl _ w)).drew
        have HB := hide hB0
        clear hb5 hB0
        go_wp2_with fail
        go_ret
        exact ⟨by rw [unhide HV]; exact congrArg (fun s => Ending.returned (Value.string s)) (ByteArray.mk_append_mk ..), (by first | with_reducible exact unhide HB | with_reducible exact keepB_alloc _ (unhide HB))⟩
theorem tab_below {w w' : World} (h : Lib.TabIs Tryd.prog w "internal/strconv.uint64pow10" .u64 Lib.pow10Tab) (hb : Below w.heap.size w w') : Lib.TabIs Tryd.prog w' "internal/strconv.uint64pow10" .u64 Lib.pow10Tab := Lib.tabBelow_of_tabIs h w' hb
theorem digitsOf_any (n : Nat) (hn : n ≤ 1000000000) (w : World) (htab : Lib.TabIs Tryd.prog w "internal/strconv.uint64pow10" .u64 Lib.pow10Tab) :
    Calls Tryd.prog 35 #[.int .i64 n] w fun e w' => e = .returned (.string ⟨(Lib.decDigits n).toArray⟩) ∧ Below w.heap.size w w' := by
  have HT := hide htab
  clear htab
  have HI : Hid (Lib.itoa (n : Int) = Lib.decDigits n) := by
    show Lib.itoa (n : Int) = _
    rw [Lib.itoa, if_neg (by omega), Int.toNat_natCast]
  go_enter Tryd.func35, Tryd.ntmps35
  go_wp2_with fail
  refine (Tryd.strconv_FormatInt_10 n (by omega) (by omega) _ (unhide HT)).mono ?_
  rintro e w' ⟨rfl, k, os, rfl⟩
  have HB := hide (Lib.below_grow w.heap.size w (Nat.le_refl _) k os)
  generalize Go.Sort.grow (w.drewN k) os = w5 at *
  go_wp2_with fail
  go_ret
  exact ⟨by rw [← unhide HI]; rfl, unhide HB⟩
end Go.Proofs.YtiopofemelninaaDoor
