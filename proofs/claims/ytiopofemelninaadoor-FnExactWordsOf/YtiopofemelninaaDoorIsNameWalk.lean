/-
  What spec.IsName and impl.IsName answer: 'isNameL' of the bytes.
-/
import Derived.Test.YtiopofemelninaaDoorProg
import Derived.Test.YtiopofemelninaaDoorNameMath
import Derived.WalkKit
import Derived.WalkLawsBesides
namespace Go.Proofs.YtiopofemelninaaDoor
open Go.RowKit

set_option maxHeartbeats 1000000 in
theorem specIsName_any (s : ByteArray) (w : World) (hs : s.size ≤ maxLen) :
    Calls Tryd.prog 46 #[.string s] w fun e w' => e = .returned (.bool (isNameL s.data.toList)) ∧ w' = w := by
  unfold maxLen at hs
  have hlen : s.data.toList.length = s.size := len_data s
  by_cases h1 : s.size < 1
  · have hr : isNameL s.data.toList = false := by simp only [isNameL, hlen]; simp; omega
    have HR := hide hr
    clear hr hlen
    have h1' : (s.size : Int) < 1 := by omega
    go_enter Tryd.func46, Tryd.ntmps46
    go_wp2
    go_ret
    exact ⟨ret_bool (unhide HR).symm, rfl⟩
  by_cases h2 : 6 < s.size
  · have hr : isNameL s.data.toList = false := by simp only [isNameL, hlen]; simp; omega
    have HR := hide hr
    clear hr hlen
    have h1' : ¬ (s.size : Int) < 1 := by omega
    have h2' : (6 : Int) < s.size := by omega
    go_enter Tryd.func46, Tryd.ntmps46
    go_wp2
    go_ret
    exact ⟨ret_bool (unhide HR).symm, rfl⟩
  have HL := hide hlen
  clear hlen
  have h1' : ¬ (s.size : Int) < 1 := by omega
  have h2' : ¬ (6 : Int) < s.size := by omega
  go_enter Tryd.func46, Tryd.ntmps46
  go_wp2
  go_loop [3] (fun i => ∃ k : Nat, k ≤ s.size ∧ i = .int .i64 k ∧ Hid ((s.data.toList.take k).all lowB = true)) (fun i => s.size - (intOf i).toNat)
  case atStart => exact ⟨0, Nat.zero_le _, rfl, by show _ = _; simp⟩
  case round =>
    obtain ⟨k, hk, rfl, HA⟩ := hrel
    by_cases hlt : k < s.size
    · by_cases hb : lowB s[k] = true
      · have hb1 : 97 ≤ (s[k].toNat : Int) ∧ (s[k].toNat : Int) ≤ 122 := by
          simp only [lowB, Bool.and_eq_true, decide_eq_true_eq] at hb; omega
        have HB := hide hb
        obtain ⟨c1, c2⟩ := hb1
        have c1' : ¬ (s[k].toNat : Int) < 97 := by omega
        have c2' : ¬ 122 < (s[k].toNat : Int) := by omega
        clear hb c1 c2
        go_wp2
        go_round
        case rel => exact ⟨k + 1, by omega, by go_num, all_take_succ (by simpa using hlt) (unhide HA) (unhide HB)⟩
        case measure => simp [intOf]; omega
      · have hf : lowB s[k] = false := by simpa using hb
        have hr : isNameL s.data.toList = false := by
          have := all_false (l := s.data.toList) (k := k) (by simpa using hlt) hf
          simp [isNameL, this]
        have hc : (s[k].toNat : Int) < 97 ∨ 122 < (s[k].toNat : Int) := by
          simp only [lowB, Bool.and_eq_false_iff, decide_eq_false_iff_not] at hf; omega
        have HR := hide hr
        clear hr hb hf
        rcases hc with hc | hc
        · go_wp2
          go_ret
          exact ⟨ret_bool (unhide HR).symm, rfl⟩
        · have hc' : ¬ (s[k].toNat : Int) < 97 := by omega
          go_wp2
          go_ret
          exact ⟨ret_bool (unhide HR).symm, rfl⟩
    · have hr : isNameL s.data.toList = true := by
        have hx := unhide HA
        rw [List.take_of_length_le (by rw [unhide HL]; omega)] at hx
        simp only [isNameL, hx, unhide HL]
        simp; omega
      have HR := hide hr
      clear hr
      go_wp2
      go_ret
      exact ⟨ret_bool (unhide HR).symm, rfl⟩
set_option maxHeartbeats 1000000 in
theorem implIsName_any (s : ByteArray) (w : World) (hs : s.size ≤ maxLen) :
    Calls Tryd.prog 60 #[.string s] w fun e w' => e = .returned (.bool (isNameL s.data.toList)) ∧ (w' = w ∨ ∃ pos, w' = w.iter s pos) := by
  unfold maxLen at hs
  have hlen : s.data.toList.length = s.size := len_data s
  by_cases h1 : s.size < 1
  · have hr : isNameL s.data.toList = false := by simp only [isNameL, hlen]; simp; omega
    have HR := hide hr
    clear hr hlen
    have h1' : (s.size : Int) < 1 := by omega
    go_enter Tryd.func60, Tryd.ntmps60
    go_wp2
    go_ret
    exact ⟨ret_bool (unhide HR).symm, .inl rfl⟩
  by_cases h2 : 6 < s.size
  · have hr : isNameL s.data.toList = false := by simp only [isNameL, hlen]; simp; omega
    have HR := hide hr
    clear hr hlen
    have h1' : ¬ (s.size : Int) < 1 := by omega
    have h2' : (6 : Int) < s.size := by omega
    go_enter Tryd.func60, Tryd.ntmps60
    go_wp2
    go_ret
    exact ⟨ret_bool (unhide HR).symm, .inl rfl⟩
  have HL := hide hlen
  clear hlen
  have h1' : ¬ (s.size : Int) < 1 := by omega
  have h2' : ¬ (6 : Int) < s.size := by omega
  go_enter Tryd.func60, Tryd.ntmps60
  go_wp2
  go_loopw [4] (fun _ wr => ∃ k : Nat, k ≤ s.size ∧ wr = w.iter s k ∧ Hid ((s.data.toList.take k).all lowB = true)) (fun _ wr => s.size - wr.iterPos w.heap.size)
  case atStart => exact ⟨0, Nat.zero_le _, rfl, by show _ = _; simp⟩
  case round =>
    obtain ⟨k, hk, rfl, HA⟩ := hrel
    by_cases hlt : k < s.size
    · have hnx : ∀ ty, (Instr.next (.pointer (some ⟨w.heap.size, 0, none⟩)) true ty).run Tryd.prog (w.iter s k) = _ := fun ty => run_next_any w s k ty hlt
      by_cases hb : 97 ≤ (Utf8.decode s k).1 ∧ (Utf8.decode s k).1 ≤ 122
      · have hd := decode_low s k hlt hb.1 hb.2
        have hlow : lowB s[k] = true := by
          rw [hd] at hb
          simp only [lowB, Bool.and_eq_true, decide_eq_true_eq]
          exact hb
        have HB := hide hlow
        have HD := hide hd
        have c1' : ¬ ((Utf8.decode s k).1 : Int) < 97 := by omega
        have c2' : ¬ 122 < ((Utf8.decode s k).1 : Int) := by omega
        clear hb hlow hd
        go_wp2
        go_roundw
        case rel => exact ⟨k + 1, by omega, by rw [unhide HD], all_take_succ (by simpa using hlt) (unhide HA) (unhide HB)⟩
        case measure => rw [unhide HD]; simp; omega
      · have hf := decode_not_low s k hlt hb
        have hr : isNameL s.data.toList = false := by
          have := all_false (l := s.data.toList) (k := k) (by simpa using hlt) hf
          simp [isNameL, this]
        have hc : ((Utf8.decode s k).1 : Int) < 97 ∨ 122 < ((Utf8.decode s k).1 : Int) := by omega
        have HR := hide hr
        clear hr hb hf
        rcases hc with hc | hc
        · go_wp2
          go_ret
          exact ⟨ret_bool (unhide HR).symm, .inr ⟨_, rfl⟩⟩
        · have hc' : ¬ ((Utf8.decode s k).1 : Int) < 97 := by omega
          go_wp2
          go_ret
          exact ⟨ret_bool (unhide HR).symm, .inr ⟨_, rfl⟩⟩
    · have hnx : ∀ ty, (Instr.next (.pointer (some ⟨w.heap.size, 0, none⟩)) true ty).run Tryd.prog (w.iter s k) = _ := fun ty => run_next_end w s k ty hlt
      have hr : isNameL s.data.toList = true := by
        have hx := unhide HA
        rw [List.take_of_length_le (by rw [unhide HL]; omega)] at hx
        simp only [isNameL, hx, unhide HL]
        simp; omega
      have HR := hide hr
      clear hr
      go_wp2
      go_ret
      exact ⟨ret_bool (unhide HR).symm, .inr ⟨_, rfl⟩⟩
end Go.Proofs.YtiopofemelninaaDoor
