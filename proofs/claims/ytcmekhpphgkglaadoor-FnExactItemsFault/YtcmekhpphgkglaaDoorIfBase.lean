/-
  The parent of a path: what spec.l5Parent, strings.LastIndex and impl.parentOf answer.
-/
import Derived.Test.YtcmekhpphgkglaaDoorIfMath
import Derived.Test.YtcmekhpphgkglaaDoorCutWalk
import Derived.Test.YtcmekhpphgkglaaDoorIsNameWalk
namespace Go.Proofs.YtcmekhpphgkglaaDoor
open Go.RowKit
set_option linter.unusedVariables false

theorem byte_at {s : ByteArray} {k : Nat} (h : k < s.size) : s.data.toList[k]? = some s[k] := by
  rw [List.getElem?_eq_getElem (by rw [len_data]; exact h)]
  rfl
theorem root_extract {s : ByteArray} {r : List UInt8} (h : s.data.toList = 47 :: r) : s.extract 0 1 = ⟨#[47]⟩ := by
  have h1 := extract_data s 0 1
  rw [h] at h1
  simp at h1
  have : (s.extract 0 1).data = #[47] := by
    apply Array.ext'
    simpa using h1
  cases hs : s.extract 0 1 with
  | mk d => rw [hs] at this; simp at this; rw [this]
theorem byte_is {s : ByteArray} {k : Nat} (h : k < s.size) (h1 : s.data.toList[k]? = some 47) : ((s[k].toNat : Int) == 47) = true := by
  rw [byte_at h] at h1
  have : s[k] = 47 := Option.some.inj h1
  rw [this]; decide
theorem byte_not {s : ByteArray} {k : Nat} (h : k < s.size) (h1 : s.data.toList[k]? ≠ some 47) : ((s[k].toNat : Int) == 47) = false := by
  simp only [beq_eq_false_iff_ne, ne_eq]
  intro e
  apply h1
  have e2 : s[k].toNat = 47 := by omega
  have e3 : s[k] = 47 := UInt8.toNat_inj.1 e2
  rw [byte_at h, e3]
theorem head_at {l r : List UInt8} (h : l = 47 :: r) : l[0]? = some 47 := by rw [h]; rfl
set_option maxHeartbeats 1000000 in
theorem l5Parent_any (s : ByteArray) (w : World) (hs : s.size ≤ 1048576) (r : List UInt8) (hr : s.data.toList = 47 :: r) :
    Calls Tryd.prog 17 #[.string s] w fun e w' => e = .returned (.string (parB s)) ∧ w' = w := by
  have hlen : s.data.toList.length = s.size := len_data s
  have hpos : 0 < s.size := by rw [← hlen, hr]; simp
  have HR := hide hr
  have HL := hide hlen
  clear hr hlen
  go_enter Tryd.func17, Tryd.ntmps17
  go_wp2_with fail
  go_loop [3] (fun i => ∃ k : Nat, k < s.size ∧ i = .int .i64 k ∧ Hid (lastSl s.data.toList = lastTo s.data.toList k)) (fun i => (intOf i).toNat)
  case atStart => exact ⟨s.size - 1, by omega, by go_num, by rw [Hid, lastSl, unhide HL]⟩
  case round =>
    obtain ⟨k, hk, rfl, HX⟩ := hrel
    have hk' : (k : Int) < s.size := by omega
    by_cases h47 : s.data.toList[k]? = some 47
    · have hb := byte_is hk h47
      have hbn : ((s[k].toNat : Int) != 47) = false := by rw [bne, hb]; rfl
      have HK := hide ((unhide HX).trans (lastTo_at h47))
      clear HX h47 hb
      by_cases hk0 : k = 0
      · subst hk0
        have HV : Hid (parB s = ⟨#[47]⟩) := by rw [Hid, parB, if_pos (unhide HK)]
        clear HK
        go_wp2_with fail
        go_ret
        exact ⟨by rw [unhide HV]; rfl, rfl⟩
      · have HV : Hid (parB s = s.extract 0 k) := by rw [Hid, parB, unhide HK, if_neg hk0]
        have hkb : ((k : Int) == 0) = false := by simp; omega
        clear HK
        go_wp2_with fail
        go_ret
        exact ⟨by rw [unhide HV]; rfl, rfl⟩
    · have hb := byte_not hk h47
      have hbn : ((s[k].toNat : Int) != 47) = true := by rw [bne, hb]; rfl
      obtain ⟨j, rfl⟩ : ∃ j, k = j + 1 := ⟨k - 1, by
        by_cases hk0 : k = 0
        · subst hk0
          exact absurd (head_at (unhide HR)) h47
        · omega⟩
      have HY := hide ((unhide HX).trans (lastTo_no h47))
      clear HX h47 hb
      go_wp2_with fail
      go_round
      case rel => exact ⟨j, by omega, by go_num, HY⟩
      case measure => simp [intOf]
set_option maxHeartbeats 1000000 in
theorem lastByte_any (s : ByteArray) (w : World) (hs : s.size ≤ 1048576) (r : List UInt8) (hr : s.data.toList = 47 :: r) :
    Calls Tryd.prog 79 #[.string s, .int .u8 47] w fun e w' => e = .returned (.int .i64 (lastSl s.data.toList)) ∧ w' = w := by
  have hlen : s.data.toList.length = s.size := len_data s
  have hpos : 0 < s.size := by rw [← hlen, hr]; simp
  have HR := hide hr
  have HL := hide hlen
  clear hr hlen
  go_enter Tryd.func79, Tryd.ntmps79
  go_wp2_with fail
  go_loop [5] (fun i => ∃ k : Nat, k < s.size ∧ i = .int .i64 k ∧ Hid (lastSl s.data.toList = lastTo s.data.toList k)) (fun i => (intOf i).toNat)
  case atStart => exact ⟨s.size - 1, by omega, by go_num, by rw [Hid, lastSl, unhide HL]⟩
  case round =>
    obtain ⟨k, hk, rfl, HX⟩ := hrel
    have hk' : (k : Int) < s.size := by omega
    by_cases h47 : s.data.toList[k]? = some 47
    · have hb := byte_is hk h47
      have HV := hide ((unhide HX).trans (lastTo_at h47))
      clear HX h47
      go_wp2_with fail
      go_ret
      exact ⟨by rw [unhide HV]; rfl, rfl⟩
    · have hb := byte_not hk h47
      obtain ⟨j, rfl⟩ : ∃ j, k = j + 1 := ⟨k - 1, by
        by_cases hk0 : k = 0
        · subst hk0
          exact absurd (head_at (unhide HR)) h47
        · omega⟩
      have HY := hide ((unhide HX).trans (lastTo_no h47))
      clear HX h47
      go_wp2_with fail
      go_round
      case rel => exact ⟨j, by omega, by go_num, HY⟩
      case measure => simp [intOf]
set_option maxHeartbeats 1000000 in
theorem lastIndex_any (s : ByteArray) (w : World) (hs : s.size ≤ 1048576) (r : List UInt8) (hr : s.data.toList = 47 :: r) :
    Calls Tryd.prog 61 #[.string s, .string ⟨#[47]⟩] w fun e w' => e = .returned (.int .i64 (lastSl s.data.toList)) ∧ w' = w := by
  have HR := hide hr
  clear hr
  go_enter Tryd.func61, Tryd.ntmps61
  go_wp2_with fail
  refine (lastByte_any s _ hs r (unhide HR)).mono ?_
  rintro e w1 ⟨rfl, rfl⟩
  go_wp2_with fail
  go_ret
  exact ⟨rfl, rfl⟩
set_option maxHeartbeats 1000000 in
theorem parentOf_any (s : ByteArray) (w : World) (hs : s.size ≤ 1048576) (r : List UInt8) (hr : s.data.toList = 47 :: r) :
    Calls Tryd.prog 37 #[.string s] w fun e w' => e = .returned (.string (parB s)) ∧ w' = w := by
  have hlen : s.data.toList.length = s.size := len_data s
  have hpos : 0 < s.size := by rw [← hlen, hr]; simp
  have hlt := lastSl_lt hr
  rw [hlen] at hlt
  have HR := hide hr
  have hv : parB s = s.extract 0 (max (lastSl s.data.toList) 1) := by
    rw [parB]
    by_cases h0 : lastSl s.data.toList = 0
    · rw [if_pos h0, h0]; exact (root_extract hr).symm
    · rw [if_neg h0, Nat.max_eq_left (by omega)]
  have HV := hide hv
  clear hr hlen hv
  go_enter Tryd.func37, Tryd.ntmps37
  go_wp2_with fail
  refine (lastIndex_any s _ hs r (unhide HR)).mono ?_
  rintro e w1 ⟨rfl, rfl⟩
  generalize lastSl s.data.toList = k at *
  go_wp2_with fail
  · have hm : max k 1 = 1 := by omega
    go_ret
    exact ⟨by rw [unhide HV, hm]; rfl, rfl⟩
  · have hm : max k 1 = k := by omega
    go_ret
    exact ⟨by rw [unhide HV, hm]; rfl, rfl⟩
end Go.Proofs.YtcmekhpphgkglaaDoor
