/-
  What the text of a reply is; what spec.ReplyText answers.
-/
import Derived.Test.YtiopofemelninaaDoorDigWalk
import Derived.Test.YtiopofemelninaaDoorRepSpecF
import Derived.Test.YtiopofemelninaaDoorRepImplF
import Derived.Test.YtiopofemelninaaDoorWideBox
import Derived.Deep.CutRange
namespace Go.Proofs.YtiopofemelninaaDoor
open Go.RowKit
set_option linter.unusedVariables false

def numsTxt (l : List Int) : List UInt8 := l.flatMap fun v => 32 :: Lib.decDigits v.toNat
def namesTxt (l : List ByteArray) : List UInt8 := l.flatMap fun s => 32 :: s.data.toList
def repL (rc : Int) (rn : List Int) (rs : List ByteArray) : List UInt8 := if rc = 0 then [121, 101, 115] ++ numsTxt rn ++ namesTxt rs else [110, 111, 32] ++ Lib.decDigits rc.toNat
def repVal (rc : Int) (rn : List Int) (rs : List ByteArray) : Value := if repCode rc rn rs = 0 then .agg #[.int .i64 0, .string ⟨(repL rc rn rs).toArray⟩] else .agg #[.int .i64 (repCode rc rn rs), .string ⟨#[]⟩]
theorem rep_zero {rc : Int} {rn : List Int} {rs : List ByteArray} (h : repCode rc rn rs = 0) : 0 ≤ rc ∧ rc ≤ 9 ∧ rn.length ≤ 16 ∧ rs.length ≤ 60 ∧ numsB rn = true ∧ allNames rs = true := by
  unfold repCode at h
  split at h
  · rename_i h1
    rw [inB_true] at h1
    split at h
    · cases h
    · split at h
      · cases h
      · split at h
        · split at h
          · rename_i h5 h6 h7 h8
            exact ⟨h1.1, h1.2, by omega, by omega, h7, h8⟩
          · cases h
        · cases h
  · cases h
theorem numsB_at {l : List Int} (h : numsB l = true) {k : Nat} (hk : k < l.length) : 0 ≤ l[k] ∧ l[k] ≤ 9999 := by
  rw [numsB, List.all_eq_true] at h
  exact inB_true.1 (h _ (List.getElem_mem hk))
theorem names_at {l : List ByteArray} (h : allNames l = true) {k : Nat} (hk : k < l.length) : l[k].size ≤ 6 := by
  rw [allNames, List.all_eq_true] at h
  exact isNameL_len6 (h _ (List.getElem_mem hk))
theorem numsTxt_succ {l : List Int} {k : Nat} (hk : k < l.length) : numsTxt (l.take (k + 1)) = numsTxt (l.take k) ++ 32 :: Lib.decDigits (l[k]).toNat := by
  rw [numsTxt, List.take_succ_eq_append_getElem hk, List.flatMap_append, ← numsTxt]
  simp
theorem namesTxt_succ {l : List ByteArray} {k : Nat} (hk : k < l.length) : namesTxt (l.take (k + 1)) = namesTxt (l.take k) ++ 32 :: (l[k]).data.toList := by
  rw [namesTxt, List.take_succ_eq_append_getElem hk, List.flatMap_append, ← namesTxt]
  simp
theorem numsTxt_len : ∀ {l : List Int}, numsB l = true → (numsTxt l).length ≤ l.length * 10001
  | [], _ => by simp [numsTxt]
  | v :: l, h => by
    rw [numsB, List.all_cons, Bool.and_eq_true, ← numsB] at h
    have h1 := inB_true.1 h.1
    have ih := numsTxt_len h.2
    have hd := dig_len v.toNat
    rw [numsTxt, List.flatMap_cons, ← numsTxt, List.length_append, List.length_cons, List.length_cons]
    omega
theorem namesTxt_len : ∀ {l : List ByteArray}, allNames l = true → (namesTxt l).length ≤ l.length * 7
  | [], _ => by simp [namesTxt]
  | s :: l, h => by
    rw [allNames, List.all_cons, Bool.and_eq_true, ← allNames] at h
    have h1 := isNameL_len6 h.1
    have ih := namesTxt_len h.2
    have hs : s.data.toList.length = s.size := by rw [Array.length_toList]; rfl
    rw [namesTxt, List.flatMap_cons, ← namesTxt, List.length_append, List.length_cons, List.length_cons]
    omega
theorem size_list (s : ByteArray) : s.size = s.data.toList.length := by rw [Array.length_toList]; rfl
theorem numsB_take {l : List Int} (h : numsB l = true) (k : Nat) : numsB (l.take k) = true := by
  rw [numsB, List.all_eq_true] at h ⊢
  exact fun x hx => h x (List.mem_of_mem_take hx)
theorem allNames_take {l : List ByteArray} (h : allNames l = true) (k : Nat) : allNames (l.take k) = true := by
  rw [allNames, List.all_eq_true] at h ⊢
  exact fun x hx => h x (List.mem_of_mem_take hx)
set_option maxRecDepth 20000 in
set_option maxHeartbeats 4000000 in
theorem specReplyText_any (rc : Int) (rn : List Int) (rs : List ByteArray) (a2 a3 : Option Addr) (c2 c3 : Nat) (w : World) (h2 : IntsAt w a2 rn) (h3 : StrsAt w a3 rs) (hs : ∀ s ∈ rs, s.size ≤ maxLen) :
    Calls Tryd.prog 15 #[.agg #[.int .i64 rc, .slice a2 rn.length c2, .slice a3 rs.length c3]] w fun r w' => r = .returned (repVal rc rn rs) ∧ Below w.heap.size w w' := by
  obtain ⟨W, hW, hWz, HB0, HP0, HX0⟩ := boxes2 w [.int .i64 rc, .slice a2 rn.length c2, .slice a3 rs.length c3] [.int .i64 0, .string ⟨#[]⟩] 40 38
  have H2 := hide (h2.below (unhide HB0))
  have H3 := hide (h3.below (unhide HB0))
  have HS := hide hs
  have p0 := (unhide HP0).cell 0
  have p1 := (unhide HP0).cell 1
  have p2 := (unhide HP0).cell 2
  simp only [List.getElem?_cons_zero, List.getElem?_cons_succ] at p0 p1 p2
  clear h2 h3 hs
  go_enter Tryd.func15, Tryd.ntmps15
  go_upto_region 1 with fail
  rw [← hW]
  clear hW
  go_wp2_with fail
  refine (l9Reply_any w.heap.size 0 rc rn rs a2 a3 c2 c3 W p0 p1 p2 (unhide H2) (unhide H3) (unhide HS)).mono ?_
  rintro r w1 ⟨rfl, rfl⟩
  by_cases hc : repCode rc rn rs = 0
  case neg =>
    have hcb : (repCode rc rn rs != 0) = true := by simpa using hc
    have HV : Hid (repVal rc rn rs = .agg #[.int .i64 (repCode rc rn rs), .string ⟨#[]⟩]) := by rw [Hid, repVal, if_neg hc]
    clear hc
    generalize repCode rc rn rs = cd at *
    go_wp2_with (first
      | (refine wpList_store_part rfl 38 (.tmp 2) (.tmp 11) rfl (w.heap.size + 1) 0 _ rfl rfl 38 _ (unhide HX0) (by kernel_rfl) (by simp) (by simp [Value.oneCell']) ?_; intro wZ XZ OZ))
    have XR : Hid (Box wZ (w.heap.size + 1) [.int .i64 cd, .string ⟨#[]⟩] 38) := XZ
    have BR : Hid (Below w.heap.size w wZ) := (unhide OZ).below (unhide HB0) (Nat.le_refl _) (fun q hq e => by omega)
    refine bodyPost_ret (results_cell_row Tryd.results15 _ wZ (w.heap.size + 1) 38 _ (0, 0) _ rfl (unhide XR) Tryd.underlying38 rfl (by kernel_rfl)) rfl ⟨by rw [unhide HV], unhide BR⟩
  obtain ⟨k0, k9, n16, n60, hnb, hab⟩ := rep_zero hc
  have hcb : (repCode rc rn rs != 0) = false := by simpa using hc
  have HV : Hid (repVal rc rn rs = .agg #[.int .i64 0, .string ⟨(repL rc rn rs).toArray⟩]) := by rw [Hid, repVal, if_pos hc]
  clear hc
  by_cases hr : rc = 0
  case neg =>
    obtain ⟨d, rfl⟩ : ∃ d : Nat, rc = d := ⟨rc.toNat, by omega⟩
    have hrb : ((d : Int) != 0) = true := by simpa using hr
    have HL : Hid (repL d rn rs = [110, 111, 32] ++ Lib.decDigits d) := by rw [Hid, repL, if_neg hr, Int.toNat_natCast]
    have hdl := dig_len d
    have hsz : (⟨(Lib.decDigits d).toArray⟩ : ByteArray).size ≤ 11 := by show (Lib.decDigits d).toArray.size ≤ 11; rw [List.size_toArray]; omega
    have HCAT : Hid ((⟨#[110, 111, 32]⟩ ++ ⟨(Lib.decDigits d).toArray⟩ : ByteArray) = ⟨(repL d rn rs).toArray⟩) := by rw [Hid, unhide HL]; exact ByteArray.mk_append_mk ..
    clear hr
    go_wp2_with fail
    refine (l1Digits_any d _ (by omega)).mono ?_
    rintro r w5 ⟨rfl, hb5⟩
    have HX5 := hide ((unhide HX0).below hb5)
    have B5 := hide (below_step (unhide HB0) hb5 (by omega))
    clear hb5 HX0 HB0
    generalize hG : (⟨(Lib.decDigits d).toArray⟩ : ByteArray) = sd at *
    go_wp2_with (first
      | (refine wpList_store_part rfl 38 (.tmp 2) (.tmp 19) rfl (w.heap.size + 1) 0 _ rfl rfl 38 _ (unhide HX5) (by kernel_rfl) (by simp) (by simp [Value.oneCell']) ?_; intro wZ XZ OZ))
    have XR : Hid (Box wZ (w.heap.size + 1) [.int .i64 0, .string (⟨#[110, 111, 32]⟩ ++ sd)] 38) := XZ
    have BR : Hid (Below w.heap.size w wZ) := (unhide OZ).below (unhide B5) (Nat.le_refl _) (fun q hq e => by omega)
    refine bodyPost_ret (results_cell_row Tryd.results15 _ wZ (w.heap.size + 1) 38 _ (0, 0) _ rfl (unhide XR) Tryd.underlying38 rfl (by kernel_rfl)) rfl ⟨by rw [unhide HV, ← unhide HCAT], unhide BR⟩
  subst hr
  have HL : Hid (repL 0 rn rs = [121, 101, 115] ++ numsTxt rn ++ namesTxt rs) := by rw [Hid, repL, if_pos rfl]
  have HNB := hide hnb
  have HAB := hide hab
  clear hnb hab p1 p2 hWz k0 k9
  have hWz : w.heap.size + 2 ≤ w1.heap.size := by have := (unhide HX0).lt; omega
  go_wp2_with fail
  go_loopw [4, 5] (fun s i wr => ∃ (k : Nat) (t : ByteArray), k ≤ rn.length ∧ i = .int .i64 k ∧ s = .string t ∧ Hid (t.data.toList = [121, 101, 115] ++ numsTxt (rn.take k)) ∧ Hid (Below w1.heap.size w1 wr)) (fun _ i _ => rn.length - (intOf i).toNat)
  case atStart => exact ⟨0, _, Nat.zero_le _, rfl, rfl, rfl, Below.refl _ _⟩
  case round =>
    obtain ⟨k, t, hk, rfl, rfl, HT, HB⟩ := hrel
    have zr := (unhide HB).size
    have q1 := ((unhide HP0).below (unhide HB)).cell 1
    simp only [List.getElem?_cons_zero, List.getElem?_cons_succ] at q1
    have hts : t.size ≤ 200000 := by
      rw [size_list, unhide HT, List.length_append]
      have := numsTxt_len (numsB_take (unhide HNB) k)
      rw [List.length_take] at this
      simp only [List.length_cons, List.length_nil]
      omega
    by_cases hkl : k < rn.length
    · obtain ⟨b1, o1, rfl, hb1, hc1⟩ := ((unhide H2).below (unhide HB)).at hkl
      have hc := hc1 k hkl
      obtain ⟨v0, v9⟩ := numsB_at (unhide HNB) hkl
      have HSU := hide (numsTxt_succ hkl)
      obtain ⟨d, hd⟩ : ∃ d : Nat, rn[k] = d := ⟨(rn[k]).toNat, by omega⟩
      rw [hd] at hc v9 HSU
      rw [Int.toNat_natCast] at HSU
      have k0 : (0 : Int) ≤ (k : Int) := by omega
      have k1 : (k : Int) < rn.length := by omega
      clear hd v0 hc1
      have hdl := dig_len d
      have hsz : (⟨(Lib.decDigits d).toArray⟩ : ByteArray).size ≤ 10001 := by show (Lib.decDigits d).toArray.size ≤ 10001; rw [List.size_toArray]; omega
      go_wp2_with fail
      refine (l1Digits_any d _ (by omega)).mono ?_
      rintro r w5 ⟨rfl, hb5⟩
      have B5 := hide (below_step (unhide HB) hb5 (by omega))
      have HS5 : Hid ((t ++ ⟨#[32]⟩ ++ ⟨(Lib.decDigits d).toArray⟩ : ByteArray).data.toList = [121, 101, 115] ++ numsTxt (rn.take (k + 1))) := by
        rw [Hid, unhide HSU, cat_list, cat_list, unhide HT]
        simp
      clear hb5 HB HSU
      generalize (⟨(Lib.decDigits d).toArray⟩ : ByteArray) = sd at *
      go_wp2_with fail
      exact ⟨⟨k + 1, _, by omega, by go_num, rfl, unhide HS5, unhide B5⟩, by simp [intOf]; omega⟩
    · have hke : ¬ (k : Int) < rn.length := by omega
      have HT2 : Hid (t.data.toList = [121, 101, 115] ++ numsTxt rn) := by rw [Hid, unhide HT, List.take_of_length_le (by omega)]
      clear HT hts
      go_wp2_with fail
      go_loopw [4, 6] (fun s i wr2 => ∃ (m : Nat) (t2 : ByteArray), m ≤ rs.length ∧ i = .int .i64 m ∧ s = .string t2 ∧ Hid (t2.data.toList = [121, 101, 115] ++ numsTxt rn ++ namesTxt (rs.take m)) ∧ Hid (Below w1.heap.size w1 wr2)) (fun _ i _ => rs.length - (intOf i).toNat)
      case atStart => exact ⟨0, t, Nat.zero_le _, rfl, rfl, by rw [Hid, unhide HT2]; simp [namesTxt], unhide HB⟩
      case round =>
        obtain ⟨m, t2, hm, rfl, rfl, HU, HB2⟩ := hrel
        have zr2 := (unhide HB2).size
        have q2 := ((unhide HP0).below (unhide HB2)).cell 2
        simp only [List.getElem?_cons_zero, List.getElem?_cons_succ] at q2
        have hts : t2.size ≤ 200000 := by
          rw [size_list, unhide HU, List.length_append, List.length_append]
          have h1 := numsTxt_len (unhide HNB)
          have h2 := namesTxt_len (allNames_take (unhide HAB) m)
          rw [List.length_take] at h2
          simp only [List.length_cons, List.length_nil]
          omega
        by_cases hml : m < rs.length
        · obtain ⟨b1, o1, rfl, hb1, hc1⟩ := ((unhide H3).below (unhide HB2)).at hml
          have hc := hc1 m hml
          have HSU := hide (namesTxt_succ hml)
          have hs6 := names_at (unhide HAB) hml
          have m0 : (0 : Int) ≤ (m : Int) := by omega
          have m1 : (m : Int) < rs.length := by omega
          clear hc1
          generalize rs[m] = sn at *
          have HS5 : Hid ((t2 ++ ⟨#[32]⟩ ++ sn : ByteArray).data.toList = [121, 101, 115] ++ numsTxt rn ++ namesTxt (rs.take (m + 1))) := by
            rw [Hid, unhide HSU, cat_list, cat_list, unhide HU]
            simp
          clear HSU
          go_wp2_with fail
          exact ⟨⟨m + 1, _, by omega, by go_num, rfl, unhide HS5, unhide HB2⟩, by simp [intOf]; omega⟩
        · have hme : ¬ (m : Int) < rs.length := by omega
          have HU2 : Hid (t2 = ⟨(repL 0 rn rs).toArray⟩) := str_eq (by rw [unhide HU, unhide HL, List.take_of_length_le (by omega)])
          have HX2 := hide ((unhide HX0).below (unhide HB2))
          have B2 := hide (below_step (unhide HB0) (unhide HB2) (by omega))
          go_wp2_with (first
            | (refine wpList_store_part rfl 38 (.tmp 2) (.tmp 52) rfl (w.heap.size + 1) 0 _ rfl rfl 38 _ (unhide HX2) (by kernel_rfl) (by simp) (by simp [Value.oneCell']) ?_; intro wZ XZ OZ))
          have XR : Hid (Box wZ (w.heap.size + 1) [.int .i64 0, .string t2] 38) := XZ
          have BR : Hid (Below w.heap.size w wZ) := (unhide OZ).below (unhide B2) (Nat.le_refl _) (fun q hq e => by omega)
          refine bodyPost_ret (results_cell_row Tryd.results15 _ wZ (w.heap.size + 1) 38 _ (0, 0) _ rfl (unhide XR) Tryd.underlying38 rfl (by kernel_rfl)) rfl ⟨by rw [unhide HV, ← unhide HU2], unhide BR⟩
end Go.Proofs.YtiopofemelninaaDoor
