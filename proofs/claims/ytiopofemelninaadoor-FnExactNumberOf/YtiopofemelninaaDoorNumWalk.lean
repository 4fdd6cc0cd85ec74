/-
  What impl.readNumber, impl.NumberOf, spec.l10Number and spec.NumberOf answer.
-/
import Derived.Test.YtiopofemelninaaDoorNumMath
import Derived.Test.YtiopofemelninaaDoorAsUnread
import Derived.Test.YtiopofemelninaaDoorShelfP
import Derived.Test.YtiopofemelninaaDoorInWalk
import Derived.Test.YtiopofemelninaaDoorWideBox
import Derived.Lib.AtoiErrMem
import Derived.Deep.CutRange
namespace Go.Proofs.YtiopofemelninaaDoor
open Go.RowKit
set_option linter.unusedVariables false

theorem bytes_inj {a b : ByteArray} (h : a.toList = b.toList) : a = b := by
  have e : ∀ x : ByteArray, x.toList = x.data.toList := fun x => by
    unfold ByteArray.toList
    have key : ∀ (n i : Nat) (r : List UInt8), x.size - i = n → ByteArray.toList.loop x i r = r.reverse ++ x.data.toList.drop i := by
      intro n
      induction n with
      | zero =>
        intro i r hi
        unfold ByteArray.toList.loop
        rw [if_neg (by omega), List.drop_of_length_le (by rw [Array.length_toList]; show x.size ≤ i; omega)]
        simp
      | succ n ih =>
        intro i r hi
        unfold ByteArray.toList.loop
        rw [if_pos (by omega), ih (i + 1) _ (by omega)]
        have hlt : i < x.data.toList.length := by rw [Array.length_toList]; show i < x.size; omega
        rw [List.drop_eq_getElem_cons hlt]
        have hg : x.get! i = x.data.toList[i] := by
          show x.data[i]! = _
          rw [getElem!_pos x.data i (by show i < x.size; omega)]
          rfl
        rw [hg]
        simp
    rw [key _ 0 [] rfl]
    simp
  rw [e, e] at h
  obtain ⟨⟨l⟩⟩ := a
  obtain ⟨⟨m⟩⟩ := b
  simp only at h
  rw [h]
theorem var_below {P : Program} {w w' : World} {n : String} {cs : Array Value} (h : w.var? P n = some cs) (hb : Below w.heap.size w w') : w'.var? P n = some cs := by
  unfold World.var? at *
  cases hg : P.globalNamed n with
  | none => simp [hg] at h
  | some g =>
    simp only [hg, Option.bind_some] at h ⊢
    have hlt : g < w.heap.size := by
      rcases Nat.lt_or_ge g w.heap.size with h' | h'
      · exact h'
      · rw [Array.getElem?_eq_none h'] at h; simp at h
    rw [hb.block g hlt]
    exact h
def numVal (l : List UInt8) : Value := match numOf l with | some n => .agg #[.int .i64 0, .int .i64 n] | none => .agg #[.int .i64 5, .int .i64 0]
/-- What the road of a number reads of the library's variables. -/
structure NumG (w : World) : Prop where
  tab : Lib.TabIs Tryd.prog w "internal/strconv.uint64pow10" .u64 Lib.pow10Tab
  et : EtAt w
  syn : ∃ tp p, w.var? Tryd.prog "strconv.ErrSyntax" = some #[.iface tp p]
  rng : ∃ tp p, w.var? Tryd.prog "strconv.ErrRange" = some #[.iface tp p]
theorem NumG.below {w w' : World} (h : NumG w) (hb : Below w.heap.size w w') : NumG w' :=
  ⟨tab_below h.tab hb, h.et.below hb, by obtain ⟨tp, p, e⟩ := h.syn; exact ⟨tp, p, var_below e hb⟩, by obtain ⟨tp, p, e⟩ := h.rng; exact ⟨tp, p, var_below e hb⟩⟩
/-- What readNumber answers. -/
def readVal (l : List UInt8) : Value := match numOf l with | some n => .tuple #[.int .i64 n, .nilIface] | none => .tuple #[.int .i64 0, .iface 67 (.agg #[.int .i64 5])]
theorem below_or {w w' : World} {e : TypeId} (h : w' = w ∨ ∃ t, w' = Lib.bytesWorld w e t) : Below w.heap.size w w' := by
  rcases h with rfl | ⟨t, rfl⟩
  · exact Below.refl _ _
  · exact Lib.bytesWorld_below _ _ _
set_option maxRecDepth 20000 in
set_option maxHeartbeats 2000000 in
theorem readNumber_any (s : ByteArray) (w : World) (hs : s.size ≤ 1048576) (hG : NumG w) :
    Calls Tryd.prog 27 #[.string s] w fun e w' => e = .returned (readVal s.data.toList) ∧ Below w.heap.size w w' := by
  have HG := hide hG
  clear hG
  cases hp : Lib.parseIntB 64 s.data.toList with
  | «syntax» =>
    have HV : Hid (readVal s.data.toList = .tuple #[.int .i64 0, .iface 67 (.agg #[.int .i64 5])]) := by
      rw [Hid, readVal]
      cases hn : numOf s.data.toList with
      | none => rfl
      | some n => rw [num_parse hn] at hp; cases hp
    obtain ⟨tp, p, hv⟩ := (unhide HG).syn
    have HP := hide hp
    have HVV := hide hv
    clear hp hv
    go_enter Tryd.func27, Tryd.ntmps27
    go_wp2_with fail
    refine (Tryd.strconv_ParseInt_10_at64_syntax_var s (by omega) (unhide HP) tp p _ (unhide HVV)).mono ?_
    rintro e w5 ⟨N, rfl, _, _, hb⟩
    have HB := hide hb
    clear hb
    go_wp2_with fail
    refine bodyPost_ret (v := .tuple #[.int .i64 0, .iface 67 (.agg #[.int .i64 5])]) (by simp [results, Tryd.results27, go_sem]) rfl ⟨by rw [unhide HV], unhide HB⟩
  | range =>
    have HV : Hid (readVal s.data.toList = .tuple #[.int .i64 0, .iface 67 (.agg #[.int .i64 5])]) := by
      rw [Hid, readVal]
      cases hn : numOf s.data.toList with
      | none => rfl
      | some n => rw [num_parse hn] at hp; cases hp
    obtain ⟨tp, p, hv⟩ := (unhide HG).rng
    have HP := hide hp
    have HVV := hide hv
    clear hp hv
    go_enter Tryd.func27, Tryd.ntmps27
    go_wp2_with fail
    refine (Tryd.strconv_ParseInt_10_at64_range_var s (by omega) (unhide HP) tp p _ (unhide HVV)).mono ?_
    rintro e w5 ⟨N, rfl, _, _, hb⟩
    have HB := hide hb
    clear hb
    go_wp2_with fail
    refine bodyPost_ret (v := .tuple #[.int .i64 0, .iface 67 (.agg #[.int .i64 5])]) (by simp [results, Tryd.results27, go_sem]) rfl ⟨by rw [unhide HV], unhide HB⟩
  | ok v =>
    have HP := hide hp
    cases hin : inB v 0 999999
    · have HV : Hid (readVal s.data.toList = .tuple #[.int .i64 0, .iface 67 (.agg #[.int .i64 5])]) := by
        rw [Hid, readVal]
        cases hn : numOf s.data.toList with
        | none => rfl
        | some n =>
          have h1 := num_parse hn
          rw [hp] at h1
          injection h1 with h1
          have h2 := ((num_iff _ _).1 hn).1
          rw [h1, inB_true.2 ⟨by omega, by omega⟩] at hin
          cases hin
      clear hp
      go_enter Tryd.func27, Tryd.ntmps27
      go_wp2_with fail
      refine (Tryd.strconv_ParseInt_10_at64_ok s (by omega) v (unhide HP) _).mono ?_
      rintro e w5 ⟨rfl, hw⟩
      have HB := hide (below_or hw)
      clear hw
      go_wp2_with (go_at_call 44; refine (isWithin_any _ _ _ _).mono ?_; rintro r w1 ⟨rfl, rfl⟩; rw [hin])
      refine bodyPost_ret (v := .tuple #[.int .i64 0, .iface 67 (.agg #[.int .i64 5])]) (by simp [results, Tryd.results27, go_sem]) rfl ⟨by rw [unhide HV], unhide HB⟩
    · obtain ⟨n, rfl⟩ : ∃ n : Nat, v = n := ⟨v.toNat, by have := inB_true.1 hin; omega⟩
      have hn9 : n ≤ 999999 := by have := inB_true.1 hin; omega
      by_cases hd : (⟨(Lib.decDigits n).toArray⟩ : ByteArray) = s
      · have HV : Hid (readVal s.data.toList = .tuple #[.int .i64 n, .nilIface]) := by
          rw [Hid, readVal, (num_iff _ n).2 ⟨hn9, by rw [← hd]⟩]
        have HD := hide hd
        clear hp hd
        go_enter Tryd.func27, Tryd.ntmps27
        go_wp2_with fail
        refine (Tryd.strconv_ParseInt_10_at64_ok s (by omega) n (unhide HP) _).mono ?_
        rintro e w5 ⟨rfl, hw⟩
        have HB := hide (below_or hw)
        have HG5 := hide ((unhide HG).below (unhide HB))
        clear hw HG
        go_wp2_with (go_at_call 44; refine (isWithin_any _ _ _ _).mono ?_; rintro r w1 ⟨rfl, rfl⟩; rw [hin])
        refine (digitsOf_any n (by omega) _ (unhide HG5).tab).mono ?_
        rintro e w6 ⟨rfl, hb6⟩
        have B6 := hide (below_step (unhide HB) hb6 (unhide HB).size)
        rw [unhide HD]
        clear hb6 HB
        go_wp2_with fail
        refine bodyPost_ret (v := .tuple #[.int .i64 n, .nilIface]) (by simp [results, Tryd.results27, go_sem]) rfl ⟨by rw [unhide HV], unhide B6⟩
      · have hnb : (((⟨(Lib.decDigits n).toArray⟩ : ByteArray).toList == s.toList)) = false := by
          rw [beq_eq_false_iff_ne]
          exact fun h => hd (bytes_inj h)
        have HV : Hid (readVal s.data.toList = .tuple #[.int .i64 0, .iface 67 (.agg #[.int .i64 5])]) := by
          rw [Hid, readVal]
          cases hn : numOf s.data.toList with
          | none => rfl
          | some m =>
            have h1 := num_parse hn
            rw [hp] at h1
            injection h1 with h1
            have h2 : n = m := by omega
            subst h2
            exact absurd (str_eq ((num_iff _ _).1 hn).2.symm).symm hd
        have HD := hide hd
        clear hp hd
        go_enter Tryd.func27, Tryd.ntmps27
        go_wp2_with fail
        refine (Tryd.strconv_ParseInt_10_at64_ok s (by omega) n (unhide HP) _).mono ?_
        rintro e w5 ⟨rfl, hw⟩
        have HB := hide (below_or hw)
        have HG5 := hide ((unhide HG).below (unhide HB))
        clear hw HG
        go_wp2_with (go_at_call 44; refine (isWithin_any _ _ _ _).mono ?_; rintro r w1 ⟨rfl, rfl⟩; rw [hin])
        refine (digitsOf_any n (by omega) _ (unhide HG5).tab).mono ?_
        rintro e w6 ⟨rfl, hb6⟩
        have B6 := hide (below_step (unhide HB) hb6 (unhide HB).size)
        generalize (⟨(Lib.decDigits n).toArray⟩ : ByteArray) = sd at *
        clear hb6 HB
        go_wp2_with fail
        refine bodyPost_ret (v := .tuple #[.int .i64 0, .iface 67 (.agg #[.int .i64 5])]) (by simp [results, Tryd.results27, go_sem]) rfl ⟨by rw [unhide HV], unhide B6⟩
set_option maxRecDepth 20000 in
set_option maxHeartbeats 2000000 in
theorem implNumberOf_any (s : ByteArray) (w : World) (hs : s.size ≤ 1048576) (hG : NumG w) :
    Calls Tryd.prog 12 #[.string s] w fun e w' => e = .returned (numVal s.data.toList) ∧ Below w.heap.size w w' := by
  obtain ⟨W, hW, hWz, HB0, HX0⟩ := boxes1 w [.int .i64 0, .int .i64 0] 30
  have HG := hide (hG.below (unhide HB0))
  clear hG
  go_enter Tryd.func12, Tryd.ntmps12
  go_upto_region 1 with fail
  rw [← hW]
  clear hW
  go_wp2_with fail
  refine (readNumber_any s _ hs (unhide HG)).mono ?_
  rintro e w1 ⟨rfl, hb1⟩
  have HG1 := hide ((unhide HG).below hb1)
  have HX1 := hide ((unhide HX0).below hb1)
  have B1 := hide (below_step (unhide HB0) hb1 (by omega))
  clear hb1 HG HX0 HB0
  cases hn : numOf s.data.toList with
  | none =>
    have HV : Hid (numVal s.data.toList = .agg #[.int .i64 5, .int .i64 0]) := by rw [Hid, numVal, hn]
    have HR : Hid (readVal s.data.toList = .tuple #[.int .i64 0, .iface 67 (.agg #[.int .i64 5])]) := by rw [Hid, readVal, hn]
    rw [unhide HR]
    clear hn HR
    go_wp2_with fail
    refine (codeOf_hit 5 _ (unhide HG1).et).mono ?_
    rintro e w2 ⟨rfl, hb2⟩
    have HX2 := hide ((unhide HX1).below hb2)
    have B2 := hide (below_step (unhide B1) hb2 (unhide B1).size)
    clear hb2 HX1 B1
    go_wp2_with (first
      | (refine wpList_store_part rfl 30 (.tmp 2) (.tmp 13) rfl w.heap.size 0 _ rfl rfl 30 _ (unhide HX2) (by kernel_rfl) (by simp) (by simp [Value.oneCell']) ?_; intro wZ XZ OZ))
    have XR : Hid (Box wZ w.heap.size [.int .i64 5, .int .i64 0] 30) := XZ
    have BR : Hid (Below w.heap.size w wZ) := (unhide OZ).below (unhide B2) (Nat.le_refl _) (fun q hq e => by omega)
    refine bodyPost_ret (results_cell_row Tryd.results12 _ wZ w.heap.size 30 _ (0, 0) _ rfl (unhide XR) Tryd.underlying30 rfl (by kernel_rfl)) rfl ⟨by rw [unhide HV], unhide BR⟩
  | some n =>
    have HV : Hid (numVal s.data.toList = .agg #[.int .i64 0, .int .i64 n]) := by rw [Hid, numVal, hn]
    have HR : Hid (readVal s.data.toList = .tuple #[.int .i64 n, .nilIface]) := by rw [Hid, readVal, hn]
    rw [unhide HR]
    clear hn HR
    go_wp2_with fail
    refine (codeOf_nil _).mono ?_
    rintro e w2 ⟨rfl, hb2⟩
    have HX2 := hide ((unhide HX1).below hb2)
    have B2 := hide (below_step (unhide B1) hb2 (unhide B1).size)
    clear hb2 HX1 B1
    go_wp2_with (first
      | (refine wpList_store_part rfl 30 (.tmp 2) (.tmp 13) rfl w.heap.size 0 _ rfl rfl 30 _ (unhide HX2) (by kernel_rfl) (by simp) (by simp [Value.oneCell']) ?_; intro wZ XZ OZ))
    have XR : Hid (Box wZ w.heap.size [.int .i64 0, .int .i64 n] 30) := XZ
    have BR : Hid (Below w.heap.size w wZ) := (unhide OZ).below (unhide B2) (Nat.le_refl _) (fun q hq e => by omega)
    refine bodyPost_ret (results_cell_row Tryd.results12 _ wZ w.heap.size 30 _ (0, 0) _ rfl (unhide XR) Tryd.underlying30 rfl (by kernel_rfl)) rfl ⟨by rw [unhide HV], unhide BR⟩
def numInt (l : List UInt8) : Int := match numOf l with | some n => n | none => -1
theorem numOf_no {l : List UInt8} (h : ¬ (1 ≤ l.length ∧ l.length ≤ 6 ∧ ¬ (l[0]? = some 48 ∧ 1 < l.length))) : numInt l = -1 := by rw [numInt, numOf, if_neg h]
theorem numAcc_drop {l : List UInt8} {k : Nat} (hk : k < l.length) (v : Nat) : numAcc v (l.drop k) = if 48 ≤ (l[k]).toNat ∧ (l[k]).toNat ≤ 57 then numAcc (v * 10 + ((l[k]).toNat - 48)) (l.drop (k + 1)) else none := by
  rw [List.drop_eq_getElem_cons hk, numAcc]
set_option maxRecDepth 20000 in
set_option maxHeartbeats 4000000 in
theorem l10Number_any (s : ByteArray) (w : World) (hs : s.size ≤ 1048576) :
    Calls Tryd.prog 26 #[.string s] w fun e w' => e = .returned (.int .i64 (numInt s.data.toList)) ∧ w' = w := by
  have hlen : s.data.toList.length = s.size := by rw [Array.length_toList]; rfl
  by_cases h1 : s.size < 1
  · have HR := hide (numOf_no (l := s.data.toList) (by omega))
    have h1' : (s.size : Int) < 1 := by omega
    clear hlen h1
    go_enter Tryd.func26, Tryd.ntmps26
    go_wp2
    go_ret
    exact ⟨ret_int (unhide HR).symm, rfl⟩
  by_cases h6 : 6 < s.size
  · have HR := hide (numOf_no (l := s.data.toList) (by omega))
    have h1' : ¬ (s.size : Int) < 1 := by omega
    have h6' : (6 : Int) < s.size := by omega
    clear hlen h1 h6
    go_enter Tryd.func26, Tryd.ntmps26
    go_wp2
    go_ret
    exact ⟨ret_int (unhide HR).symm, rfl⟩
  have h1' : ¬ (s.size : Int) < 1 := by omega
  have h6' : ¬ (6 : Int) < s.size := by omega
  have hp : 0 < s.size := by omega
  have h0' : (0 : Int) < s.size := by omega
  have hz : s.data.toList[0]? = some (s[0]'hp) := by rw [List.getElem?_eq_getElem (by omega)]; rfl
  by_cases hl : (s[0]'hp) = 48
  · by_cases h2 : 1 < s.size
    · have HR := hide (numOf_no (l := s.data.toList) (fun h => h.2.2 ⟨by rw [hz, hl], by omega⟩))
      have hb : (((s[0]'hp).toNat : Int) == 48) = true := by rw [hl]; rfl
      have h2' : (1 : Int) < s.size := by omega
      clear hlen hz hl
      go_enter Tryd.func26, Tryd.ntmps26
      go_wp2
      go_ret
      exact ⟨ret_int (unhide HR).symm, rfl⟩
    · have hb : (((s[0]'hp).toNat : Int) == 48) = true := by rw [hl]; rfl
      have h2' : ¬ (1 : Int) < s.size := by omega
      have HN : Hid (numOf s.data.toList = numAcc 0 s.data.toList) := by rw [Hid, numOf, if_pos ⟨by omega, by omega, fun h => by omega⟩]
      clear hz hl
      go_enter Tryd.func26, Tryd.ntmps26
      go_wp2
      go_loop [3, 4] (fun nv i => ∃ k v : Nat, k ≤ s.size ∧ i = .int .i64 k ∧ nv = .int .i64 v ∧ Hid (numAcc 0 s.data.toList = numAcc v (s.data.toList.drop k)) ∧ Hid (v + 1 ≤ 10 ^ k)) (fun _ i => s.size - (intOf i).toNat)
      case atStart => exact ⟨0, 0, Nat.zero_le _, rfl, rfl, rfl, by simp [Hid]⟩
      case round =>
        obtain ⟨k, v, hk, rfl, rfl, HA, hv⟩ := hrel
        have hv6 : v ≤ 999999 := by
          have h1 : v + 1 ≤ 10 ^ k := unhide hv
          have h2 : 10 ^ k ≤ 10 ^ 6 := Nat.pow_le_pow_right (by omega) (by omega)
          omega
        by_cases hlt : k < s.size
        · have hst := numAcc_drop (l := s.data.toList) (k := k) (by omega) v
          rw [show s.data.toList[k]'(by omega) = s[k] from rfl] at hst
          by_cases hd : 48 ≤ s[k].toNat ∧ s[k].toNat ≤ 57
          · have HA2 : Hid (numAcc 0 s.data.toList = numAcc (v * 10 + (s[k].toNat - 48)) (s.data.toList.drop (k + 1))) := by rw [Hid, unhide HA, hst, if_pos hd]
            have hv2 : Hid (v * 10 + (s[k].toNat - 48) + 1 ≤ 10 ^ (k + 1)) := by
              have h1 : v + 1 ≤ 10 ^ k := unhide hv
              rw [Hid, Nat.pow_succ]
              omega
            obtain ⟨d1, d2⟩ := hd
            have c1 : ¬ (s[k].toNat : Int) < 48 := by omega
            have c2 : ¬ (57 : Int) < (s[k].toNat : Int) := by omega
            clear hst HA hv hlen
            go_wp2
            go_round
            case rel => exact ⟨k + 1, v * 10 + (s[k].toNat - 48), by omega, by go_num, by first | go_num | (congr 1; omega), HA2, hv2⟩
            case measure => simp [intOf]; omega
          · have HR : Hid (numInt s.data.toList = -1) := by rw [Hid, numInt, unhide HN, unhide HA, hst, if_neg hd]
            have hc : (s[k].toNat : Int) < 48 ∨ (57 : Int) < (s[k].toNat : Int) := by omega
            clear hst HA hv hd hlen
            rcases hc with hc | hc
            · go_wp2
              go_ret
              exact ⟨ret_int (unhide HR).symm, rfl⟩
            · have hc' : ¬ (s[k].toNat : Int) < 48 := by omega
              go_wp2
              go_ret
              exact ⟨ret_int (unhide HR).symm, rfl⟩
        · have HR : Hid (numInt s.data.toList = v) := by rw [Hid, numInt, unhide HN, unhide HA, List.drop_of_length_le (by omega), numAcc]
          have hlt' : ¬ (k : Int) < s.size := by omega
          clear HA hv hlen
          go_wp2
          go_ret
          exact ⟨ret_int (unhide HR).symm, rfl⟩
  · have hb : (((s[0]'hp).toNat : Int) == 48) = false := by
      rw [beq_eq_false_iff_ne]
      intro h
      refine hl (UInt8.toNat_inj.1 ?_)
      have h48 : (48 : UInt8).toNat = 48 := rfl
      omega
    have HN : Hid (numOf s.data.toList = numAcc 0 s.data.toList) := by
      have hne : ¬ (s.data.toList[0]? = some 48 ∧ 1 < s.data.toList.length) := fun h => hl (Option.some.inj (hz.symm.trans h.1))
      rw [Hid, numOf, if_pos ⟨by omega, by omega, hne⟩]
    clear hz hl
    go_enter Tryd.func26, Tryd.ntmps26
    go_wp2
    go_loop [3, 4] (fun nv i => ∃ k v : Nat, k ≤ s.size ∧ i = .int .i64 k ∧ nv = .int .i64 v ∧ Hid (numAcc 0 s.data.toList = numAcc v (s.data.toList.drop k)) ∧ Hid (v + 1 ≤ 10 ^ k)) (fun _ i => s.size - (intOf i).toNat)
    case atStart => exact ⟨0, 0, Nat.zero_le _, rfl, rfl, rfl, by simp [Hid]⟩
    case round =>
      obtain ⟨k, v, hk, rfl, rfl, HA, hv⟩ := hrel
      have hv6 : v ≤ 999999 := by
        have h1 : v + 1 ≤ 10 ^ k := unhide hv
        have h2 : 10 ^ k ≤ 10 ^ 6 := Nat.pow_le_pow_right (by omega) (by omega)
        omega
      by_cases hlt : k < s.size
      · have hst := numAcc_drop (l := s.data.toList) (k := k) (by omega) v
        rw [show s.data.toList[k]'(by omega) = s[k] from rfl] at hst
        by_cases hd : 48 ≤ s[k].toNat ∧ s[k].toNat ≤ 57
        · have HA2 : Hid (numAcc 0 s.data.toList = numAcc (v * 10 + (s[k].toNat - 48)) (s.data.toList.drop (k + 1))) := by rw [Hid, unhide HA, hst, if_pos hd]
          have hv2 : Hid (v * 10 + (s[k].toNat - 48) + 1 ≤ 10 ^ (k + 1)) := by
            have h1 : v + 1 ≤ 10 ^ k := unhide hv
            rw [Hid, Nat.pow_succ]
            omega
          obtain ⟨d1, d2⟩ := hd
          have c1 : ¬ (s[k].toNat : Int) < 48 := by omega
          have c2 : ¬ (57 : Int) < (s[k].toNat : Int) := by omega
          clear hst HA hv hlen
          go_wp2
          go_round
          case rel => exact ⟨k + 1, v * 10 + (s[k].toNat - 48), by omega, by go_num, by first | go_num | (congr 1; omega), HA2, hv2⟩
          case measure => simp [intOf]; omega
        · have HR : Hid (numInt s.data.toList = -1) := by rw [Hid, numInt, unhide HN, unhide HA, hst, if_neg hd]
          have hc : (s[k].toNat : Int) < 48 ∨ (57 : Int) < (s[k].toNat : Int) := by omega
          clear hst HA hv hd hlen
          rcases hc with hc | hc
          · go_wp2
            go_ret
            exact ⟨ret_int (unhide HR).symm, rfl⟩
          · have hc' : ¬ (s[k].toNat : Int) < 48 := by omega
            go_wp2
            go_ret
            exact ⟨ret_int (unhide HR).symm, rfl⟩
      · have HR : Hid (numInt s.data.toList = v) := by rw [Hid, numInt, unhide HN, unhide HA, List.drop_of_length_le (by omega), numAcc]
        have hlt' : ¬ (k : Int) < s.size := by omega
        clear HA hv hlen
        go_wp2
        go_ret
        exact ⟨ret_int (unhide HR).symm, rfl⟩
set_option maxRecDepth 20000 in
set_option maxHeartbeats 2000000 in
theorem specNumberOf_any (s : ByteArray) (w : World) (hs : s.size ≤ 1048576) :
    Calls Tryd.prog 11 #[.string s] w fun e w' => e = .returned (numVal s.data.toList) ∧ Below w.heap.size w w' := by
  obtain ⟨W, hW, hWz, HB0, HX0⟩ := boxes1 w [.int .i64 0, .int .i64 0] 30
  go_enter Tryd.func11, Tryd.ntmps11
  go_upto_region 1 with fail
  rw [← hW]
  clear hW
  go_wp2_with fail
  refine (l10Number_any s _ hs).mono ?_
  rintro e w1 ⟨rfl, rfl⟩
  cases hn : numOf s.data.toList with
  | none =>
    have HV : Hid (numVal s.data.toList = .agg #[.int .i64 5, .int .i64 0]) := by rw [Hid, numVal, hn]
    rw [show numInt s.data.toList = -1 by rw [numInt, hn]]
    clear hn
    go_wp2_with (first
      | (refine wpList_store_part rfl 30 (.tmp 2) (.tmp 8) rfl w.heap.size 0 _ rfl rfl 30 _ (unhide HX0) (by kernel_rfl) (by simp) (by simp [Value.oneCell']) ?_; intro wZ XZ OZ))
    have XR : Hid (Box wZ w.heap.size [.int .i64 5, .int .i64 0] 30) := XZ
    have BR : Hid (Below w.heap.size w wZ) := (unhide OZ).below (unhide HB0) (Nat.le_refl _) (fun q hq e => by omega)
    refine bodyPost_ret (results_cell_row Tryd.results11 _ wZ w.heap.size 30 _ (0, 0) _ rfl (unhide XR) Tryd.underlying30 rfl (by kernel_rfl)) rfl ⟨by rw [unhide HV], unhide BR⟩
  | some n =>
    have HV : Hid (numVal s.data.toList = .agg #[.int .i64 0, .int .i64 n]) := by rw [Hid, numVal, hn]
    rw [show numInt s.data.toList = n by rw [numInt, hn]]
    have hn0 : ¬ (n : Int) < 0 := by omega
    clear hn
    go_wp2_with (first
      | (refine wpList_store_part rfl 30 (.tmp 2) (.tmp 10) rfl w.heap.size 0 _ rfl rfl 30 _ (unhide HX0) (by kernel_rfl) (by simp) (by simp [Value.oneCell']) ?_; intro wZ XZ OZ))
    have XR : Hid (Box wZ w.heap.size [.int .i64 0, .int .i64 n] 30) := XZ
    have BR : Hid (Below w.heap.size w wZ) := (unhide OZ).below (unhide HB0) (Nat.le_refl _) (fun q hq e => by omega)
    refine bodyPost_ret (results_cell_row Tryd.results11 _ wZ w.heap.size 30 _ (0, 0) _ rfl (unhide XR) Tryd.underlying30 rfl (by kernel_rfl)) rfl ⟨by rw [unhide HV], unhide BR⟩
end Go.Proofs.YtiopofemelninaaDoor
