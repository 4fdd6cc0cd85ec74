/-
  What impl.ReplyText answers.
-/
import Derived.Test.YtiopofemelninaaDoorRepText
import Derived.Test.YtiopofemelninaaDoorStrsWalk
import Derived.Test.YtiopofemelninaaDoorAppRow
namespace Go.Proofs.YtiopofemelninaaDoor
open Go.RowKit
set_option linter.unusedVariables false

def digS (v : Int) : ByteArray := ⟨(Lib.decDigits v.toNat).toArray⟩
def yesB : ByteArray := ⟨#[121, 101, 115]⟩
theorem strs_row {w : World} {a : Option Addr} {l : List ByteArray} (h : StrsAt w a l) : RowAt w a (l.map Value.string) := by
  rcases h with rfl | ⟨b, o, rfl, hb, hc⟩
  · exact .inl rfl
  · refine .inr ⟨b, o, rfl, hb, fun j u hj => ?_⟩
    rw [List.getElem?_map] at hj
    obtain ⟨s, hs, rfl⟩ := Option.map_eq_some_iff.1 hj
    obtain ⟨hj', rfl⟩ := List.getElem?_eq_some_iff.1 hs
    exact hc j hj'
theorem own_someS {w : World} {base n : Nat} {e : TypeId} {size : Nat} {v : Value} {xs : List Value} (h : w.ownsRow base e size v n xs) (hn : 0 < n) : ∃ g c, v = .slice (some ⟨g, 0, none⟩) n c := by
  rcases h.2 with ⟨_, h0⟩ | ⟨g, cap, cur, e1, _⟩
  · omega
  · exact ⟨g, cap, e1⟩
theorem rep_join (rn : List Int) (rs : List ByteArray) : Lib.join ((yesB :: (rn.map digS ++ rs)).map (·.data.toList)) [32] = repL 0 rn rs := by
  rw [List.map_cons, Lib.join_cons, Lib.joinTail, repL, if_pos rfl, numsTxt, namesTxt, List.flatMap_def, List.flatMap_def]
  simp only [List.map_append, List.map_map, List.flatten_append, List.append_assoc]
  rfl
theorem rep_len {rn : List Int} {rs : List ByteArray} (h1 : rn.length ≤ 16) (h2 : rs.length ≤ 60) (h3 : numsB rn = true) (h4 : allNames rs = true) : (repL 0 rn rs).length ≤ 200000 := by
  have a := numsTxt_len h3
  have b := namesTxt_len h4
  rw [repL, if_pos rfl, List.length_append, List.length_append]
  simp only [List.length_cons, List.length_nil]
  omega
set_option maxRecDepth 20000 in
set_option maxHeartbeats 4000000 in
theorem implReplyText_any (rc : Int) (rn : List Int) (rs : List ByteArray) (a2 a3 : Option Addr) (c2 c3 : Nat) (w : World) (h2 : IntsAt w a2 rn) (h3 : StrsAt w a3 rs) (hs : ∀ s ∈ rs, s.size ≤ maxLen) (hn : rn.length ≤ 1048576) (hm : rs.length ≤ 1048576) (htab : Lib.TabIs Tryd.prog w "internal/strconv.uint64pow10" .u64 Lib.pow10Tab) :
    Calls Tryd.prog 17 #[.agg #[.int .i64 rc, .slice a2 rn.length c2, .slice a3 rs.length c3]] w fun r w' => r = .returned (repVal rc rn rs) ∧ Below w.heap.size w w' := by
  obtain ⟨i0, hii, hz0, hz1, hz2⟩ := info_parts infoString
  obtain ⟨W, hW, hWz, HB0, HP0, HX0⟩ := boxes2 w [.int .i64 rc, .slice a2 rn.length c2, .slice a3 rs.length c3] [.int .i64 0, .string ⟨#[]⟩] 40 38
  have H2 := hide (h2.below (unhide HB0))
  have H3 := hide (h3.below (unhide HB0))
  have HS := hide hs
  have HT := hide (tab_below htab (unhide HB0))
  clear h2 h3 hs htab
  go_enter Tryd.func17, Tryd.ntmps17
  go_upto_region 1 with fail
  rw [← hW]
  clear hW
  go_wp2_with (first
    | (refine wpList_load_part rfl 40 (.tmp 1) rfl w.heap.size 0 rfl 40 _ [.int .i64 rc, .slice a2 rn.length c2, .slice a3 rs.length c3] (unhide HP0) rfl _ Tryd.underlying40 rfl (by kernel_rfl) ?_))
  refine (replyFault_any rc rn rs a2 a3 c2 c3 _ (unhide H2) (unhide H3) hn hm (unhide HS)).mono ?_
  rintro r w1 ⟨rfl, hb1⟩
  have H21 := hide ((unhide H2).below hb1)
  have H31 := hide ((unhide H3).below hb1)
  have HT1 := hide (tab_below (unhide HT) hb1)
  have HP1 := hide ((unhide HP0).below hb1)
  have HX1 := hide ((unhide HX0).below hb1)
  have B1 := hide (below_step (unhide HB0) hb1 (by omega))
  have hW1 : w.heap.size + 2 ≤ w1.heap.size := by have := (unhide HX1).lt; omega
  clear hb1 H2 H3 HT HP0 HX0 HB0 hWz
  have p0 := (unhide HP1).cell 0
  have p1 := (unhide HP1).cell 1
  simp only [List.getElem?_cons_zero, List.getElem?_cons_succ] at p0 p1
  by_cases hc : repCode rc rn rs = 0
  case neg =>
    have hcb : (repCode rc rn rs != 0) = true := by simpa using hc
    have HV : Hid (repVal rc rn rs = .agg #[.int .i64 (repCode rc rn rs), .string ⟨#[]⟩]) := by rw [Hid, repVal, if_neg hc]
    clear hc
    generalize repCode rc rn rs = cd at *
    go_wp2_with (first
      | (refine wpList_store_part rfl 38 (.tmp 2) (.tmp 12) rfl (w.heap.size + 1) 0 _ rfl rfl 38 _ (unhide HX1) (by kernel_rfl) (by simp) (by simp [Value.oneCell']) ?_; intro wZ XZ OZ))
    have XR : Hid (Box wZ (w.heap.size + 1) [.int .i64 cd, .string ⟨#[]⟩] 38) := XZ
    have BR : Hid (Below w.heap.size w wZ) := (unhide OZ).below (unhide B1) (Nat.le_refl _) (fun q hq e => by omega)
    refine bodyPost_ret (results_cell_row Tryd.results17 _ wZ (w.heap.size + 1) 38 _ (0, 0) _ rfl (unhide XR) Tryd.underlying38 rfl (by kernel_rfl)) rfl ⟨by rw [unhide HV], unhide BR⟩
  obtain ⟨k0, k9, n16, n60, hnb, hab⟩ := rep_zero hc
  have hcb : (repCode rc rn rs != 0) = false := by simpa using hc
  have HV : Hid (repVal rc rn rs = .agg #[.int .i64 0, .string ⟨(repL rc rn rs).toArray⟩]) := by rw [Hid, repVal, if_pos hc]
  clear hc
  by_cases hr : rc = 0
  case neg =>
    obtain ⟨d, rfl⟩ : ∃ d : Nat, rc = d := ⟨rc.toNat, by omega⟩
    have hrb : ((d : Int) != 0) = true := by simpa using hr
    have HL : Hid (repL d rn rs = [110, 111, 32] ++ Lib.decDigits d) := by rw [Hid, repL, if_neg hr, Int.toNat_natCast]
    have hdl := dig_len d
    have hsz : (⟨(Lib.decDigits d).toArray⟩ : ByteArray).size ≤ 11 := by show (Lib.decDigits d).toArray.size ≤ 11; rw [List.size_toArray]; omega
    have HCAT : Hid ((⟨#[110, 111, 32]⟩ ++ ⟨(Lib.decDigits d).toArray⟩ : ByteArray) = ⟨(repL d rn rs).toArray⟩) := by rw [Hid, unhide HL]; exact ByteArray.mk_append_mk ..
    clear hr
    go_wp2_with fail
    refine (digitsOf_any d (by omega) _ (unhide HT1)).mono ?_
    rintro r w5 ⟨rfl, hb5⟩
    have HX5 := hide ((unhide HX1).below hb5)
    have B5 := hide (below_step (unhide B1) hb5 (by omega))
    clear hb5 HX1 B1
    generalize hG : (⟨(Lib.decDigits d).toArray⟩ : ByteArray) = sd at *
    go_wp2_with (first
      | (refine wpList_store_part rfl 38 (.tmp 2) (.tmp 20) rfl (w.heap.size + 1) 0 _ rfl rfl 38 _ (unhide HX5) (by kernel_rfl) (by simp) (by simp [Value.oneCell']) ?_; intro wZ XZ OZ))
    have XR : Hid (Box wZ (w.heap.size + 1) [.int .i64 0, .string (⟨#[110, 111, 32]⟩ ++ sd)] 38) := XZ
    have BR : Hid (Below w.heap.size w wZ) := (unhide OZ).below (unhide B5) (Nat.le_refl _) (fun q hq e => by omega)
    refine bodyPost_ret (results_cell_row Tryd.results17 _ wZ (w.heap.size + 1) 38 _ (0, 0) _ rfl (unhide XR) Tryd.underlying38 rfl (by kernel_rfl)) rfl ⟨by rw [unhide HV, ← unhide HCAT], unhide BR⟩
  subst hr
  have HNB := hide hnb
  have HAB := hide hab
  clear hnb hab k0 k9
  have O1 : Hid ((w1.alloc (.cells #[.string ⟨#[121, 101, 115]⟩] 9)).ownsRow w1.heap.size 9 1 (.slice (some ⟨w1.heap.size, 0, none⟩) 1 1) 1 [.string yesB]) := ⟨rfl, .inr ⟨w1.heap.size, 1, #[.string ⟨#[121, 101, 115]⟩], rfl, Nat.le_refl _, heap_alloc_new w1 _, Nat.le_refl _, by unfold maxLen; omega, rfl, rfl⟩⟩
  have K1 : Hid (Below w1.heap.size w1 (w1.alloc (.cells #[.string ⟨#[121, 101, 115]⟩] 9))) := (Below.refl _ _).alloc (Nat.le_refl _) _
  have p1' := ((bcell (unhide K1)).1 w.heap.size 1 (by omega)).trans p1
  obtain ⟨V, hV⟩ : ∃ V, V = w1.alloc (.cells #[.string ⟨#[121, 101, 115]⟩] 9) := ⟨_, rfl⟩
  rw [← hV] at O1 K1 p1'
  go_upto_region 7 with fail
  rw [← hV]
  clear p1 p0 hV
  have p1 := p1'
  clear p1'
  go_wp2_with fail
  go_loopw [4, 25] (fun s i wr => ∃ (k : Nat) (ra : Option Addr) (rc : Nat), k ≤ rn.length ∧ i = .int .i64 k ∧ s = .slice ra (k + 1) rc ∧ Hid (wr.ownsRow w1.heap.size 9 1 (.slice ra (k + 1) rc) (k + 1) ((yesB :: (rn.take k).map digS).map Value.string)) ∧ Hid (Below w1.heap.size w1 wr)) (fun _ i _ => rn.length - (intOf i).toNat)
  case atStart => exact ⟨0, _, _, Nat.zero_le _, rfl, rfl, unhide O1, unhide K1⟩
  case round =>
    obtain ⟨k, ra, rcc, hk, rfl, rfl, HO, HB⟩ := hrel
    have zr := (unhide HB).size
    clear p1
    by_cases hkl : k < rn.length
    · obtain ⟨b1, o1, rfl, hb1, hc1⟩ := ((unhide H21).below (unhide HB)).at hkl
      have hc := hc1 k hkl
      obtain ⟨v0, v9⟩ := numsB_at (unhide HNB) hkl
      have HTK : Hid ((rn.take (k + 1)).map digS = (rn.take k).map digS ++ [digS rn[k]]) := by rw [Hid, List.take_succ_eq_append_getElem hkl, List.map_append]; rfl
      have HDS : Hid (digS rn[k] = ⟨(Lib.decDigits rn[k].toNat).toArray⟩) := rfl
      obtain ⟨d, hd⟩ : ∃ d : Nat, rn[k] = d := ⟨(rn[k]).toNat, by omega⟩
      rw [hd] at hc v9 HTK HDS
      rw [Int.toNat_natCast] at HDS
      have k0 : (0 : Int) ≤ (k : Int) := by omega
      have k1 : (k : Int) < rn.length := by omega
      clear hd v0 hc1
      have HTR := hide (tab_below (unhide HT1) (unhide HB))
      go_wp2_with fail
      refine (digitsOf_any d (by omega) _ (unhide HTR)).mono ?_
      rintro r w6 ⟨rfl, hb6⟩
      rw [← unhide HDS]
      generalize digS (d : Int) = sd at *
      have B6 := hide (below_step (unhide HB) hb6 (by omega))
      have O6 := hide (own_below (unhide HO) hb6)
      have z6 := (unhide B6).size
      clear hb6 HB HO HDS HTR hc
      have OA : Hid ((w6.alloc (.cells #[.string sd] 9)).ownsRow w1.heap.size 9 1 (.slice ra (k + 1) rcc) (k + 1) ((yesB :: (rn.take k).map digS).map Value.string)) := own_below (unhide O6) ((Below.refl _ w6).alloc (Nat.le_refl _) _)
      have RA : Hid (RowAt (w6.alloc (.cells #[.string sd] 9)) (some ⟨w6.heap.size, 0, none⟩) [.string sd]) := rowAt_box (box_new w6 [.string sd] 9)
      have BA := hide ((unhide B6).alloc z6 (.cells #[.string sd] 9))
      have ZA := hide (unhide BA).size
      go_wp2_with (at_builtin; refine wpList_append_xs _ rfl _ _ 22 rfl w1.heap.size 9 i0 _ 1 16 Tryd.underlying22 hii hz0 hz1 hz2 rfl (by decide) (by decide) (.slice ra (k + 1) rcc) (k + 1) ((yesB :: (rn.take k).map digS).map Value.string) rfl (unhide OA) _ 1 1 [.string sd] rfl rfl (unhide RA) (by simp [Value.oneCell']) (by omega) (unhide ZA) ?_; intro v' w7 hown hgrow hloc; obtain ⟨a3, c3, e3, -⟩ := rowAt_own hown; subst e3; have O7 := hide hown; have K7 := hide ((unhide BA).grown hgrow (unhide ZA) (fun q hq => ((unhide OA).lt q hq).1)); clear hown hgrow hloc)
      refine ⟨⟨k + 1, a3, c3, by omega, by go_num, rfl, ?_, unhide K7⟩, by simp [intOf]; omega⟩
      show w7.ownsRow _ _ _ _ _ _
      rw [unhide HTK]
      have := unhide O7
      simpa using this
    · have hke : ¬ (k : Int) < rn.length := by omega
      have hkn : k = rn.length := by omega
      have HTK : Hid (rn.take k = rn) := List.take_of_length_le (by omega)
      rw [unhide HTK] at HO
      clear HTK hke hk
      subst hkn
      have HPr := hide ((unhide HP1).below (unhide (show Hid (Below w1.heap.size w1 wr) from HB)))
      have p2 := (unhide HPr).cell 2
      simp only [List.getElem?_cons_zero, List.getElem?_cons_succ] at p2
      have RS : Hid (RowAt wr a3 (rs.map Value.string)) := strs_row ((unhide H31).below (unhide HB))
      have hl1 : (rs.map Value.string).length = rs.length * 1 := by simp
      have HL1 := hide hl1
      have h1c : ∀ u ∈ rs.map Value.string, u.oneCell' = true := fun u hu => by
        obtain ⟨s, _, rfl⟩ := List.mem_map.1 hu
        rfl
      have H1C := hide h1c
      clear hl1 h1c
      go_upto_region 13 with (at_builtin; refine wpList_append_xs _ rfl _ _ 22 rfl w1.heap.size 9 i0 _ 1 16 Tryd.underlying22 hii hz0 hz1 hz2 rfl (by decide) (by decide) (.slice ra (rn.length + 1) rcc) (rn.length + 1) ((yesB :: rn.map digS).map Value.string) rfl (unhide HO) a3 rs.length c3 (rs.map Value.string) rfl (unhide HL1) (unhide RS) (unhide H1C) (by omega) zr ?_; intro v' w7 hown hgrow hloc; obtain ⟨g7, c7, e7⟩ := own_someS hown (by omega); subst e7; have O7 := hide hown; have K7 := hide ((unhide HB).grown hgrow zr (fun q hq => ((unhide HO).lt q hq).1)); clear hown hgrow hloc)
      have HR7 := hide (unhide O7).2
      have EL : Hid (((yesB :: rn.map digS).map Value.string ++ rs.map Value.string) = (yesB :: (rn.map digS ++ rs)).map Value.string) := by simp [Hid]
      have hnn : rn.length + 1 + rs.length = (yesB :: (rn.map digS ++ rs)).length := by simp; omega
      obtain ⟨LL, hLL⟩ : ∃ LL, LL = yesB :: (rn.map digS ++ rs) := ⟨_, rfl⟩
      have HJ : Hid (Lib.join (LL.map (·.data.toList)) [32] = repL 0 rn rs) := by rw [Hid, hLL]; exact rep_join rn rs
      have hll : LL.length ≤ 100 := by rw [hLL, ← hnn]; omega
      rw [unhide EL, hnn, ← hLL] at O7
      rw [hnn, ← hLL]
      have HX7 := hide ((unhide HX1).below (unhide K7))
      have B7 := hide (below_step (unhide B1) (unhide K7) (by omega))
      have hg7 : g7 < w7.heap.size := ((unhide O7).lt g7 rfl).2
      have hcell : ∀ (j : Nat) x, LL[j]? = some x → w7.cell? ⟨g7, 0 + j, none⟩ = some (.string x) := by
        intro j x hj
        obtain ⟨a, c, e, hr, -⟩ := rowAt_own (unhide O7)
        cases e
        rcases hr with h0 | ⟨b, o, e, _, hc⟩
        · have h5 : LL.length = 0 := by have := congrArg List.length h0; rwa [List.length_map] at this
          have h6 := (List.getElem?_eq_some_iff.1 hj).1
          omega
        · cases e
          refine hc j _ ?_
          rw [List.getElem?_map, hj]
          rfl
      have hcap : LL.length ≤ c7 := by
        obtain ⟨a, c, e, _, h1, _⟩ := rowAt_own (unhide O7)
        cases e
        exact h1
      have hlen : (Lib.join (LL.map (·.data.toList)) (⟨#[32]⟩ : ByteArray).data.toList).length ≤ 140737488355328 := by
        show (Lib.join (LL.map (·.data.toList)) [32]).length ≤ _
        rw [unhide HJ]
        have := rep_len n16 n60 (unhide HNB) (unhide HAB)
        omega
      have HC := hide hcell
      have HLEN := hide hlen
      clear hLL EL hnn HR7 hcell hlen p2 HO O7 RS HL1 H1C HPr H21 H31 HT1
      go_wp2_with fail
      refine (Tryd.strings_Join g7 0 c7 LL ⟨#[32]⟩ w7 (unhide HC) hg7 (by omega) hcap (unhide HLEN)).mono ?_
      rintro r w8 ⟨rfl, hb8⟩
      have HX8 := hide ((unhide HX7).below hb8)
      have B8 := hide (below_step (unhide B7) hb8 (by have := (unhide B7).size; omega))
      have HJ2 : Hid (Lib.join (LL.map (·.data.toList)) (⟨#[32]⟩ : ByteArray).data.toList = repL 0 rn rs) := HJ
      clear hb8 HX7 B7 HC HLEN
      rw [unhide HJ2]
      generalize hG : (⟨(repL 0 rn rs).toArray⟩ : ByteArray) = sd at *
      go_wp2_with (first
        | (refine wpList_store_part rfl 38 (.tmp 2) (.tmp 41) rfl (w.heap.size + 1) 0 _ rfl rfl 38 _ (unhide HX8) (by kernel_rfl) (by simp) (by simp [Value.oneCell']) ?_; intro wZ XZ OZ))
      have XR : Hid (Box wZ (w.heap.size + 1) [.int .i64 0, .string sd] 38) := XZ
      have BR : Hid (Below w.heap.size w wZ) := (unhide OZ).below (unhide B8) (Nat.le_refl _) (fun q hq e => by omega)
      refine bodyPost_ret (results_cell_row Tryd.results17 _ wZ (w.heap.size + 1) 38 _ (0, 0) _ rfl (unhide XR) Tryd.underlying38 rfl (by kernel_rfl)) rfl ⟨by rw [unhide HV], unhide BR⟩
end Go.Proofs.YtiopofemelninaaDoor
