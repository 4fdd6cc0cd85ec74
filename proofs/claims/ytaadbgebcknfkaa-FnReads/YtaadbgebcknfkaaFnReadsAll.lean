/-
  Several texts in one: LwNums, FnReadsWalk, CodeRow, FnReadsTop.
-/
import Derived.Test.YtaadbgebcknfkaaRowMath
import Derived.Test.YtaadbgebcknfkaaProg
import Derived.Deep.QuietTactic
import Derived.BigQuiet
import Derived.Test.YtaadbgebcknfkaaDraw3Same
import Derived.Test.YtaadbgebcknfkaaIPackWalk
import Derived.Test.YtaadbgebcknfkaaIReadWalk
import Derived.Test.YtaadbgebcknfkaaSameBlkWalk
import Derived.Test.YtaadbgebcknfkaaSSameBlkWalk
import Derived.Deep.RegionHeld3
import Derived.Deep.CutRange
import Derived.Test.YtaadbgebcknfkaaSrcMath
import Derived.ProofKit
/-
  laws.lwNums: two lists of the same numbers.
-/
namespace Go.Proofs.Ytaadbgebcknfkaa
open Go.RowKit
set_option maxHeartbeats 1000000 in
theorem lwNums_same (a b : Option Addr) (c d : Nat) (l : List Int) (w : World) (h : IntsAt w a l) (h2 : IntsAt w b l) (hn : l.length ≤ 1048576) :
    Calls Try.prog 13 #[.slice a l.length c, .slice b l.length d] w fun e w' => e = .returned (.bool true) ∧ Below w.heap.size w w' := by
  have hne := int_neq_self (l.length : Int)
  go_enter Try.func13, Try.ntmps13
  go_wp2
  go_loopw [5] (fun i wr => ∃ (k n : Nat), k ≤ l.length ∧ i = .int .i64 k ∧ wr = w.drewN n) (fun i _ => l.length - (intOf i).toNat)
  case atStart => exact ⟨0, 0, Nat.zero_le _, rfl, rfl⟩
  case round =>
    obtain ⟨k, n, hk, rfl, rfl⟩ := hrel
    by_cases hlt : k < l.length
    · obtain ⟨b1, o1, rfl, _, hc1⟩ := h.at hlt
      obtain ⟨b2, o2, rfl, _, hc2⟩ := h2.at hlt
      have hk1 := hc1 k hlt
      have hk2 := hc2 k hlt
      have hlt' : (k : Int) < l.length := by omega
      have hq := int_neq_self l[k]
      clear hc1 hc2 h h2
      go_wp2
      go_quiet (fail)
      go_wp2
      exact ⟨⟨k + 1, _, by omega, by go_num, rfl⟩, by simp [intOf]; omega⟩
    · clear h h2
      go_wp2
      go_ret
      exact ⟨rfl, below_drewN (Below.refl _ _) _⟩
end Go.Proofs.Ytaadbgebcknfkaa
/-
  The walk of laws.FnReads: it returns true, and writes nothing that was there.
-/
namespace Go.Proofs.Ytaadbgebcknfkaa
open Go.RowKit
set_option linter.unusedVariables false

theorem whOk_zeroR {x : Int} (h : whOk x = true) (hk : x % 4 = 0) : x = 0 := by
  simp only [whOk, Bool.and_eq_true] at h
  have hb := inB_true.1 h.1
  have h2 := h.2
  rw [hk] at h2
  simp [headOk] at h2
  omega
/-- What was read makes just those words. -/
theorem read_again (l : List Int) (h : readCode l = 0) :
    ((readBlk l).k = 1 ∧ nodePCode (readBlk l).nu (readBlk l).nd (readBlk l).np (readBlk l).nn.data.toList (readBlk l).ns (readBlk l).e = 0 ∧ nodeWords (readBlk l).nu (readBlk l).nd (readBlk l).np (readBlk l).nn.data.toList (readBlk l).ns (readBlk l).e = l) ∨
    ((readBlk l).k = 2 ∧ dataCode (readBlk l).u (readBlk l).i (readBlk l).nl (readBlk l).e = 0 ∧ dataWords (readBlk l).u (readBlk l).i (readBlk l).nl (readBlk l).e = l) ∨
    ((readBlk l).k = 3 ∧ goneCode (readBlk l).u (readBlk l).e = 0 ∧ goneWords (readBlk l).u (readBlk l).e = l) ∨
    ((readBlk l).k = 0 ∧ (readBlk l).u = 0 ∧ (readBlk l).i = 0 ∧ (readBlk l).e = 0 ∧ ∃ x l2, l = 0 :: (x :: l2)) := by
  by_cases h8 : l.length = 8
  · obtain ⟨x0, x1, x2, x3, x4, x5, x6, x7, rfl⟩ := eight h8
    have hB : readBlk [x0, x1, x2, x3, x4, x5, x6, x7] = toldBlk x0 x1 x2 x3 x4 := by
      show (if readCode [x0, x1, x2, x3, x4, x5, x6, x7] = 0 then toldBlk x0 x1 x2 x3 x4 else Blk.none) = _
      rw [if_pos h]
    rw [hB]
    have h : (if whOk x0 = true then if x0 % 4 = 0 then (0 : Int) else if againCode x0 x1 x2 x3 x4 = 0 ∧ againWords x0 x1 x2 x3 x4 = [x0, x1, x2, x3, x4, x5, x6, x7] then 0 else 5 else 1) = 0 := h
    split at h
    · rename_i hok
      split at h
      · rename_i hk
        have hx := whOk_zeroR hok hk
        subst hx
        exact .inr (.inr (.inr ⟨rfl, rfl, rfl, rfl, _, _, rfl⟩))
      · rename_i hk
        split at h
        · rename_i hag
          obtain ⟨h1, h2⟩ := hag
          unfold againCode at h1
          unfold againWords at h2
          unfold toldBlk
          by_cases k1 : x0 % 4 = 1
          · rw [if_pos k1] at h1 h2 ⊢
            exact .inl ⟨rfl, h1, h2⟩
          · rw [if_neg k1] at h1 h2 ⊢
            by_cases k2 : x0 % 4 = 2
            · rw [if_pos k2] at h1 h2 ⊢
              exact .inr (.inl ⟨rfl, h1, h2⟩)
            · rw [if_neg k2] at h1 h2 ⊢
              have k3 : x0 % 4 = 3 := by omega
              rw [if_pos k3]
              exact .inr (.inr (.inl ⟨rfl, h1, h2⟩))
        · cases h
    · cases h
  · rw [readCode_two h8] at h; cases h
theorem readBlk_name (l : List Int) : (readBlk l).nn.size ≤ maxLen := by
  have h0 : (⟨#[]⟩ : ByteArray).size ≤ maxLen := Nat.zero_le _
  unfold readBlk
  split
  · split
    · unfold toldBlk
      split
      · exact nmOf_size _
      · split
        · exact h0
        · split <;> exact h0
    · exact h0
  · exact h0
theorem sameBlk_refl (x : Blk) : sameBlk x x = true := by simp [sameBlk, sameHead, sameNode]
theorem sameBlks_refl : ∀ L : List BlkA, sameBlks L L = true
  | [] => rfl
  | x :: L => by rw [sameBlks, sameBlk_refl, sameBlks_refl]; rfl
theorem sleftR {W0 w' : World} {p : Prop} (h : Below W0.heap.size W0 w' ∧ p) : Below W0.heap.size W0 w' := h.1
theorem implReadX_any (a : Option Addr) (c : Nat) (l : List Int) (hcl : l.length ≤ c) (hl : l.length ≤ 1048576) (w : World) (h : IntsAt w a l) :
    Calls Try.prog 8 #[.slice a l.length c] w fun r w' => (∃ av cv, r = .returned (.agg #[.int .i64 (readCode l), .int .i64 (readBlk l).k, .int .i64 (readBlk l).u, .int .i64 (readBlk l).i, .int .i64 (readBlk l).e, .int .i64 (readBlk l).nu, .bool (readBlk l).nd, .int .i64 (readBlk l).np, .string (readBlk l).nn, .int .i64 (readBlk l).ns, .slice av (readBlk l).nl.length cv]) ∧ w'.ownsRow 0 2 1 (.slice av (readBlk l).nl.length cv) (readBlk l).nl.length (nums (readBlk l).nl)) ∧ Below w.heap.size w w' :=
  (implReadBlock_any a c l hcl hl w h).mono fun _ _ ⟨⟨v, h1, h2⟩, hb⟩ => by
    obtain ⟨av, cv, rfl, -⟩ := rowAt_own h2
    exact ⟨⟨av, cv, h1, own_base h2 (fun q hq => Nat.zero_le _)⟩, hb⟩
theorem specReadX_any (a : Option Addr) (c : Nat) (l : List Int) (hcl : l.length ≤ c) (hl : l.length ≤ 1048576) (hx : ∀ x ∈ l, i64B x) (w : World) (h : IntsAt w a l) :
    Calls Try.prog 10 #[.slice a l.length c] w fun r w' => (∃ av cv, r = .returned (.agg #[.int .i64 (readCode l), .int .i64 (readBlk l).k, .int .i64 (readBlk l).u, .int .i64 (readBlk l).i, .int .i64 (readBlk l).e, .int .i64 (readBlk l).nu, .bool (readBlk l).nd, .int .i64 (readBlk l).np, .string (readBlk l).nn, .int .i64 (readBlk l).ns, .slice av (readBlk l).nl.length cv]) ∧ w'.ownsRow 0 2 1 (.slice av (readBlk l).nl.length cv) (readBlk l).nl.length (nums (readBlk l).nl)) ∧ Below w.heap.size w w' :=
  (specReadBlock_any a c l hcl hl hx w h).mono fun _ _ ⟨⟨v, h1, h2⟩, hb⟩ => by
    obtain ⟨av, cv, rfl, -⟩ := rowAt_own h2
    exact ⟨⟨av, cv, h1, own_base h2 (fun q hq => Nat.zero_le _)⟩, hb⟩
namespace fnReads
theorem keepC1 {W0 w' w1 : World} {b0 o0 : Nat} {v0 : Value} (h0 : b0 < W0.heap.size) (hS : Below W0.heap.size W0 w' ∧ w'.cell? ⟨b0, o0, none⟩ = some v0) (hb : Below w'.heap.size w' w1) : Below W0.heap.size W0 w1 ∧ w1.cell? ⟨b0, o0, none⟩ = some v0 := by
  obtain ⟨h, d0⟩ := hS
  have hz := h.size
  exact ⟨h.trans (hb.mono hz), ((bcell hb).1 _ _ (by omega)).trans d0⟩
set_option maxRecDepth 20000 in
theorem no (a : Option Addr) (n c : Nat) (w : World) (hn : ¬ (n : Int) ≤ 1048576) :
    Calls Try.prog 3 #[.slice a n c] w fun r w' => r = .returned (.bool true) ∧ Below w.heap.size w w' := by
  go_enter Try.func3, Try.ntmps3
  go_wp2_with (go_at_call 6; go_in)
  go_ret
  exact ⟨rfl, Below.refl _ _⟩

set_option maxRecDepth 20000 in
set_option maxHeartbeats 8000000 in
theorem yes (a : Option Addr) (n c : Nat) (w : World) (h : CodeAt w a n) (hn : n ≤ 1048576) :
    Calls Try.prog 3 #[.slice a n c] w fun r w' => r = .returned (.bool true) ∧ Below w.heap.size w w' := by
  have hn' : ¬ (1048576 : Int) < n := by omega
  have A0 := hide h
  clear h
  go_enter Try.func3, Try.ntmps3
  go_wp2_with (go_at_call 6; go_in)
  refine (drawReadBlock_any a n c _ (unhide A0) (by omega)).mono ?_
  rintro r w1 ⟨⟨g, l, cp, rfl, hcp, hl8, hgz, hi, hbd⟩, hb⟩
  have z1 : w.heap.size ≤ w1.heap.size := hb.size
  have A1 := hide ((unhide A0).below hb)
  have B1 := hide hb
  clear hb A0
  have In1 := hide hi
  have Q := hide hbd
  clear hi hbd
  go_wp2_with fail
  refine (implReadX_any (some ⟨g, 0, none⟩) cp l hcp (by omega) _ (unhide In1)).mono ?_
  rintro r w2 ⟨⟨av, cv, rfl, ho⟩, hb⟩
  have z2 : w1.heap.size ≤ w2.heap.size := hb.size
  have A2 := hide ((unhide A1).below hb)
  have I2 := hide ((unhide In1).below hb)
  have B2 := hide (below_step (unhide B1) hb (by omega))
  clear hb A1 In1 B1
  have HRA := hide (read_again l)
  have hb4 := readBlk_len l
  generalize hcd : readCode l = cd at *
  generalize hbk : readBlk l = bk at *
  have HCD := hide hcd
  have HBK := hide hbk
  clear hcd hbk
  have Nn2 := hide ho
  clear ho
  go_upto_region 5 with fail
  obtain ⟨W3, hW, z3, hbx, hx⟩ := boxes1 w2 [.int .i64 cd, .int .i64 bk.k, .int .i64 bk.u, .int .i64 bk.i, .int .i64 bk.e, .int .i64 bk.nu, .bool bk.nd, .int .i64 bk.np, .string bk.nn, .int .i64 bk.ns, .slice av bk.nl.length cv] 33
  rw [← hW]
  clear hW
  have A3 := hide ((unhide A2).below (unhide hbx))
  have I3 := hide ((unhide I2).below (unhide hbx))
  have N3 := hide (own_below (unhide Nn2) (unhide hbx))
  have B3 := hide (below_step (unhide B2) (unhide hbx) (by omega))
  clear A2 I2 Nn2 B2
  have R3 := hx
  clear hbx hx
  have u3 : w2.heap.size < W3.heap.size := by omega
  generalize w2.heap.size = bR at *
  go_wp2_with fail
  refine (drawSameBlocks_any a n c _ (unhide A3) hn).mono ?_
  rintro r w4 ⟨⟨aa, ca, L, ab, cb, M, rfl, ha, hb0, hL, hM⟩, hb⟩
  have z4 : W3.heap.size ≤ w4.heap.size := hb.size
  have A4 := hide ((unhide A3).below hb)
  have I4 := hide ((unhide I3).below hb)
  have N4 := hide (own_below (unhide N3) hb)
  have R4 := hide ((unhide R3).below hb)
  have B4 := hide (below_step (unhide B3) hb (by omega))
  clear hb A3 I3 N3 R3 B3
  have Un4 := hide ha
  have Vn4 := hide hb0
  clear ha hb0
  have cr0 := (unhide R4).cell 0
  simp only [List.getElem?_cons_zero] at cr0
  have lcr : bR < w4.heap.size := by omega
  have hD : (fun w' => Below w4.heap.size w4 w' ∧ w'.cell? ⟨bR, 0, none⟩ = some (.int .i64 cd)) w4.drew := ⟨(Below.refl _ _).drew, cr0⟩
  have HD := hide hD
  clear hD
  have n1 := int_neq_self cd
  have n2 : (sameBlks L M != sameBlks L M) = false := by cases sameBlks L M <;> rfl
  have hfd : ∀ (x : Int) (a1 a2 a3 a4 a5 : Int) (b1 : Bool) (a6 : Int) (s1 : ByteArray) (a7 : Int) (v : Value) (w : World), (Instr.field 33 (.agg #[.int .i64 x, .int .i64 a1, .int .i64 a2, .int .i64 a3, .int .i64 a4, .int .i64 a5, .bool b1, .int .i64 a6, .string s1, .int .i64 a7, v]) 0).run Try.prog w = .ok (.int .i64 x) w := fun x a1 a2 a3 a4 a5 b1 a6 s1 a7 v w => by kernel_rfl
  go_wp2_with fail
  clear cr0
  go_region_held3 (fun w' => Below w4.heap.size w4 w' ∧ w'.cell? ⟨bR, 0, none⟩ = some (.int .i64 cd)) (first | exact unhide HD | assumption | exact keepC1 lcr (by assumption) (by assumption))
    (first
      | (go_at_call 10; refine (specReadX_any (some ⟨g, 0, none⟩) cp l hcp (by omega) (unhide Q) _ ((unhide I4).below (sleftR (by assumption)))).mono ?_; rintro r w5 ⟨⟨a5, c5, rfl, hoo⟩, hb5⟩; rw [unhide HCD, unhide HBK]; clear hoo)
      | (go_at_call 11; refine (implSameBlocks_any aa ab ca cb L M _ ((unhide Un4).below (sleftR (by assumption))) ((unhide Vn4).below (sleftR (by assumption))) (by omega) (by omega)).mono ?_; rintro r w5 ⟨rfl, hb5⟩)
      | (go_at_call 12; refine (specSameBlocks_any aa ab ca cb L M _ ((unhide Un4).below (sleftR (by assumption))) ((unhide Vn4).below (sleftR (by assumption))) (by omega) (by omega)).mono ?_; rintro r w5 ⟨rfl, hb5⟩))
  rename_i hS
  have hbS := sleftR hS
  have A5 := hide ((unhide A4).below hbS)
  have I5 := hide ((unhide I4).below hbS)
  have N5 := hide (own_below (unhide N4) hbS)
  have R5 := hide ((unhide R4).below hbS)
  have U5 := hide ((unhide Un4).below hbS)
  have V5 := hide ((unhide Vn4).below hbS)
  have B5 := hide (below_step (unhide B4) hbS (by omega))
  have z5 := hbS.size
  clear hS hbS HD hfd n1 n2 A4 I4 N4 R4 Un4 Vn4 B4
  generalize hwn : w5 = w5 at *
  clear hwn lcr
  have cr0 := (unhide R5).cell 0
  have cr1 := (unhide R5).cell 1
  have cr2 := (unhide R5).cell 2
  have cr3 := (unhide R5).cell 3
  have cr4 := (unhide R5).cell 4
  have cr5 := (unhide R5).cell 5
  have cr6 := (unhide R5).cell 6
  have cr7 := (unhide R5).cell 7
  have cr8 := (unhide R5).cell 8
  have cr9 := (unhide R5).cell 9
  have cr10 := (unhide R5).cell 10
  simp only [List.getElem?_cons_zero, List.getElem?_cons_succ] at cr0 cr1 cr2 cr3 cr4 cr5 cr6 cr7 cr8 cr9 cr10
  have lcr : bR < w5.heap.size := by omega
  by_cases hc : cd = 0
  case neg =>
    have hcb : (cd != 0) = true := by simpa using hc
    clear hc
    go_wp2_with fail
    go_ret
    exact ⟨rfl, unhide B5⟩
  have hcb : (cd != 0) = false := by simpa using hc
  have HR := hide (unhide HRA hc)
  clear hc HRA
  go_upto_region 11 with fail
  clear cr0 cr1 cr2 cr3 cr4 cr5 cr6 cr7 cr8 cr9 cr10 lcr
  obtain ⟨W6, hW, z6, hbx, hx⟩ := boxes1 w5 [.int .i64 bk.k, .int .i64 bk.u, .int .i64 bk.i, .int .i64 bk.e] 27
  rw [← hW]
  clear hW
  have A6 := hide ((unhide A5).below (unhide hbx))
  have I6 := hide ((unhide I5).below (unhide hbx))
  have N6 := hide (own_below (unhide N5) (unhide hbx))
  have R6 := hide ((unhide R5).below (unhide hbx))
  have U6 := hide ((unhide U5).below (unhide hbx))
  have V6 := hide ((unhide V5).below (unhide hbx))
  have B6 := hide (below_step (unhide B5) (unhide hbx) (by omega))
  clear A5 I5 N5 R5 U5 V5 B5
  have H6 := hx
  clear hbx hx
  have u6 : w5.heap.size < W6.heap.size := by omega
  generalize w5.heap.size = bH at *
  have hf1 : ∀ (x : Int) (v : Value) (w : World), (Instr.field 41 (.agg #[.int .i64 x, v]) 1).run Try.prog w = .ok v w := fun x v w => by kernel_rfl
  rcases unhide HR with ⟨hk, hpc, hpw⟩ | ⟨hk, hpc, hpw⟩ | ⟨hk, hpc, hpw⟩ | ⟨hk, hu, hi, he, hw⟩
  · have hk1 : (bk.k == 1) = true := by rw [hk]; rfl
    have hk2 : (bk.k == 2) = false := by rw [hk]; rfl
    have hk3 : (bk.k == 3) = false := by rw [hk]; rfl
    have PC := hide hpc
    have PW := hide hpw
    clear hk hpc hpw
    have cr0 := (unhide R6).cell 0
    have cr1 := (unhide R6).cell 1
    have cr2 := (unhide R6).cell 2
    have cr3 := (unhide R6).cell 3
    have cr4 := (unhide R6).cell 4
    have cr5 := (unhide R6).cell 5
    have cr6 := (unhide R6).cell 6
    have cr7 := (unhide R6).cell 7
    have cr8 := (unhide R6).cell 8
    have cr9 := (unhide R6).cell 9
    have cr10 := (unhide R6).cell 10
    simp only [List.getElem?_cons_zero, List.getElem?_cons_succ] at cr0 cr1 cr2 cr3 cr4 cr5 cr6 cr7 cr8 cr9 cr10
    have lcr : bR < W6.heap.size := by omega
    have ch0 := (unhide H6).cell 0
    have ch1 := (unhide H6).cell 1
    have ch2 := (unhide H6).cell 2
    have ch3 := (unhide H6).cell 3
    simp only [List.getElem?_cons_zero, List.getElem?_cons_succ] at ch0 ch1 ch2 ch3
    have lch : bH < W6.heap.size := by omega
    go_wp2_with fail
    clear cr0 cr1 cr2 cr3 cr4 cr5 cr6 cr7 cr8 cr9 cr10 lcr ch0 ch1 ch2 ch3 lch
    refine (implPackNode_any bk.nu bk.nd bk.np bk.nn bk.ns bk.e _ (by rw [← unhide HBK]; exact readBlk_name l)).mono ?_
    rintro r w7 ⟨⟨vv, rfl, ho⟩, hb⟩
    have z7 : W6.heap.size ≤ w7.heap.size := hb.size
    have A7 := hide ((unhide A6).below hb)
    have I7 := hide ((unhide I6).below hb)
    have N7 := hide (own_below (unhide N6) hb)
    have R7 := hide ((unhide R6).below hb)
    have U7 := hide ((unhide U6).below hb)
    have V7 := hide ((unhide V6).below hb)
    have H7 := hide ((unhide H6).below hb)
    have B7 := hide (below_step (unhide B6) hb (by omega))
    clear hb A6 I6 N6 R6 U6 V6 H6 B6
    rw [unhide PC, unhide PW] at *
    obtain ⟨a7, c7, rfl, -, i7, -⟩ := intsAt_own ho
    have Pn7 := hide i7
    clear ho i7
    have hll : l.length ≤ 1048576 := by omega
    go_wp2_with fail
    refine (lwNums_same a7 (some ⟨g, 0, none⟩) c7 cp l _ (unhide Pn7) (unhide I7) (by omega)).mono ?_
    rintro r w8 ⟨rfl, hb⟩
    have z8 : w7.heap.size ≤ w8.heap.size := hb.size
    have A8 := hide ((unhide A7).below hb)
    have I8 := hide ((unhide I7).below hb)
    have N8 := hide (own_below (unhide N7) hb)
    have R8 := hide ((unhide R7).below hb)
    have U8 := hide ((unhide U7).below hb)
    have V8 := hide ((unhide V7).below hb)
    have H8 := hide ((unhide H7).below hb)
    have P8 := hide ((unhide Pn7).below hb)
    have B8 := hide (below_step (unhide B7) hb (by omega))
    clear hb A7 I7 N7 R7 U7 V7 H7 Pn7 B7
    go_wp2_with fail
    go_ret
    exact ⟨rfl, unhide B8⟩
  · have hk1 : (bk.k == 1) = false := by rw [hk]; rfl
    have hk2 : (bk.k == 2) = true := by rw [hk]; rfl
    have hk3 : (bk.k == 3) = false := by rw [hk]; rfl
    have PC := hide hpc
    have PW := hide hpw
    clear hk hpc hpw
    have cr0 := (unhide R6).cell 0
    have cr1 := (unhide R6).cell 1
    have cr2 := (unhide R6).cell 2
    have cr3 := (unhide R6).cell 3
    have cr4 := (unhide R6).cell 4
    have cr5 := (unhide R6).cell 5
    have cr6 := (unhide R6).cell 6
    have cr7 := (unhide R6).cell 7
    have cr8 := (unhide R6).cell 8
    have cr9 := (unhide R6).cell 9
    have cr10 := (unhide R6).cell 10
    simp only [List.getElem?_cons_zero, List.getElem?_cons_succ] at cr0 cr1 cr2 cr3 cr4 cr5 cr6 cr7 cr8 cr9 cr10
    have lcr : bR < W6.heap.size := by omega
    have ch0 := (unhide H6).cell 0
    have ch1 := (unhide H6).cell 1
    have ch2 := (unhide H6).cell 2
    have ch3 := (unhide H6).cell 3
    simp only [List.getElem?_cons_zero, List.getElem?_cons_succ] at ch0 ch1 ch2 ch3
    have lch : bH < W6.heap.size := by omega
    go_wp2_with fail
    clear cr0 cr1 cr2 cr3 cr4 cr5 cr6 cr7 cr8 cr9 cr10 lcr ch0 ch1 ch2 ch3 lch
    refine (implPackData_any bk.u bk.i av cv bk.nl bk.e _ (intsAt_own1 (unhide N6)) (by omega)).mono ?_
    rintro r w7 ⟨⟨vv, rfl, ho⟩, hb⟩
    have z7 : W6.heap.size ≤ w7.heap.size := hb.size
    have A7 := hide ((unhide A6).below hb)
    have I7 := hide ((unhide I6).below hb)
    have N7 := hide (own_below (unhide N6) hb)
    have R7 := hide ((unhide R6).below hb)
    have U7 := hide ((unhide U6).below hb)
    have V7 := hide ((unhide V6).below hb)
    have H7 := hide ((unhide H6).below hb)
    have B7 := hide (below_step (unhide B6) hb (by omega))
    clear hb A6 I6 N6 R6 U6 V6 H6 B6
    rw [unhide PC, unhide PW] at *
    obtain ⟨a7, c7, rfl, -, i7, -⟩ := intsAt_own ho
    have Pn7 := hide i7
    clear ho i7
    have hll : l.length ≤ 1048576 := by omega
    go_wp2_with fail
    refine (lwNums_same a7 (some ⟨g, 0, none⟩) c7 cp l _ (unhide Pn7) (unhide I7) (by omega)).mono ?_
    rintro r w8 ⟨rfl, hb⟩
    have z8 : w7.heap.size ≤ w8.heap.size := hb.size
    have A8 := hide ((unhide A7).below hb)
    have I8 := hide ((unhide I7).below hb)
    have N8 := hide (own_below (unhide N7) hb)
    have R8 := hide ((unhide R7).below hb)
    have U8 := hide ((unhide U7).below hb)
    have V8 := hide ((unhide V7).below hb)
    have H8 := hide ((unhide H7).below hb)
    have P8 := hide ((unhide Pn7).below hb)
    have B8 := hide (below_step (unhide B7) hb (by omega))
    clear hb A7 I7 N7 R7 U7 V7 H7 Pn7 B7
    go_wp2_with fail
    go_ret
    exact ⟨rfl, unhide B8⟩
  · have hk1 : (bk.k == 1) = false := by rw [hk]; rfl
    have hk2 : (bk.k == 2) = false := by rw [hk]; rfl
    have hk3 : (bk.k == 3) = true := by rw [hk]; rfl
    have PC := hide hpc
    have PW := hide hpw
    clear hk hpc hpw
    have cr0 := (unhide R6).cell 0
    have cr1 := (unhide R6).cell 1
    have cr2 := (unhide R6).cell 2
    have cr3 := (unhide R6).cell 3
    have cr4 := (unhide R6).cell 4
    have cr5 := (unhide R6).cell 5
    have cr6 := (unhide R6).cell 6
    have cr7 := (unhide R6).cell 7
    have cr8 := (unhide R6).cell 8
    have cr9 := (unhide R6).cell 9
    have cr10 := (unhide R6).cell 10
    simp only [List.getElem?_cons_zero, List.getElem?_cons_succ] at cr0 cr1 cr2 cr3 cr4 cr5 cr6 cr7 cr8 cr9 cr10
    have lcr : bR < W6.heap.size := by omega
    have ch0 := (unhide H6).cell 0
    have ch1 := (unhide H6).cell 1
    have ch2 := (unhide H6).cell 2
    have ch3 := (unhide H6).cell 3
    simp only [List.getElem?_cons_zero, List.getElem?_cons_succ] at ch0 ch1 ch2 ch3
    have lch : bH < W6.heap.size := by omega
    go_wp2_with fail
    clear cr0 cr1 cr2 cr3 cr4 cr5 cr6 cr7 cr8 cr9 cr10 lcr ch0 ch1 ch2 ch3 lch
    refine (implPackGone_any bk.u bk.e _).mono ?_
    rintro r w7 ⟨⟨vv, rfl, ho⟩, hb⟩
    have z7 : W6.heap.size ≤ w7.heap.size := hb.size
    have A7 := hide ((unhide A6).below hb)
    have I7 := hide ((unhide I6).below hb)
    have N7 := hide (own_below (unhide N6) hb)
    have R7 := hide ((unhide R6).below hb)
    have U7 := hide ((unhide U6).below hb)
    have V7 := hide ((unhide V6).below hb)
    have H7 := hide ((unhide H6).below hb)
    have B7 := hide (below_step (unhide B6) hb (by omega))
    clear hb A6 I6 N6 R6 U6 V6 H6 B6
    rw [unhide PC, unhide PW] at *
    obtain ⟨a7, c7, rfl, -, i7, -⟩ := intsAt_own ho
    have Pn7 := hide i7
    clear ho i7
    have hll : l.length ≤ 1048576 := by omega
    go_wp2_with fail
    refine (lwNums_same a7 (some ⟨g, 0, none⟩) c7 cp l _ (unhide Pn7) (unhide I7) (by omega)).mono ?_
    rintro r w8 ⟨rfl, hb⟩
    have z8 : w7.heap.size ≤ w8.heap.size := hb.size
    have A8 := hide ((unhide A7).below hb)
    have I8 := hide ((unhide I7).below hb)
    have N8 := hide (own_below (unhide N7) hb)
    have R8 := hide ((unhide R7).below hb)
    have U8 := hide ((unhide U7).below hb)
    have V8 := hide ((unhide V7).below hb)
    have H8 := hide ((unhide H7).below hb)
    have P8 := hide ((unhide Pn7).below hb)
    have B8 := hide (below_step (unhide B7) hb (by omega))
    clear hb A7 I7 N7 R7 U7 V7 H7 Pn7 B7
    go_wp2_with fail
    go_ret
    exact ⟨rfl, unhide B8⟩
  · obtain ⟨x0, l2, rfl⟩ := hw
    have hk1 : (bk.k == 1) = false := by rw [hk]; rfl
    have hk2 : (bk.k == 2) = false := by rw [hk]; rfl
    have hk3 : (bk.k == 3) = false := by rw [hk]; rfl
    have IW := (unhide I6).at (k := 0) (by simp)
    obtain ⟨b0, o0, e0, hlt0, hc0⟩ := IW
    cases e0
    have w0 := hc0 0 (by simp)
    simp only [List.getElem_cons_zero, Nat.add_zero] at w0
    clear hc0
    have hE := eqlHead bk.k bk.u bk.i bk.e 0 0 0 0
    have hz : (bk.k == 0 && bk.u == 0 && bk.i == 0 && bk.e == 0) = true := by rw [hk, hu, hi, he]; rfl
    rw [hz] at hE
    clear hk hu hi he hz
    have cr0 := (unhide R6).cell 0
    have cr1 := (unhide R6).cell 1
    have cr2 := (unhide R6).cell 2
    have cr3 := (unhide R6).cell 3
    have cr4 := (unhide R6).cell 4
    have cr5 := (unhide R6).cell 5
    have cr6 := (unhide R6).cell 6
    have cr7 := (unhide R6).cell 7
    have cr8 := (unhide R6).cell 8
    have cr9 := (unhide R6).cell 9
    have cr10 := (unhide R6).cell 10
    simp only [List.getElem?_cons_zero, List.getElem?_cons_succ] at cr0 cr1 cr2 cr3 cr4 cr5 cr6 cr7 cr8 cr9 cr10
    have lcr : bR < W6.heap.size := by omega
    have ch0 := (unhide H6).cell 0
    have ch1 := (unhide H6).cell 1
    have ch2 := (unhide H6).cell 2
    have ch3 := (unhide H6).cell 3
    simp only [List.getElem?_cons_zero, List.getElem?_cons_succ] at ch0 ch1 ch2 ch3
    have lch : bH < W6.heap.size := by omega
    go_wp2_with fail
    clear cr0 cr1 cr2 cr3 cr4 cr5 cr6 cr7 cr8 cr9 cr10 lcr ch0 ch1 ch2 ch3 lch
    refine (implSameBlocks_any aa aa ca ca L L _ (unhide U6) (unhide U6) (by omega) (by omega)).mono ?_
    rintro r w7 ⟨rfl, hb⟩
    have z7 : W6.heap.size ≤ w7.heap.size := hb.size
    have A7 := hide ((unhide A6).below hb)
    have I7 := hide ((unhide I6).below hb)
    have N7 := hide (own_below (unhide N6) hb)
    have R7 := hide ((unhide R6).below hb)
    have U7 := hide ((unhide U6).below hb)
    have V7 := hide ((unhide V6).below hb)
    have H7 := hide ((unhide H6).below hb)
    have B7 := hide (below_step (unhide B6) hb (by omega))
    clear hb A6 I6 N6 R6 U6 V6 H6 B6
    rw [sameBlks_refl L]
    go_wp2_with fail
    go_ret
    exact ⟨rfl, unhide B7⟩
end fnReads
end Go.Proofs.Ytaadbgebcknfkaa
/-
  A row of bytes that came in is a code.
-/
namespace Go.Proofs.Ytaadbgebcknfkaa
open Go.RowKit

theorem codeAt_row {w : World} {a : Option Addr} {len cap : Nat} {zs : List Int}
    (h : (a = none ∧ len = 0 ∧ cap = 0 ∧ zs = []) ∨ ∃ x, a = some x ∧ len ≤ cap ∧ cap ≤ maxLen ∧ zs.length = cap ∧ (∀ i, i < zs.length → w.cell? (x.add i) = some (.int .u8 (zs.getD i 0))) ∧ ∀ n ∈ zs, (Lit.int .u8 n).wf = true) : CodeAt w a len := by
  rcases h with ⟨rfl, rfl, rfl, rfl⟩ | ⟨x, rfl, hl, hm, hz, hc, hw⟩
  · exact .inl rfl
  · by_cases h0 : len = 0
    · exact .inl h0
    · right
      have c0 := hc 0 (by omega)
      obtain ⟨b, off, spot⟩ := x
      have hspot : spot = none := by simpa [Addr.add] using World.cell?_spot c0
      subst hspot
      have hlt : b < w.heap.size := by
        have c0' : w.cell? ⟨b, off, none⟩ = some (.int .u8 (zs.getD 0 0)) := by simpa [Addr.add] using c0
        unfold World.cell? at c0'
        by_cases hb : b < w.heap.size
        · exact hb
        · rw [Array.getElem?_eq_none (by show w.heap.size ≤ b; omega)] at c0'
          simp at c0'
      refine ⟨b, off, rfl, hlt, fun i hi => ⟨zs.getD i 0, ?_⟩⟩
      have hi' : i < zs.length := by omega
      have := hc i hi'
      rw [Go.WideShapes.add_plain] at this
      have hb := hw (zs.getD i 0) (by simp [List.getD_eq_getElem?_getD, List.getElem?_eq_getElem hi'])
      have hb2 : 0 ≤ zs.getD i 0 ∧ zs.getD i 0 ≤ 255 := by simpa [Lit.wf, IntKind.min, IntKind.max, IntKind.signed, IntKind.bits] using hb
      exact ⟨hb2.1, hb2.2, this⟩
end Go.Proofs.Ytaadbgebcknfkaa
/-
  laws.FnReads, at every code.
-/
namespace Go.Proofs.Ytaadbgebcknfkaa.fnReads
open Go.RowKit
/-- What the walk is told of a slice of integers that came in. -/
def IsRow (k : IntKind) (w : World) (a : Option Addr) (len cap : Nat) (zs : List Int) : Prop :=
  (a = none ∧ len = 0 ∧ cap = 0 ∧ zs = []) ∨
  ∃ x, a = some x ∧ len ≤ cap ∧ cap ≤ maxLen ∧ zs.length = cap ∧ (∀ i, i < zs.length → w.cell? (x.add i) = some (.int k (zs.getD i 0))) ∧ ∀ n ∈ zs, (Lit.int k n).wf = true

theorem walk (a : Option Addr) (len cap : Nat) (zs : List Int) (w : World) (w0 : IsRow .u8 w a len cap zs) :
    Calls Try.prog 3 #[.slice a len cap] w fun r w' => r = .returned (.bool true) ∧ Below w.heap.size w w' := by
  by_cases hn : len ≤ 1048576
  · exact yes a len cap w (codeAt_row w0) hn
  · exact no a len cap w (by omega)
end Go.Proofs.Ytaadbgebcknfkaa.fnReads
