/-
  The walk of laws.FnExactSameNotes: it returns true, and writes nothing that was there.
-/
import Derived.Test.YtdnfadbkpajloaaNoteEq
import Derived.Test.YtdnfadbkpajloaaNoteTo
import Derived.Test.YtdnfadbkpajloaaNoteSz
import Derived.Test.YtdnfadbkpajloaaNoteSame
import Derived.Test.YtdnfadbkpajloaaNoteSpec
namespace Go.Proofs.Ytdnfadbkpajloaa
open Go.RowKit
set_option linter.unusedVariables false

theorem toNoteS_ex (a : Option Addr) (c : Nat) (L : List NteA) (w : World) (h : NtesAt w a L) (hn : L.length ≤ 1048576) :
    Calls Try.prog 60 #[.slice a L.length c] w fun r w' => (∃ g L', r = .returned (.slice (some ⟨g, 0, none⟩) (List.length L') (List.length L')) ∧ NtesAt w' (some ⟨g, 0, none⟩) L' ∧ L'.map NteA.b = L.map NteA.b) ∧ Below w.heap.size w w' :=
  (toNoteS_any a c L w h hn).mono fun _ _ ⟨⟨g, L', h1, h2, h3⟩, h4⟩ => ⟨⟨g, L', by rw [show L'.length = L.length from by simpa using congrArg List.length h3]; exact h1, h2, h3⟩, h4⟩

namespace fnExactSameNotes
set_option maxRecDepth 20000 in
set_option maxHeartbeats 4000000 in
theorem walk (a1 : Option Addr) (c1 : Nat) (L : List NteA) (a2 : Option Addr) (c2 : Nat) (M : List NteA) (w : World) (h : NtesR w a1 L) (hn : L.length ≤ maxLen) (h2 : NtesR w a2 M) (hm : M.length ≤ maxLen) :
    Calls Try.prog 9 #[.slice a1 L.length c1, .slice a2 M.length c2] w fun e w' => e = .returned (.bool true) ∧ Below w.heap.size w w' := by
  have AZ := hide h
  have BZ := hide h2
  clear h h2
  go_enter Try.func9, Try.ntmps9
  go_wp2_with fail
  refine (szNoteS_any a1 c1 L _ _ (unhide AZ) hn (by decide) (by decide)).mono ?_
  rintro e w1 ⟨⟨x, rfl, hx⟩, hb⟩
  have z1 : w.heap.size ≤ w1.heap.size := hb.size
  have A1 := hide ((unhide AZ).below hb)
  have C1 := hide ((unhide BZ).below hb)
  have B1 := hide hb
  clear hb AZ BZ
  by_cases hx0 : x < 0
  · clear hx
    go_wp2_with fail
    go_ret
    exact ⟨rfl, unhide B1⟩
  have hx1 : 0 ≤ x ∧ x ≤ 1048576 ∧ (L.length : Int) ≤ 1048576 ∧ ∀ y ∈ L, y.small := by
    rcases hx with h | h
    · omega
    · exact h
  obtain ⟨x1, x2, x3, x4⟩ := hx1
  have HX4 := hide x4
  have hL : L.length ≤ 1048576 := by omega
  clear hx x4 x3
  go_wp2_with fail
  refine (szNoteS_any a2 c2 M x _ (unhide C1) hm x1 x2).mono ?_
  rintro e w2 ⟨⟨y, rfl, hy⟩, hb⟩
  have z2 : w1.heap.size ≤ w2.heap.size := hb.size
  have A2 := hide ((unhide A1).below hb)
  have C2 := hide ((unhide C1).below hb)
  have B2 := hide (below_step (unhide B1) hb (by omega))
  clear hb A1 C1 B1
  by_cases hy0 : y < 0
  · clear hy
    go_wp2_with fail
    go_ret
    exact ⟨rfl, unhide B2⟩
  have hy1 : 0 ≤ y ∧ y ≤ x ∧ (M.length : Int) ≤ x ∧ ∀ y ∈ M, y.small := by
    rcases hy with h | h
    · omega
    · exact h
  obtain ⟨y1, y2, y3, y4⟩ := hy1
  have HY4 := hide y4
  have hM : M.length ≤ 1048576 := by omega
  clear hy y4 y3
  have A3 := hide ((unhide A2).toAt (unhide HX4))
  clear A2
  have C4 := hide ((unhide C2).toAt (unhide HY4))
  clear C2
  go_wp2_with fail
  refine (toNoteS_ex a1 c1 L _ (unhide A3) hL).mono ?_
  rintro e w5 ⟨⟨gp, L1, rfl, hbp, hmp⟩, hb⟩
  have z5 : w2.heap.size ≤ w5.heap.size := hb.size
  have A5 := hide ((unhide A3).below hb)
  have C5 := hide ((unhide C4).below hb)
  have B5 := hide (below_step (unhide B2) hb (by omega))
  clear hb A3 C4 B2
  have Fp := hide hbp
  have Mp := hide hmp
  have lp : L1.length ≤ 1048576 := by have := congrArg List.length hmp; simp at this; omega
  clear hbp hmp
  go_wp2_with fail
  refine (toNoteS_ex a2 c2 M _ (unhide C5) hM).mono ?_
  rintro e w6 ⟨⟨gq, M1, rfl, hbq, hmq⟩, hb⟩
  have z6 : w5.heap.size ≤ w6.heap.size := hb.size
  have A6 := hide ((unhide A5).below hb)
  have C6 := hide ((unhide C5).below hb)
  have D6 := hide ((unhide Fp).below hb)
  have B6 := hide (below_step (unhide B5) hb (by omega))
  clear hb A5 C5 Fp B5
  have Fq := hide hbq
  have Mq := hide hmq
  have lq : M1.length ≤ 1048576 := by have := congrArg List.length hmq; simp at this; omega
  clear hbq hmq
  go_wp2_with fail
  refine (specSameNotes_any _ _ _ _ L1 M1 _ (unhide D6) (unhide Fq) lp lq).mono ?_
  rintro e w7 ⟨rfl, hb⟩
  have z7 : w6.heap.size ≤ w7.heap.size := hb.size
  have A7 := hide ((unhide A6).below hb)
  have C7 := hide ((unhide C6).below hb)
  have D7 := hide ((unhide D6).below hb)
  have E7 := hide ((unhide Fq).below hb)
  have B7 := hide (below_step (unhide B6) hb (by omega))
  clear hb A6 C6 D6 Fq B6
  rw [sameNtes_map (unhide Mp) (unhide Mq)]
  go_wp2_with fail
  refine (toNoteS_ex a1 c1 L _ (unhide A7) hL).mono ?_
  rintro e w8 ⟨⟨gr, L2, rfl, hbr, hmr⟩, hb⟩
  have z8 : w7.heap.size ≤ w8.heap.size := hb.size
  have A8 := hide ((unhide A7).below hb)
  have C8 := hide ((unhide C7).below hb)
  have B8 := hide (below_step (unhide B7) hb (by omega))
  clear hb A7 C7 B7
  have Fr := hide hbr
  have Mr := hide hmr
  have lr : L2.length ≤ 1048576 := by have := congrArg List.length hmr; simp at this; omega
  clear hbr hmr
  go_wp2_with fail
  refine (toNoteS_ex a2 c2 M _ (unhide C8) hM).mono ?_
  rintro e w9 ⟨⟨gs, M2, rfl, hbs, hms⟩, hb⟩
  have z9 : w8.heap.size ≤ w9.heap.size := hb.size
  have A9 := hide ((unhide A8).below hb)
  have C9 := hide ((unhide C8).below hb)
  have G9 := hide ((unhide Fr).below hb)
  have B9 := hide (below_step (unhide B8) hb (by omega))
  clear hb A8 C8 Fr B8
  have Fs := hide hbs
  have Ms := hide hms
  have ls : M2.length ≤ 1048576 := by have := congrArg List.length hms; simp at this; omega
  clear hbs hms
  go_wp2_with fail
  refine (implSameNotes_any _ _ _ _ L2 M2 _ (unhide G9) (unhide Fs) lr ls).mono ?_
  rintro e w10 ⟨rfl, hb⟩
  have z10 : w9.heap.size ≤ w10.heap.size := hb.size
  have A10 := hide ((unhide A9).below hb)
  have C10 := hide ((unhide C9).below hb)
  have G10 := hide ((unhide G9).below hb)
  have K10 := hide ((unhide Fs).below hb)
  have B10 := hide (below_step (unhide B9) hb (by omega))
  clear hb A9 C9 G9 Fs B9
  rw [sameNtes_map (unhide Mr) (unhide Ms)]
  have hbb := bool_neq_self (sameNtes L M)
  go_wp2_with fail
  refine (toNoteS_ex a1 c1 L _ (unhide A10) hL).mono ?_
  rintro e w11 ⟨⟨gt, L3, rfl, hbt, hmt⟩, hb⟩
  have z11 : w10.heap.size ≤ w11.heap.size := hb.size
  have A11 := hide ((unhide A10).below hb)
  have C11 := hide ((unhide C10).below hb)
  have G11 := hide ((unhide G10).below hb)
  have K11 := hide ((unhide K10).below hb)
  have B11 := hide (below_step (unhide B10) hb (by omega))
  clear hb A10 C10 G10 K10 B10
  have Ft := hide hbt
  have Mt := hide hmt
  have lt : L3.length ≤ 1048576 := by have := congrArg List.length hmt; simp at this; omega
  clear hbt hmt
  go_wp2_with fail
  refine (eqNoteS_same _ _ _ _ L2 L3 _ (unhide G11) (unhide Ft) lr ((unhide Mr).trans (unhide Mt).symm)).mono ?_
  rintro e w12 ⟨rfl, hb⟩
  have z12 : w11.heap.size ≤ w12.heap.size := hb.size
  have A12 := hide ((unhide A11).below hb)
  have C12 := hide ((unhide C11).below hb)
  have G12 := hide ((unhide G11).below hb)
  have K12 := hide ((unhide K11).below hb)
  have N12 := hide ((unhide Ft).below hb)
  have B12 := hide (below_step (unhide B11) hb (by omega))
  clear hb A11 C11 G11 K11 Ft B11
  go_wp2_with fail
  refine (toNoteS_ex a2 c2 M _ (unhide C12) hM).mono ?_
  rintro e w13 ⟨⟨gv, M3, rfl, hbv, hmv⟩, hb⟩
  have z13 : w12.heap.size ≤ w13.heap.size := hb.size
  have A13 := hide ((unhide A12).below hb)
  have C13 := hide ((unhide C12).below hb)
  have G13 := hide ((unhide G12).below hb)
  have K13 := hide ((unhide K12).below hb)
  have N13 := hide ((unhide N12).below hb)
  have B13 := hide (below_step (unhide B12) hb (by omega))
  clear hb A12 C12 G12 K12 N12 B12
  have Fv := hide hbv
  have Mv := hide hmv
  have lv : M3.length ≤ 1048576 := by have := congrArg List.length hmv; simp at this; omega
  clear hbv hmv
  go_wp2_with fail
  refine (eqNoteS_same _ _ _ _ M2 M3 _ (unhide K13) (unhide Fv) ls ((unhide Ms).trans (unhide Mv).symm)).mono ?_
  rintro e w14 ⟨rfl, hb⟩
  have z14 : w13.heap.size ≤ w14.heap.size := hb.size
  have A14 := hide ((unhide A13).below hb)
  have C14 := hide ((unhide C13).below hb)
  have G14 := hide ((unhide G13).below hb)
  have K14 := hide ((unhide K13).below hb)
  have N14 := hide ((unhide N13).below hb)
  have O14 := hide ((unhide Fv).below hb)
  have B14 := hide (below_step (unhide B13) hb (by omega))
  clear hb A13 C13 G13 K13 N13 Fv B13
  go_wp2_with fail
  go_ret
  exact ⟨rfl, unhide B14⟩
end fnExactSameNotes
end Go.Proofs.Ytdnfadbkpajloaa
