/-
  What impl.sameBlock and impl.SameBlocks answer.
-/
import Derived.Test.YtaadbgebcknfkaaBlksMath
import Derived.Test.YtaadbgebcknfkaaDevTo
namespace Go.Proofs.Ytaadbgebcknfkaa
open Go.RowKit
set_option linter.unusedVariables false

set_option maxRecDepth 20000 in
set_option maxHeartbeats 4000000 in
theorem sameBlock_any (x y : BlkA) (w : World) (h : IntsAt w x.a x.b.nl) (h2 : IntsAt w y.a y.b.nl) (hn : x.b.nl.length ≤ 1048576) :
    Calls Try.prog 47 #[.agg x.cells.toArray, .agg y.cells.toArray] w fun r w' => r = .returned (.bool (sameBlk x.b y.b)) ∧ Below w.heap.size w w' := by
  obtain ⟨⟨k, u, i, e, nu, nd, np, nn, ns, nl⟩, a, c⟩ := x
  obtain ⟨⟨k', u', i', e', nu', nd', np', nn', ns', nl'⟩, a', c'⟩ := y
  simp only [BlkA.cells] at *
  obtain ⟨W, hW, hWz, HB0, HX0, HY0⟩ := boxes2 w [.int .i64 k, .int .i64 u, .int .i64 i, .int .i64 e, .int .i64 nu, .bool nd, .int .i64 np, .string nn, .int .i64 ns, .slice a nl.length c] [.int .i64 k', .int .i64 u', .int .i64 i', .int .i64 e', .int .i64 nu', .bool nd', .int .i64 np', .string nn', .int .i64 ns', .slice a' nl'.length c'] 31 31
  have H := hide (h.below (unhide HB0))
  have H2 := hide (h2.below (unhide HB0))
  clear h h2
  have hE1 : ∀ w : World, (binOp .eql 27 (.agg #[.int .i64 k, .int .i64 u, .int .i64 i, .int .i64 e]) (.agg #[.int .i64 k', .int .i64 u', .int .i64 i', .int .i64 e'])).run Try.prog w = .ok (.bool (k == k' && u == u' && i == i' && e == e')) w := fun w => by
    rw [run_eql_struct, eqlHead]; rfl
  have hE2 : ∀ w : World, (binOp .eql 29 (.agg #[.int .i64 nu, .bool nd, .int .i64 np, .string nn, .int .i64 ns]) (.agg #[.int .i64 nu', .bool nd', .int .i64 np', .string nn', .int .i64 ns'])).run Try.prog w = .ok (.bool (nu == nu' && nd == nd' && np == np' && decide (nn = nn') && ns == ns')) w := fun w => by
    rw [run_eql_struct, eqlNode]; rfl
  have hr : sameBlk ⟨k, u, i, e, nu, nd, np, nn, ns, nl⟩ ⟨k', u', i', e', nu', nd', np', nn', ns', nl'⟩ = ((k == k' && u == u' && i == i' && e == e') && (nu == nu' && nd == nd' && np == np' && decide (nn = nn') && ns == ns') && decide (nl = nl')) := rfl
  have HR := hide hr
  clear hr
  generalize (k == k' && u == u' && i == i' && e == e') = b1 at *
  generalize (nu == nu' && nd == nd' && np == np' && decide (nn = nn') && ns == ns') = b2 at *
  cases b1
  · go_enter Try.func47, Try.ntmps47
    go_wp2_with fail
    go_ret
    refine ⟨ret_bool (by rw [unhide HR]; rfl), ?_⟩
    rw [← hW]
    exact unhide HB0
  · cases b2
    · go_enter Try.func47, Try.ntmps47
      go_wp2_with fail
      go_ret
      refine ⟨ret_bool (by rw [unhide HR]; rfl), ?_⟩
      rw [← hW]
      exact unhide HB0
    · go_enter Try.func47, Try.ntmps47
      go_wp2_with fail
      rw [← hW]
      clear hW
      refine (eqInts_any a a' c c' nl nl' _ (unhide H) (unhide H2) hn).mono ?_
      rintro r w1 ⟨rfl, hb1⟩
      have B1 := hide (below_step (unhide HB0) hb1 (by omega))
      clear hb1 hE1 hE2
      generalize decide (nl = nl') = b3 at *
      go_wp2_with fail
      go_ret
      exact ⟨ret_bool (by rw [unhide HR]; rfl), unhide B1⟩

def sameBlks : List BlkA → List BlkA → Bool
  | [], [] => true
  | x :: L, y :: M => sameBlk x.b y.b && sameBlks L M
  | _, _ => false
theorem sameBlks_len : ∀ {L M : List BlkA}, L.length ≠ M.length → sameBlks L M = false
  | [], [], h => by simp at h
  | [], _ :: _, _ => rfl
  | _ :: _, [], _ => rfl
  | x :: L, y :: M, h => by
    rw [sameBlks, sameBlks_len (L := L) (M := M) (by simpa using h)]
    simp
theorem sameBlks_drop {L M : List BlkA} {k : Nat} (h1 : k < L.length) (h2 : k < M.length) : sameBlks (L.drop k) (M.drop k) = (sameBlk L[k].b M[k].b && sameBlks (L.drop (k + 1)) (M.drop (k + 1))) := by
  rw [List.drop_eq_getElem_cons h1, List.drop_eq_getElem_cons h2, sameBlks]

set_option maxRecDepth 20000 in
set_option maxHeartbeats 4000000 in
theorem equalFunc_any (a b : Option Addr) (c d : Nat) (L M : List BlkA) (w : World) (h : BlksAt w a L) (h2 : BlksAt w b M) (hn : L.length ≤ 1048576) (hm : M.length ≤ 1048576) :
    Calls Try.prog 46 #[.slice a L.length c, .slice b M.length d, .func (.func 47) #[] #[]] w fun r w' => r = .returned (.bool (sameBlks L M)) ∧ Below w.heap.size w w' := by
  by_cases hl : L.length = M.length
  · have hlb : ((L.length : Int) != (M.length : Int)) = false := by simp; omega
    have HL := hide hl
    clear hl
    go_enter Try.func46, Try.ntmps46
    go_wp2
    go_loopw [17] (fun i wr => ∃ k : Nat, k ≤ L.length ∧ i = .int .i64 k ∧ Hid (Below w.heap.size w wr) ∧ Hid (sameBlks L M = sameBlks (L.drop k) (M.drop k))) (fun i _ => L.length - (intOf i).toNat)
    case atStart => exact ⟨0, Nat.zero_le _, rfl, Below.refl _ _, by simp [Hid]⟩
    case round =>
      obtain ⟨k, hk, rfl, HB, HX⟩ := hrel
      by_cases hlt : k < L.length
      · have hlt2 : k < M.length := by have := unhide HL; omega
        have hst := sameBlks_drop hlt hlt2
        obtain ⟨b1, o1, rfl, hb1, hc1⟩ := h.at hlt
        obtain ⟨b2, o2, rfl, hb2, hc2⟩ := h2.at hlt2
        have hbw := unhide HB
        have hx := hc1 k hlt
        have hy := hc2 k hlt2
        generalize L[k] = x at *
        generalize M[k] = y at *
        have I1 := hide (hx.2.1.keep hbw.size fun _ _ hl => hbw.block _ hl)
        have I2 := hide (hy.2.1.keep hbw.size fun _ _ hl => hbw.block _ hl)
        have hnl := hx.2.2
        have z0 := hbw.size
        have zb1 : b1 < wr.heap.size := by omega
        have zb2 : b2 < wr.heap.size := by omega
        have x0 : wr.cell? ⟨b1, o1 + k * 10, none⟩ = some (.int .i64 x.b.k) := (hbw.cell (p := ⟨b1, o1 + k * 10, none⟩) hb1).trans (hx.1 0 _ rfl)
        have x1 : wr.cell? ⟨b1, o1 + k * 10 + 1, none⟩ = some (.int .i64 x.b.u) := (hbw.cell (p := ⟨b1, o1 + k * 10 + 1, none⟩) hb1).trans (hx.1 1 _ rfl)
        have x2 : wr.cell? ⟨b1, o1 + k * 10 + 2, none⟩ = some (.int .i64 x.b.i) := (hbw.cell (p := ⟨b1, o1 + k * 10 + 2, none⟩) hb1).trans (hx.1 2 _ rfl)
        have x3 : wr.cell? ⟨b1, o1 + k * 10 + 3, none⟩ = some (.int .i64 x.b.e) := (hbw.cell (p := ⟨b1, o1 + k * 10 + 3, none⟩) hb1).trans (hx.1 3 _ rfl)
        have x4 : wr.cell? ⟨b1, o1 + k * 10 + 4, none⟩ = some (.int .i64 x.b.nu) := (hbw.cell (p := ⟨b1, o1 + k * 10 + 4, none⟩) hb1).trans (hx.1 4 _ rfl)
        have x5 : wr.cell? ⟨b1, o1 + k * 10 + 5, none⟩ = some (.bool x.b.nd) := (hbw.cell (p := ⟨b1, o1 + k * 10 + 5, none⟩) hb1).trans (hx.1 5 _ rfl)
        have x6 : wr.cell? ⟨b1, o1 + k * 10 + 6, none⟩ = some (.int .i64 x.b.np) := (hbw.cell (p := ⟨b1, o1 + k * 10 + 6, none⟩) hb1).trans (hx.1 6 _ rfl)
        have x7 : wr.cell? ⟨b1, o1 + k * 10 + 7, none⟩ = some (.string x.b.nn) := (hbw.cell (p := ⟨b1, o1 + k * 10 + 7, none⟩) hb1).trans (hx.1 7 _ rfl)
        have x8 : wr.cell? ⟨b1, o1 + k * 10 + 8, none⟩ = some (.int .i64 x.b.ns) := (hbw.cell (p := ⟨b1, o1 + k * 10 + 8, none⟩) hb1).trans (hx.1 8 _ rfl)
        have x9 : wr.cell? ⟨b1, o1 + k * 10 + 9, none⟩ = some (.slice x.a x.b.nl.length x.c) := (hbw.cell (p := ⟨b1, o1 + k * 10 + 9, none⟩) hb1).trans (hx.1 9 _ rfl)
        have y0 : wr.cell? ⟨b2, o2 + k * 10, none⟩ = some (.int .i64 y.b.k) := (hbw.cell (p := ⟨b2, o2 + k * 10, none⟩) hb2).trans (hy.1 0 _ rfl)
        have y1 : wr.cell? ⟨b2, o2 + k * 10 + 1, none⟩ = some (.int .i64 y.b.u) := (hbw.cell (p := ⟨b2, o2 + k * 10 + 1, none⟩) hb2).trans (hy.1 1 _ rfl)
        have y2 : wr.cell? ⟨b2, o2 + k * 10 + 2, none⟩ = some (.int .i64 y.b.i) := (hbw.cell (p := ⟨b2, o2 + k * 10 + 2, none⟩) hb2).trans (hy.1 2 _ rfl)
        have y3 : wr.cell? ⟨b2, o2 + k * 10 + 3, none⟩ = some (.int .i64 y.b.e) := (hbw.cell (p := ⟨b2, o2 + k * 10 + 3, none⟩) hb2).trans (hy.1 3 _ rfl)
        have y4 : wr.cell? ⟨b2, o2 + k * 10 + 4, none⟩ = some (.int .i64 y.b.nu) := (hbw.cell (p := ⟨b2, o2 + k * 10 + 4, none⟩) hb2).trans (hy.1 4 _ rfl)
        have y5 : wr.cell? ⟨b2, o2 + k * 10 + 5, none⟩ = some (.bool y.b.nd) := (hbw.cell (p := ⟨b2, o2 + k * 10 + 5, none⟩) hb2).trans (hy.1 5 _ rfl)
        have y6 : wr.cell? ⟨b2, o2 + k * 10 + 6, none⟩ = some (.int .i64 y.b.np) := (hbw.cell (p := ⟨b2, o2 + k * 10 + 6, none⟩) hb2).trans (hy.1 6 _ rfl)
        have y7 : wr.cell? ⟨b2, o2 + k * 10 + 7, none⟩ = some (.string y.b.nn) := (hbw.cell (p := ⟨b2, o2 + k * 10 + 7, none⟩) hb2).trans (hy.1 7 _ rfl)
        have y8 : wr.cell? ⟨b2, o2 + k * 10 + 8, none⟩ = some (.int .i64 y.b.ns) := (hbw.cell (p := ⟨b2, o2 + k * 10 + 8, none⟩) hb2).trans (hy.1 8 _ rfl)
        have y9 : wr.cell? ⟨b2, o2 + k * 10 + 9, none⟩ = some (.slice y.a y.b.nl.length y.c) := (hbw.cell (p := ⟨b2, o2 + k * 10 + 9, none⟩) hb2).trans (hy.1 9 _ rfl)
        have HST := hide ((unhide HX).trans hst)
        clear hst hc1 hc2 hx hy h h2 hbw
        go_wp2_with fail
        clear x0 y0 x1 y1 x2 y2 x3 y3 x4 y4 x5 y5 x6 y6 x7 y7 x8 y8 x9 y9
        obtain ⟨W, hW, hWz, HBw, -, -⟩ := boxes2 wr [.int .i64 x.b.k, .int .i64 x.b.u, .int .i64 x.b.i, .int .i64 x.b.e, .int .i64 x.b.nu, .bool x.b.nd, .int .i64 x.b.np, .string x.b.nn, .int .i64 x.b.ns, .slice x.a x.b.nl.length x.c] [.int .i64 y.b.k, .int .i64 y.b.u, .int .i64 y.b.i, .int .i64 y.b.e, .int .i64 y.b.nu, .bool y.b.nd, .int .i64 y.b.np, .string y.b.nn, .int .i64 y.b.ns, .slice y.a y.b.nl.length y.c] 31 31
        rw [← hW]
        clear hW
        refine (sameBlock_any x y _ ((unhide I1).below (unhide HBw)) ((unhide I2).below (unhide HBw)) hnl).mono ?_
        rintro r w1 ⟨rfl, hb1'⟩
        have B1 := hide (below_step (unhide HB) (below_step (unhide HBw) hb1' (unhide HBw).size) z0)
        clear hb1' I1 I2 HBw
        cases hq : sameBlk x.b y.b
        · have HV : Hid (sameBlks L M = false) := by rw [Hid, unhide HST, hq]; rfl
          go_wp2_with fail
          go_ret
          exact ⟨ret_bool (unhide HV).symm, unhide B1⟩
        · have HV : Hid (sameBlks L M = sameBlks (L.drop (k + 1)) (M.drop (k + 1))) := by rw [Hid, unhide HST, hq]; rfl
          clear hq
          go_wp2_with fail
          go_roundw
          case rel => exact ⟨k + 1, by omega, by go_num, B1, HV⟩
          case measure => simp [intOf]; omega
      · have HV : Hid (sameBlks L M = true) := by
          have hle := unhide HL
          rw [Hid, unhide HX, List.drop_of_length_le (by omega), List.drop_of_length_le (by omega)]; rfl
        go_wp2_with fail
        go_ret
        exact ⟨ret_bool (unhide HV).symm, unhide HB⟩
  · have hlb : ((L.length : Int) != (M.length : Int)) = true := by simp; omega
    have HV := hide (sameBlks_len hl)
    clear hl
    go_enter Try.func46, Try.ntmps46
    go_wp2
    go_ret
    exact ⟨ret_bool (unhide HV).symm, Below.refl _ _⟩
set_option maxRecDepth 20000 in
set_option maxHeartbeats 1000000 in
theorem implSameBlocks_any (a b : Option Addr) (c d : Nat) (L M : List BlkA) (w : World) (h : BlksAt w a L) (h2 : BlksAt w b M) (hn : L.length ≤ 1048576) (hm : M.length ≤ 1048576) :
    Calls Try.prog 11 #[.slice a L.length c, .slice b M.length d] w fun r w' => r = .returned (.bool (sameBlks L M)) ∧ Below w.heap.size w w' := by
  have H := hide h
  have H2 := hide h2
  clear h h2
  go_enter Try.func11, Try.ntmps11
  go_wp2_with fail
  refine (equalFunc_any a b c d L M _ (unhide H) (unhide H2) hn hm).mono ?_
  rintro r w1 ⟨rfl, hb1⟩
  have B1 := hide hb1
  clear hb1
  generalize hq : sameBlks L M = q at *
  have HQ := hide hq
  clear hq
  go_wp2_with fail
  go_ret
  exact ⟨ret_bool (unhide HQ).symm, unhide B1⟩
end Go.Proofs.Ytaadbgebcknfkaa
