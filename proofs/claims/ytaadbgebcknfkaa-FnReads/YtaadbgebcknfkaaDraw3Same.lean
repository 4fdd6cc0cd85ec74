/-
  The laws' draw of two lists of blocks.
-/
import Derived.Test.YtaadbgebcknfkaaDraw3Read
import Derived.Test.YtaadbgebcknfkaaSReadBlock
import Derived.Test.YtaadbgebcknfkaaBlksMath
import Derived.Test.YtaadbgebcknfkaaAppRow
namespace Go.Proofs.Ytaadbgebcknfkaa
open Go.RowKit
set_option linter.unusedVariables false

theorem infoBlkD : (Try.prog.info? 31).map (fun i => (i.zero, i.size, i.bytes)) = some (some (.agg #[.int .i64 0, .int .i64 0, .int .i64 0, .int .i64 0, .int .i64 0, .bool false, .int .i64 0, .string ⟨#[]⟩, .int .i64 0, .slice none 0 0]), 10, 104) := by kernel_rfl
theorem infoByteD : (Try.prog.info? 5).map (fun i => (i.zero, i.size, i.bytes)) = some (some (.int .u8 0), 1, 1) := by kernel_rfl
/-- A slice written out, of one element. -/
theorem own_lit (w : World) (xs : List Value) (s : Nat) (t : TypeId) (hs : xs.length = s) : (w.alloc (.cells xs.toArray t)).ownsRow w.heap.size t s (.slice (some ⟨w.heap.size, 0, none⟩) 1 1) 1 xs :=
  ⟨by omega, .inr ⟨w.heap.size, 1, xs.toArray, rfl, Nat.le_refl _, box_new w xs t, Nat.le_refl _, by unfold maxLen; omega, by simp [hs], by simp [← hs]⟩⟩
def isByte (u : Value) : Prop := ∃ z : Int, 0 ≤ z ∧ z ≤ 255 ∧ u = .int .u8 z
theorem codeList {w : World} {a : Option Addr} {n : Nat} (h : CodeAt w a n) : ∃ ys : List Value, ys.length = n ∧ RowAt w a ys ∧ ∀ u ∈ ys, isByte u := by
  rcases h with rfl | ⟨b, o, rfl, hb, hc⟩
  · exact ⟨[], rfl, .inl rfl, fun u hu => by simp at hu⟩
  · have hf : ∀ i : Fin n, ∃ z : Int, 0 ≤ z ∧ z ≤ 255 ∧ w.cell? ⟨b, o + i.val, none⟩ = some (.int .u8 z) := fun i => hc i.val i.isLt
    refine ⟨List.ofFn fun i => .int .u8 (Classical.choose (hf i)), by simp, .inr ⟨b, o, rfl, hb, fun j u hj => ?_⟩, fun u hu => ?_⟩
    · rw [List.getElem?_ofFn] at hj
      split at hj
      · rename_i hjn
        injection hj with hj
        rw [← hj]
        exact (Classical.choose_spec (hf ⟨j, hjn⟩)).2.2
      · cases hj
    · rw [List.mem_ofFn] at hu
      obtain ⟨i, rfl⟩ := hu
      exact ⟨_, (Classical.choose_spec (hf i)).1, (Classical.choose_spec (hf i)).2.1, rfl⟩
theorem codeAt_rowB {w : World} {a : Option Addr} {ys : List Value} (h : RowAt w a ys) (hb : ∀ u ∈ ys, isByte u) : CodeAt w a ys.length := by
  rcases h with rfl | ⟨b, o, rfl, hlt, hc⟩
  · exact .inl rfl
  · refine .inr ⟨b, o, rfl, hlt, fun i hi => ?_⟩
    obtain ⟨z, h0, h1, hz⟩ := hb _ (List.getElem_mem hi)
    exact ⟨z, h0, h1, (hc i _ (List.getElem?_eq_getElem hi)).trans (by rw [hz])⟩
/-- Rows of two types are two. -/
theorem own_types {w : World} {B1 B2 : Nat} {e1 e2 : TypeId} {s1 s2 : Nat} {v1 v2 : Value} {n1 n2 : Nat} {xs ys : List Value} (h : w.ownsRow B1 e1 s1 v1 n1 xs) (k : w.ownsRow B2 e2 s2 v2 n2 ys) (he : e1 ≠ e2) : ∀ q, v1.ownBlock = some q → v2.ownBlock ≠ some q := by
  intro q h1 h2
  rcases h.2 with ⟨rfl, _⟩ | ⟨g, cap, cur, rfl, _, hg, _⟩
  · cases h1
  · rcases k.2 with ⟨rfl, _⟩ | ⟨g', cap', cur', rfl, _, hg', _⟩
    · cases h2
    · cases h1
      injection h2 with h2
      simp only at h2
      subst h2
      rw [hg] at hg'
      simp at hg'
      exact he hg'.2
def bflat (L : List BlkA) : List Value := L.flatMap BlkA.cells
theorem bflat_len (L : List BlkA) : (bflat L).length = L.length * 10 := by
  induction L with
  | nil => rfl
  | cons x L ih =>
    simp only [bflat, List.flatMap_cons, List.length_append, List.length_cons] at *
    have : x.cells.length = 10 := rfl
    omega
theorem bflat_at : ∀ (L : List BlkA) (i : Nat) (h : i < L.length) (j : Nat) (v : Value), (L[i].cells)[j]? = some v → (bflat L)[i * 10 + j]? = some v
  | x :: L, 0, _, j, v, hv => by
    have hj : j < x.cells.length := (List.getElem?_eq_some_iff.1 hv).1
    simp only [bflat, List.flatMap_cons, Nat.zero_mul, Nat.zero_add]
    rw [List.getElem?_append_left hj]; exact hv
  | x :: L, i + 1, h, j, v, hv => by
    have hr := bflat_at L i (by simpa using h) j v (by simpa using hv)
    have hx : x.cells.length = 10 := rfl
    simp only [bflat, List.flatMap_cons]
    rw [List.getElem?_append_right (by omega), hx, show (i + 1) * 10 + j - 10 = i * 10 + j by omega]
    exact hr
def BlkA.nv (x : BlkA) : Value := .slice x.a x.b.nl.length x.c
/-- Blocks in a row of our own, their numbers in rows of our own. -/
structure BOwn (w : World) (B : Nat) (v : Value) (L : List BlkA) : Prop where
  row : w.ownsRow B 31 10 v L.length (bflat L)
  inn : ∀ x ∈ L, w.ownsRow 0 2 1 x.nv x.b.nl.length (nums x.b.nl) ∧ x.b.nl.length ≤ 1048576
theorem BOwn.below {w w' : World} {B : Nat} {v : Value} {L : List BlkA} (h : BOwn w B v L) (hb : Below w.heap.size w w') : BOwn w' B v L := ⟨own_below h.row hb, fun x hx => ⟨own_below (h.inn x hx).1 hb, (h.inn x hx).2⟩⟩
theorem own_grown {w w' : World} {row : Option Nat} {B : Nat} {e : TypeId} {s : Nat} {v : Value} {n : Nat} {xs : List Value} (h : w.ownsRow B e s v n xs) (hg : w.grownBy w' row) (hne : ∀ q, v.ownBlock = some q → row ≠ some q) : w'.ownsRow B e s v n xs :=
  own_stay h fun q hq hl => hg.block q hl (fun e => hne q hq e.symm)
theorem BOwn.other {w w' : World} {B : Nat} {v v2 : Value} {L : List BlkA} {n : Nat} {xs : List Value} (h : BOwn w B v L) (hr : w.ownsRow B 31 10 v2 n xs) (hg : w.grownBy w' v2.ownBlock) (hne : ∀ q, v.ownBlock = some q → v2.ownBlock ≠ some q) : BOwn w' B v L :=
  ⟨own_grown h.row hg hne, fun x hx => ⟨own_grown (h.inn x hx).1 hg (own_types (h.inn x hx).1 hr (by decide)), (h.inn x hx).2⟩⟩
theorem BOwn.next {w w' : World} {B : Nat} {v v' : Value} {L : List BlkA} {x : BlkA} (h : BOwn w B v L) (hx : w.ownsRow 0 2 1 x.nv x.b.nl.length (nums x.b.nl)) (hl : x.b.nl.length ≤ 1048576) (hg : w.grownBy w' v.ownBlock) (ho : w'.ownsRow B 31 10 v' (L.length + 1) (bflat L ++ x.cells)) : BOwn w' B v' (L ++ [x]) :=
  ⟨by rw [List.length_append, List.length_singleton, show bflat (L ++ [x]) = bflat L ++ x.cells by simp [bflat]]; exact ho, fun y hy => by
    rcases List.mem_append.1 hy with hy | hy
    · exact ⟨own_grown (h.inn y hy).1 hg (own_types (h.inn y hy).1 h.row (by decide)), (h.inn y hy).2⟩
    · rw [List.mem_singleton] at hy; subst hy
      exact ⟨own_grown hx hg (own_types hx h.row (by decide)), hl⟩⟩
theorem BOwn.at {w : World} {B : Nat} {a : Option Addr} {c : Nat} {L : List BlkA} (h : BOwn w B (.slice a L.length c) L) : BlksAt w a L := by
  rcases h.row.2 with ⟨e, h0⟩ | ⟨g, cap, cur, e, hg, hh, hn, hc, hs, ht⟩
  · exact .inl (List.length_eq_zero_iff.1 h0)
  · cases e
    refine .inr ⟨g, 0, rfl, (Array.getElem?_eq_some_iff.1 hh).1, fun i hi => ⟨fun j v hv => ?_, ?_, (h.inn _ (List.getElem_mem hi)).2⟩⟩
    · have hf := bflat_at L i hi j v hv
      rw [Nat.zero_add, h.row.cellAt (i * 10 + j) (by have := (List.getElem?_eq_some_iff.1 hf).1; rw [bflat_len] at this; exact this)]
      exact hf
    · have hn := (h.inn _ (List.getElem_mem hi)).1
      exact intsAt_own1 hn
/-- The same but for the size of the first one's node. -/
def bump : List BlkA → Int → List BlkA
  | [], _ => []
  | x :: L, y => ⟨{ x.b with ns := y }, x.a, x.c⟩ :: L
theorem bump_len (L : List BlkA) (y : Int) : (bump L y).length = L.length := by cases L <;> rfl
theorem BOwn.bump {w : World} {B g c : Nat} {L : List BlkA} (h : BOwn w B (.slice (some ⟨g, 0, none⟩) L.length c) L) (hL : L ≠ []) (y : Int) : BOwn (w.setCell ⟨g, 8, none⟩ (.int .i64 y)) B (.slice (some ⟨g, 0, none⟩) L.length c) (bump L y) := by
  cases L with
  | nil => exact absurd rfl hL
  | cons x L =>
    have hr := (h.row.stored 8 (.int .i64 y)).1
    refine ⟨?_, fun z hz => ?_⟩
    · have e : (bflat (x :: L)).set 8 (.int .i64 y) = bflat (Go.Proofs.Ytaadbgebcknfkaa.bump (x :: L) y) := by simp [bflat, Go.Proofs.Ytaadbgebcknfkaa.bump, BlkA.cells]
      rw [e] at hr
      exact hr
    · have hz2 : z.b.nl.length ≤ 1048576 ∧ w.ownsRow 0 2 1 z.nv z.b.nl.length (nums z.b.nl) := by
        rcases List.mem_cons.1 hz with rfl | hz
        · have := h.inn x (List.mem_cons_self ..); exact ⟨this.2, this.1⟩
        · have := h.inn z (List.mem_cons_of_mem _ hz); exact ⟨this.2, this.1⟩
      refine ⟨own_stay hz2.2 fun q hq _ => Below.heap_setCell _ _ _ q (fun e => own_types hz2.2 h.row (by decide) q hq (by rw [e]; rfl)), hz2.1⟩
theorem BOwn.grow8 {w w' : World} {B B2 : Nat} {v v2 : Value} {L : List BlkA} {n : Nat} {xs : List Value} {s : Nat} (h : BOwn w B v L) (hr : w.ownsRow B2 5 s v2 n xs) (hg : w.grownBy w' v2.ownBlock) : BOwn w' B v L :=
  ⟨own_grown h.row hg (own_types h.row hr (by decide)), fun x hx => ⟨own_grown (h.inn x hx).1 hg (own_types (h.inn x hx).1 hr (by decide)), (h.inn x hx).2⟩⟩
theorem own_box0 {w : World} {B g s : Nat} {t : TypeId} (h : Box w g [] t) (hB : B ≤ g) : w.ownsRow B t s (.slice (some ⟨g, 0, none⟩) 0 0) 0 [] :=
  ⟨by simp, .inr ⟨g, 0, #[], rfl, hB, h, Nat.le_refl _, Nat.zero_le _, by simp, by simp⟩⟩
theorem BOwn.outNew {w w1 w2 : World} {B : Nat} {v : Value} {L : List BlkA} (h : BOwn w B v L) (hb : Below w.heap.size w w1) (ho : Out (fun q => q = w.heap.size) w1 w2) : BOwn w2 B v L := by
  have hz := hb.size
  have hk : ∀ q, q < w.heap.size → w2.heap[q]? = w.heap[q]? := fun q hl => (ho.block q (by omega) (by omega)).trans (hb.block q hl)
  exact ⟨own_stay h.row (fun q _ hl => hk q hl), fun x hx => ⟨own_stay (h.inn x hx).1 (fun q _ hl => hk q hl), (h.inn x hx).2⟩⟩
theorem BOwn.setOther {w : World} {B g o : Nat} {v v2 : Value} {L M : List BlkA} (h : BOwn w B v L) (k : BOwn w B v2 M) (hg : v2.ownBlock = some g) (hne : ∀ q, v.ownBlock = some q → v2.ownBlock ≠ some q) (y : Value) : BOwn (w.setCell ⟨g, o, none⟩ y) B v L :=
  ⟨own_stay h.row (fun q hq _ => Below.heap_setCell _ _ _ q (fun e => hne q hq (by rw [hg, e]))), fun x hx => ⟨own_stay (h.inn x hx).1 (fun q hq _ => Below.heap_setCell _ _ _ q (fun e => own_types (h.inn x hx).1 k.row (by decide) q hq (by rw [hg, e]))), (h.inn x hx).2⟩⟩
theorem readBlk_len (l : List Int) : (readBlk l).nl.length ≤ 4 := by
  unfold readBlk
  split
  · split
    · unfold toldBlk
      split
      · simp
      · split
        · simp
        · split <;> simp [Blk.none]
    · simp [Blk.none]
  · simp [Blk.none]
theorem later1_any (a : Option Addr) (n c : Nat) (w : World) :
    Calls Try.prog 44 #[.slice a n c, .int .i64 1] w fun e w' => e = .returned (.pointer (some ⟨w.heap.size, 0, none⟩)) ∧ w' = w.alloc (.cells #[.slice a n c, .int .i64 12] 132) := by
  go_enter Try.func44, Try.ntmps44
  go_wp2
  go_ret
  exact ⟨rfl, rfl⟩
theorem specReadE_any (a : Option Addr) (c : Nat) (l : List Int) (hcl : l.length ≤ c) (hl : l.length ≤ 1048576) (hx : ∀ x ∈ l, i64B x) (w : World) (h : IntsAt w a l) :
    Calls Try.prog 10 #[.slice a l.length c] w fun r w' => (∃ (cd : Int) (b : Blk) (av : Option Addr) (cv : Nat), r = .returned (.agg #[.int .i64 cd, .int .i64 b.k, .int .i64 b.u, .int .i64 b.i, .int .i64 b.e, .int .i64 b.nu, .bool b.nd, .int .i64 b.np, .string b.nn, .int .i64 b.ns, .slice av b.nl.length cv]) ∧ w'.ownsRow 0 2 1 (.slice av b.nl.length cv) b.nl.length (nums b.nl) ∧ b.nl.length ≤ 4) ∧ Below w.heap.size w w' :=
  (specReadBlock_any a c l hcl hl hx w h).mono fun _ _ ⟨⟨v, h1, h2⟩, hb⟩ => by
    obtain ⟨av, cv, rfl, -⟩ := rowAt_own h2
    exact ⟨⟨readCode l, readBlk l, av, cv, h1, own_base h2 (fun q hq => Nat.zero_le _), readBlk_len l⟩, hb⟩
set_option maxRecDepth 20000 in
set_option maxHeartbeats 8000000 in
theorem drawSameBlocks_any (a : Option Addr) (n c : Nat) (w : World) (h : CodeAt w a n) (hn : n ≤ 1048576) :
    Calls Try.prog 9 #[.slice a n c] w fun r w' => (∃ aa ca L ab cb M, r = .returned (.tuple #[.slice aa (List.length L) ca, .slice ab (List.length M) cb]) ∧ BlksAt w' aa L ∧ BlksAt w' ab M ∧ List.length L ≤ 3 ∧ List.length M ≤ 3) ∧ Below w.heap.size w w' := by
  obtain ⟨ib, hib, hb0, hb1, hb2⟩ := info_parts infoByteD
  obtain ⟨ik, hik, hk0, hk1, hk2⟩ := info_parts infoBlkD
  have H := hide h
  clear h
  obtain ⟨W, hW, hWz, B0, XA, XB⟩ := boxes2 w [] [] 31 31
  go_enter Try.func9, Try.ntmps9
  go_wp2_with fail
  rw [← hW]
  clear hW
  have A0 : Hid (BOwn W w.heap.size (.slice (some ⟨w.heap.size, 0, none⟩) 0 0) []) := ⟨own_box0 (unhide XA) (Nat.le_refl _), fun x hx => by simp at hx⟩
  have E0 : Hid (BOwn W w.heap.size (.slice (some ⟨w.heap.size + 1, 0, none⟩) 0 0) []) := ⟨own_box0 (unhide XB) (by omega), fun x hx => by simp at hx⟩
  have D0 : Hid (∀ q, (Value.slice (some ⟨w.heap.size, 0, none⟩) 0 0).ownBlock = some q → (Value.slice (some ⟨w.heap.size + 1, 0, none⟩) 0 0).ownBlock ≠ some q) := fun q h1 h2 => by simp [Value.ownBlock] at h1 h2; omega
  go_loopw [4, 5, 6] (fun s4 s5 i wr => ∃ (k : Nat) (aa : Option Addr) (ca : Nat) (L : List BlkA) (ab : Option Addr) (cb : Nat) (M : List BlkA), k ≤ 3 ∧ i = .int .u8 k ∧ s4 = .slice aa L.length ca ∧ s5 = .slice ab M.length cb ∧ L.length ≤ k ∧ M.length ≤ k ∧ Hid (BOwn wr w.heap.size (.slice aa L.length ca) L) ∧ Hid (BOwn wr w.heap.size (.slice ab M.length cb) M) ∧ Hid (∀ q, (Value.slice aa L.length ca).ownBlock = some q → (Value.slice ab M.length cb).ownBlock ≠ some q) ∧ Hid (Below w.heap.size w wr)) (fun _ _ i _ => 3 - (intOf i).toNat)
  case atStart => exact ⟨0, _, 0, [], _, 0, [], by omega, rfl, rfl, rfl, by simp, by simp, A0, E0, D0, B0⟩
  case round =>
    obtain ⟨k, aa, ca, L, ab, cb, M, hk, rfl, rfl, rfl, hL, hM, HA, HE, HD, HB⟩ := hrel
    clear A0 E0 D0 B0 XA XB
    have hwz := (unhide HB).size
    by_cases hlt : k < 3
    · have HC1 := hide ((unhide H).below (unhide HB))
      obtain ⟨ys1, hyl1, hyr1, hyb1⟩ := codeList (unhide HC1)
      have HYL1 := hide hyl1
      have HYB1 := hide hyb1
      have OL1 := hide (own_lit wr [.int .u8 (k : Int)] 1 5 rfl)
      have YR1 := hide (hyr1.below ((Below.refl _ wr).alloc (Nat.le_refl _) (.cells #[.int .u8 (k : Int)] 5)))
      have HA1 := hide ((unhide HA).below ((Below.refl _ wr).alloc (Nat.le_refl _) (.cells #[.int .u8 (k : Int)] 5)))
      have HE1 := hide ((unhide HE).below ((Below.refl _ wr).alloc (Nat.le_refl _) (.cells #[.int .u8 (k : Int)] 5)))
      clear hyl1 hyr1 hyb1 HC1
      go_wp2_with (at_builtin; refine wpList_append_xs _ rfl _ _ 22 rfl wr.heap.size 5 ib _ 1 1 Try.underlying22 hib hb0 hb1 hb2 rfl (by decide) (by decide) (.slice (some ⟨wr.heap.size, 0, none⟩) 1 1) 1 [.int .u8 (k : Int)] rfl (unhide OL1) a n c ys1 rfl (by rw [Nat.mul_one]; exact unhide HYL1) (unhide YR1) (fun u hu => by obtain ⟨z, _, _, e⟩ := unhide HYB1 u hu; rw [e]; rfl) (by omega) (by simp) ?_; intro v' w1a hown hgrow hloc; obtain ⟨a1, c1, e1, hrow, -, -⟩ := rowAt_own hown; subst e1; have RW1 := hide hrow; have GR1 := hide hgrow; clear hown hgrow hloc hrow)
      have CD1 : Hid (CodeAt w1a a1 (1 + n)) := by
        have := codeAt_rowB (unhide RW1) (fun u hu => by
          rcases List.mem_append.1 hu with hu | hu
          · rw [List.mem_singleton] at hu; exact ⟨k, by omega, by omega, hu⟩
          · exact unhide HYB1 u hu)
        rw [List.length_append, unhide HYL1] at this
        exact this
      have A1a := hide ((unhide HA1).grow8 (unhide OL1) (unhide GR1))
      have E1a := hide ((unhide HE1).grow8 (unhide OL1) (unhide GR1))
      have B1a : Hid (Below w.heap.size w w1a) := ((unhide HB).alloc hwz _).grown (unhide GR1) (by simp; omega) (fun q hq => by have := ((unhide OL1).lt q hq).1; omega)
      have z1a : wr.heap.size ≤ w1a.heap.size := by have := (unhide GR1).size; simp at this; omega
      clear HYL1 HYB1 OL1 YR1 HA1 HE1 RW1 GR1 HA HE HB
      refine (drawReadBlock_any a1 (1 + n) c1 _ (unhide CD1) (by omega)).mono ?_
      rintro r w1b ⟨⟨g1, l1, cp1, rfl, hcp1, hl1, hgz1, hi1, hbd1⟩, hb⟩
      have A1b := hide ((unhide A1a).below hb)
      have E1b := hide ((unhide E1a).below hb)
      have B1b := hide (below_step (unhide B1a) hb (by omega))
      have I1b := hide hi1
      have Q1b := hide hbd1
      have z1b := hb.size
      clear hb hi1 hbd1 A1a E1a B1a CD1
      go_wp2_with fail
      refine (specReadE_any _ cp1 l1 hcp1 (by omega) (unhide Q1b) _ (unhide I1b)).mono ?_
      rintro r w1c ⟨⟨cd1, b1, av1, cv1, rfl, ho, hb41⟩, hb⟩
      obtain ⟨W1, hW, hW1z, hbx, hx⟩ := boxes1 w1c [.int .i64 cd1, .int .i64 b1.k, .int .i64 b1.u, .int .i64 b1.i, .int .i64 b1.e, .int .i64 b1.nu, .bool b1.nd, .int .i64 b1.np, .string b1.nn, .int .i64 b1.ns, .slice av1 b1.nl.length cv1] 33
      have A1 := hide (((unhide A1b).below hb).below (unhide hbx))
      have E1 := hide (((unhide E1b).below hb).below (unhide hbx))
      have B1 := hide (below_step (below_step (unhide B1b) hb (by omega)) (unhide hbx) (by have := hb.size; omega))
      have N1 := hide (own_below ho (unhide hbx))
      have X1 := hx
      have z1c := hb.size
      clear hb ho hx A1b E1b B1b I1b Q1b hcp1 hl1 hgz1
      go_upto_region 7 with fail
      rw [← hW]
      clear hW hbx
      have u1 : w1c.heap.size < W1.heap.size := by omega
      have v1 : w.heap.size ≤ w1c.heap.size := by omega
      generalize w1c.heap.size = p1 at *
      have hwz1 := (unhide B1).size
      have HC2 := hide ((unhide H).below (unhide B1))
      obtain ⟨ys2, hyl2, hyr2, hyb2⟩ := codeList (unhide HC2)
      have HYL2 := hide hyl2
      have HYB2 := hide hyb2
      have OL2 := hide (own_lit W1 [.int .u8 (k : Int)] 1 5 rfl)
      have YR2 := hide (hyr2.below ((Below.refl _ W1).alloc (Nat.le_refl _) (.cells #[.int .u8 (k : Int)] 5)))
      have HA2 := hide ((unhide A1).below ((Below.refl _ W1).alloc (Nat.le_refl _) (.cells #[.int .u8 (k : Int)] 5)))
      have HE2 := hide ((unhide E1).below ((Below.refl _ W1).alloc (Nat.le_refl _) (.cells #[.int .u8 (k : Int)] 5)))
      clear hyl2 hyr2 hyb2 HC2
      go_wp2_with (at_builtin; refine wpList_append_xs _ rfl _ _ 22 rfl W1.heap.size 5 ib _ 1 1 Try.underlying22 hib hb0 hb1 hb2 rfl (by decide) (by decide) (.slice (some ⟨W1.heap.size, 0, none⟩) 1 1) 1 [.int .u8 (k : Int)] rfl (unhide OL2) a n c ys2 rfl (by rw [Nat.mul_one]; exact unhide HYL2) (unhide YR2) (fun u hu => by obtain ⟨z, _, _, e⟩ := unhide HYB2 u hu; rw [e]; rfl) (by omega) (by simp) ?_; intro v' w2a hown hgrow hloc; obtain ⟨a2, c2, e2, hrow, -, -⟩ := rowAt_own hown; subst e2; have RW2 := hide hrow; have GR2 := hide hgrow; clear hown hgrow hloc hrow)
      have CD2 : Hid (CodeAt w2a a2 (1 + n)) := by
        have := codeAt_rowB (unhide RW2) (fun u hu => by
          rcases List.mem_append.1 hu with hu | hu
          · rw [List.mem_singleton] at hu; exact ⟨k, by omega, by omega, hu⟩
          · exact unhide HYB2 u hu)
        rw [List.length_append, unhide HYL2] at this
        exact this
      have A2a := hide ((unhide HA2).grow8 (unhide OL2) (unhide GR2))
      have E2a := hide ((unhide HE2).grow8 (unhide OL2) (unhide GR2))
      have B2a : Hid (Below w.heap.size w w2a) := ((unhide B1).alloc hwz1 _).grown (unhide GR2) (by simp; omega) (fun q hq => by have := ((unhide OL2).lt q hq).1; omega)
      have X1a := hide ((((unhide X1).alloc (.cells #[.int .u8 (k : Int)] 5))).grown (unhide GR2) (fun e => by have := ((unhide OL2).lt _ e).1; omega))
      have N1a := hide (own_grown (own_below (unhide N1) ((Below.refl _ W1).alloc (Nat.le_refl _) (.cells #[.int .u8 (k : Int)] 5))) (unhide GR2) (own_types (own_below (unhide N1) ((Below.refl _ W1).alloc (Nat.le_refl _) (.cells #[.int .u8 (k : Int)] 5))) (unhide OL2) (by decide)))
      clear X1 N1
      have z2a : W1.heap.size ≤ w2a.heap.size := by have := (unhide GR2).size; simp at this; omega
      clear HYL2 HYB2 OL2 YR2 HA2 HE2 RW2 GR2 A1 E1 B1
      refine (drawReadBlock_any a2 (1 + n) c2 _ (unhide CD2) (by omega)).mono ?_
      rintro r w2b ⟨⟨g2, l2, cp2, rfl, hcp2, hl2, hgz2, hi2, hbd2⟩, hb⟩
      have A2b := hide ((unhide A2a).below hb)
      have E2b := hide ((unhide E2a).below hb)
      have B2b := hide (below_step (unhide B2a) hb (by omega))
      have X1b := hide ((unhide X1a).below hb)
      have N1b := hide (own_below (unhide N1a) hb)
      clear X1a N1a
      have I2b := hide hi2
      have Q2b := hide hbd2
      have z2b := hb.size
      clear hb hi2 hbd2 A2a E2a B2a CD2
      go_wp2_with fail
      refine (specReadE_any _ cp2 l2 hcp2 (by omega) (unhide Q2b) _ (unhide I2b)).mono ?_
      rintro r w2c ⟨⟨cd2, b2, av2, cv2, rfl, ho, hb42⟩, hb⟩
      obtain ⟨W2, hW, hW2z, hbx, hx⟩ := boxes1 w2c [.int .i64 cd2, .int .i64 b2.k, .int .i64 b2.u, .int .i64 b2.i, .int .i64 b2.e, .int .i64 b2.nu, .bool b2.nd, .int .i64 b2.np, .string b2.nn, .int .i64 b2.ns, .slice av2 b2.nl.length cv2] 33
      have A2 := hide (((unhide A2b).below hb).below (unhide hbx))
      have E2 := hide (((unhide E2b).below hb).below (unhide hbx))
      have B2 := hide (below_step (below_step (unhide B2b) hb (by omega)) (unhide hbx) (by have := hb.size; omega))
      have N2 := hide (own_below ho (unhide hbx))
      have X1d := hide (((unhide X1b).below hb).below (unhide hbx))
      have N1d := hide (own_below (own_below (unhide N1b) hb) (unhide hbx))
      clear X1b N1b
      have X2 := hx
      have z2c := hb.size
      clear hb ho hx A2b E2b B2b I2b Q2b hcp2 hl2 hgz2
      go_upto_region 8 with fail
      rw [← hW]
      clear hW hbx
      have u2 : w2c.heap.size < W2.heap.size := by omega
      have v2 : w.heap.size ≤ w2c.heap.size := by omega
      generalize w2c.heap.size = p2 at *
      have x0 := (unhide X1d).cell 0
      simp only [List.getElem?_cons_zero] at x0
      have zz1 : p1 < W2.heap.size := (unhide X1d).lt
      have zz2 : p2 < W2.heap.size := (unhide X2).lt
      by_cases hcd : cd1 = 0
      case neg =>
        have hcb : (cd1 == 0) = false := by simpa using hcd
        clear hcd X1d N1d X2 N2
        go_wp2_with fail
        clear x0
        go_roundw
        case rel => exact ⟨k + 1, aa, ca, L, ab, cb, M, by omega, by go_num, rfl, rfl, by omega, by omega, A2, E2, HD, B2⟩
        case measure => simp [intOf]; omega
      have hcb : (cd1 == 0) = true := by simpa using hcd
      clear hcd
      have x1 := (unhide X1d).cell 1
      have x2 := (unhide X1d).cell 2
      have x3 := (unhide X1d).cell 3
      have x4 := (unhide X1d).cell 4
      have x5 := (unhide X1d).cell 5
      have x6 := (unhide X1d).cell 6
      have x7 := (unhide X1d).cell 7
      have x8 := (unhide X1d).cell 8
      have x9 := (unhide X1d).cell 9
      have x10 := (unhide X1d).cell 10
      simp only [List.getElem?_cons_zero, List.getElem?_cons_succ] at x1 x2 x3 x4 x5 x6 x7 x8 x9 x10
      have AA := hide ((unhide A2).below ((Below.refl _ W2).alloc (Nat.le_refl _) (.cells #[.int .i64 b1.k, .int .i64 b1.u, .int .i64 b1.i, .int .i64 b1.e, .int .i64 b1.nu, .bool b1.nd, .int .i64 b1.np, .string b1.nn, .int .i64 b1.ns, .slice av1 b1.nl.length cv1] 31)))
      have EA := hide ((unhide E2).below ((Below.refl _ W2).alloc (Nat.le_refl _) (.cells #[.int .i64 b1.k, .int .i64 b1.u, .int .i64 b1.i, .int .i64 b1.e, .int .i64 b1.nu, .bool b1.nd, .int .i64 b1.np, .string b1.nn, .int .i64 b1.ns, .slice av1 b1.nl.length cv1] 31)))
      have NA := hide (own_below (unhide N1d) ((Below.refl _ W2).alloc (Nat.le_refl _) (.cells #[.int .i64 b1.k, .int .i64 b1.u, .int .i64 b1.i, .int .i64 b1.e, .int .i64 b1.nu, .bool b1.nd, .int .i64 b1.np, .string b1.nn, .int .i64 b1.ns, .slice av1 b1.nl.length cv1] 31)))
      have NB := hide (own_below (unhide N2) ((Below.refl _ W2).alloc (Nat.le_refl _) (.cells #[.int .i64 b1.k, .int .i64 b1.u, .int .i64 b1.i, .int .i64 b1.e, .int .i64 b1.nu, .bool b1.nd, .int .i64 b1.np, .string b1.nn, .int .i64 b1.ns, .slice av1 b1.nl.length cv1] 31)))
      have XA := hide ((unhide X2).alloc (.cells #[.int .i64 b1.k, .int .i64 b1.u, .int .i64 b1.i, .int .i64 b1.e, .int .i64 b1.nu, .bool b1.nd, .int .i64 b1.np, .string b1.nn, .int .i64 b1.ns, .slice av1 b1.nl.length cv1] 31))
      have RA : Hid (RowAt (W2.alloc (.cells #[.int .i64 b1.k, .int .i64 b1.u, .int .i64 b1.i, .int .i64 b1.e, .int .i64 b1.nu, .bool b1.nd, .int .i64 b1.np, .string b1.nn, .int .i64 b1.ns, .slice av1 b1.nl.length cv1] 31)) (some ⟨W2.heap.size, 0, none⟩) (⟨b1, av1, cv1⟩ : BlkA).cells) := rowAt_box (box_new W2 [.int .i64 b1.k, .int .i64 b1.u, .int .i64 b1.i, .int .i64 b1.e, .int .i64 b1.nu, .bool b1.nd, .int .i64 b1.np, .string b1.nn, .int .i64 b1.ns, .slice av1 b1.nl.length cv1] _)
      have hb2z := (unhide B2).size
      go_upto_region 10 with (at_builtin; refine wpList_append_xs _ rfl _ _ 35 rfl w.heap.size 31 ik _ 10 104 Try.underlying35 hik hk0 hk1 hk2 rfl (by decide) (by decide) (.slice aa L.length ca) L.length (bflat L) rfl (unhide AA).row _ 1 1 (⟨b1, av1, cv1⟩ : BlkA).cells rfl rfl (unhide RA) (by simp [BlkA.cells, Value.oneCell']) (by omega) (by simp; omega) ?_; intro v' w3 hown hgrow hloc; obtain ⟨a3, c3, e3, -⟩ := rowAt_own hown; subst e3; have HOW := hide hown; have HGR := hide hgrow; have HLO := hide hloc; clear hown hgrow hloc)
      clear x0 x1 x2 x3 x4 x5 x6 x7 x8 x9 x10
      have A3 : Hid (BOwn w3 w.heap.size (.slice a3 (L ++ [(⟨b1, av1, cv1⟩ : BlkA)]).length c3) (L ++ [(⟨b1, av1, cv1⟩ : BlkA)])) := by
        have := (unhide AA).next (x := (⟨b1, av1, cv1⟩ : BlkA)) (unhide NA) (by show b1.nl.length ≤ 1048576; omega) (unhide HGR) (unhide HOW)
        rw [Hid, List.length_append]; exact this
      have E3 := hide ((unhide EA).other (unhide AA).row (unhide HGR) (fun q h1 h2 => unhide HD q h2 h1))
      have N3 := hide (own_grown (unhide NB) (unhide HGR) (own_types (unhide NB) (unhide AA).row (by decide)))
      have X3 := hide ((unhide XA).grown (unhide HGR) (fun e => by
        have h1 := (unhide AA).row
        rcases h1.2 with ⟨e0, _⟩ | ⟨g0, cap0, cur0, e0, _, hg0, _⟩
        · rw [e0] at e; cases e
        · rw [e0] at e; injection e with e; simp only at e; subst e
          have := (unhide XA); unfold Box at this; rw [this] at hg0; simp at hg0))
      have B3 : Hid (Below w.heap.size w w3) := ((unhide B2).alloc hb2z _).grown (unhide HGR) (by simp; omega) (fun q hq => by have := ((unhide AA).row.lt q hq).1; omega)
      have D3 : Hid (∀ q, (Value.slice a3 (L ++ [(⟨b1, av1, cv1⟩ : BlkA)]).length c3).ownBlock = some q → (Value.slice ab M.length cb).ownBlock ≠ some q) := fun q h1 h2 => by
        rcases unhide HLO with e | e
        · exact unhide HD q (by rw [← e]; cases a3 <;> exact h1) h2
        · have h3 := (unhide E2).row.lt q h2
          have h4 : (Value.slice a3 (L.length + 1) c3).ownBlock = some q := by cases a3 <;> exact h1
          rw [e] at h4
          simp at h4
          omega
      have z3 : W2.heap.size < w3.heap.size := by have := (unhide HGR).size; simp at this; omega
      have hLL : (L ++ [(⟨b1, av1, cv1⟩ : BlkA)]).length = L.length + 1 := by simp
      rw [← hLL]
      generalize hL2 : L ++ [(⟨b1, av1, cv1⟩ : BlkA)] = L2 at *
      have hL2k : L2.length ≤ k + 1 := by omega
      clear hLL hL2 HOW HGR HLO AA EA NA NB XA RA HD A2 E2 B2 X1d N1d X2 N2
      have y1 := (unhide X3).cell 1
      have y2 := (unhide X3).cell 2
      have y3 := (unhide X3).cell 3
      have y4 := (unhide X3).cell 4
      have y5 := (unhide X3).cell 5
      have y6 := (unhide X3).cell 6
      have y7 := (unhide X3).cell 7
      have y8 := (unhide X3).cell 8
      have y9 := (unhide X3).cell 9
      have y10 := (unhide X3).cell 10
      simp only [List.getElem?_cons_zero, List.getElem?_cons_succ] at y1 y2 y3 y4 y5 y6 y7 y8 y9 y10
      have zz3 : p2 < w3.heap.size := by omega
      have AA := hide ((unhide A3).below ((Below.refl _ w3).alloc (Nat.le_refl _) (.cells #[.int .i64 b2.k, .int .i64 b2.u, .int .i64 b2.i, .int .i64 b2.e, .int .i64 b2.nu, .bool b2.nd, .int .i64 b2.np, .string b2.nn, .int .i64 b2.ns, .slice av2 b2.nl.length cv2] 31)))
      have EA := hide ((unhide E3).below ((Below.refl _ w3).alloc (Nat.le_refl _) (.cells #[.int .i64 b2.k, .int .i64 b2.u, .int .i64 b2.i, .int .i64 b2.e, .int .i64 b2.nu, .bool b2.nd, .int .i64 b2.np, .string b2.nn, .int .i64 b2.ns, .slice av2 b2.nl.length cv2] 31)))
      have NB := hide (own_below (unhide N3) ((Below.refl _ w3).alloc (Nat.le_refl _) (.cells #[.int .i64 b2.k, .int .i64 b2.u, .int .i64 b2.i, .int .i64 b2.e, .int .i64 b2.nu, .bool b2.nd, .int .i64 b2.np, .string b2.nn, .int .i64 b2.ns, .slice av2 b2.nl.length cv2] 31)))
      have RA : Hid (RowAt (w3.alloc (.cells #[.int .i64 b2.k, .int .i64 b2.u, .int .i64 b2.i, .int .i64 b2.e, .int .i64 b2.nu, .bool b2.nd, .int .i64 b2.np, .string b2.nn, .int .i64 b2.ns, .slice av2 b2.nl.length cv2] 31)) (some ⟨w3.heap.size, 0, none⟩) (⟨b2, av2, cv2⟩ : BlkA).cells) := rowAt_box (box_new w3 [.int .i64 b2.k, .int .i64 b2.u, .int .i64 b2.i, .int .i64 b2.e, .int .i64 b2.nu, .bool b2.nd, .int .i64 b2.np, .string b2.nn, .int .i64 b2.ns, .slice av2 b2.nl.length cv2] _)
      have hb3z := (unhide B3).size
      go_wp2_with (at_builtin; refine wpList_append_xs _ rfl _ _ 35 rfl w.heap.size 31 ik _ 10 104 Try.underlying35 hik hk0 hk1 hk2 rfl (by decide) (by decide) (.slice ab M.length cb) M.length (bflat M) rfl (unhide EA).row _ 1 1 (⟨b2, av2, cv2⟩ : BlkA).cells rfl rfl (unhide RA) (by simp [BlkA.cells, Value.oneCell']) (by omega) (by simp; omega) ?_; intro v' w4 hown hgrow hloc; obtain ⟨a4, c4, e4, -⟩ := rowAt_own hown; subst e4; have HOW := hide hown; have HGR := hide hgrow; have HLO := hide hloc; clear hown hgrow hloc)
      clear y1 y2 y3 y4 y5 y6 y7 y8 y9 y10
      have E4 : Hid (BOwn w4 w.heap.size (.slice a4 (M ++ [(⟨b2, av2, cv2⟩ : BlkA)]).length c4) (M ++ [(⟨b2, av2, cv2⟩ : BlkA)])) := by
        have := (unhide EA).next (x := (⟨b2, av2, cv2⟩ : BlkA)) (unhide NB) (by show b2.nl.length ≤ 1048576; omega) (unhide HGR) (unhide HOW)
        rw [Hid, List.length_append]; exact this
      have A4 := hide ((unhide AA).other (unhide EA).row (unhide HGR) (fun q h1 h2 => unhide D3 q h1 h2))
      have B4 : Hid (Below w.heap.size w w4) := ((unhide B3).alloc hb3z _).grown (unhide HGR) (by simp; omega) (fun q hq => by have := ((unhide EA).row.lt q hq).1; omega)
      have D4 : Hid (∀ q, (Value.slice a3 L2.length c3).ownBlock = some q → (Value.slice a4 (M ++ [(⟨b2, av2, cv2⟩ : BlkA)]).length c4).ownBlock ≠ some q) := fun q h1 h2 => by
        have h4 : (Value.slice a4 (M.length + 1) c4).ownBlock = some q := by cases a4 <;> exact h2
        rcases unhide HLO with e | e
        · exact unhide D3 q h1 (by rw [← e]; exact h4)
        · have h3 := (unhide A3).row.lt q h1
          rw [e] at h4
          simp at h4
          omega
      have hMM : (M ++ [(⟨b2, av2, cv2⟩ : BlkA)]).length = M.length + 1 := by simp
      rw [← hMM]
      generalize hM2 : M ++ [(⟨b2, av2, cv2⟩ : BlkA)] = M2 at *
      have hM2k : M2.length ≤ k + 1 := by omega
      clear hMM hM2 HOW HGR HLO AA EA NB RA D3 A3 E3 B3 X3 N3
      go_wp2_with fail
      go_roundw
      case rel => exact ⟨k + 1, a3, c3, L2, a4, c4, M2, by omega, by go_num, rfl, rfl, hL2k, hM2k, A4, E4, D4, B4⟩
      case measure => simp [intOf]; omega
    · have hke : k = 3 := by omega
      subst hke
      have AT := hide (unhide HA).at
      by_cases hM0 : M = []
      · subst hM0
        go_wp2_with fail
        refine bodyPost_ret (v := .tuple #[.slice aa L.length ca, .slice ab 0 cb]) (by simp [results, Try.results9, go_sem]) rfl ⟨⟨aa, ca, L, ab, cb, [], rfl, unhide AT, .inl rfl, by omega, by simp⟩, unhide HB⟩
      · have hMl : 0 < M.length := List.length_pos_iff.2 hM0
        have HM0 := hide hM0
        have hMb : (0 : Int) < M.length := by omega
        clear hM0
        go_wp2_with fail
        refine (later1_any a n c _).mono ?_
        rintro r W5 ⟨rfl, hW5⟩
        obtain ⟨hS, hB5⟩ := source_new hW5 ((unhide H).below (unhide HB)) (by omega)
        have S5 := hide hS
        have B5 := hide (below_step (unhide HB) hB5 (by omega))
        have HB5 := hide hB5
        have z5 := hB5.size
        clear hS hB5 hW5 AT
        go_wp2_with fail
        refine (chance_out wr.heap.size a n c 12 2 _ (unhide S5) (by omega) (by omega) (by omega)).mono ?_
        rintro r w6 ⟨⟨bb, rfl⟩, h6, o6⟩
        have A6 := hide ((unhide HA).outNew (unhide HB5) o6)
        have E6 := hide ((unhide HE).outNew (unhide HB5) o6)
        have B6 : Hid (Below w.heap.size w w6) := o6.below (unhide B5) (Nat.le_refl _) (fun q hq e => by omega)
        clear HA HE HB HB5 B5 S5 h6 o6
        cases bb
        · go_wp2_with fail
          refine bodyPost_ret (v := .tuple #[.slice aa L.length ca, .slice ab M.length cb]) (by simp [results, Try.results9, go_sem]) rfl ⟨⟨aa, ca, L, ab, cb, M, rfl, (unhide A6).at, (unhide E6).at, by omega, by omega⟩, unhide B6⟩
        · obtain ⟨gb, eg⟩ : ∃ gb, ab = some ⟨gb, 0, none⟩ := by
            rcases (unhide E6).row.2 with ⟨e, h0⟩ | ⟨g, cap, cur, e, _⟩
            · omega
            · injection e with e; exact ⟨g, e⟩
          subst eg
          have hgb := (unhide E6).row.lt gb rfl
          have hc8 : ∃ y : Int, w6.cell? ⟨gb, 8, none⟩ = some (.int .i64 y) := by
            have hb := bflat_at M 0 hMl 8 _ rfl
            refine ⟨M[0].b.ns, ?_⟩
            rw [(unhide E6).row.cellAt 8 (by omega)]
            exact hb
          obtain ⟨y, c8⟩ := hc8
          have f8 := (unhide E6).row.frozenAt 8
          go_wp2_with fail
          clear c8 f8
          have EB := (unhide E6).bump (unhide HM0) (wrap64 (y + 1))
          have AB := (unhide A6).setOther (o := 8) (unhide E6) rfl (unhide HD) (.int .i64 (wrap64 (y + 1)))
          have hbl : (Go.Proofs.Ytaadbgebcknfkaa.bump M (wrap64 (y + 1))).length = M.length := bump_len _ _
          rw [← hbl] at EB
          refine bodyPost_ret (v := .tuple #[.slice aa L.length ca, .slice (some ⟨gb, 0, none⟩) M.length cb]) (by simp [results, Try.results9, go_sem]) rfl ⟨⟨aa, ca, L, some ⟨gb, 0, none⟩, cb, Go.Proofs.Ytaadbgebcknfkaa.bump M (wrap64 (y + 1)), by rw [hbl], AB.at, EB.at, by omega, by omega⟩, (unhide B6).setCell (p := ⟨gb, 8, none⟩) (by show w.heap.size ≤ gb; omega) _⟩
end Go.Proofs.Ytaadbgebcknfkaa
