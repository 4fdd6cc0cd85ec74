/-
  Several texts in one: SrcMath, CodeRow, SrcWalk, PickWalk, Draw3Base, DrawTo, Draw3Node, Draw3Fault, Draw3Nums, Draw4Lay, CellBox, Draw3Pack.
-/
import Derived.Test.YtiopofemelninaaGreatBase
import Derived.ProofKit
import Derived.Test.YtiopofemelninaaGreatProg
import Derived.WalkKit
import Derived.WalkLawsBesides
import Derived.BigQuiet
import Derived.Deep.QuietTactic
import Derived.Test.YtiopofemelninaaGreatRowMath
import Derived.Test.YtiopofemelninaaGreatNameMath
import Derived.Test.YtiopofemelninaaGreatLiveAllD
import Derived.Test.YtiopofemelninaaGreatDevTo
import Derived.Test.YtiopofemelninaaGreatWideBox
/-
  The source of the laws' draws, as the walks see it (no Go in sight): a block with the bytes' slice and how far it has been read.
-/
namespace Go.Proofs.YtiopofemelninaaGreat
open Go.RowKit

/-- The bytes that a code has: n numbers 0 to 255 at a. -/
def CodeAt (w : World) (a : Option Addr) (n : Nat) : Prop :=
  n = 0 ∨ ∃ b o, a = some ⟨b, o, none⟩ ∧ b < w.heap.size ∧ ∀ i, i < n → ∃ z : Int, 0 ≤ z ∧ z ≤ 255 ∧ w.cell? ⟨b, o + i, none⟩ = some (.int .u8 z)

/-- A source: block s, of type t; its code's blocks are older. -/
def SrcAt (w : World) (t : TypeId) (s : Nat) (a : Option Addr) (n c at' : Nat) : Prop :=
  w.heap[s]? = some (.cells #[.slice a n c, .int .i64 at'] t (0, 0)) ∧ n ≤ 2000000 ∧
  (n = 0 ∨ ∃ b o, a = some ⟨b, o, none⟩ ∧ b < s ∧ ∀ i, i < n → ∃ z : Int, 0 ≤ z ∧ z ≤ 255 ∧ w.cell? ⟨b, o + i, none⟩ = some (.int .u8 z))

/-- Nothing but block s has turned, and there are no new blocks. -/
structure Only (s : Nat) (w w' : World) : Prop where
  os : w'.os = w.os
  tape : w'.tape = w.tape
  output : w'.output = w.output
  size : w'.heap.size = w.heap.size
  block : ∀ k, k ≠ s → w'.heap[k]? = w.heap[k]?

theorem Only.cell {s : Nat} {w w' : World} (h : Only s w w') {b : Nat} (hb : b ≠ s) (o : Nat) : w'.cell? ⟨b, o, none⟩ = w.cell? ⟨b, o, none⟩ :=
  World.cell?_of_block (a := ⟨b, o, none⟩) (h.block b hb)
theorem Only.frozen {s : Nat} {w w' : World} (h : Only s w w') {b : Nat} (hb : b ≠ s) (o : Nat) : w'.frozen? ⟨b, o, none⟩ = w.frozen? ⟨b, o, none⟩ :=
  World.frozen?_of_block (a := ⟨b, o, none⟩) (h.block b hb)
theorem Only.below {s B : Nat} {w w' : World} (h : Only s w w') (hB : B ≤ s) : Below B w w' :=
  ⟨h.os, h.tape, h.output, by rw [h.size]; exact Nat.le_refl _, fun k hk => h.block k (by omega)⟩
theorem Only.refl (s : Nat) (w : World) : Only s w w := ⟨rfl, rfl, rfl, rfl, fun _ _ => rfl⟩
theorem Only.trans {s : Nat} {a b c : World} (h : Only s a b) (k : Only s b c) : Only s a c :=
  ⟨k.os.trans h.os, k.tape.trans h.tape, k.output.trans h.output, k.size.trans h.size, fun i hi => (k.block i hi).trans (h.block i hi)⟩

theorem SrcAt.lt {w : World} {t : TypeId} {s : Nat} {a : Option Addr} {n c p : Nat} (h : SrcAt w t s a n c p) : s < w.heap.size :=
  (Array.getElem?_eq_some_iff.1 h.1).1

/-- A source outlives whatever leaves the blocks up to its own alone. -/
theorem SrcAt.keep {w w' : World} {t : TypeId} {s : Nat} {a : Option Addr} {n c p : Nat} (h : SrcAt w t s a n c p) (hb : ∀ k, k ≤ s → w'.heap[k]? = w.heap[k]?) : SrcAt w' t s a n c p := by
  obtain ⟨h1, hn, h2⟩ := h
  refine ⟨(hb s (Nat.le_refl _)).trans h1, hn, ?_⟩
  rcases h2 with rfl | ⟨b, o, rfl, hlt, hc⟩
  · exact .inl rfl
  · refine .inr ⟨b, o, rfl, hlt, fun i hi => ?_⟩
    obtain ⟨z, z0, z1, hz⟩ := hc i hi
    exact ⟨z, z0, z1, (World.cell?_of_block (a := ⟨b, o + i, none⟩) (hb b (by omega))).trans hz⟩

theorem SrcAt.alloc {w : World} {t : TypeId} {s : Nat} {a : Option Addr} {n c p : Nat} (h : SrcAt w t s a n c p) (o : Obj) : SrcAt (w.alloc o) t s a n c p :=
  h.keep fun k hk => Below.heap_alloc w o k (by have := h.lt; omega)

theorem SrcAt.below {w w' : World} {t : TypeId} {s : Nat} {a : Option Addr} {n c p : Nat} (h : SrcAt w t s a n c p) (hb : Below w.heap.size w w') : SrcAt w' t s a n c p :=
  h.keep fun k hk => hb.block k (by have := h.lt; omega)

/-- What a read leaves: the source one further, nothing else turned. -/
theorem SrcAt.step {w : World} {t : TypeId} {s : Nat} {a : Option Addr} {n c p : Nat} (h : SrcAt w t s a n c p) (q : Nat) (m : Nat) :
    SrcAt ((w.setCell ⟨s, 1, none⟩ (.int .i64 q)).drewN m) t s a n c q ∧ Only s w ((w.setCell ⟨s, 1, none⟩ (.int .i64 q)).drewN m) := by
  obtain ⟨h1, hn, h2⟩ := h
  have hlt : s < w.heap.size := (Array.getElem?_eq_some_iff.1 h1).1
  have ho : Only s w ((w.setCell ⟨s, 1, none⟩ (.int .i64 q)).drewN m) :=
    ⟨rfl, rfl, rfl, by show (w.heap.modify _ _).size = _; simp, fun k hk => Below.heap_setCell w _ _ k hk⟩
  refine ⟨⟨?_, hn, ?_⟩, ho⟩
  · show (w.setCell ⟨s, 1, none⟩ (.int .i64 q)).heap[s]? = _
    rw [heap_setCell_same w s 1 _ t _ h1]
    rfl
  · rcases h2 with rfl | ⟨b, o, rfl, hb, hc⟩
    · exact .inl rfl
    · refine .inr ⟨b, o, rfl, hb, fun i hi => ?_⟩
      obtain ⟨z, z0, z1, hz⟩ := hc i hi
      exact ⟨z, z0, z1, (ho.cell (by omega) _).trans hz⟩

end Go.Proofs.YtiopofemelninaaGreat
/-
  A row of bytes that came in is a code.
-/
namespace Go.Proofs.YtiopofemelninaaGreat
open Go.RowKit

theorem codeAt_row {w : World} {a : Option Addr} {len cap : Nat} {zs : List Int}
    (h : (a = none ∧ len = 0 ∧ cap = 0 ∧ zs = []) ∨ ∃ x, a = some x ∧ len ≤ cap ∧ cap ≤ maxLen ∧ zs.length = cap ∧ (∀ i, i < zs.length → w.cell? (x.add i) = some (.int .u8 (zs.getD i 0))) ∧ ∀ n ∈ zs, (Lit.int .u8 n).wf = true) : CodeAt w a len := by
  rcases h with ⟨rfl, rfl, rfl, rfl⟩ | ⟨x, rfl, hl, hm, hz, hc, hw⟩
  · exact .inl rfl
  · by_cases h0 : len = 0
    · exact .inl h0
    · right
      have c0 := hc 0 (by omega)
      obtain ⟨b, off, spot⟩ := x
      have hspot : spot = none := by simpa [Addr.add] using World.cell?_spot c0
      subst hspot
      have hlt : b < w.heap.size := by
        have c0' : w.cell? ⟨b, off, none⟩ = some (.int .u8 (zs.getD 0 0)) := by simpa [Addr.add] using c0
        unfold World.cell? at c0'
        by_cases hb : b < w.heap.size
        · exact hb
        · rw [Array.getElem?_eq_none (by show w.heap.size ≤ b; omega)] at c0'
          simp at c0'
      refine ⟨b, off, rfl, hlt, fun i hi => ⟨zs.getD i 0, ?_⟩⟩
      have hi' : i < zs.length := by omega
      have := hc i hi'
      rw [Go.WideShapes.add_plain] at this
      have hb := hw (zs.getD i 0) (by simp [List.getD_eq_getElem?_getD, List.getElem?_eq_getElem hi'])
      have hb2 : 0 ≤ zs.getD i 0 ∧ zs.getD i 0 ≤ 255 := by simpa [Lit.wf, IntKind.min, IntKind.max, IntKind.signed, IntKind.bits] using hb
      exact ⟨hb2.1, hb2.2, this⟩
end Go.Proofs.YtiopofemelninaaGreat
/-
  What the laws' draws answer: a number below the bound; one of what is offered.
-/
namespace Go.Proofs.YtiopofemelninaaGreat
open Go.RowKit

set_option maxHeartbeats 2000000 in
theorem l1Next_any (s : Nat) (a : Option Addr) (n c p : Nat) (m : Int) (w : World) (h : SrcAt w 89 s a n c p) (hp : p ≤ 1000000) (hm1 : 1 ≤ m) (hm2 : m ≤ 1000000000000) :
    Calls Tryz.prog 49 #[.pointer (some ⟨s, 0, none⟩), .int .i64 m] w fun e w' => ∃ v : Int, e = .returned (.int .i64 v) ∧ 0 ≤ v ∧ v < m ∧ ∃ k : Nat, w' = (w.setCell ⟨s, 1, none⟩ (.int .i64 ((p : Int) + 1))).drewN k := by
  obtain ⟨h1, hn, h2⟩ := h
  have s0 : w.cell? ⟨s, 0, none⟩ = some (.slice a n c) := by simp [World.cell?, h1]
  have s1 : w.cell? ⟨s, 1, none⟩ = some (.int .i64 p) := by simp [World.cell?, h1]
  have sf : w.frozen? ⟨s, 1, none⟩ = false := by simp [World.frozen?, h1]
  have hlt : s < w.heap.size := (Array.getElem?_eq_some_iff.1 h1).1
  have hm0 : (m == 0) = false := by simp; omega
  have hm3 : ¬ m < 1 := by omega
  clear h1
  by_cases hn0 : n = 0
  · subst hn0
    clear h2
    have r1 : 0 ≤ (p : Int) * 7 % m := Int.emod_nonneg _ (by omega)
    have r2 : (p : Int) * 7 % m < m := Int.emod_lt_of_pos _ (by omega)
    go_enter Tryz.func49, Tryz.ntmps49
    go_wp2
    go_ret
    exact ⟨_, rfl, r1, r2, 0, rfl⟩
  rcases h2 with h2 | ⟨b, o, rfl, hb, hc⟩
  · exact absurd h2 hn0
  have hn1 : (1 : Int) ≤ n := by omega
  have hnz : ((n : Int) == 0) = false := by simp; omega
  have idx : ∀ q : Int, 0 ≤ q → 0 ≤ q % (n : Int) ∧ q % (n : Int) < n ∧ 0 ≤ q / (n : Int) ∧ q / (n : Int) ≤ q ∧ ∃ z : Int, 0 ≤ z ∧ z ≤ 255 ∧ ∀ u, (w.setCell ⟨s, 1, none⟩ u).cell? ⟨b, o + (q % (n : Int)).toNat, none⟩ = some (.int .u8 z) := by
    intro q hq
    have e1 : 0 ≤ q % (n : Int) := Int.emod_nonneg _ (by omega)
    have e2 : q % (n : Int) < n := Int.emod_lt_of_pos _ (by omega)
    have e3 : 0 ≤ q / (n : Int) := Int.ediv_nonneg hq (by omega)
    have e4 : q / (n : Int) ≤ q := Int.ediv_le_self _ hq
    obtain ⟨z, z0, z1, hz⟩ := hc (q % (n : Int)).toNat (by omega)
    exact ⟨e1, e2, e3, e4, z, z0, z1, fun u => (World.cell?_of_block (a := ⟨b, o + (q % (n : Int)).toNat, none⟩) (Below.heap_setCell w _ _ b (by show b ≠ s; omega))).trans hz⟩
  obtain ⟨i0, i1, i2, i3, z, z0, z1, hz⟩ := idx p (by omega)
  obtain ⟨j0, j1, _, _, y, y0, y1, hy⟩ := idx (p + 1) (by omega)
  obtain ⟨k0, k1, _, _, x, x0, x1, hx⟩ := idx (p + 2) (by omega)
  have q3 : (p : Int) / (n : Int) ≤ 1000000 := by omega
  have em : ∀ t : Int, 0 ≤ t → 0 ≤ t % m ∧ t % m < m := fun t _ => ⟨Int.emod_nonneg _ (by omega), Int.emod_lt_of_pos _ (by omega)⟩
  have EM := hide em
  have t1 : (p : Int).tmod (n : Int) = (p : Int) % (n : Int) := Int.tmod_eq_emod_of_nonneg (by omega)
  have t2 : ((p : Int) + 1).tmod (n : Int) = ((p : Int) + 1) % (n : Int) := Int.tmod_eq_emod_of_nonneg (by omega)
  have t3 : ((p : Int) + 2).tmod (n : Int) = ((p : Int) + 2) % (n : Int) := Int.tmod_eq_emod_of_nonneg (by omega)
  have d1 : (p : Int).tdiv (n : Int) = (p : Int) / (n : Int) := Int.tdiv_eq_ediv_of_nonneg (by omega)
  have wz : IntKind.i64.wrap z = z := by rw [IntKind.wrap_i64]; omega
  have wy : IntKind.i64.wrap y = y := by rw [IntKind.wrap_i64]; omega
  have wx : IntKind.i64.wrap x = x := by rw [IntKind.wrap_i64]; omega
  have wd : IntKind.i64.wrap ((p : Int) / (n : Int)) = ((p : Int) / (n : Int)) := by rw [IntKind.wrap_i64]; omega
  have wm : IntKind.i64.wrap ((p : Int) / (n : Int) * 37) = ((p : Int) / (n : Int) * 37) := by rw [IntKind.wrap_i64]; omega
  have wv : IntKind.i64.wrap (z + (p : Int) / (n : Int) * 37) = (z + (p : Int) / (n : Int) * 37) := by rw [IntKind.wrap_i64]; omega
  have wa : IntKind.i64.wrap ((z + (p : Int) / (n : Int) * 37) * 251) = ((z + (p : Int) / (n : Int) * 37) * 251) := by rw [IntKind.wrap_i64]; omega
  have wb : IntKind.i64.wrap (y * 13) = (y * 13) := by rw [IntKind.wrap_i64]; omega
  have wc : IntKind.i64.wrap ((z + (p : Int) / (n : Int) * 37) * 251 + y * 13) = ((z + (p : Int) / (n : Int) * 37) * 251 + y * 13) := by rw [IntKind.wrap_i64]; omega
  have we : IntKind.i64.wrap ((z + (p : Int) / (n : Int) * 37) * 251 + y * 13 + (p : Int)) = ((z + (p : Int) / (n : Int) * 37) * 251 + y * 13 + (p : Int)) := by rw [IntKind.wrap_i64]; omega
  have wf : IntKind.i64.wrap (((z + (p : Int) / (n : Int) * 37) * 251 + y * 13 + (p : Int)) * 257) = (((z + (p : Int) / (n : Int) * 37) * 251 + y * 13 + (p : Int)) * 257) := by rw [IntKind.wrap_i64]; omega
  have wg : IntKind.i64.wrap (((z + (p : Int) / (n : Int) * 37) * 251 + y * 13 + (p : Int)) * 257 + x) = (((z + (p : Int) / (n : Int) * 37) * 251 + y * 13 + (p : Int)) * 257 + x) := by rw [IntKind.wrap_i64]; omega
  have wp1 : IntKind.i64.wrap ((p : Int) + 1) = ((p : Int) + 1) := by rw [IntKind.wrap_i64]; omega
  have wp2 : IntKind.i64.wrap ((p : Int) + 2) = ((p : Int) + 2) := by rw [IntKind.wrap_i64]; omega
  have wr1 : IntKind.i64.wrap ((p : Int) % (n : Int)) = ((p : Int) % (n : Int)) := by rw [IntKind.wrap_i64]; omega
  have wr2 : IntKind.i64.wrap (((p : Int) + 1) % (n : Int)) = (((p : Int) + 1) % (n : Int)) := by rw [IntKind.wrap_i64]; omega
  have wr3 : IntKind.i64.wrap (((p : Int) + 2) % (n : Int)) = (((p : Int) + 2) % (n : Int)) := by rw [IntKind.wrap_i64]; omega
  clear idx hc em i3
  by_cases h200 : 200 < m
  · by_cases h6 : 60000 < m
    · go_enter Tryz.func49, Tryz.ntmps49
      go_wp2
      go_quiet (fail)
      go_wp2
      go_quiet (fail)
      go_wp2
      go_quiet (fail)
      go_wp2
      go_ret
      exact ⟨_, rfl, (unhide EM _ (by omega)).1, (unhide EM _ (by omega)).2, _, rfl⟩
    · go_enter Tryz.func49, Tryz.ntmps49
      go_wp2
      go_quiet (fail)
      go_wp2
      go_quiet (fail)
      go_wp2
      go_ret
      exact ⟨_, rfl, (unhide EM _ (by omega)).1, (unhide EM _ (by omega)).2, _, rfl⟩
  · have h6 : ¬ 60000 < m := by omega
    go_enter Tryz.func49, Tryz.ntmps49
    go_wp2
    go_quiet (fail)
    go_wp2
    go_ret
    exact ⟨_, rfl, (unhide EM _ (by omega)).1, (unhide EM _ (by omega)).2, _, rfl⟩
end Go.Proofs.YtiopofemelninaaGreat
/-
  What the laws' choices answer: one of what is offered.
-/
namespace Go.Proofs.YtiopofemelninaaGreat
open Go.RowKit

theorem l1Source_any (a : Option Addr) (n c : Nat) (w : World) :
    Calls Tryz.prog 25 #[.slice a n c] w fun e w' => e = .returned (.pointer (some ⟨w.heap.size, 0, none⟩)) ∧ w' = w.alloc (.cells #[.slice a n c, .int .i64 0] 89) := by
  go_enter Tryz.func25, Tryz.ntmps25
  go_wp2
  go_ret
  exact ⟨rfl, rfl⟩

theorem srcAt_wide {w : World} {a : Option Addr} {n : Nat} (h : CodeAt w a n) (hn : n ≤ 2000000) (c p : Nat) (t : TypeId) :
    SrcAt (w.alloc (.cells #[.slice a n c, .int .i64 p] t)) t w.heap.size a n c p := by
  refine ⟨(MapKept.heap_alloc w _).1, hn, ?_⟩
  rcases h with rfl | ⟨b, o, rfl, hb, hc⟩
  · exact .inl rfl
  · refine .inr ⟨b, o, rfl, hb, fun i hi => ?_⟩
    obtain ⟨z, z0, z1, hz⟩ := hc i hi
    exact ⟨z, z0, z1, (World.cell?_of_block (a := ⟨b, o + i, none⟩) (Below.heap_alloc w _ b hb)).trans hz⟩

theorem srcAt_new {w : World} {a : Option Addr} {n : Nat} (h : CodeAt w a n) (hn : n ≤ 1048576) (c p : Nat) (t : TypeId) :
    SrcAt (w.alloc (.cells #[.slice a n c, .int .i64 p] t)) t w.heap.size a n c p := srcAt_wide h (by omega) c p t

theorem CodeAt.below {w w' : World} {a : Option Addr} {n : Nat} (h : CodeAt w a n) (hb : Below w.heap.size w w') : CodeAt w' a n := by
  rcases h with rfl | ⟨b, o, rfl, hlt, hc⟩
  · exact .inl rfl
  · refine .inr ⟨b, o, rfl, Nat.lt_of_lt_of_le hlt hb.size, fun i hi => ?_⟩
    obtain ⟨z, z0, z1, hz⟩ := hc i hi
    exact ⟨z, z0, z1, (hb.cell (p := ⟨b, o + i, none⟩) hlt).trans hz⟩

/-- A draw, the source one further, nothing else turned. -/
theorem l1Next_src (s : Nat) (a : Option Addr) (n c p : Nat) (m : Int) (w : World) (h : SrcAt w 89 s a n c p) (hp : p ≤ 1000000) (hm1 : 1 ≤ m) (hm2 : m ≤ 1000000000000) :
    Calls Tryz.prog 49 #[.pointer (some ⟨s, 0, none⟩), .int .i64 m] w fun e w' => (∃ v : Int, e = .returned (.int .i64 v) ∧ 0 ≤ v ∧ v < m) ∧ SrcAt w' 89 s a n c (p + 1) ∧ Only s w w' := by
  refine (l1Next_any s a n c p m w h hp hm1 hm2).mono ?_
  rintro e w' ⟨v, rfl, v0, v1, k, rfl⟩
  have hs := h.step (p + 1) k
  simp only [Int.natCast_add, Int.cast_ofNat_Int] at hs
  exact ⟨⟨v, rfl, v0, v1⟩, hs.1, hs.2⟩

theorem l1Chance_any (s : Nat) (a : Option Addr) (n c p : Nat) (m : Int) (w : World) (h : SrcAt w 89 s a n c p) (hp : p ≤ 1000000) (hm1 : 1 ≤ m) (hm2 : m ≤ 1000000000000) :
    Calls Tryz.prog 75 #[.pointer (some ⟨s, 0, none⟩), .int .i64 m] w fun e w' => (∃ b : Bool, e = .returned (.bool b)) ∧ SrcAt w' 89 s a n c (p + 1) ∧ Only s w w' := by
  have H := hide h
  clear h
  go_enter Tryz.func75, Tryz.ntmps75
  go_wp2_with fail
  refine (l1Next_src s a n c p m _ (unhide H) hp hm1 hm2).mono ?_
  rintro e w1 ⟨⟨v, rfl, v0, v1⟩, hs, ho⟩
  have HS := hide hs
  have HO := hide ho
  clear hs ho
  go_wp2_with fail
  go_ret
  exact ⟨⟨_, rfl⟩, unhide HS, unhide HO⟩

/-- What is offered lies in a block that was just made. -/
theorem offer_new (W : World) (cs : Array Value) (t : TypeId) (k m : Nat) (P : Value → Prop) (hk : W.heap.size = k) (hm : cs.size = m) (hP : ∀ x, x ∈ cs.toList → P x) (i : Nat) (h : i < m) :
    ∃ v, P v ∧ (W.alloc (.cells cs t)).cell? ⟨k, i, none⟩ = some v := by
  subst hk
  subst hm
  have e := (MapKept.heap_alloc W (.cells cs t)).1
  refine ⟨cs[i], hP _ (by simp), ?_⟩
  unfold World.cell?
  rw [e]
  simp [h]

set_option maxHeartbeats 1000000 in
theorem l1Pick_any (s : Nat) (a : Option Addr) (n c p : Nat) (P : Int → Prop) (bl ml cl : Nat) (w : World) (h : SrcAt w 89 s a n c p) (hp : p ≤ 1000000) (hk : 1 ≤ ml) (hk2 : ml ≤ 1000)
    (hl : ∀ i, i < ml → ∃ x : Value, (∃ v : Int, P v ∧ x = .int .i64 v) ∧ w.cell? ⟨bl, i, none⟩ = some x) (hne : bl ≠ s) :
    Calls Tryz.prog 50 #[.pointer (some ⟨s, 0, none⟩), .slice (some ⟨bl, 0, none⟩) ml cl] w fun e w' => (∃ v : Int, P v ∧ e = .returned (.int .i64 v)) ∧ SrcAt w' 89 s a n c (p + 1) ∧ Only s w w' := by
  have H := hide h
  have HL := hide hl
  clear h hl
  go_enter Tryz.func50, Tryz.ntmps50
  go_wp2_with fail
  refine (l1Next_src s a n c p _ _ (unhide H) hp (by omega) (by omega)).mono ?_
  rintro e w1 ⟨⟨v, rfl, v0, v1⟩, hs, ho⟩
  obtain ⟨k, rfl⟩ := Int.eq_ofNat_of_zero_le v0
  have hkl : k < ml := by omega
  obtain ⟨x, ⟨y, hy, rfl⟩, hx⟩ := unhide HL k hkl
  have hck : w1.cell? ⟨bl, k, none⟩ = some (.int .i64 y) := (ho.cell hne k).trans hx
  have HY := hide hy
  have HS := hide hs
  have HO := hide ho
  clear hs ho hy hx
  go_wp2_with fail
  go_ret
  exact ⟨⟨_, unhide HY, rfl⟩, unhide HS, unhide HO⟩

end Go.Proofs.YtiopofemelninaaGreat
/-
  The laws' draws, told by 'Out': nothing but the source's block has turned.
-/
namespace Go.Proofs.YtiopofemelninaaGreat
open Go.RowKit

theorem Only.out {s : Nat} {w w' : World} (h : Only s w w') : Out (fun q => q = s) w w' := ⟨h.os, h.tape, h.output, by rw [h.size]; exact Nat.le_refl _, fun q _ hq => h.block q hq⟩
theorem srcBox {w : World} {t : TypeId} {s : Nat} {a : Option Addr} {n c p : Nat} (h : SrcAt w t s a n c p) (W : World) (hb : ∀ k, k ≤ s → W.heap[k]? = w.heap[k]?) : SrcAt W t s a n c p := h.keep hb
theorem SrcAt.outOther {w w' : World} {t : TypeId} {s r : Nat} {a : Option Addr} {n c p : Nat} (h : SrcAt w t s a n c p) (ho : Out (fun q => q = r) w w') (hr : s < r) : SrcAt w' t s a n c p :=
  h.keep fun k hk => ho.block k (by have := h.lt; omega) (by show ¬ k = r; omega)

theorem next_out (s : Nat) (a : Option Addr) (n c p : Nat) (m : Int) (w : World) (h : SrcAt w 89 s a n c p) (hp : p ≤ 1000000) (hm1 : 1 ≤ m) (hm2 : m ≤ 1000000000000) :
    Calls Tryz.prog 49 #[.pointer (some ⟨s, 0, none⟩), .int .i64 m] w fun e w' => (∃ v : Int, e = .returned (.int .i64 v) ∧ 0 ≤ v ∧ v < m) ∧ SrcAt w' 89 s a n c (p + 1) ∧ Out (fun q => q = s) w w' :=
  (l1Next_src s a n c p m w h hp hm1 hm2).mono fun _ _ ⟨h1, h2, h3⟩ => ⟨h1, h2, h3.out⟩
theorem chance_out (s : Nat) (a : Option Addr) (n c p : Nat) (m : Int) (w : World) (h : SrcAt w 89 s a n c p) (hp : p ≤ 1000000) (hm1 : 1 ≤ m) (hm2 : m ≤ 1000000000000) :
    Calls Tryz.prog 75 #[.pointer (some ⟨s, 0, none⟩), .int .i64 m] w fun e w' => (∃ b : Bool, e = .returned (.bool b)) ∧ SrcAt w' 89 s a n c (p + 1) ∧ Out (fun q => q = s) w w' :=
  (l1Chance_any s a n c p m w h hp hm1 hm2).mono fun _ _ ⟨h1, h2, h3⟩ => ⟨h1, h2, h3.out⟩
theorem out_new (s : Nat) (w : World) (o : Obj) : Out (fun q => q = s) w (w.alloc o) := (Out.refl _ _).alloc o
theorem pick_new (s : Nat) (a : Option Addr) (n c p : Nat) (P : Int → Prop) (cs : Array Value) (t : TypeId) (m : Nat) (w : World) (h : SrcAt w 89 s a n c p) (hp : p ≤ 1000000) (hm : cs.size = m) (h1 : 1 ≤ m) (h2 : m ≤ 1000) (hP : ∀ x, x ∈ cs.toList → ∃ v : Int, P v ∧ x = .int .i64 v) :
    Calls Tryz.prog 50 #[.pointer (some ⟨s, 0, none⟩), .slice (some ⟨w.heap.size, 0, none⟩) m m] (w.alloc (.cells cs t)) fun e w' => (∃ v : Int, P v ∧ e = .returned (.int .i64 v)) ∧ SrcAt w' 89 s a n c (p + 1) ∧ Out (fun q => q = s) w w' := by
  have hs := h.lt
  refine (l1Pick_any s a n c p P w.heap.size m m _ (h.alloc _) hp h1 h2 (offer_new w cs t w.heap.size m _ rfl hm hP) (by omega)).mono ?_
  rintro e w' ⟨g1, g2, g3⟩
  exact ⟨g1, g2, (out_new s w _).trans g3.out (fun _ _ e => e)⟩
end Go.Proofs.YtiopofemelninaaGreat
/-
  The laws' draws: the source, a little further.
-/
namespace Go.Proofs.YtiopofemelninaaGreat
open Go.RowKit
set_option linter.unusedVariables false

/-- The source, a little further. -/
def SrcTo (w : World) (s : Nat) (a : Option Addr) (n c P : Nat) : Prop := ∃ p, p ≤ P ∧ SrcAt w 89 s a n c p
theorem SrcTo.below {w w' : World} {s : Nat} {a : Option Addr} {n c P : Nat} (h : SrcTo w s a n c P) (hb : Below w.heap.size w w') : SrcTo w' s a n c P := by
  obtain ⟨p, hp, h⟩ := h
  exact ⟨p, hp, h.below hb⟩
theorem SrcTo.lt {w : World} {s : Nat} {a : Option Addr} {n c P : Nat} (h : SrcTo w s a n c P) : s < w.heap.size := by
  obtain ⟨p, hp, h⟩ := h
  exact h.lt
theorem SrcTo.more {w : World} {s : Nat} {a : Option Addr} {n c P P' : Nat} (h : SrcTo w s a n c P) (hp : P ≤ P') : SrcTo w s a n c P' := by
  obtain ⟨p, hp', h⟩ := h
  exact ⟨p, by omega, h⟩
theorem SrcTo.above {F : Nat → Prop} {w w' : World} {s : Nat} {a : Option Addr} {n c P : Nat} (h : SrcTo w s a n c P) (ho : Out F w w') (hF : ∀ q, F q → s < q) : SrcTo w' s a n c P := by
  obtain ⟨p, hp', h⟩ := h
  exact ⟨p, hp', h.keep fun k hk => ho.block k (by have := h.lt; omega) (fun e => by have := hF k e; omega)⟩

theorem nextTo (s : Nat) (a : Option Addr) (n c P : Nat) (m : Int) (w : World) (h : SrcTo w s a n c P) (hp : P ≤ 1000000) (hm1 : 1 ≤ m) (hm2 : m ≤ 1000000000000) :
    Calls Tryz.prog 49 #[.pointer (some ⟨s, 0, none⟩), .int .i64 m] w fun e w' => (∃ v : Int, e = .returned (.int .i64 v) ∧ 0 ≤ v ∧ v < m) ∧ SrcTo w' s a n c (P + 1) ∧ Out (fun q => q = s) w w' := by
  obtain ⟨p, hp', h⟩ := h
  exact (next_out s a n c p m w h (by omega) hm1 hm2).mono fun _ _ ⟨h1, h2, h3⟩ => ⟨h1, ⟨p + 1, by omega, h2⟩, h3⟩
theorem chanceTo (s : Nat) (a : Option Addr) (n c P : Nat) (m : Int) (w : World) (h : SrcTo w s a n c P) (hp : P ≤ 1000000) (hm1 : 1 ≤ m) (hm2 : m ≤ 1000000000000) :
    Calls Tryz.prog 75 #[.pointer (some ⟨s, 0, none⟩), .int .i64 m] w fun e w' => (∃ b : Bool, e = .returned (.bool b)) ∧ SrcTo w' s a n c (P + 1) ∧ Out (fun q => q = s) w w' := by
  obtain ⟨p, hp', h⟩ := h
  exact (chance_out s a n c p m w h (by omega) hm1 hm2).mono fun _ _ ⟨h1, h2, h3⟩ => ⟨h1, ⟨p + 1, by omega, h2⟩, h3⟩
theorem pickTo (s : Nat) (a : Option Addr) (n c P : Nat) (Q : Int → Prop) (cs : Array Value) (t : TypeId) (m : Nat) (w : World) (h : SrcTo w s a n c P) (hp : P ≤ 1000000) (hm : cs.size = m) (h1 : 1 ≤ m) (h2 : m ≤ 1000) (hP : ∀ x, x ∈ cs.toList → ∃ v : Int, Q v ∧ x = .int .i64 v) :
    Calls Tryz.prog 50 #[.pointer (some ⟨s, 0, none⟩), .slice (some ⟨w.heap.size, 0, none⟩) m m] (w.alloc (.cells cs t)) fun e w' => (∃ v : Int, Q v ∧ e = .returned (.int .i64 v)) ∧ SrcTo w' s a n c (P + 1) ∧ Out (fun q => q = s) w w' := by
  obtain ⟨p, hp', h⟩ := h
  exact (pick_new s a n c p Q cs t m w h (by omega) hm h1 h2 hP).mono fun _ _ ⟨g1, g2, g3⟩ => ⟨g1, ⟨p + 1, by omega, g2⟩, g3⟩
end Go.Proofs.YtiopofemelninaaGreat
/-
  The laws' draws of nodes.
-/
namespace Go.Proofs.YtiopofemelninaaGreat
open Go.RowKit
set_option linter.unusedVariables false

theorem Out.one {r : Nat} {w w' : World} (h : Out (fun q => q = r) w w') (j : Nat) (v : Value) : Out (fun q => q = r) w (w'.setCell ⟨r, j, none⟩ v) := h.setCell (p := ⟨r, j, none⟩) (.inl rfl) v
theorem isNameL_max {nm : ByteArray} (h : isNameL nm.data.toList = true) : nm.size ≤ 100 := by
  simp only [isNameL, Bool.and_eq_true, decide_eq_true_eq] at h
  have := len_data nm
  omega

end Go.Proofs.YtiopofemelninaaGreat
/-
  The laws' draws of nodes that may be wrong, and of epochs.
-/
namespace Go.Proofs.YtiopofemelninaaGreat
open Go.RowKit
set_option linter.unusedVariables false

theorem offerI (P : Int → Prop) (l : List Int) (h : ∀ v ∈ l, P v) : ∀ x, x ∈ nums l → ∃ v : Int, P v ∧ x = .int .i64 v := by
  intro x hx
  obtain ⟨v, hv, rfl⟩ := List.mem_map.1 hx
  exact ⟨v, h v hv, rfl⟩
/-- Out of all but block s, from below. -/
theorem Out.belowS {s B : Nat} {w0 w w' : World} (ho : Out (fun q => q = s) w w') (h : Below B w0 w) (hB : B ≤ w0.heap.size) (hs : B ≤ s) : Below B w0 w' := ho.below h hB (fun q hq e => by omega)

end Go.Proofs.YtiopofemelninaaGreat
/-
  The laws' draws of numbers.
-/
namespace Go.Proofs.YtiopofemelninaaGreat
open Go.RowKit
set_option linter.unusedVariables false

theorem ints_one_new (w : World) (x : Int) (t : TypeId) : IntsAt (w.alloc (.cells #[.int .i64 x] t)) (some ⟨w.heap.size, 0, none⟩) [x] := by
  have hb : Box (w.alloc (.cells #[.int .i64 x] t)) w.heap.size [.int .i64 x] t := box_new w [.int .i64 x] t
  refine .inr ⟨w.heap.size, 0, rfl, hb.lt, fun i hi => ?_⟩
  rw [Nat.zero_add, hb.cell i]
  match i, hi with
  | 0, _ => rfl
theorem out_grown {s : Nat} {w W W' : World} {row : Option Nat} (h : Out (fun q => q = s) w W) (hg : W.grownBy W' row) (hr : ∀ q, row = some q → w.heap.size ≤ q) : Out (fun q => q = s) w W' :=
  h.trans (Out.ofGrown hg) (fun q hq e => by have := hr q e.symm; omega)
theorem src_grown {s : Nat} {w W W' : World} {row : Option Nat} {t : TypeId} {a : Option Addr} {n c p : Nat} (h : SrcAt W t s a n c p) (hg : W.grownBy W' row) (hr : ∀ q, row = some q → s < q) : SrcAt W' t s a n c p :=
  h.keep fun k hk => hg.block k (by have := h.lt; omega) (fun e => by have := hr k e.symm; omega)

set_option maxRecDepth 20000 in
set_option maxHeartbeats 2000000 in
theorem numbers_any (s : Nat) (a : Option Addr) (n c p : Nat) (w : World) (h : SrcAt w 89 s a n c p) (hp : p ≤ 500) :
    Calls Tryz.prog 79 #[.pointer (some ⟨s, 0, none⟩)] w fun r w' => (∃ v l, r = .returned v ∧ w'.ownsRow w.heap.size 2 1 v 4 (nums l) ∧ List.length l = 4 ∧ ∀ x ∈ l, 0 ≤ x ∧ x ≤ 9999) ∧ (∃ q, q ≤ p + 8 ∧ SrcAt w' 89 s a n c q) ∧ Out (fun q => q = s) w w' := by
  obtain ⟨i0, hi, hz0, hz1, hz2⟩ := info_parts infoInt64
  have hsl := h.lt
  have H := hide h
  clear h
  go_enter Tryz.func79, Tryz.ntmps79
  go_wp2
  go_loopw [3, 4] (fun v i wr => ∃ (k q : Nat) (l : List Int), k ≤ 4 ∧ i = .int .i64 k ∧ l.length = k ∧ q ≤ p + 2 * k ∧ w.heap.size ≤ wr.heap.size ∧ Hid (∀ x ∈ l, (0 : Int) ≤ x ∧ x ≤ 9999) ∧ Hid (wr.ownsRow w.heap.size 2 1 v k (nums l)) ∧ Hid (SrcAt wr 89 s a n c q) ∧ Hid (Out (fun q => q = s) w wr)) (fun _ i _ => 4 - (intOf i).toNat)
  case atStart => exact ⟨0, p, [], by omega, rfl, rfl, by omega, by simp, by simp [Hid], World.ownsRow_made w #[] 0 (Nat.le_refl _) (by unfold maxLen; omega) rfl, (unhide H).alloc _, (Out.refl _ _).alloc _⟩
  case round =>
    obtain ⟨k, q, l, hk, rfl, hlk, hq, hzw, HN, HO, HS, HU⟩ := hrel
    clear H
    by_cases hlt : k < 4
    · go_wp2_with fail
      refine (next_out s a n c q 90 _ (unhide HS) (by omega) (by omega) (by omega)).mono ?_
      rintro r w1 ⟨⟨v1, rfl, x0, x1⟩, h1, o1⟩
      have O1 := hide (o1.own (unhide HO) (fun g hg e => by have := (unhide HO).lt g hg; omega))
      have S1 := hide h1
      have U1 := hide ((unhide HU).trans o1 (fun _ _ e => e))
      have z1 : wr.heap.size ≤ w1.heap.size := o1.size
      clear h1 o1 HO HS HU
      go_wp2_with fail
      refine (pick_new s a n c (q + 1) (fun x => 0 ≤ x ∧ x ≤ 9999) (nums [0, 5, 9999, v1]).toArray 2 4 w1 (unhide S1) (by omega) rfl (by omega) (by omega) (offerI _ _ (by simp; omega))).mono ?_
      rintro r w2 ⟨⟨x, hxp, rfl⟩, h2, o2⟩
      have HN2 : Hid (∀ y ∈ l ++ [x], (0 : Int) ≤ y ∧ y ≤ 9999) := by
        intro y hy
        rcases List.mem_append.1 hy with hy | hy
        · exact unhide HN y hy
        · simp only [List.mem_singleton] at hy
          subst hy; exact hxp
      clear hxp
      have O2 := hide (o2.own (unhide O1) (fun g hg e => by have := (unhide O1).lt g hg; omega))
      have S2 := hide h2
      have U2 := hide ((unhide U1).trans o2 (fun _ _ e => e))
      have z2 : w1.heap.size ≤ w2.heap.size := o2.size
      clear h2 o2 O1 S1 U1
      go_wp2_with (at_builtin; refine wpList_append_ints _ rfl _ _ 24 rfl w.heap.size 2 i0 (.int .i64 0) Tryz.underlying24 hi hz0 hz1 hz2 rfl _ k (nums l) rfl ((unhide O2).alloc _) (some ⟨w2.heap.size, 0, none⟩) 1 1 [x] rfl rfl (ints_one_new w2 x _) (by simp; omega) (by simp; omega) ?_; intro v3 w3 hown hgrow hblk; have O3 := hide hown; have G3 := hide (out_grown ((unhide U2).alloc _) hgrow (fun g hg => ((unhide O2).lt g hg).1)); have S3 := hide (src_grown (w := w2) ((unhide S2).alloc _) hgrow (fun g hg => by have := ((unhide O2).lt g hg).1; omega)); have z3 : w2.heap.size ≤ w3.heap.size := (by have := hgrow.size; simp at this; omega); clear hown hgrow hblk)
      go_roundw
      case rel => exact ⟨k + 1, q + 1 + 1, l ++ [x], by omega, by go_num, by simp [hlk], by omega, by omega, HN2, by rw [nums_append]; exact O3, S3, G3⟩
      case measure => simp [intOf]; omega
    · have hk4 : k = 4 := by omega
      subst hk4
      go_wp2_with fail
      go_ret
      exact ⟨⟨_, l, rfl, unhide HO, hlk, unhide HN⟩, ⟨q, by omega, unhide HS⟩, unhide HU⟩
end Go.Proofs.YtiopofemelninaaGreat
/-
  The laws' draws of images: a block is laid into a row.
-/
namespace Go.Proofs.YtiopofemelninaaGreat
open Go.RowKit
set_option linter.unusedVariables false

set_option maxRecDepth 20000 in
set_option maxHeartbeats 2000000 in
theorem l4Lay_any (g : Nat) (L : List Int) (k : Nat) (a : Option Addr) (c : Nat) (l : List Int) (w : World) (hg : Box w g (nums L) 2) (h : IntsAt w a l) (hne : ∀ ad, a = some ad → ad.block ≠ g) (hl : l.length = 8) (hk : k * 8 + 8 ≤ L.length) (hL : L.length ≤ 1048576) :
    Calls Tryz.prog 76 #[.slice (some ⟨g, 0, none⟩) L.length L.length, .int .i64 k, .slice a l.length c] w fun e w' => e = .returned (.tuple #[]) ∧ (∃ L' : List Int, L'.length = L.length ∧ Box w' g (nums L') 2 ∧ ∀ j, j < k * 8 → L'[j]? = L[j]?) ∧ Out (fun q => q = g) w w' := by
  rw [hl]
  have HA := hide h
  have HN := hide hne
  have HL := hide hl
  clear h hne hl
  go_enter Tryz.func76, Tryz.ntmps76
  go_wp2_with fail
  go_loopw [6] (fun i wr => ∃ (m : Nat) (L' : List Int), m ≤ 8 ∧ i = .int .i64 m ∧ L'.length = L.length ∧ Hid (Box wr g (nums L') 2) ∧ Hid (Out (fun q => q = g) w wr) ∧ Hid (∀ j, j < k * 8 → L'[j]? = L[j]?)) (fun i _ => 8 - (intOf i).toNat)
  case atStart => exact ⟨0, L, by omega, rfl, rfl, hg, Out.refl _ _, fun j hj => rfl⟩
  case round =>
    obtain ⟨m, L', hm, rfl, hLL, HB, HO, HJ⟩ := hrel
    by_cases hlt : m < 8
    · have hi := (unhide HO).ints (unhide HA) (fun ad e f => unhide HN ad e f)
      have hlt2 : m < l.length := by have := unhide HL; omega
      obtain ⟨b, o, rfl, hb, hc⟩ := hi.at hlt2
      have hck := hc m hlt2
      generalize l[m] = x at *
      have hw := (unhide HB).cell (k * 8 + m)
      rw [nums_at (show k * 8 + m < L'.length by omega)] at hw
      have hf := (unhide HB).frozen (k * 8 + m)
      have HB2 := hide ((unhide HB).set (k * 8 + m) (.int .i64 x))
      have HB3 : Hid (Box (wr.setCell ⟨g, k * 8 + m, none⟩ (.int .i64 x)) g (nums (L'.set (k * 8 + m) x)) 2) := by
        have := unhide HB2
        rwa [nums_set] at this
      have HO2 := hide ((unhide HO).setCell (p := ⟨g, k * 8 + m, none⟩) (.inl rfl) (.int .i64 x))
      have HJ2 : Hid (∀ j, j < k * 8 → (L'.set (k * 8 + m) x)[j]? = L[j]?) := fun j hj => by
        rw [List.getElem?_set_ne (by omega)]
        exact unhide HJ j hj
      clear hc hi HB HO HJ HB2
      go_wp2_with fail
      go_roundw
      case rel => exact ⟨m + 1, L'.set (k * 8 + m) x, by omega, by go_num, by simpa using hLL, HB3, HO2, HJ2⟩
      case measure => simp [intOf]; omega
    · clear hg
      go_wp2_with fail
      exact bodyPost_end (results_none (by first | exact Tryz.results76 | rfl | kernel_rfl) _ _ _) rfl ⟨rfl, ⟨L', hLL, unhide HB, unhide HJ⟩, unhide HO⟩
end Go.Proofs.YtiopofemelninaaGreat
/-
  One cell of a box: stored in one step, the world named.
-/
namespace Go.Proofs.YtiopofemelninaaGreat
open Go.RowKit
set_option linter.unusedVariables false

theorem run_storeVar_cell {P : Program} (w : World) (g o : Nat) (t ty : TypeId) (old : List Value) (v : Value) (hg : Box w g old t) (hi : (P.info? ty).map (·.size) = some 1) (hfit : o + 1 ≤ old.length) (hc : v.cells = #[v]) (h1 : v.oneCell' = true) :
    (storeVar ty ⟨g, o, none⟩ v).run P w = .ok () (w.setRow g (old.take o ++ [v] ++ old.drop (o + 1)).toArray) := by
  have := run_storeCells_at P g o t [v] 0 old.toArray w hg (by simpa using hfit) (fun u hu => by simp at hu; rw [hu]; exact h1)
  cases hq : P.info? ty with
  | none => simp [hq] at hi
  | some i =>
    have hs : 1 = i.size := by simp [hq] at hi; omega
    simp only [Nat.add_zero] at this
    simp [storeVar, sizeOf, typeInfo, hq, hc, ← hs, this]

/-- A cell is stored into a part of a box. -/
theorem wpList_store_cell {P : Program} {ops : Array Oper} {rest : List Oper} {op : Oper} {a : Act} {w : World} {Q : Exit → Act → World → Prop} (hgd : op.guard = none) (ty : TypeId) (x y : Operand) (ho : op.op = .store ty x y)
    (g o : Nat) (v : Value) (hx : a.eval x = .pointer (some ⟨g, o, none⟩)) (hy : a.eval y = v) (t : TypeId) (old : List Value) (hg : Box w g old t)
    (hi : (P.info? ty).map (·.size) = some 1) (hfit : o + 1 ≤ old.length) (hc : v.cells = #[v]) (h1 : v.oneCell' = true)
    (h : ∀ w', Hid (Box w' g (old.take o ++ [v] ++ old.drop (o + 1)) t) → Hid (Out (fun q => q = g) w w') → wpList P ops Q rest (a.put op.dst undef) w') : wpList P ops Q (op :: rest) a w := by
  refine wpList_plain hgd fun K hK => ?_
  unfold Oper.wp execOp
  simp only [ho, hx, hy, Instr.storeAt, Instr.sureAddr, Sem.run_bind, Sem.run_pure, Result.andThen_ok, run_storeVar_cell w g o t ty old v hg hi hfit hc h1]
  refine hK _ _ (h _ ?_ ?_)
  · exact setRow_heap w g _ _ t (0, 0) hg
  · exact ⟨rfl, rfl, rfl, by simp [World.setRow], fun q _ hq => setRow_other w g q _ hq⟩
end Go.Proofs.YtiopofemelninaaGreat
/-
  The laws' draws of what is packed.
-/
namespace Go.Proofs.YtiopofemelninaaGreat
open Go.RowKit
set_option linter.unusedVariables false

theorem own_block' {g n c q : Nat} (h : (Value.slice (some ⟨g, 0, none⟩) n c).ownBlock = some q) : q = g := by cases h; rfl
theorem results_cell_tmp' {P : Program} {fn : Func} {p q : Tmp} {ty : TypeId} (h : fn.results = #[.cell p ty, .tmp q]) (tmps : Array Value) (w : World) (g : Nat) (t : TypeId) (cs : Array Value) (fr : Nat × Nat) (d : TypeDesc) (v : Value)
    (hp : tmps.getD p undef = .pointer (some ⟨g, 0, none⟩)) (hq : tmps.getD q undef = v) (hg : w.heap[g]? = some (.cells cs t fr))
    (hu : P.underlying ty = some d) (hd : (match d with | .struct _ | .array _ _ => true | _ => false) = true) (hi : (P.info? ty).map (·.size) = some cs.size) :
    (results fn tmps).run P w = .ok (.tuple #[.agg cs, v]) w := by
  have hp' : tmps[p]?.getD undef = .pointer (some ⟨g, 0, none⟩) := by simpa using hp
  have hq' : tmps[q]?.getD undef = v := by simpa using hq
  simp [results, h, hp', hq', asAddr, run_loadVar_row w g t ty cs fr d hg hu hd hi]
theorem four {l : List Int} (h : l.length = 4) : ∃ x0 x1 x2 x3, l = [x0, x1, x2, x3] := by
  match l, h with
  | [x0, x1, x2, x3], _ => exact ⟨x0, x1, x2, x3, rfl⟩

/-- A source is made: what is there then. -/
theorem source_new {w W : World} {a : Option Addr} {n c p : Nat} (hW : W = w.alloc (.cells #[.slice a n c, .int .i64 p] 89)) (h : CodeAt w a n) (hn : n ≤ 2000000) : SrcAt W 89 w.heap.size a n c p ∧ Below w.heap.size w W := by
  subst hW
  exact ⟨srcAt_wide h hn c p _, (Below.refl _ _).alloc (Nat.le_refl _) _⟩

end Go.Proofs.YtiopofemelninaaGreat
