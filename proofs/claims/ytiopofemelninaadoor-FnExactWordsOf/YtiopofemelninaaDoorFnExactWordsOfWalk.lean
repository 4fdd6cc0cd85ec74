/-
  The walk of laws.FnExactWordsOf: it returns true, and writes nothing that was there.
-/
import Derived.Test.YtiopofemelninaaDoorWordsOfWalk
import Derived.Test.YtiopofemelninaaDoorTextsWalk
namespace Go.Proofs.YtiopofemelninaaDoor.fnExactWordsOf
open Go.RowKit

theorem words_inj {ps qs : List ByteArray} (h : ps.map (·.data.toList) = qs.map (·.data.toList)) : ps = qs := by
  refine (List.map_inj_right ?_).1 h
  intro a b e
  cases a; cases b
  simpa using e

theorem strs_of {w : World} {base : Nat} {e : TypeId} {a : Option Addr} {c : Nat} {ps : List ByteArray} (h : w.ownsRow base e 1 (.slice a ps.length c) ps.length (ps.map Value.string)) : StrsAt w a ps := by
  obtain ⟨a', c', e1, h3, -, -⟩ := strsAt_own h
  cases e1
  exact h3

theorem own_ne {w : World} {base : Nat} {e : TypeId} {a : Option Addr} {n c : Nat} {xs : List Value} (h : w.ownsRow base e 1 (.slice a n c) n xs) : ∀ x, a = some x → w.heap.size ≠ x.block := by
  intro x hx
  rcases h.2 with ⟨h1, _⟩ | ⟨g, cap, cur, h1, _, hh, _⟩
  · cases h1; cases hx
  · cases h1
    cases hx
    have := (Array.getElem?_eq_some_iff.1 hh).1
    show w.heap.size ≠ g
    omega

set_option maxHeartbeats 1000000 in
theorem walk (s : ByteArray) (w : World) (_hs : s.size ≤ maxLen) (hE : EtAt w) :
    Calls Tryd.prog 3 #[.string s] w fun e w' => e = .returned (.bool true) ∧ Below w.heap.size w w' := by
  by_cases h : 1048576 < (s.size : Int)
  · clear hE
    go_enter Tryd.func3, Tryd.ntmps3
    go_wp2
    go_ret
    exact ⟨rfl, Below.refl _ _⟩
  have hs1 : s.size ≤ 1048576 := by omega
  have HE := hide hE
  clear hE
  go_enter Tryd.func3, Tryd.ntmps3
  go_wp2_with fail
  refine (specWordsOf_any s _).mono ?_
  rintro e w1 ⟨⟨a1, c1, ps, rfl, hps, how1⟩, hb1⟩
  have hpl : ps.length ≤ 3001 := by
    have := woWords_len s
    rw [← hps, List.length_map] at this
    exact this
  have hz1 := hb1.size
  have G1 := hide hb1
  have HPS := hide hps
  have O1 := hide how1
  clear hb1 hps how1
  generalize hcd : woCode s = cd at *
  have HCD := hide hcd
  clear hcd
  go_wp2_with fail
  have e1 : (w1.alloc (.cells #[.int .i64 cd, .slice a1 ps.length c1] 24)).heap.size = w1.heap.size + 1 := by simp
  have g1' := (unhide G1).alloc hz1 (.cells #[.int .i64 cd, .slice a1 ps.length c1] 24)
  refine (implWordsOf_any s _ ((unhide HE).below g1')).mono ?_
  have f1 : ∀ j, (w1.alloc (.cells #[.int .i64 cd, .slice a1 ps.length c1] 24)).cell? ⟨w1.heap.size, j, none⟩ = _ := fun j => rfl
  have o1 := ownsRow_stay (unhide O1) (fun k hk => Below.heap_alloc w1 (.cells #[.int .i64 cd, .slice a1 ps.length c1] 24) k hk)
  obtain ⟨W1, hW1⟩ : ∃ W1, W1 = w1.alloc (.cells #[.int .i64 cd, .slice a1 ps.length c1] 24) := ⟨_, rfl⟩
  have k0 : W1.cell? ⟨w1.heap.size, 0, none⟩ = some (.int .i64 cd) := by rw [hW1]; go_simp
  have k1 : W1.cell? ⟨w1.heap.size, 1, none⟩ = some (.slice a1 ps.length c1) := by rw [hW1]; go_simp
  rw [← hW1] at e1 g1' o1 ⊢
  have R1 := hide (Below.refl W1.heap.size W1)
  have G1' := hide g1'
  have O1' := hide o1
  clear g1' o1 f1 O1 G1 hW1
  have hb1 : w1.heap.size < W1.heap.size := by omega
  rintro e w2 ⟨⟨a2, c2, qs, rfl, hqs, how2⟩, hb2⟩
  obtain rfl : qs = ps := words_inj (hqs.trans (unhide HPS).symm)
  rw [unhide HCD]
  have hz2 : w1.heap.size < w2.heap.size := by have := hb2.size; omega
  have hz2' : W1.heap.size ≤ w2.heap.size := hb2.size
  have G2 := hide (below_step (unhide G1') hb2 (by omega))
  have R2 := hide (hb2)
  have O2 := hide how2
  have NE := hide (own_ne how2)
  have q0 := ((bcell hb2).1 _ 0 hb1).trans k0
  have q1 := ((bcell hb2).1 _ 1 hb1).trans k1
  clear hb2 hqs how2 R1
  go_wp2_with fail
  obtain ⟨W2, hW2⟩ : ∃ W2, W2 = w2.alloc (.cells #[.int .i64 cd, .slice a2 qs.length c2] 24) := ⟨_, rfl⟩
  have p0 : W2.cell? ⟨w2.heap.size, 0, none⟩ = some (.int .i64 cd) := by rw [hW2]; go_simp
  have p1 : W2.cell? ⟨w2.heap.size, 1, none⟩ = some (.slice a2 qs.length c2) := by rw [hW2]; go_simp
  have hzW2 : W2.heap.size = w2.heap.size + 1 := by rw [hW2]; simp
  have G2' : Hid (Below w.heap.size w W2) := by rw [hW2]; exact (unhide G2).alloc (by omega) _
  have R2' : Hid (Below W1.heap.size W1 W2) := by rw [hW2]; exact (unhide R2).alloc hz2' _
  have O2' : Hid (W2.ownsRow W1.heap.size 9 1 (.slice a2 qs.length c2) qs.length (qs.map Value.string)) := by rw [hW2]; exact ownsRow_stay (unhide O2) (fun k hk => Below.heap_alloc _ _ k hk)
  rw [← hW2]
  clear hW2 G2 R2 O2 q0 q1
  refine (eqTextsResult_same cd a2 a1 c2 c1 qs _ (strs_of (unhide O2')) (strs_of (ownsRow_stay (unhide O1') (unhide R2').block)) (by omega)).mono ?_
  rintro e w3 ⟨rfl, hb3⟩
  have hz3 : W2.heap.size ≤ w3.heap.size := hb3.size
  have G3 := hide (below_step (unhide G2') hb3 (by omega))
  have R3 := hide (below_step (unhide R2') hb3 (by omega))
  have O3 := hide (ownsRow_stay (unhide O2') hb3.block)
  replace p0 := ((bcell hb3).1 _ 0 (by omega)).trans p0
  replace p1 := ((bcell hb3).1 _ 1 (by omega)).trans p1
  clear hb3 G2' R2' O2'
  go_wp2_with fail
  refine (markTextsResult_any cd a2 qs.length c2 W1.heap.size _ 1 _ (unhide O3) (by omega) (by omega) (by omega) (by omega)).mono ?_
  rintro e w4 ⟨rfl, o4, hb4, he4⟩
  have hz4 : w3.heap.size ≤ w4.heap.size := hb4.size
  have R4 := hide ((unhide R3).trans hb4)
  have G4 := hide ((unhide G3).trans (hb4.mono (by omega)))
  have O4 := hide o4
  replace p0 := (World.cell?_of_block (a := ⟨w2.heap.size, 0, none⟩) (he4 w2.heap.size (by omega) (unhide NE))).trans p0
  replace p1 := (World.cell?_of_block (a := ⟨w2.heap.size, 1, none⟩) (he4 w2.heap.size (by omega) (unhide NE))).trans p1
  clear hb4 he4 o4 G3 R3 O3
  have hq0 : ¬ (1 : Int) + (qs.length : Int) < 0 := by omega
  have hq1 := int_neq_self (1 + (qs.length : Int))
  go_wp2_with fail
  refine (heldTextsResult_any cd a2 qs.length c2 1 _ (strsAt_marks (unhide O4)) (by omega) (by omega) (by omega)).mono ?_
  rintro e w5 ⟨rfl, hb5⟩
  have hz5 : w4.heap.size ≤ w5.heap.size := hb5.size
  have G5 := hide (below_step (unhide G4) hb5 (by omega))
  have R5 := hide (below_step (unhide R4) hb5 (by omega))
  have O5 := hide (ownsRow_stay (unhide O4) hb5.block)
  replace p0 := ((bcell hb5).1 _ 0 (by omega)).trans p0
  replace p1 := ((bcell hb5).1 _ 1 (by omega)).trans p1
  clear hb5 G4 R4 O4
  go_wp2_with fail
  refine (implWordsOf_any s _ ((unhide HE).below (unhide G5))).mono ?_
  rintro e w6 ⟨⟨a6, c6, rs, rfl, hrs, how6⟩, hb6⟩
  obtain rfl : qs = rs := words_inj ((unhide HPS).trans hrs.symm)
  rw [unhide HCD]
  have hz6 : w5.heap.size ≤ w6.heap.size := hb6.size
  have G6 := hide (below_step (unhide G5) hb6 (by omega))
  have R6 := hide (below_step (unhide R5) hb6 (by omega))
  have O6 := hide (ownsRow_stay (unhide O5) hb6.block)
  have Q6 := hide how6
  replace p0 := ((bcell hb6).1 _ 0 (by omega)).trans p0
  replace p1 := ((bcell hb6).1 _ 1 (by omega)).trans p1
  have q0 := ((bcell (unhide R6)).1 _ 0 hb1).trans k0
  have q1 := ((bcell (unhide R6)).1 _ 1 hb1).trans k1
  clear hb6 G5 R5 O5 how6 hrs
  have hy6 : w1.heap.size < w6.heap.size := by omega
  have hx6 : w2.heap.size < w6.heap.size := by omega
  go_wp2_with fail
  have hal : ∀ o, Below w6.heap.size w6 (w6.alloc o) := fun o => (Below.refl _ _).alloc (Nat.le_refl _) _
  refine (eqTextsResult_same cd a6 a1 c6 c1 qs _ (strs_of (ownsRow_stay (unhide Q6) (hal _).block)) (strs_of (ownsRow_stay (unhide O1') (below_step (unhide R6) (hal _) (by omega)).block)) (by omega)).mono ?_
  rintro e w7 ⟨rfl, hb7⟩
  have hb7' := below_step (hal _) hb7 (by simp)
  have hz7 : w6.heap.size ≤ w7.heap.size := hb7'.size
  have G7 := hide (below_step (unhide G6) hb7' (by omega))
  have O7 := hide (ownsRow_stay (unhide O6) hb7'.block)
  replace p0 := ((bcell hb7').1 _ 0 (by omega)).trans p0
  replace p1 := ((bcell hb7').1 _ 1 (by omega)).trans p1
  clear hb7 hb7' G6 R6 O6 hal q0 q1
  go_wp2_with fail
  refine (heldTextsResult_any cd a2 qs.length c2 1 _ (strsAt_marks (unhide O7)) (by omega) (by omega) (by omega)).mono ?_
  rintro e w8 ⟨rfl, hb8⟩
  have G8 := hide (below_step (unhide G7) hb8 (by omega))
  clear hb8
  go_wp2_with fail
  go_ret
  exact ⟨rfl, unhide G8⟩
end Go.Proofs.YtiopofemelninaaDoor.fnExactWordsOf
