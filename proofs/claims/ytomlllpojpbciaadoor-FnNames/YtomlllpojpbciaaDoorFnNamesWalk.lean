/-
  The walk of laws.FnNames: it returns true, and writes nothing that was there.
-/
import Derived.Test.YtomlllpojpbciaaDoorDrawNameWalk
import Derived.Test.YtomlllpojpbciaaDoorNamesMath
import Derived.Test.YtomlllpojpbciaaDoorWordNameWalk
import Derived.Test.YtomlllpojpbciaaDoorImplPathNamesWalk
import Derived.Test.YtomlllpojpbciaaDoorImplPathOfWalk
import Derived.Deep.RegionHeld3
namespace Go.Proofs.YtomlllpojpbciaaDoor

open Go.RowKit

theorem implIsName_bel (s : ByteArray) (w : World) (hs : s.size ≤ maxLen) :
    Calls Tryd.prog 13 #[.string s] w fun e w' => e = .returned (.bool (isNameL s.data.toList)) ∧ Below w.heap.size w w' := by
  refine (implIsName_any s w hs).mono ?_
  rintro e w' ⟨rfl, h⟩
  exact ⟨rfl, below_iter h⟩
theorem specIsName_bel (s : ByteArray) (w : World) (hs : s.size ≤ maxLen) :
    Calls Tryd.prog 14 #[.string s] w fun e w' => e = .returned (.bool (isNameL s.data.toList)) ∧ Below w.heap.size w w' := by
  refine (specIsName_any s w hs).mono ?_
  rintro e w' ⟨rfl, rfl⟩
  exact ⟨rfl, Below.refl _ _⟩

theorem poVal_agg (l : List ByteArray) : ∃ (x : Int) (b : ByteArray), poVal l = .agg #[.int .i64 x, .string b] := by
  unfold poVal
  split
  · exact ⟨_, _, rfl⟩
  · split
    · exact ⟨_, _, rfl⟩
    · exact ⟨_, _, rfl⟩

theorem pnWords_len (l : List UInt8) : (pnWords l).length ≤ 4 := by
  unfold pnWords
  split
  · simp
  · split
    · simp
    · omega

theorem held_step {W0 w' w1 : World} (h : Below W0.heap.size W0 w') (hb : Below w'.heap.size w' w1) : Below W0.heap.size W0 w1 := h.trans (hb.mono h.size)

theorem dropN {W0 w' : World} {b1 b2 b3 b4 : Nat} {x y z cd f : Int} {t g : ByteArray} {a2 : Option Addr} {m2 c2 : Nat} (hS : Below W0.heap.size W0 w' ∧ w'.cell? ⟨b1, 0, none⟩ = some (.int .i64 x) ∧ w'.cell? ⟨b1, 1, none⟩ = some (.int .i64 y) ∧ w'.cell? ⟨b2, 0, none⟩ = some (.int .i64 z) ∧ w'.cell? ⟨b2, 1, none⟩ = some (.string t) ∧ w'.cell? ⟨b3, 0, none⟩ = some (.int .i64 cd) ∧ w'.cell? ⟨b3, 1, none⟩ = some (.slice a2 m2 c2) ∧ w'.cell? ⟨b4, 0, none⟩ = some (.int .i64 f) ∧ w'.cell? ⟨b4, 1, none⟩ = some (.string g)) : Below W0.heap.size W0 w'.drew ∧ w'.drew.cell? ⟨b1, 0, none⟩ = some (.int .i64 x) ∧ w'.drew.cell? ⟨b1, 1, none⟩ = some (.int .i64 y) ∧ w'.drew.cell? ⟨b2, 0, none⟩ = some (.int .i64 z) ∧ w'.drew.cell? ⟨b2, 1, none⟩ = some (.string t) ∧ w'.drew.cell? ⟨b3, 0, none⟩ = some (.int .i64 cd) ∧ w'.drew.cell? ⟨b3, 1, none⟩ = some (.slice a2 m2 c2) ∧ w'.drew.cell? ⟨b4, 0, none⟩ = some (.int .i64 f) ∧ w'.drew.cell? ⟨b4, 1, none⟩ = some (.string g) := ⟨hS.1.drew, hS.2⟩

theorem keepN {W0 w' w1 : World} {b1 b2 b3 b4 : Nat} {x y z cd f : Int} {t g : ByteArray} {a2 : Option Addr} {m2 c2 : Nat} (h1 : b1 < W0.heap.size) (h2 : b2 < W0.heap.size) (h3 : b3 < W0.heap.size) (h4 : b4 < W0.heap.size)
    (hS : Below W0.heap.size W0 w' ∧ w'.cell? ⟨b1, 0, none⟩ = some (.int .i64 x) ∧ w'.cell? ⟨b1, 1, none⟩ = some (.int .i64 y) ∧ w'.cell? ⟨b2, 0, none⟩ = some (.int .i64 z) ∧ w'.cell? ⟨b2, 1, none⟩ = some (.string t) ∧ w'.cell? ⟨b3, 0, none⟩ = some (.int .i64 cd) ∧ w'.cell? ⟨b3, 1, none⟩ = some (.slice a2 m2 c2) ∧ w'.cell? ⟨b4, 0, none⟩ = some (.int .i64 f) ∧ w'.cell? ⟨b4, 1, none⟩ = some (.string g)) (hb : Below w'.heap.size w' w1) : Below W0.heap.size W0 w1 ∧ w1.cell? ⟨b1, 0, none⟩ = some (.int .i64 x) ∧ w1.cell? ⟨b1, 1, none⟩ = some (.int .i64 y) ∧ w1.cell? ⟨b2, 0, none⟩ = some (.int .i64 z) ∧ w1.cell? ⟨b2, 1, none⟩ = some (.string t) ∧ w1.cell? ⟨b3, 0, none⟩ = some (.int .i64 cd) ∧ w1.cell? ⟨b3, 1, none⟩ = some (.slice a2 m2 c2) ∧ w1.cell? ⟨b4, 0, none⟩ = some (.int .i64 f) ∧ w1.cell? ⟨b4, 1, none⟩ = some (.string g) := by
  obtain ⟨h, c0, c1, c2, c3, c4, c5, c6, c7⟩ := hS
  have hz := h.size
  have hc := (bcell hb).1
  exact ⟨h.trans (hb.mono h.size), (hc _ _ (by omega)).trans c0, (hc _ _ (by omega)).trans c1, (hc _ _ (by omega)).trans c2, (hc _ _ (by omega)).trans c3, (hc _ _ (by omega)).trans c4, (hc _ _ (by omega)).trans c5, (hc _ _ (by omega)).trans c6, (hc _ _ (by omega)).trans c7⟩

set_option maxHeartbeats 2000000 in
theorem fnNames_no (a : Option Addr) (n c : Nat) (w : World) (hn : ¬ (n : Int) ≤ 1048576) :
    Calls Tryd.prog 3 #[.slice a n c] w fun r w' => r = .returned (.bool true) ∧ Below w.heap.size w w' := by
  go_enter Tryd.func3, Tryd.ntmps3
  go_wp2
  go_ret
  exact ⟨rfl, Below.refl _ _⟩

set_option maxHeartbeats 1000000 in
theorem fnNames_yes (a : Option Addr) (n c : Nat) (w : World) (h : CodeAt w a n) (hn : n ≤ 1048576) (mx : Int) (hm : w.cell? ⟨0, 0, none⟩ = some (.int .i64 mx)) :
    Calls Tryd.prog 3 #[.slice a n c] w fun r w' => r = .returned (.bool true) ∧ Below w.heap.size w w' := by
  have hg : 0 < w.heap.size := lt_of_cell hm
  have HM := hide hm
  have H := hide h
  have hn' : ¬ (1048576 : Int) < n := by omega
  clear h hm
  go_enter Tryd.func3, Tryd.ntmps3
  go_wp2_with (go_at_call 4; go_in)
  refine (drawIsName_any a n c _ (unhide H) hn).mono ?_
  rintro r w1 ⟨⟨s1, rfl, hs1⟩, hb1⟩
  have G1 := hide hb1
  have hz1 := hb1.size
  have hs1' : s1.size ≤ maxLen := by unfold maxLen; omega
  clear hb1
  go_wp2_with fail
  refine (drawWordName_any a n c _ ((unhide H).below (unhide G1)) hn).mono ?_
  rintro r w2 ⟨⟨v, rfl, v0, v1⟩, hb2⟩
  have hz2 : w1.heap.size ≤ w2.heap.size := hb2.size
  have G2 := hide (below_step (unhide G1) hb2 (by omega))
  clear hb2 G1
  obtain ⟨x, y, hv, hxi, hxw⟩ := nwVal_facts s1
  have HV := hide hv
  have HXI := hide hxi
  have HXW := hide hxw
  clear hv hxi hxw
  go_wp2_with fail
  refine (implNameWord_any s1 _ hs1').mono ?_
  rintro r w3 ⟨rfl, hb3⟩
  rw [unhide HV]
  have hz3 : w2.heap.size ≤ w3.heap.size := hb3.size
  have G3 := hide (below_step (unhide G2) hb3 (by omega))
  clear hb3 G2
  obtain ⟨z, t, hwv, ht6, hzw⟩ := wnVal_facts v
  have HWV := hide hwv
  have HZW := hide hzw
  clear hwv hzw
  go_wp2_with fail
  obtain ⟨W3, hW3⟩ : ∃ W3, W3 = w3.alloc (.cells #[.int .i64 x, .int .i64 y] 27) := ⟨_, rfl⟩
  have k0W3 : W3.cell? ⟨w3.heap.size, 0, none⟩ = some (.int .i64 x) := by rw [hW3]; go_simp
  have k1W3 : W3.cell? ⟨w3.heap.size, 1, none⟩ = some (.int .i64 y) := by rw [hW3]; go_simp
  have K0W3 := hide k0W3
  have K1W3 := hide k1W3
  have hzW3 : w3.heap.size < W3.heap.size := by rw [hW3]; simp
  have GW3 : Hid (Below w.heap.size w W3) := by rw [hW3]; exact (unhide G3).alloc (by omega) _
  have BW3 : Hid (Below w3.heap.size w3 W3) := by rw [hW3]; exact (Below.refl _ _).alloc (Nat.le_refl _) _
  rw [← hW3]
  clear hW3 G3 k0W3 k1W3
  refine (implWordName_any v _).mono ?_
  rintro r w4 ⟨rfl, hb4⟩
  rw [unhide HWV]
  have hz4 : W3.heap.size ≤ w4.heap.size := hb4.size
  have G4 := hide (below_step (unhide GW3) hb4 (by omega))
  have B4 := hide hb4
  clear hb4 GW3 BW3
  go_wp2_with fail
  obtain ⟨W4, hW4⟩ : ∃ W4, W4 = w4.alloc (.cells #[.int .i64 z, .string t] 30) := ⟨_, rfl⟩
  have k0W4 : W4.cell? ⟨w4.heap.size, 0, none⟩ = some (.int .i64 z) := by rw [hW4]; go_simp
  have k1W4 : W4.cell? ⟨w4.heap.size, 1, none⟩ = some (.string t) := by rw [hW4]; go_simp
  have K0W4 := hide k0W4
  have K1W4 := hide k1W4
  have hzW4 : w4.heap.size < W4.heap.size := by rw [hW4]; simp
  have GW4 : Hid (Below w.heap.size w W4) := by rw [hW4]; exact (unhide G4).alloc (by omega) _
  have BW4 : Hid (Below w4.heap.size w4 W4) := by rw [hW4]; exact (Below.refl _ _).alloc (Nat.le_refl _) _
  rw [← hW4]
  clear hW4 G4 k0W4 k1W4
  refine (drawPathNames_any a n c _ ((unhide H).below (unhide GW4)) hn).mono ?_
  rintro r w5 ⟨⟨s2, rfl, hs2⟩, hb5⟩
  have hz5 : W4.heap.size ≤ w5.heap.size := hb5.size
  have G5 := hide (below_step (unhide GW4) hb5 (by omega))
  have B5 := hide hb5
  clear hb5 GW4
  go_wp2_with fail
  refine (implPathNames_any s2 mx _ (by omega) (((bcell (unhide G5)).1 _ _ hg).trans (unhide HM)) (by omega)).mono ?_
  rintro r w6 ⟨⟨v6, qs, rfl, hqs, how6⟩, hb6⟩
  obtain ⟨a2, c2, rfl, hat6, hqc, -⟩ := strsAt_own how6
  have hz6 : w5.heap.size ≤ w6.heap.size := hb6.size
  have G6 := hide (below_step (unhide G5) hb6 (by omega))
  have B6 := hide hb6
  have HQS := hide hqs
  have A6 := hide hat6
  clear hb6 how6 hat6 hqs G5
  have HPN : Hid (pnCode s2.data.toList = 0 → poVal qs = .agg #[.int .i64 0, .string s2]) := fun e => pn_back _ _ e (unhide HQS)
  have HQ6 : Hid (∀ s ∈ qs, s.size ≤ maxLen) := by
    intro s hs
    have h1 : s.data.toList ∈ pnWords s2.data.toList := by rw [← unhide HQS]; exact List.mem_map_of_mem hs
    have h2 := pnWords_names _ _ h1
    rw [len_data] at h2
    unfold maxLen; omega
  have hql : qs.length ≤ maxLen := by
    have h1 : (qs.map (·.data.toList)).length ≤ 4 := by rw [unhide HQS]; exact pnWords_len _
    rw [List.length_map] at h1
    unfold maxLen; omega
  have HC3 : Hid (pnCode s2.data.toList = 0 ∨ pnCode s2.data.toList = 2 ∨ pnCode s2.data.toList = 5) := by
    show pnCode s2.data.toList = 0 ∨ pnCode s2.data.toList = 2 ∨ pnCode s2.data.toList = 5
    unfold pnCode
    split
    · exact .inr (.inr rfl)
    · split
      · exact .inr (.inl rfl)
      · exact .inl rfl
  generalize hcd : pnCode s2.data.toList = cd at *
  have HCD := hide hcd
  clear hcd
  go_wp2_with fail
  obtain ⟨W6, hW6⟩ : ∃ W6, W6 = w6.alloc (.cells #[.int .i64 cd, .slice a2 qs.length c2] 34) := ⟨_, rfl⟩
  have k0W6 : W6.cell? ⟨w6.heap.size, 0, none⟩ = some (.int .i64 cd) := by rw [hW6]; go_simp
  have k1W6 : W6.cell? ⟨w6.heap.size, 1, none⟩ = some (.slice a2 qs.length c2) := by rw [hW6]; go_simp
  have K0W6 := hide k0W6
  have K1W6 := hide k1W6
  have hzW6 : w6.heap.size < W6.heap.size := by rw [hW6]; simp
  have GW6 : Hid (Below w.heap.size w W6) := by rw [hW6]; exact (unhide G6).alloc (by omega) _
  have BW6 : Hid (Below w6.heap.size w6 W6) := by rw [hW6]; exact (Below.refl _ _).alloc (Nat.le_refl _) _
  rw [← hW6]
  clear hW6 G6 k0W6 k1W6
  refine (drawPathOf_any a n c _ ((unhide H).below (unhide GW6)) hn).mono ?_
  rintro r w7 ⟨⟨ad, cp, l, rfl, hat7, hlc, hl6, hls⟩, hb7⟩
  have hz7 : W6.heap.size ≤ w7.heap.size := hb7.size
  have G7 := hide (below_step (unhide GW6) hb7 (by omega))
  have B7 := hide hb7
  have A7 := hide hat7
  have HLS : Hid (∀ s ∈ l, s.size ≤ maxLen) := fun s hs => by have := hls s hs; unfold maxLen; omega
  have hll : l.length ≤ maxLen := by unfold maxLen; omega
  clear hb7 hat7 hls GW6
  obtain ⟨f, g, hpo⟩ := poVal_agg l
  have HPO := hide hpo
  clear hpo
  go_wp2_with fail
  refine (implPathOf_any ad cp l _ (unhide A7) (unhide HLS) hll hlc).mono ?_
  rintro r w8 ⟨rfl, hb8⟩
  rw [unhide HPO]
  have hz8 : w7.heap.size ≤ w8.heap.size := hb8.size
  have G8 := hide (below_step (unhide G7) hb8 (by omega))
  have B8 := hide hb8
  clear hb8 G7
  go_wp2_with fail
  obtain ⟨W0, hW0⟩ : ∃ W0, W0 = w8.alloc (.cells #[.int .i64 f, .string g] 30) := ⟨_, rfl⟩
  have k0W0 : W0.cell? ⟨w8.heap.size, 0, none⟩ = some (.int .i64 f) := by rw [hW0]; go_simp
  have k1W0 : W0.cell? ⟨w8.heap.size, 1, none⟩ = some (.string g) := by rw [hW0]; go_simp
  have K0W0 := hide k0W0
  have K1W0 := hide k1W0
  have hzW0 : w8.heap.size < W0.heap.size := by rw [hW0]; simp
  have GW0 : Hid (Below w.heap.size w W0) := by rw [hW0]; exact (unhide G8).alloc (by omega) _
  have BW0 : Hid (Below w8.heap.size w8 W0) := by rw [hW0]; exact (Below.refl _ _).alloc (Nat.le_refl _) _
  rw [← hW0]
  clear hW0 G8 k0W0 k1W0
  have R6 := below_step (below_step (unhide B7) (unhide B8) (by omega)) (unhide BW0) (by omega)
  have R4 := below_step (below_step (below_step (unhide B5) (unhide B6) (by omega)) (unhide BW6) (by omega)) R6 (by omega)
  have R3 := below_step (below_step (unhide B4) (unhide BW4) (by omega)) R4 (by omega)
  have d0 := ((bcell R3).1 _ 0 hzW3).trans (unhide K0W3)
  have d1 := ((bcell R3).1 _ 1 hzW3).trans (unhide K1W3)
  have d2 := ((bcell R4).1 _ 0 hzW4).trans (unhide K0W4)
  have d3 := ((bcell R4).1 _ 1 hzW4).trans (unhide K1W4)
  have d4 := ((bcell R6).1 _ 0 hzW6).trans (unhide K0W6)
  have d5 := ((bcell R6).1 _ 1 hzW6).trans (unhide K1W6)
  have d6 := unhide K0W0
  have d7 := unhide K1W0
  have A6' := hide ((unhide A6).below (below_step (unhide BW6) R6 (by omega)))
  have A7' := hide ((unhide A7).below (below_step (unhide B8) (unhide BW0) (by omega)))
  have m1 : w3.heap.size < W0.heap.size := by omega
  have m2 : w4.heap.size < W0.heap.size := by omega
  have m3 : w6.heap.size < W0.heap.size := by omega
  have mw : w.heap.size ≤ W0.heap.size := by omega
  clear R6 R4 R3 B4 B5 B6 B7 B8 BW4 BW6 BW0 K0W3 K1W3 K0W4 K1W4 K0W6 K1W6 K0W0 K1W0 A6 A7 hzW3 hzW4 hzW6 hz1 hz2 hz3 hz4 hz5 hz6 hz7 hz8
  generalize w3.heap.size = b1 at *
  generalize w4.heap.size = b2 at *
  generalize w6.heap.size = b3 at *
  generalize w8.heap.size = b4 at *
  have hD : (fun w' => Below W0.heap.size W0 w' ∧ w'.cell? ⟨b1, 0, none⟩ = some (.int .i64 x) ∧ w'.cell? ⟨b1, 1, none⟩ = some (.int .i64 y) ∧ w'.cell? ⟨b2, 0, none⟩ = some (.int .i64 z) ∧ w'.cell? ⟨b2, 1, none⟩ = some (.string t) ∧ w'.cell? ⟨b3, 0, none⟩ = some (.int .i64 cd) ∧ w'.cell? ⟨b3, 1, none⟩ = some (.slice a2 qs.length c2) ∧ w'.cell? ⟨b4, 0, none⟩ = some (.int .i64 f) ∧ w'.cell? ⟨b4, 1, none⟩ = some (.string g)) W0.drew := ⟨(Below.refl _ _).drew, d0, d1, d2, d3, d4, d5, d6, d7⟩
  have n0 := bool_neq_self (isNameL s1.data.toList)
  have n1 := int_neq_self cd
  have hfd : ∀ (w : World) (u : Value), (Instr.field 34 (.agg #[.int .i64 cd, u]) 0).run Tryd.prog w = .ok (.int .i64 cd) w := fun _ _ => by kernel_rfl
  clear d0 d1 d2 d3 d4 d5 d6 d7
  go_region_held3 (fun w' => Below W0.heap.size W0 w' ∧ w'.cell? ⟨b1, 0, none⟩ = some (.int .i64 x) ∧ w'.cell? ⟨b1, 1, none⟩ = some (.int .i64 y) ∧ w'.cell? ⟨b2, 0, none⟩ = some (.int .i64 z) ∧ w'.cell? ⟨b2, 1, none⟩ = some (.string t) ∧ w'.cell? ⟨b3, 0, none⟩ = some (.int .i64 cd) ∧ w'.cell? ⟨b3, 1, none⟩ = some (.slice a2 qs.length c2) ∧ w'.cell? ⟨b4, 0, none⟩ = some (.int .i64 f) ∧ w'.cell? ⟨b4, 1, none⟩ = some (.string g)) (first | exact hD | exact keepN m1 m2 m3 hzW0 (by assumption) (by assumption))
    (first
      | (go_at_call 13; refine (implIsName_bel _ _ hs1').mono ?_; rintro r w9 ⟨rfl, hb9⟩)
      | (go_at_call 14; refine (specIsName_bel _ _ hs1').mono ?_; rintro r w9 ⟨rfl, hb9⟩)
      | (go_at_call 15; refine (specNameWord_any _ _ hs1').mono ?_; rintro r w9 ⟨rfl, hb9⟩; rw [unhide HV])
      | (go_at_call 16; refine (specWordName_any _ _ (by omega) (by omega)).mono ?_; rintro r w9 ⟨rfl, hb9⟩; rw [unhide HWV])
      | (go_at_call 17; refine (specPathNames_any _ _ (by omega)).mono ?_; rintro r w9 ⟨⟨v9, p9, rfl, -, -⟩, hb9⟩; rw [unhide HCD])
      | (go_at_call 18; refine (specPathOf_any _ _ l _ ((unhide A7').below (And.left (by assumption))) (unhide HLS) hll).mono ?_; rintro r w9 ⟨rfl, hb9⟩; rw [unhide HPO]))
  have HXI' := hide (unhide HXI).symm
  have HXW' : Hid ((x == 0) = true → wnVal y = .agg #[.int .i64 0, .string s1]) := fun h => unhide HXW (by simpa using h)
  have HZW' : Hid ((z == 0) = true → nwVal t.data.toList = .agg #[.int .i64 0, .int .i64 v]) := fun h => unhide HZW (by simpa using h)
  have HPN' : Hid ((cd != 0) = false → poVal qs = .agg #[.int .i64 0, .string s2]) := fun h => unhide HPN (by simpa using h)
  have ht' : t.size ≤ maxLen := by unfold maxLen; omega
  clear HXI HXW HZW HPN hD n0 n1 hfd HV HWV HCD HPO A7'
  rename_i hS9
  rcases hbx : (x == 0) with _ | _ <;> rcases hbz : (z == 0) with _ | _
  all_goals
    have HBX := hide hbx
    have HBZ := hide hbz
    go_wp2_with fail
  · skip
    clear hbx hbz
    have hbx := unhide HBX
    rcases hbc : (cd != 0) with _ | _
    · go_region_held3 (fun w' => Below W0.heap.size W0 w' ∧ w'.cell? ⟨b1, 0, none⟩ = some (.int .i64 x) ∧ w'.cell? ⟨b1, 1, none⟩ = some (.int .i64 y) ∧ w'.cell? ⟨b2, 0, none⟩ = some (.int .i64 z) ∧ w'.cell? ⟨b2, 1, none⟩ = some (.string t) ∧ w'.cell? ⟨b3, 0, none⟩ = some (.int .i64 cd) ∧ w'.cell? ⟨b3, 1, none⟩ = some (.slice a2 qs.length c2) ∧ w'.cell? ⟨b4, 0, none⟩ = some (.int .i64 f) ∧ w'.cell? ⟨b4, 1, none⟩ = some (.string g)) (first | exact dropN (by assumption) | exact dropN (dropN (by assumption)) | exact keepN m1 m2 m3 hzW0 (by assumption) (by assumption))
        (first
          | (go_at_call 8; refine (implWordName_any _ _).mono ?_; rintro r w20 ⟨rfl, hb20⟩; rw [unhide HXW' (by assumption)])
          | (go_at_call 7; refine (implNameWord_any _ _ ht').mono ?_; rintro r w20 ⟨rfl, hb20⟩; rw [unhide HZW' (by assumption)])
          | (go_at_call 13; refine (implIsName_bel _ _ hs1').mono ?_; rintro r w20 ⟨rfl, hb20⟩; rw [unhide HXI', hbx])
          | (go_at_call 12; refine (implPathOf_any _ _ qs _ ((unhide A6').below (And.left (by assumption))) (unhide HQ6) hql hqc).mono ?_; rintro r w20 ⟨rfl, hb20⟩; rw [unhide HPN' (by assumption)]))
      clear hbc hbx
      go_wp2_with fail
      go_ret
      rename_i hSF
      exact ⟨rfl, (unhide GW0).trans (hSF.1.mono mw)⟩
    · skip
      refine wp_region_held_drew (S := (fun w' => Below W0.heap.size W0 w' ∧ w'.cell? ⟨b1, 0, none⟩ = some (.int .i64 x) ∧ w'.cell? ⟨b1, 1, none⟩ = some (.int .i64 y) ∧ w'.cell? ⟨b2, 0, none⟩ = some (.int .i64 z) ∧ w'.cell? ⟨b2, 1, none⟩ = some (.string t) ∧ w'.cell? ⟨b3, 0, none⟩ = some (.int .i64 cd) ∧ w'.cell? ⟨b3, 1, none⟩ = some (.slice a2 qs.length c2) ∧ w'.cell? ⟨b4, 0, none⟩ = some (.int .i64 f) ∧ w'.cell? ⟨b4, 1, none⟩ = some (.string g))) (by kernel_rfl) (dropN hS9) (fun hHeld => ?_)
      refine wpAnyH_take (i := 0) (oi := { dst := some 84, op := Op.fieldAddr 34 (Operand.tmp 8) 0, type := 0, pos := "laws.go:103", after := #[], guard := none }) (v := .pointer (some ⟨b3, 0, none⟩)) rfl (by kernel_rfl) (by kernel_rfl) (by kernel_rfl) (fun _ _ _ h => h) (Or.inl ⟨by rfl, ?_⟩) (by assumption) ?_
      · (intro w hSw; (try dsimp only at hSw); go_simp)
      try simp only [Act.put, List.setIfInBounds_toArray, List.set_cons_zero, List.set_cons_succ]
      refine wpAnyH_take (i := 1) (oi := { dst := some 85, op := Op.load 2 (Operand.tmp 84), type := 2, pos := "laws.go:103", after := #[{ on := 0, ground := Ground.data }], guard := none }) (v := .int .i64 cd) rfl (by kernel_rfl) (by kernel_rfl) (by kernel_rfl) (fun _ _ _ h => h) (Or.inl ⟨by rfl, ?_⟩) (by assumption) ?_
      · (intro w hSw; (try dsimp only at hSw); go_simp)
      try simp only [Act.put, List.setIfInBounds_toArray, List.set_cons_zero, List.set_cons_succ]
      refine wpAnyH_take (i := 2) (oi := { dst := some 86, op := Op.binOp BinOp.neq 2 (Operand.tmp 85) (Operand.const (Value.int IntKind.i64 0)) 2, type := 4, pos := "laws.go:103", after := #[{ on := 1, ground := Ground.data }], guard := none }) (v := .bool true) rfl (by kernel_rfl) (by kernel_rfl) (by kernel_rfl) (fun _ _ _ h => h) (Or.inl ⟨by rfl, ?_⟩) (by assumption) ?_
      · (intro w hSw; (try dsimp only at hSw); go_simp)
      try simp only [Act.put, List.setIfInBounds_toArray, List.set_cons_zero, List.set_cons_succ]
      refine wpAnyH_take (i := 3) (oi := { dst := some 87, op := Op.move (Operand.tmp 86), type := 4, pos := "laws.go:103", after := #[{ on := 2, ground := Ground.data }], guard := none }) (v := .bool true) rfl (by kernel_rfl) (by kernel_rfl) (by kernel_rfl) (fun _ _ _ h => h) (Or.inl ⟨by rfl, ?_⟩) (by assumption) ?_
      · (intro w hSw; (try dsimp only at hSw); go_simp)
      try simp only [Act.put, List.setIfInBounds_toArray, List.set_cons_zero, List.set_cons_succ]
      refine wpAnyH_take (i := 4) (oi := { dst := some 88, op := Op.fieldAddr 34 (Operand.tmp 8) 1, type := 0, pos := "laws.go:103", after := #[{ on := 3, ground := Ground.guard }], guard := some (3, false) }) (v := undef) rfl (by kernel_rfl) (by kernel_rfl) (by kernel_rfl) (fun _ _ _ h => h) (Or.inr ⟨by rfl, rfl⟩) (by assumption) ?_
      try simp only [Act.put, List.setIfInBounds_toArray, List.set_cons_zero, List.set_cons_succ]
      refine wpAnyH_take (i := 5) (oi := { dst := some 89, op := Op.load 32 (Operand.tmp 88), type := 32, pos := "laws.go:103", after := #[{ on := 4, ground := Ground.data }, { on := 3, ground := Ground.guard }], guard := some (3, false) }) (v := undef) rfl (by kernel_rfl) (by kernel_rfl) (by kernel_rfl) (fun _ _ _ h => h) (Or.inr ⟨by rfl, rfl⟩) (by assumption) ?_
      try simp only [Act.put, List.setIfInBounds_toArray, List.set_cons_zero, List.set_cons_succ]
      refine wpAnyH_take (i := 7) (oi := { dst := some 91, op := Op.move (Operand.tmp 7), type := 9, pos := "laws.go:103", after := #[{ on := 3, ground := Ground.guard }], guard := some (3, false) }) (v := undef) rfl (by kernel_rfl) (by kernel_rfl) (by kernel_rfl) (fun _ _ _ h => h) (Or.inr ⟨by rfl, rfl⟩) (by assumption) ?_
      try simp only [Act.put, List.setIfInBounds_toArray, List.set_cons_zero, List.set_cons_succ]
      refine wpAnyH_take (i := 8) (oi := { dst := some 92, op := Op.build 30 #[(1, Operand.tmp 91)], type := 30, pos := "laws.go:103", after := #[{ on := 7, ground := Ground.data }, { on := 3, ground := Ground.guard }], guard := some (3, false) }) (v := undef) rfl (by kernel_rfl) (by kernel_rfl) (by kernel_rfl) (fun _ _ _ h => h) (Or.inr ⟨by rfl, rfl⟩) (by assumption) ?_
      try simp only [Act.put, List.setIfInBounds_toArray, List.set_cons_zero, List.set_cons_succ]
      refine wpAnyH_ready (rs := [6]) (by kernel_rfl) (by simp) ?_
      refine AllReadyH.cons (o := { dst := some 90, op := Op.call { callee := Callee.value (Operand.func 12), args := #[Operand.tmp 89], argTypes := #[32] }, type := 30, pos := "laws.go:103", after := #[{ on := 5, ground := Ground.data }, { on := 3, ground := Ground.chain }, { on := 3, ground := Ground.guard }], guard := some (3, false) }) rfl (fun K hK => ?_) AllReadyH.nil
      rw [if_neg (by exact Bool.false_ne_true)]
      refine hK.out _ _ (by assumption) (fun hHeld2 => ?_)
      clear hK K
      try simp only [Act.put, List.setIfInBounds_toArray, List.set_cons_zero, List.set_cons_succ]
      refine wpAnyH_take (i := 9) (oi := { dst := some 93, op := Op.binOp BinOp.eql 30 (Operand.tmp 90) (Operand.tmp 92) 30, type := 4, pos := "laws.go:103", after := #[{ on := 6, ground := Ground.data }, { on := 8, ground := Ground.data }, { on := 3, ground := Ground.guard }], guard := some (3, false) }) (v := undef) rfl (by kernel_rfl) (by kernel_rfl) (by kernel_rfl) (fun _ _ _ h => h) (Or.inr ⟨by rfl, rfl⟩) (by assumption) ?_
      try simp only [Act.put, List.setIfInBounds_toArray, List.set_cons_zero, List.set_cons_succ]
      refine wpAnyH_take (i := 10) (oi := { dst := some 94, op := Op.pick (Operand.tmp 87) (Operand.const (Value.bool true)) (Operand.tmp 93), type := 4, pos := "laws.go:103", after := #[{ on := 3, ground := Ground.data }, { on := 9, ground := Ground.data }], guard := none }) (v := .bool true) rfl (by kernel_rfl) (by kernel_rfl) (by kernel_rfl) (fun _ _ _ h => h) (Or.inl ⟨by rfl, ?_⟩) (by assumption) ?_
      · (intro w hSw; (try dsimp only at hSw); go_simp)
      try simp only [Act.put, List.setIfInBounds_toArray, List.set_cons_zero, List.set_cons_succ]
      refine wpAnyH_take (i := 11) (oi := { dst := some 95, op := Op.move (Operand.tmp 94), type := 4, pos := "laws.go:103", after := #[{ on := 10, ground := Ground.data }, { on := 6, ground := Ground.chain }], guard := none }) (v := .bool true) rfl (by kernel_rfl) (by kernel_rfl) (by kernel_rfl) (fun _ _ _ h => h) (Or.inl ⟨by rfl, ?_⟩) (by assumption) ?_
      · (intro w hSw; (try dsimp only at hSw); go_simp)
      try simp only [Act.put, List.setIfInBounds_toArray, List.set_cons_zero, List.set_cons_succ]
      refine wpAnyH_take (i := 12) (oi := { dst := some 96, op := Op.fieldAddr 27 (Operand.tmp 5) 0, type := 0, pos := "laws.go:103", after := #[{ on := 11, ground := Ground.guard }], guard := some (11, true) }) (v := .pointer (some ⟨b1, 0, none⟩)) rfl (by kernel_rfl) (by kernel_rfl) (by kernel_rfl) (fun _ _ _ h => h) (Or.inl ⟨by rfl, ?_⟩) (by assumption) ?_
      · (intro w hSw; (try dsimp only at hSw); go_simp)
      try simp only [Act.put, List.setIfInBounds_toArray, List.set_cons_zero, List.set_cons_succ]
      refine wpAnyH_take (i := 13) (oi := { dst := some 97, op := Op.load 2 (Operand.tmp 96), type := 2, pos := "laws.go:103", after := #[{ on := 12, ground := Ground.data }, { on := 11, ground := Ground.guard }], guard := some (11, true) }) (v := .int .i64 x) rfl (by kernel_rfl) (by kernel_rfl) (by kernel_rfl) (fun _ _ _ h => h) (Or.inl ⟨by rfl, ?_⟩) (by assumption) ?_
      · (intro w hSw; (try dsimp only at hSw); go_simp)
      try simp only [Act.put, List.setIfInBounds_toArray, List.set_cons_zero, List.set_cons_succ]
      refine wpAnyH_take (i := 14) (oi := { dst := some 98, op := Op.binOp BinOp.eql 2 (Operand.tmp 97) (Operand.const (Value.int IntKind.i64 0)) 2, type := 4, pos := "laws.go:103", after := #[{ on := 13, ground := Ground.data }, { on := 11, ground := Ground.guard }], guard := some (11, true) }) (v := .bool false) rfl (by kernel_rfl) (by kernel_rfl) (by kernel_rfl) (fun _ _ _ h => h) (Or.inl ⟨by rfl, ?_⟩) (by assumption) ?_
      · (intro w hSw; (try dsimp only at hSw); go_simp)
      try simp only [Act.put, List.setIfInBounds_toArray, List.set_cons_zero, List.set_cons_succ]
      refine wpAnyH_take (i := 15) (oi := { dst := some 99, op := Op.move (Operand.tmp 3), type := 9, pos := "laws.go:103", after := #[{ on := 11, ground := Ground.guard }], guard := some (11, true) }) (v := .string s1) rfl (by kernel_rfl) (by kernel_rfl) (by kernel_rfl) (fun _ _ _ h => h) (Or.inl ⟨by rfl, ?_⟩) (by assumption) ?_
      · (intro w hSw; (try dsimp only at hSw); go_simp)
      try simp only [Act.put, List.setIfInBounds_toArray, List.set_cons_zero, List.set_cons_succ]
      refine wpAnyH_ready (rs := [16]) (by kernel_rfl) (by simp) ?_
      refine AllReadyH.cons (o := { dst := some 100, op := Op.call { callee := Callee.value (Operand.func 13), args := #[Operand.tmp 99], argTypes := #[9] }, type := 4, pos := "laws.go:103", after := #[{ on := 15, ground := Ground.data }, { on := 11, ground := Ground.chain }, { on := 11, ground := Ground.guard }], guard := some (11, true) }) rfl (fun K hK => ?_) AllReadyH.nil
      go_simp
      refine (implIsName_bel _ _ hs1').mono ?_
      rintro r w20 ⟨rfl, hb20⟩
      rw [unhide HXI', unhide HBX]
      refine hK.out _ _ (keepN m1 m2 m3 hzW0 (by assumption) hb20) (fun hHeld3 => ?_)
      clear hK K
      try simp only [Act.put, List.setIfInBounds_toArray, List.set_cons_zero, List.set_cons_succ]
      refine wpAnyH_take (i := 17) (oi := { dst := some 101, op := Op.binOp BinOp.eql 4 (Operand.tmp 98) (Operand.tmp 100) 4, type := 4, pos := "laws.go:103", after := #[{ on := 14, ground := Ground.data }, { on := 16, ground := Ground.data }, { on := 11, ground := Ground.guard }], guard := some (11, true) }) (v := .bool true) rfl (by kernel_rfl) (by kernel_rfl) (by kernel_rfl) (fun _ _ _ h => h) (Or.inl ⟨by rfl, ?_⟩) (by assumption) ?_
      · (intro w hSw; (try dsimp only at hSw); go_simp)
      try simp only [Act.put, List.setIfInBounds_toArray, List.set_cons_zero, List.set_cons_succ]
      refine wpAnyH_take (i := 18) (oi := { dst := some 102, op := Op.pick (Operand.tmp 95) (Operand.tmp 101) (Operand.const (Value.bool false)), type := 4, pos := "laws.go:103", after := #[{ on := 11, ground := Ground.data }, { on := 17, ground := Ground.data }], guard := none }) (v := .bool true) rfl (by kernel_rfl) (by kernel_rfl) (by kernel_rfl) (fun _ _ _ h => h) (Or.inl ⟨by rfl, ?_⟩) (by assumption) ?_
      · (intro w hSw; (try dsimp only at hSw); go_simp)
      try simp only [Act.put, List.setIfInBounds_toArray, List.set_cons_zero, List.set_cons_succ]
      refine wpAnyH_take (i := 19) (oi := { dst := some 2, op := Op.assign (Operand.tmp 102), type := 4, pos := "laws.go:103", after := #[{ on := 18, ground := Ground.data }, { on := 16, ground := Ground.chain }, { on := 0, ground := Ground.phase }, { on := 1, ground := Ground.phase }, { on := 2, ground := Ground.phase }, { on := 3, ground := Ground.phase }, { on := 4, ground := Ground.phase }, { on := 5, ground := Ground.phase }, { on := 6, ground := Ground.phase }, { on := 7, ground := Ground.phase }, { on := 8, ground := Ground.phase }, { on := 9, ground := Ground.phase }, { on := 10, ground := Ground.phase }, { on := 11, ground := Ground.phase }, { on := 12, ground := Ground.phase }, { on := 13, ground := Ground.phase }, { on := 14, ground := Ground.phase }, { on := 15, ground := Ground.phase }, { on := 16, ground := Ground.phase }, { on := 17, ground := Ground.phase }, { on := 18, ground := Ground.phase }], guard := none }) (v := .bool true) rfl (by kernel_rfl) (by kernel_rfl) (by kernel_rfl) (fun _ _ _ h => h) (Or.inl ⟨by rfl, ?_⟩) (by assumption) ?_
      · (intro w hSw; (try dsimp only at hSw); go_simp)
      try simp only [Act.put, List.setIfInBounds_toArray, List.set_cons_zero, List.set_cons_succ]
      refine wpAnyH_done (by kernel_rfl) ?_ _
      go_wp2_with fail
      go_ret
      exact ⟨rfl, (unhide GW0).trans (hHeld3.1.mono mw)⟩
  · skip
    refine (implNameWord_any _ _ ht').mono ?_
    rintro r w10 ⟨rfl, hbw10⟩
    rw [unhide HZW' (unhide HBZ)]
    have hSw10 := keepN m1 m2 m3 hzW0 hS9 hbw10
    clear hbw10
    go_wp2_with fail
    clear hbx hbz
    have hbx := unhide HBX
    rcases hbc : (cd != 0) with _ | _
    · go_region_held3 (fun w' => Below W0.heap.size W0 w' ∧ w'.cell? ⟨b1, 0, none⟩ = some (.int .i64 x) ∧ w'.cell? ⟨b1, 1, none⟩ = some (.int .i64 y) ∧ w'.cell? ⟨b2, 0, none⟩ = some (.int .i64 z) ∧ w'.cell? ⟨b2, 1, none⟩ = some (.string t) ∧ w'.cell? ⟨b3, 0, none⟩ = some (.int .i64 cd) ∧ w'.cell? ⟨b3, 1, none⟩ = some (.slice a2 qs.length c2) ∧ w'.cell? ⟨b4, 0, none⟩ = some (.int .i64 f) ∧ w'.cell? ⟨b4, 1, none⟩ = some (.string g)) (first | exact dropN (by assumption) | exact dropN (dropN (by assumption)) | exact keepN m1 m2 m3 hzW0 (by assumption) (by assumption))
        (first
          | (go_at_call 8; refine (implWordName_any _ _).mono ?_; rintro r w20 ⟨rfl, hb20⟩; rw [unhide HXW' (by assumption)])
          | (go_at_call 7; refine (implNameWord_any _ _ ht').mono ?_; rintro r w20 ⟨rfl, hb20⟩; rw [unhide HZW' (by assumption)])
          | (go_at_call 13; refine (implIsName_bel _ _ hs1').mono ?_; rintro r w20 ⟨rfl, hb20⟩; rw [unhide HXI', hbx])
          | (go_at_call 12; refine (implPathOf_any _ _ qs _ ((unhide A6').below (And.left (by assumption))) (unhide HQ6) hql hqc).mono ?_; rintro r w20 ⟨rfl, hb20⟩; rw [unhide HPN' (by assumption)]))
      clear hbc hbx
      go_wp2_with fail
      go_ret
      rename_i hSF
      exact ⟨rfl, (unhide GW0).trans (hSF.1.mono mw)⟩
    · skip
      refine wp_region_held_drew (S := (fun w' => Below W0.heap.size W0 w' ∧ w'.cell? ⟨b1, 0, none⟩ = some (.int .i64 x) ∧ w'.cell? ⟨b1, 1, none⟩ = some (.int .i64 y) ∧ w'.cell? ⟨b2, 0, none⟩ = some (.int .i64 z) ∧ w'.cell? ⟨b2, 1, none⟩ = some (.string t) ∧ w'.cell? ⟨b3, 0, none⟩ = some (.int .i64 cd) ∧ w'.cell? ⟨b3, 1, none⟩ = some (.slice a2 qs.length c2) ∧ w'.cell? ⟨b4, 0, none⟩ = some (.int .i64 f) ∧ w'.cell? ⟨b4, 1, none⟩ = some (.string g))) (by kernel_rfl) (dropN hSw10) (fun hHeld => ?_)
      refine wpAnyH_take (i := 0) (oi := { dst := some 84, op := Op.fieldAddr 34 (Operand.tmp 8) 0, type := 0, pos := "laws.go:103", after := #[], guard := none }) (v := .pointer (some ⟨b3, 0, none⟩)) rfl (by kernel_rfl) (by kernel_rfl) (by kernel_rfl) (fun _ _ _ h => h) (Or.inl ⟨by rfl, ?_⟩) (by assumption) ?_
      · (intro w hSw; (try dsimp only at hSw); go_simp)
      try simp only [Act.put, List.setIfInBounds_toArray, List.set_cons_zero, List.set_cons_succ]
      refine wpAnyH_take (i := 1) (oi := { dst := some 85, op := Op.load 2 (Operand.tmp 84), type := 2, pos := "laws.go:103", after := #[{ on := 0, ground := Ground.data }], guard := none }) (v := .int .i64 cd) rfl (by kernel_rfl) (by kernel_rfl) (by kernel_rfl) (fun _ _ _ h => h) (Or.inl ⟨by rfl, ?_⟩) (by assumption) ?_
      · (intro w hSw; (try dsimp only at hSw); go_simp)
      try simp only [Act.put, List.setIfInBounds_toArray, List.set_cons_zero, List.set_cons_succ]
      refine wpAnyH_take (i := 2) (oi := { dst := some 86, op := Op.binOp BinOp.neq 2 (Operand.tmp 85) (Operand.const (Value.int IntKind.i64 0)) 2, type := 4, pos := "laws.go:103", after := #[{ on := 1, ground := Ground.data }], guard := none }) (v := .bool true) rfl (by kernel_rfl) (by kernel_rfl) (by kernel_rfl) (fun _ _ _ h => h) (Or.inl ⟨by rfl, ?_⟩) (by assumption) ?_
      · (intro w hSw; (try dsimp only at hSw); go_simp)
      try simp only [Act.put, List.setIfInBounds_toArray, List.set_cons_zero, List.set_cons_succ]
      refine wpAnyH_take (i := 3) (oi := { dst := some 87, op := Op.move (Operand.tmp 86), type := 4, pos := "laws.go:103", after := #[{ on := 2, ground := Ground.data }], guard := none }) (v := .bool true) rfl (by kernel_rfl) (by kernel_rfl) (by kernel_rfl) (fun _ _ _ h => h) (Or.inl ⟨by rfl, ?_⟩) (by assumption) ?_
      · (intro w hSw; (try dsimp only at hSw); go_simp)
      try simp only [Act.put, List.setIfInBounds_toArray, List.set_cons_zero, List.set_cons_succ]
      refine wpAnyH_take (i := 4) (oi := { dst := some 88, op := Op.fieldAddr 34 (Operand.tmp 8) 1, type := 0, pos := "laws.go:103", after := #[{ on := 3, ground := Ground.guard }], guard := some (3, false) }) (v := undef) rfl (by kernel_rfl) (by kernel_rfl) (by kernel_rfl) (fun _ _ _ h => h) (Or.inr ⟨by rfl, rfl⟩) (by assumption) ?_
      try simp only [Act.put, List.setIfInBounds_toArray, List.set_cons_zero, List.set_cons_succ]
      refine wpAnyH_take (i := 5) (oi := { dst := some 89, op := Op.load 32 (Operand.tmp 88), type := 32, pos := "laws.go:103", after := #[{ on := 4, ground := Ground.data }, { on := 3, ground := Ground.guard }], guard := some (3, false) }) (v := undef) rfl (by kernel_rfl) (by kernel_rfl) (by kernel_rfl) (fun _ _ _ h => h) (Or.inr ⟨by rfl, rfl⟩) (by assumption) ?_
      try simp only [Act.put, List.setIfInBounds_toArray, List.set_cons_zero, List.set_cons_succ]
      refine wpAnyH_take (i := 7) (oi := { dst := some 91, op := Op.move (Operand.tmp 7), type := 9, pos := "laws.go:103", after := #[{ on := 3, ground := Ground.guard }], guard := some (3, false) }) (v := undef) rfl (by kernel_rfl) (by kernel_rfl) (by kernel_rfl) (fun _ _ _ h => h) (Or.inr ⟨by rfl, rfl⟩) (by assumption) ?_
      try simp only [Act.put, List.setIfInBounds_toArray, List.set_cons_zero, List.set_cons_succ]
      refine wpAnyH_take (i := 8) (oi := { dst := some 92, op := Op.build 30 #[(1, Operand.tmp 91)], type := 30, pos := "laws.go:103", after := #[{ on := 7, ground := Ground.data }, { on := 3, ground := Ground.guard }], guard := some (3, false) }) (v := undef) rfl (by kernel_rfl) (by kernel_rfl) (by kernel_rfl) (fun _ _ _ h => h) (Or.inr ⟨by rfl, rfl⟩) (by assumption) ?_
      try simp only [Act.put, List.setIfInBounds_toArray, List.set_cons_zero, List.set_cons_succ]
      refine wpAnyH_ready (rs := [6]) (by kernel_rfl) (by simp) ?_
      refine AllReadyH.cons (o := { dst := some 90, op := Op.call { callee := Callee.value (Operand.func 12), args := #[Operand.tmp 89], argTypes := #[32] }, type := 30, pos := "laws.go:103", after := #[{ on := 5, ground := Ground.data }, { on := 3, ground := Ground.chain }, { on := 3, ground := Ground.guard }], guard := some (3, false) }) rfl (fun K hK => ?_) AllReadyH.nil
      rw [if_neg (by exact Bool.false_ne_true)]
      refine hK.out _ _ (by assumption) (fun hHeld2 => ?_)
      clear hK K
      try simp only [Act.put, List.setIfInBounds_toArray, List.set_cons_zero, List.set_cons_succ]
      refine wpAnyH_take (i := 9) (oi := { dst := some 93, op := Op.binOp BinOp.eql 30 (Operand.tmp 90) (Operand.tmp 92) 30, type := 4, pos := "laws.go:103", after := #[{ on := 6, ground := Ground.data }, { on := 8, ground := Ground.data }, { on := 3, ground := Ground.guard }], guard := some (3, false) }) (v := undef) rfl (by kernel_rfl) (by kernel_rfl) (by kernel_rfl) (fun _ _ _ h => h) (Or.inr ⟨by rfl, rfl⟩) (by assumption) ?_
      try simp only [Act.put, List.setIfInBounds_toArray, List.set_cons_zero, List.set_cons_succ]
      refine wpAnyH_take (i := 10) (oi := { dst := some 94, op := Op.pick (Operand.tmp 87) (Operand.const (Value.bool true)) (Operand.tmp 93), type := 4, pos := "laws.go:103", after := #[{ on := 3, ground := Ground.data }, { on := 9, ground := Ground.data }], guard := none }) (v := .bool true) rfl (by kernel_rfl) (by kernel_rfl) (by kernel_rfl) (fun _ _ _ h => h) (Or.inl ⟨by rfl, ?_⟩) (by assumption) ?_
      · (intro w hSw; (try dsimp only at hSw); go_simp)
      try simp only [Act.put, List.setIfInBounds_toArray, List.set_cons_zero, List.set_cons_succ]
      refine wpAnyH_take (i := 11) (oi := { dst := some 95, op := Op.move (Operand.tmp 94), type := 4, pos := "laws.go:103", after := #[{ on := 10, ground := Ground.data }, { on := 6, ground := Ground.chain }], guard := none }) (v := .bool true) rfl (by kernel_rfl) (by kernel_rfl) (by kernel_rfl) (fun _ _ _ h => h) (Or.inl ⟨by rfl, ?_⟩) (by assumption) ?_
      · (intro w hSw; (try dsimp only at hSw); go_simp)
      try simp only [Act.put, List.setIfInBounds_toArray, List.set_cons_zero, List.set_cons_succ]
      refine wpAnyH_take (i := 12) (oi := { dst := some 96, op := Op.fieldAddr 27 (Operand.tmp 5) 0, type := 0, pos := "laws.go:103", after := #[{ on := 11, ground := Ground.guard }], guard := some (11, true) }) (v := .pointer (some ⟨b1, 0, none⟩)) rfl (by kernel_rfl) (by kernel_rfl) (by kernel_rfl) (fun _ _ _ h => h) (Or.inl ⟨by rfl, ?_⟩) (by assumption) ?_
      · (intro w hSw; (try dsimp only at hSw); go_simp)
      try simp only [Act.put, List.setIfInBounds_toArray, List.set_cons_zero, List.set_cons_succ]
      refine wpAnyH_take (i := 13) (oi := { dst := some 97, op := Op.load 2 (Operand.tmp 96), type := 2, pos := "laws.go:103", after := #[{ on := 12, ground := Ground.data }, { on := 11, ground := Ground.guard }], guard := some (11, true) }) (v := .int .i64 x) rfl (by kernel_rfl) (by kernel_rfl) (by kernel_rfl) (fun _ _ _ h => h) (Or.inl ⟨by rfl, ?_⟩) (by assumption) ?_
      · (intro w hSw; (try dsimp only at hSw); go_simp)
      try simp only [Act.put, List.setIfInBounds_toArray, List.set_cons_zero, List.set_cons_succ]
      refine wpAnyH_take (i := 14) (oi := { dst := some 98, op := Op.binOp BinOp.eql 2 (Operand.tmp 97) (Operand.const (Value.int IntKind.i64 0)) 2, type := 4, pos := "laws.go:103", after := #[{ on := 13, ground := Ground.data }, { on := 11, ground := Ground.guard }], guard := some (11, true) }) (v := .bool false) rfl (by kernel_rfl) (by kernel_rfl) (by kernel_rfl) (fun _ _ _ h => h) (Or.inl ⟨by rfl, ?_⟩) (by assumption) ?_
      · (intro w hSw; (try dsimp only at hSw); go_simp)
      try simp only [Act.put, List.setIfInBounds_toArray, List.set_cons_zero, List.set_cons_succ]
      refine wpAnyH_take (i := 15) (oi := { dst := some 99, op := Op.move (Operand.tmp 3), type := 9, pos := "laws.go:103", after := #[{ on := 11, ground := Ground.guard }], guard := some (11, true) }) (v := .string s1) rfl (by kernel_rfl) (by kernel_rfl) (by kernel_rfl) (fun _ _ _ h => h) (Or.inl ⟨by rfl, ?_⟩) (by assumption) ?_
      · (intro w hSw; (try dsimp only at hSw); go_simp)
      try simp only [Act.put, List.setIfInBounds_toArray, List.set_cons_zero, List.set_cons_succ]
      refine wpAnyH_ready (rs := [16]) (by kernel_rfl) (by simp) ?_
      refine AllReadyH.cons (o := { dst := some 100, op := Op.call { callee := Callee.value (Operand.func 13), args := #[Operand.tmp 99], argTypes := #[9] }, type := 4, pos := "laws.go:103", after := #[{ on := 15, ground := Ground.data }, { on := 11, ground := Ground.chain }, { on := 11, ground := Ground.guard }], guard := some (11, true) }) rfl (fun K hK => ?_) AllReadyH.nil
      go_simp
      refine (implIsName_bel _ _ hs1').mono ?_
      rintro r w20 ⟨rfl, hb20⟩
      rw [unhide HXI', unhide HBX]
      refine hK.out _ _ (keepN m1 m2 m3 hzW0 (by assumption) hb20) (fun hHeld3 => ?_)
      clear hK K
      try simp only [Act.put, List.setIfInBounds_toArray, List.set_cons_zero, List.set_cons_succ]
      refine wpAnyH_take (i := 17) (oi := { dst := some 101, op := Op.binOp BinOp.eql 4 (Operand.tmp 98) (Operand.tmp 100) 4, type := 4, pos := "laws.go:103", after := #[{ on := 14, ground := Ground.data }, { on := 16, ground := Ground.data }, { on := 11, ground := Ground.guard }], guard := some (11, true) }) (v := .bool true) rfl (by kernel_rfl) (by kernel_rfl) (by kernel_rfl) (fun _ _ _ h => h) (Or.inl ⟨by rfl, ?_⟩) (by assumption) ?_
      · (intro w hSw; (try dsimp only at hSw); go_simp)
      try simp only [Act.put, List.setIfInBounds_toArray, List.set_cons_zero, List.set_cons_succ]
      refine wpAnyH_take (i := 18) (oi := { dst := some 102, op := Op.pick (Operand.tmp 95) (Operand.tmp 101) (Operand.const (Value.bool false)), type := 4, pos := "laws.go:103", after := #[{ on := 11, ground := Ground.data }, { on := 17, ground := Ground.data }], guard := none }) (v := .bool true) rfl (by kernel_rfl) (by kernel_rfl) (by kernel_rfl) (fun _ _ _ h => h) (Or.inl ⟨by rfl, ?_⟩) (by assumption) ?_
      · (intro w hSw; (try dsimp only at hSw); go_simp)
      try simp only [Act.put, List.setIfInBounds_toArray, List.set_cons_zero, List.set_cons_succ]
      refine wpAnyH_take (i := 19) (oi := { dst := some 2, op := Op.assign (Operand.tmp 102), type := 4, pos := "laws.go:103", after := #[{ on := 18, ground := Ground.data }, { on := 16, ground := Ground.chain }, { on := 0, ground := Ground.phase }, { on := 1, ground := Ground.phase }, { on := 2, ground := Ground.phase }, { on := 3, ground := Ground.phase }, { on := 4, ground := Ground.phase }, { on := 5, ground := Ground.phase }, { on := 6, ground := Ground.phase }, { on := 7, ground := Ground.phase }, { on := 8, ground := Ground.phase }, { on := 9, ground := Ground.phase }, { on := 10, ground := Ground.phase }, { on := 11, ground := Ground.phase }, { on := 12, ground := Ground.phase }, { on := 13, ground := Ground.phase }, { on := 14, ground := Ground.phase }, { on := 15, ground := Ground.phase }, { on := 16, ground := Ground.phase }, { on := 17, ground := Ground.phase }, { on := 18, ground := Ground.phase }], guard := none }) (v := .bool true) rfl (by kernel_rfl) (by kernel_rfl) (by kernel_rfl) (fun _ _ _ h => h) (Or.inl ⟨by rfl, ?_⟩) (by assumption) ?_
      · (intro w hSw; (try dsimp only at hSw); go_simp)
      try simp only [Act.put, List.setIfInBounds_toArray, List.set_cons_zero, List.set_cons_succ]
      refine wpAnyH_done (by kernel_rfl) ?_ _
      go_wp2_with fail
      go_ret
      exact ⟨rfl, (unhide GW0).trans (hHeld3.1.mono mw)⟩
  · skip
    refine (implWordName_any _ _).mono ?_
    rintro r w10 ⟨rfl, hbw10⟩
    rw [unhide HXW' (unhide HBX)]
    have hSw10 := keepN m1 m2 m3 hzW0 hS9 hbw10
    clear hbw10
    go_wp2_with fail
    clear hbx hbz
    have hbx := unhide HBX
    rcases hbc : (cd != 0) with _ | _
    · go_region_held3 (fun w' => Below W0.heap.size W0 w' ∧ w'.cell? ⟨b1, 0, none⟩ = some (.int .i64 x) ∧ w'.cell? ⟨b1, 1, none⟩ = some (.int .i64 y) ∧ w'.cell? ⟨b2, 0, none⟩ = some (.int .i64 z) ∧ w'.cell? ⟨b2, 1, none⟩ = some (.string t) ∧ w'.cell? ⟨b3, 0, none⟩ = some (.int .i64 cd) ∧ w'.cell? ⟨b3, 1, none⟩ = some (.slice a2 qs.length c2) ∧ w'.cell? ⟨b4, 0, none⟩ = some (.int .i64 f) ∧ w'.cell? ⟨b4, 1, none⟩ = some (.string g)) (first | exact dropN (by assumption) | exact dropN (dropN (by assumption)) | exact keepN m1 m2 m3 hzW0 (by assumption) (by assumption))
        (first
          | (go_at_call 8; refine (implWordName_any _ _).mono ?_; rintro r w20 ⟨rfl, hb20⟩; rw [unhide HXW' (by assumption)])
          | (go_at_call 7; refine (implNameWord_any _ _ ht').mono ?_; rintro r w20 ⟨rfl, hb20⟩; rw [unhide HZW' (by assumption)])
          | (go_at_call 13; refine (implIsName_bel _ _ hs1').mono ?_; rintro r w20 ⟨rfl, hb20⟩; rw [unhide HXI', hbx])
          | (go_at_call 12; refine (implPathOf_any _ _ qs _ ((unhide A6').below (And.left (by assumption))) (unhide HQ6) hql hqc).mono ?_; rintro r w20 ⟨rfl, hb20⟩; rw [unhide HPN' (by assumption)]))
      clear hbc hbx
      go_wp2_with fail
      go_ret
      rename_i hSF
      exact ⟨rfl, (unhide GW0).trans (hSF.1.mono mw)⟩
    · skip
      refine wp_region_held_drew (S := (fun w' => Below W0.heap.size W0 w' ∧ w'.cell? ⟨b1, 0, none⟩ = some (.int .i64 x) ∧ w'.cell? ⟨b1, 1, none⟩ = some (.int .i64 y) ∧ w'.cell? ⟨b2, 0, none⟩ = some (.int .i64 z) ∧ w'.cell? ⟨b2, 1, none⟩ = some (.string t) ∧ w'.cell? ⟨b3, 0, none⟩ = some (.int .i64 cd) ∧ w'.cell? ⟨b3, 1, none⟩ = some (.slice a2 qs.length c2) ∧ w'.cell? ⟨b4, 0, none⟩ = some (.int .i64 f) ∧ w'.cell? ⟨b4, 1, none⟩ = some (.string g))) (by kernel_rfl) (dropN hSw10) (fun hHeld => ?_)
      refine wpAnyH_take (i := 0) (oi := { dst := some 84, op := Op.fieldAddr 34 (Operand.tmp 8) 0, type := 0, pos := "laws.go:103", after := #[], guard := none }) (v := .pointer (some ⟨b3, 0, none⟩)) rfl (by kernel_rfl) (by kernel_rfl) (by kernel_rfl) (fun _ _ _ h => h) (Or.inl ⟨by rfl, ?_⟩) (by assumption) ?_
      · (intro w hSw; (try dsimp only at hSw); go_simp)
      try simp only [Act.put, List.setIfInBounds_toArray, List.set_cons_zero, List.set_cons_succ]
      refine wpAnyH_take (i := 1) (oi := { dst := some 85, op := Op.load 2 (Operand.tmp 84), type := 2, pos := "laws.go:103", after := #[{ on := 0, ground := Ground.data }], guard := none }) (v := .int .i64 cd) rfl (by kernel_rfl) (by kernel_rfl) (by kernel_rfl) (fun _ _ _ h => h) (Or.inl ⟨by rfl, ?_⟩) (by assumption) ?_
      · (intro w hSw; (try dsimp only at hSw); go_simp)
      try simp only [Act.put, List.setIfInBounds_toArray, List.set_cons_zero, List.set_cons_succ]
      refine wpAnyH_take (i := 2) (oi := { dst := some 86, op := Op.binOp BinOp.neq 2 (Operand.tmp 85) (Operand.const (Value.int IntKind.i64 0)) 2, type := 4, pos := "laws.go:103", after := #[{ on := 1, ground := Ground.data }], guard := none }) (v := .bool true) rfl (by kernel_rfl) (by kernel_rfl) (by kernel_rfl) (fun _ _ _ h => h) (Or.inl ⟨by rfl, ?_⟩) (by assumption) ?_
      · (intro w hSw; (try dsimp only at hSw); go_simp)
      try simp only [Act.put, List.setIfInBounds_toArray, List.set_cons_zero, List.set_cons_succ]
      refine wpAnyH_take (i := 3) (oi := { dst := some 87, op := Op.move (Operand.tmp 86), type := 4, pos := "laws.go:103", after := #[{ on := 2, ground := Ground.data }], guard := none }) (v := .bool true) rfl (by kernel_rfl) (by kernel_rfl) (by kernel_rfl) (fun _ _ _ h => h) (Or.inl ⟨by rfl, ?_⟩) (by assumption) ?_
      · (intro w hSw; (try dsimp only at hSw); go_simp)
      try simp only [Act.put, List.setIfInBounds_toArray, List.set_cons_zero, List.set_cons_succ]
      refine wpAnyH_take (i := 4) (oi := { dst := some 88, op := Op.fieldAddr 34 (Operand.tmp 8) 1, type := 0, pos := "laws.go:103", after := #[{ on := 3, ground := Ground.guard }], guard := some (3, false) }) (v := undef) rfl (by kernel_rfl) (by kernel_rfl) (by kernel_rfl) (fun _ _ _ h => h) (Or.inr ⟨by rfl, rfl⟩) (by assumption) ?_
      try simp only [Act.put, List.setIfInBounds_toArray, List.set_cons_zero, List.set_cons_succ]
      refine wpAnyH_take (i := 5) (oi := { dst := some 89, op := Op.load 32 (Operand.tmp 88), type := 32, pos := "laws.go:103", after := #[{ on := 4, ground := Ground.data }, { on := 3, ground := Ground.guard }], guard := some (3, false) }) (v := undef) rfl (by kernel_rfl) (by kernel_rfl) (by kernel_rfl) (fun _ _ _ h => h) (Or.inr ⟨by rfl, rfl⟩) (by assumption) ?_
      try simp only [Act.put, List.setIfInBounds_toArray, List.set_cons_zero, List.set_cons_succ]
      refine wpAnyH_take (i := 7) (oi := { dst := some 91, op := Op.move (Operand.tmp 7), type := 9, pos := "laws.go:103", after := #[{ on := 3, ground := Ground.guard }], guard := some (3, false) }) (v := undef) rfl (by kernel_rfl) (by kernel_rfl) (by kernel_rfl) (fun _ _ _ h => h) (Or.inr ⟨by rfl, rfl⟩) (by assumption) ?_
      try simp only [Act.put, List.setIfInBounds_toArray, List.set_cons_zero, List.set_cons_succ]
      refine wpAnyH_take (i := 8) (oi := { dst := some 92, op := Op.build 30 #[(1, Operand.tmp 91)], type := 30, pos := "laws.go:103", after := #[{ on := 7, ground := Ground.data }, { on := 3, ground := Ground.guard }], guard := some (3, false) }) (v := undef) rfl (by kernel_rfl) (by kernel_rfl) (by kernel_rfl) (fun _ _ _ h => h) (Or.inr ⟨by rfl, rfl⟩) (by assumption) ?_
      try simp only [Act.put, List.setIfInBounds_toArray, List.set_cons_zero, List.set_cons_succ]
      refine wpAnyH_ready (rs := [6]) (by kernel_rfl) (by simp) ?_
      refine AllReadyH.cons (o := { dst := some 90, op := Op.call { callee := Callee.value (Operand.func 12), args := #[Operand.tmp 89], argTypes := #[32] }, type := 30, pos := "laws.go:103", after := #[{ on := 5, ground := Ground.data }, { on := 3, ground := Ground.chain }, { on := 3, ground := Ground.guard }], guard := some (3, false) }) rfl (fun K hK => ?_) AllReadyH.nil
      rw [if_neg (by exact Bool.false_ne_true)]
      refine hK.out _ _ (by assumption) (fun hHeld2 => ?_)
      clear hK K
      try simp only [Act.put, List.setIfInBounds_toArray, List.set_cons_zero, List.set_cons_succ]
      refine wpAnyH_take (i := 9) (oi := { dst := some 93, op := Op.binOp BinOp.eql 30 (Operand.tmp 90) (Operand.tmp 92) 30, type := 4, pos := "laws.go:103", after := #[{ on := 6, ground := Ground.data }, { on := 8, ground := Ground.data }, { on := 3, ground := Ground.guard }], guard := some (3, false) }) (v := undef) rfl (by kernel_rfl) (by kernel_rfl) (by kernel_rfl) (fun _ _ _ h => h) (Or.inr ⟨by rfl, rfl⟩) (by assumption) ?_
      try simp only [Act.put, List.setIfInBounds_toArray, List.set_cons_zero, List.set_cons_succ]
      refine wpAnyH_take (i := 10) (oi := { dst := some 94, op := Op.pick (Operand.tmp 87) (Operand.const (Value.bool true)) (Operand.tmp 93), type := 4, pos := "laws.go:103", after := #[{ on := 3, ground := Ground.data }, { on := 9, ground := Ground.data }], guard := none }) (v := .bool true) rfl (by kernel_rfl) (by kernel_rfl) (by kernel_rfl) (fun _ _ _ h => h) (Or.inl ⟨by rfl, ?_⟩) (by assumption) ?_
      · (intro w hSw; (try dsimp only at hSw); go_simp)
      try simp only [Act.put, List.setIfInBounds_toArray, List.set_cons_zero, List.set_cons_succ]
      refine wpAnyH_take (i := 11) (oi := { dst := some 95, op := Op.move (Operand.tmp 94), type := 4, pos := "laws.go:103", after := #[{ on := 10, ground := Ground.data }, { on := 6, ground := Ground.chain }], guard := none }) (v := .bool true) rfl (by kernel_rfl) (by kernel_rfl) (by kernel_rfl) (fun _ _ _ h => h) (Or.inl ⟨by rfl, ?_⟩) (by assumption) ?_
      · (intro w hSw; (try dsimp only at hSw); go_simp)
      try simp only [Act.put, List.setIfInBounds_toArray, List.set_cons_zero, List.set_cons_succ]
      refine wpAnyH_take (i := 12) (oi := { dst := some 96, op := Op.fieldAddr 27 (Operand.tmp 5) 0, type := 0, pos := "laws.go:103", after := #[{ on := 11, ground := Ground.guard }], guard := some (11, true) }) (v := .pointer (some ⟨b1, 0, none⟩)) rfl (by kernel_rfl) (by kernel_rfl) (by kernel_rfl) (fun _ _ _ h => h) (Or.inl ⟨by rfl, ?_⟩) (by assumption) ?_
      · (intro w hSw; (try dsimp only at hSw); go_simp)
      try simp only [Act.put, List.setIfInBounds_toArray, List.set_cons_zero, List.set_cons_succ]
      refine wpAnyH_take (i := 13) (oi := { dst := some 97, op := Op.load 2 (Operand.tmp 96), type := 2, pos := "laws.go:103", after := #[{ on := 12, ground := Ground.data }, { on := 11, ground := Ground.guard }], guard := some (11, true) }) (v := .int .i64 x) rfl (by kernel_rfl) (by kernel_rfl) (by kernel_rfl) (fun _ _ _ h => h) (Or.inl ⟨by rfl, ?_⟩) (by assumption) ?_
      · (intro w hSw; (try dsimp only at hSw); go_simp)
      try simp only [Act.put, List.setIfInBounds_toArray, List.set_cons_zero, List.set_cons_succ]
      refine wpAnyH_take (i := 14) (oi := { dst := some 98, op := Op.binOp BinOp.eql 2 (Operand.tmp 97) (Operand.const (Value.int IntKind.i64 0)) 2, type := 4, pos := "laws.go:103", after := #[{ on := 13, ground := Ground.data }, { on := 11, ground := Ground.guard }], guard := some (11, true) }) (v := .bool true) rfl (by kernel_rfl) (by kernel_rfl) (by kernel_rfl) (fun _ _ _ h => h) (Or.inl ⟨by rfl, ?_⟩) (by assumption) ?_
      · (intro w hSw; (try dsimp only at hSw); go_simp)
      try simp only [Act.put, List.setIfInBounds_toArray, List.set_cons_zero, List.set_cons_succ]
      refine wpAnyH_take (i := 15) (oi := { dst := some 99, op := Op.move (Operand.tmp 3), type := 9, pos := "laws.go:103", after := #[{ on := 11, ground := Ground.guard }], guard := some (11, true) }) (v := .string s1) rfl (by kernel_rfl) (by kernel_rfl) (by kernel_rfl) (fun _ _ _ h => h) (Or.inl ⟨by rfl, ?_⟩) (by assumption) ?_
      · (intro w hSw; (try dsimp only at hSw); go_simp)
      try simp only [Act.put, List.setIfInBounds_toArray, List.set_cons_zero, List.set_cons_succ]
      refine wpAnyH_ready (rs := [16]) (by kernel_rfl) (by simp) ?_
      refine AllReadyH.cons (o := { dst := some 100, op := Op.call { callee := Callee.value (Operand.func 13), args := #[Operand.tmp 99], argTypes := #[9] }, type := 4, pos := "laws.go:103", after := #[{ on := 15, ground := Ground.data }, { on := 11, ground := Ground.chain }, { on := 11, ground := Ground.guard }], guard := some (11, true) }) rfl (fun K hK => ?_) AllReadyH.nil
      go_simp
      refine (implIsName_bel _ _ hs1').mono ?_
      rintro r w20 ⟨rfl, hb20⟩
      rw [unhide HXI', unhide HBX]
      refine hK.out _ _ (keepN m1 m2 m3 hzW0 (by assumption) hb20) (fun hHeld3 => ?_)
      clear hK K
      try simp only [Act.put, List.setIfInBounds_toArray, List.set_cons_zero, List.set_cons_succ]
      refine wpAnyH_take (i := 17) (oi := { dst := some 101, op := Op.binOp BinOp.eql 4 (Operand.tmp 98) (Operand.tmp 100) 4, type := 4, pos := "laws.go:103", after := #[{ on := 14, ground := Ground.data }, { on := 16, ground := Ground.data }, { on := 11, ground := Ground.guard }], guard := some (11, true) }) (v := .bool true) rfl (by kernel_rfl) (by kernel_rfl) (by kernel_rfl) (fun _ _ _ h => h) (Or.inl ⟨by rfl, ?_⟩) (by assumption) ?_
      · (intro w hSw; (try dsimp only at hSw); go_simp)
      try simp only [Act.put, List.setIfInBounds_toArray, List.set_cons_zero, List.set_cons_succ]
      refine wpAnyH_take (i := 18) (oi := { dst := some 102, op := Op.pick (Operand.tmp 95) (Operand.tmp 101) (Operand.const (Value.bool false)), type := 4, pos := "laws.go:103", after := #[{ on := 11, ground := Ground.data }, { on := 17, ground := Ground.data }], guard := none }) (v := .bool true) rfl (by kernel_rfl) (by kernel_rfl) (by kernel_rfl) (fun _ _ _ h => h) (Or.inl ⟨by rfl, ?_⟩) (by assumption) ?_
      · (intro w hSw; (try dsimp only at hSw); go_simp)
      try simp only [Act.put, List.setIfInBounds_toArray, List.set_cons_zero, List.set_cons_succ]
      refine wpAnyH_take (i := 19) (oi := { dst := some 2, op := Op.assign (Operand.tmp 102), type := 4, pos := "laws.go:103", after := #[{ on := 18, ground := Ground.data }, { on := 16, ground := Ground.chain }, { on := 0, ground := Ground.phase }, { on := 1, ground := Ground.phase }, { on := 2, ground := Ground.phase }, { on := 3, ground := Ground.phase }, { on := 4, ground := Ground.phase }, { on := 5, ground := Ground.phase }, { on := 6, ground := Ground.phase }, { on := 7, ground := Ground.phase }, { on := 8, ground := Ground.phase }, { on := 9, ground := Ground.phase }, { on := 10, ground := Ground.phase }, { on := 11, ground := Ground.phase }, { on := 12, ground := Ground.phase }, { on := 13, ground := Ground.phase }, { on := 14, ground := Ground.phase }, { on := 15, ground := Ground.phase }, { on := 16, ground := Ground.phase }, { on := 17, ground := Ground.phase }, { on := 18, ground := Ground.phase }], guard := none }) (v := .bool true) rfl (by kernel_rfl) (by kernel_rfl) (by kernel_rfl) (fun _ _ _ h => h) (Or.inl ⟨by rfl, ?_⟩) (by assumption) ?_
      · (intro w hSw; (try dsimp only at hSw); go_simp)
      try simp only [Act.put, List.setIfInBounds_toArray, List.set_cons_zero, List.set_cons_succ]
      refine wpAnyH_done (by kernel_rfl) ?_ _
      go_wp2_with fail
      go_ret
      exact ⟨rfl, (unhide GW0).trans (hHeld3.1.mono mw)⟩
  · skip
    refine (implWordName_any _ _).mono ?_
    rintro r w10 ⟨rfl, hbw10⟩
    rw [unhide HXW' (unhide HBX)]
    have hSw10 := keepN m1 m2 m3 hzW0 hS9 hbw10
    clear hbw10
    go_wp2_with fail
    refine (implNameWord_any _ _ ht').mono ?_
    rintro r w11 ⟨rfl, hbw11⟩
    rw [unhide HZW' (unhide HBZ)]
    have hSw11 := keepN m1 m2 m3 hzW0 hSw10 hbw11
    clear hbw11
    go_wp2_with fail
    clear hbx hbz
    have hbx := unhide HBX
    rcases hbc : (cd != 0) with _ | _
    · go_region_held3 (fun w' => Below W0.heap.size W0 w' ∧ w'.cell? ⟨b1, 0, none⟩ = some (.int .i64 x) ∧ w'.cell? ⟨b1, 1, none⟩ = some (.int .i64 y) ∧ w'.cell? ⟨b2, 0, none⟩ = some (.int .i64 z) ∧ w'.cell? ⟨b2, 1, none⟩ = some (.string t) ∧ w'.cell? ⟨b3, 0, none⟩ = some (.int .i64 cd) ∧ w'.cell? ⟨b3, 1, none⟩ = some (.slice a2 qs.length c2) ∧ w'.cell? ⟨b4, 0, none⟩ = some (.int .i64 f) ∧ w'.cell? ⟨b4, 1, none⟩ = some (.string g)) (first | exact dropN (by assumption) | exact dropN (dropN (by assumption)) | exact keepN m1 m2 m3 hzW0 (by assumption) (by assumption))
        (first
          | (go_at_call 8; refine (implWordName_any _ _).mono ?_; rintro r w20 ⟨rfl, hb20⟩; rw [unhide HXW' (by assumption)])
          | (go_at_call 7; refine (implNameWord_any _ _ ht').mono ?_; rintro r w20 ⟨rfl, hb20⟩; rw [unhide HZW' (by assumption)])
          | (go_at_call 13; refine (implIsName_bel _ _ hs1').mono ?_; rintro r w20 ⟨rfl, hb20⟩; rw [unhide HXI', hbx])
          | (go_at_call 12; refine (implPathOf_any _ _ qs _ ((unhide A6').below (And.left (by assumption))) (unhide HQ6) hql hqc).mono ?_; rintro r w20 ⟨rfl, hb20⟩; rw [unhide HPN' (by assumption)]))
      clear hbc hbx
      go_wp2_with fail
      go_ret
      rename_i hSF
      exact ⟨rfl, (unhide GW0).trans (hSF.1.mono mw)⟩
    · skip
      refine wp_region_held_drew (S := (fun w' => Below W0.heap.size W0 w' ∧ w'.cell? ⟨b1, 0, none⟩ = some (.int .i64 x) ∧ w'.cell? ⟨b1, 1, none⟩ = some (.int .i64 y) ∧ w'.cell? ⟨b2, 0, none⟩ = some (.int .i64 z) ∧ w'.cell? ⟨b2, 1, none⟩ = some (.string t) ∧ w'.cell? ⟨b3, 0, none⟩ = some (.int .i64 cd) ∧ w'.cell? ⟨b3, 1, none⟩ = some (.slice a2 qs.length c2) ∧ w'.cell? ⟨b4, 0, none⟩ = some (.int .i64 f) ∧ w'.cell? ⟨b4, 1, none⟩ = some (.string g))) (by kernel_rfl) (dropN hSw11) (fun hHeld => ?_)
      refine wpAnyH_take (i := 0) (oi := { dst := some 84, op := Op.fieldAddr 34 (Operand.tmp 8) 0, type := 0, pos := "laws.go:103", after := #[], guard := none }) (v := .pointer (some ⟨b3, 0, none⟩)) rfl (by kernel_rfl) (by kernel_rfl) (by kernel_rfl) (fun _ _ _ h => h) (Or.inl ⟨by rfl, ?_⟩) (by assumption) ?_
      · (intro w hSw; (try dsimp only at hSw); go_simp)
      try simp only [Act.put, List.setIfInBounds_toArray, List.set_cons_zero, List.set_cons_succ]
      refine wpAnyH_take (i := 1) (oi := { dst := some 85, op := Op.load 2 (Operand.tmp 84), type := 2, pos := "laws.go:103", after := #[{ on := 0, ground := Ground.data }], guard := none }) (v := .int .i64 cd) rfl (by kernel_rfl) (by kernel_rfl) (by kernel_rfl) (fun _ _ _ h => h) (Or.inl ⟨by rfl, ?_⟩) (by assumption) ?_
      · (intro w hSw; (try dsimp only at hSw); go_simp)
      try simp only [Act.put, List.setIfInBounds_toArray, List.set_cons_zero, List.set_cons_succ]
      refine wpAnyH_take (i := 2) (oi := { dst := some 86, op := Op.binOp BinOp.neq 2 (Operand.tmp 85) (Operand.const (Value.int IntKind.i64 0)) 2, type := 4, pos := "laws.go:103", after := #[{ on := 1, ground := Ground.data }], guard := none }) (v := .bool true) rfl (by kernel_rfl) (by kernel_rfl) (by kernel_rfl) (fun _ _ _ h => h) (Or.inl ⟨by rfl, ?_⟩) (by assumption) ?_
      · (intro w hSw; (try dsimp only at hSw); go_simp)
      try simp only [Act.put, List.setIfInBounds_toArray, List.set_cons_zero, List.set_cons_succ]
      refine wpAnyH_take (i := 3) (oi := { dst := some 87, op := Op.move (Operand.tmp 86), type := 4, pos := "laws.go:103", after := #[{ on := 2, ground := Ground.data }], guard := none }) (v := .bool true) rfl (by kernel_rfl) (by kernel_rfl) (by kernel_rfl) (fun _ _ _ h => h) (Or.inl ⟨by rfl, ?_⟩) (by assumption) ?_
      · (intro w hSw; (try dsimp only at hSw); go_simp)
      try simp only [Act.put, List.setIfInBounds_toArray, List.set_cons_zero, List.set_cons_succ]
      refine wpAnyH_take (i := 4) (oi := { dst := some 88, op := Op.fieldAddr 34 (Operand.tmp 8) 1, type := 0, pos := "laws.go:103", after := #[{ on := 3, ground := Ground.guard }], guard := some (3, false) }) (v := undef) rfl (by kernel_rfl) (by kernel_rfl) (by kernel_rfl) (fun _ _ _ h => h) (Or.inr ⟨by rfl, rfl⟩) (by assumption) ?_
      try simp only [Act.put, List.setIfInBounds_toArray, List.set_cons_zero, List.set_cons_succ]
      refine wpAnyH_take (i := 5) (oi := { dst := some 89, op := Op.load 32 (Operand.tmp 88), type := 32, pos := "laws.go:103", after := #[{ on := 4, ground := Ground.data }, { on := 3, ground := Ground.guard }], guard := some (3, false) }) (v := undef) rfl (by kernel_rfl) (by kernel_rfl) (by kernel_rfl) (fun _ _ _ h => h) (Or.inr ⟨by rfl, rfl⟩) (by assumption) ?_
      try simp only [Act.put, List.setIfInBounds_toArray, List.set_cons_zero, List.set_cons_succ]
      refine wpAnyH_take (i := 7) (oi := { dst := some 91, op := Op.move (Operand.tmp 7), type := 9, pos := "laws.go:103", after := #[{ on := 3, ground := Ground.guard }], guard := some (3, false) }) (v := undef) rfl (by kernel_rfl) (by kernel_rfl) (by kernel_rfl) (fun _ _ _ h => h) (Or.inr ⟨by rfl, rfl⟩) (by assumption) ?_
      try simp only [Act.put, List.setIfInBounds_toArray, List.set_cons_zero, List.set_cons_succ]
      refine wpAnyH_take (i := 8) (oi := { dst := some 92, op := Op.build 30 #[(1, Operand.tmp 91)], type := 30, pos := "laws.go:103", after := #[{ on := 7, ground := Ground.data }, { on := 3, ground := Ground.guard }], guard := some (3, false) }) (v := undef) rfl (by kernel_rfl) (by kernel_rfl) (by kernel_rfl) (fun _ _ _ h => h) (Or.inr ⟨by rfl, rfl⟩) (by assumption) ?_
      try simp only [Act.put, List.setIfInBounds_toArray, List.set_cons_zero, List.set_cons_succ]
      refine wpAnyH_ready (rs := [6]) (by kernel_rfl) (by simp) ?_
      refine AllReadyH.cons (o := { dst := some 90, op := Op.call { callee := Callee.value (Operand.func 12), args := #[Operand.tmp 89], argTypes := #[32] }, type := 30, pos := "laws.go:103", after := #[{ on := 5, ground := Ground.data }, { on := 3, ground := Ground.chain }, { on := 3, ground := Ground.guard }], guard := some (3, false) }) rfl (fun K hK => ?_) AllReadyH.nil
      rw [if_neg (by exact Bool.false_ne_true)]
      refine hK.out _ _ (by assumption) (fun hHeld2 => ?_)
      clear hK K
      try simp only [Act.put, List.setIfInBounds_toArray, List.set_cons_zero, List.set_cons_succ]
      refine wpAnyH_take (i := 9) (oi := { dst := some 93, op := Op.binOp BinOp.eql 30 (Operand.tmp 90) (Operand.tmp 92) 30, type := 4, pos := "laws.go:103", after := #[{ on := 6, ground := Ground.data }, { on := 8, ground := Ground.data }, { on := 3, ground := Ground.guard }], guard := some (3, false) }) (v := undef) rfl (by kernel_rfl) (by kernel_rfl) (by kernel_rfl) (fun _ _ _ h => h) (Or.inr ⟨by rfl, rfl⟩) (by assumption) ?_
      try simp only [Act.put, List.setIfInBounds_toArray, List.set_cons_zero, List.set_cons_succ]
      refine wpAnyH_take (i := 10) (oi := { dst := some 94, op := Op.pick (Operand.tmp 87) (Operand.const (Value.bool true)) (Operand.tmp 93), type := 4, pos := "laws.go:103", after := #[{ on := 3, ground := Ground.data }, { on := 9, ground := Ground.data }], guard := none }) (v := .bool true) rfl (by kernel_rfl) (by kernel_rfl) (by kernel_rfl) (fun _ _ _ h => h) (Or.inl ⟨by rfl, ?_⟩) (by assumption) ?_
      · (intro w hSw; (try dsimp only at hSw); go_simp)
      try simp only [Act.put, List.setIfInBounds_toArray, List.set_cons_zero, List.set_cons_succ]
      refine wpAnyH_take (i := 11) (oi := { dst := some 95, op := Op.move (Operand.tmp 94), type := 4, pos := "laws.go:103", after := #[{ on := 10, ground := Ground.data }, { on := 6, ground := Ground.chain }], guard := none }) (v := .bool true) rfl (by kernel_rfl) (by kernel_rfl) (by kernel_rfl) (fun _ _ _ h => h) (Or.inl ⟨by rfl, ?_⟩) (by assumption) ?_
      · (intro w hSw; (try dsimp only at hSw); go_simp)
      try simp only [Act.put, List.setIfInBounds_toArray, List.set_cons_zero, List.set_cons_succ]
      refine wpAnyH_take (i := 12) (oi := { dst := some 96, op := Op.fieldAddr 27 (Operand.tmp 5) 0, type := 0, pos := "laws.go:103", after := #[{ on := 11, ground := Ground.guard }], guard := some (11, true) }) (v := .pointer (some ⟨b1, 0, none⟩)) rfl (by kernel_rfl) (by kernel_rfl) (by kernel_rfl) (fun _ _ _ h => h) (Or.inl ⟨by rfl, ?_⟩) (by assumption) ?_
      · (intro w hSw; (try dsimp only at hSw); go_simp)
      try simp only [Act.put, List.setIfInBounds_toArray, List.set_cons_zero, List.set_cons_succ]
      refine wpAnyH_take (i := 13) (oi := { dst := some 97, op := Op.load 2 (Operand.tmp 96), type := 2, pos := "laws.go:103", after := #[{ on := 12, ground := Ground.data }, { on := 11, ground := Ground.guard }], guard := some (11, true) }) (v := .int .i64 x) rfl (by kernel_rfl) (by kernel_rfl) (by kernel_rfl) (fun _ _ _ h => h) (Or.inl ⟨by rfl, ?_⟩) (by assumption) ?_
      · (intro w hSw; (try dsimp only at hSw); go_simp)
      try simp only [Act.put, List.setIfInBounds_toArray, List.set_cons_zero, List.set_cons_succ]
      refine wpAnyH_take (i := 14) (oi := { dst := some 98, op := Op.binOp BinOp.eql 2 (Operand.tmp 97) (Operand.const (Value.int IntKind.i64 0)) 2, type := 4, pos := "laws.go:103", after := #[{ on := 13, ground := Ground.data }, { on := 11, ground := Ground.guard }], guard := some (11, true) }) (v := .bool true) rfl (by kernel_rfl) (by kernel_rfl) (by kernel_rfl) (fun _ _ _ h => h) (Or.inl ⟨by rfl, ?_⟩) (by assumption) ?_
      · (intro w hSw; (try dsimp only at hSw); go_simp)
      try simp only [Act.put, List.setIfInBounds_toArray, List.set_cons_zero, List.set_cons_succ]
      refine wpAnyH_take (i := 15) (oi := { dst := some 99, op := Op.move (Operand.tmp 3), type := 9, pos := "laws.go:103", after := #[{ on := 11, ground := Ground.guard }], guard := some (11, true) }) (v := .string s1) rfl (by kernel_rfl) (by kernel_rfl) (by kernel_rfl) (fun _ _ _ h => h) (Or.inl ⟨by rfl, ?_⟩) (by assumption) ?_
      · (intro w hSw; (try dsimp only at hSw); go_simp)
      try simp only [Act.put, List.setIfInBounds_toArray, List.set_cons_zero, List.set_cons_succ]
      refine wpAnyH_ready (rs := [16]) (by kernel_rfl) (by simp) ?_
      refine AllReadyH.cons (o := { dst := some 100, op := Op.call { callee := Callee.value (Operand.func 13), args := #[Operand.tmp 99], argTypes := #[9] }, type := 4, pos := "laws.go:103", after := #[{ on := 15, ground := Ground.data }, { on := 11, ground := Ground.chain }, { on := 11, ground := Ground.guard }], guard := some (11, true) }) rfl (fun K hK => ?_) AllReadyH.nil
      go_simp
      refine (implIsName_bel _ _ hs1').mono ?_
      rintro r w20 ⟨rfl, hb20⟩
      rw [unhide HXI', unhide HBX]
      refine hK.out _ _ (keepN m1 m2 m3 hzW0 (by assumption) hb20) (fun hHeld3 => ?_)
      clear hK K
      try simp only [Act.put, List.setIfInBounds_toArray, List.set_cons_zero, List.set_cons_succ]
      refine wpAnyH_take (i := 17) (oi := { dst := some 101, op := Op.binOp BinOp.eql 4 (Operand.tmp 98) (Operand.tmp 100) 4, type := 4, pos := "laws.go:103", after := #[{ on := 14, ground := Ground.data }, { on := 16, ground := Ground.data }, { on := 11, ground := Ground.guard }], guard := some (11, true) }) (v := .bool true) rfl (by kernel_rfl) (by kernel_rfl) (by kernel_rfl) (fun _ _ _ h => h) (Or.inl ⟨by rfl, ?_⟩) (by assumption) ?_
      · (intro w hSw; (try dsimp only at hSw); go_simp)
      try simp only [Act.put, List.setIfInBounds_toArray, List.set_cons_zero, List.set_cons_succ]
      refine wpAnyH_take (i := 18) (oi := { dst := some 102, op := Op.pick (Operand.tmp 95) (Operand.tmp 101) (Operand.const (Value.bool false)), type := 4, pos := "laws.go:103", after := #[{ on := 11, ground := Ground.data }, { on := 17, ground := Ground.data }], guard := none }) (v := .bool true) rfl (by kernel_rfl) (by kernel_rfl) (by kernel_rfl) (fun _ _ _ h => h) (Or.inl ⟨by rfl, ?_⟩) (by assumption) ?_
      · (intro w hSw; (try dsimp only at hSw); go_simp)
      try simp only [Act.put, List.setIfInBounds_toArray, List.set_cons_zero, List.set_cons_succ]
      refine wpAnyH_take (i := 19) (oi := { dst := some 2, op := Op.assign (Operand.tmp 102), type := 4, pos := "laws.go:103", after := #[{ on := 18, ground := Ground.data }, { on := 16, ground := Ground.chain }, { on := 0, ground := Ground.phase }, { on := 1, ground := Ground.phase }, { on := 2, ground := Ground.phase }, { on := 3, ground := Ground.phase }, { on := 4, ground := Ground.phase }, { on := 5, ground := Ground.phase }, { on := 6, ground := Ground.phase }, { on := 7, ground := Ground.phase }, { on := 8, ground := Ground.phase }, { on := 9, ground := Ground.phase }, { on := 10, ground := Ground.phase }, { on := 11, ground := Ground.phase }, { on := 12, ground := Ground.phase }, { on := 13, ground := Ground.phase }, { on := 14, ground := Ground.phase }, { on := 15, ground := Ground.phase }, { on := 16, ground := Ground.phase }, { on := 17, ground := Ground.phase }, { on := 18, ground := Ground.phase }], guard := none }) (v := .bool true) rfl (by kernel_rfl) (by kernel_rfl) (by kernel_rfl) (fun _ _ _ h => h) (Or.inl ⟨by rfl, ?_⟩) (by assumption) ?_
      · (intro w hSw; (try dsimp only at hSw); go_simp)
      try simp only [Act.put, List.setIfInBounds_toArray, List.set_cons_zero, List.set_cons_succ]
      refine wpAnyH_done (by kernel_rfl) ?_ _
      go_wp2_with fail
      go_ret
      exact ⟨rfl, (unhide GW0).trans (hHeld3.1.mono mw)⟩

theorem codeAt_row {w : World} {a : Option Addr} {len cap : Nat} {zs : List Int}
    (h : (a = none ∧ len = 0 ∧ cap = 0 ∧ zs = []) ∨ ∃ x, a = some x ∧ len ≤ cap ∧ cap ≤ maxLen ∧ zs.length = cap ∧ (∀ i, i < zs.length → w.cell? (x.add i) = some (.int .u8 (zs.getD i 0))) ∧ ∀ n ∈ zs, (Lit.int .u8 n).wf = true) : CodeAt w a len := by
  rcases h with ⟨rfl, rfl, rfl, rfl⟩ | ⟨x, rfl, hl, hm, hz, hc, hw⟩
  · exact .inl rfl
  · by_cases h0 : len = 0
    · exact .inl h0
    · right
      have c0 := hc 0 (by omega)
      obtain ⟨b, off, spot⟩ := x
      have hspot : spot = none := by simpa [Addr.add] using World.cell?_spot c0
      subst hspot
      have hlt : b < w.heap.size := by
        have c0' : w.cell? ⟨b, off, none⟩ = some (.int .u8 (zs.getD 0 0)) := by simpa [Addr.add] using c0
        unfold World.cell? at c0'
        by_cases hb : b < w.heap.size
        · exact hb
        · rw [Array.getElem?_eq_none (by show w.heap.size ≤ b; omega)] at c0'
          simp at c0'
      refine ⟨b, off, rfl, hlt, fun i hi => ⟨zs.getD i 0, ?_⟩⟩
      have hi' : i < zs.length := by omega
      have := hc i hi'
      rw [Go.WideShapes.add_plain] at this
      have hb := hw (zs.getD i 0) (by simp [List.getD_eq_getElem?_getD, List.getElem?_eq_getElem hi'])
      have hb2 : 0 ≤ zs.getD i 0 ∧ zs.getD i 0 ≤ 255 := by simpa [Lit.wf, IntKind.min, IntKind.max, IntKind.signed, IntKind.bits] using hb
      exact ⟨hb2.1, hb2.2, this⟩
end Go.Proofs.YtomlllpojpbciaaDoor

namespace Go.Proofs.YtomlllpojpbciaaDoor.fnNames
open Go.RowKit
/-- What the walk is told of a slice of integers that came in. -/
def IsRow (k : IntKind) (w : World) (a : Option Addr) (len cap : Nat) (zs : List Int) : Prop :=
  (a = none ∧ len = 0 ∧ cap = 0 ∧ zs = []) ∨
  ∃ x, a = some x ∧ len ≤ cap ∧ cap ≤ maxLen ∧ zs.length = cap ∧ (∀ i, i < zs.length → w.cell? (x.add i) = some (.int k (zs.getD i 0))) ∧ ∀ n ∈ zs, (Lit.int k n).wf = true

theorem walk (a : Option Addr) (len cap : Nat) (zs : List Int) (w : World) (w0 : IsRow .u8 w a len cap zs) (hsh : w.ShapedOpen Tryd.prog) :
    Calls Tryd.prog 3 #[.slice a len cap] w fun r w' => r = .returned (.bool true) ∧ Below w.heap.size w w' := by
  by_cases hn : len ≤ 1048576
  · obtain ⟨mx, hm⟩ := Tryd.laysM146.s1_3 w hsh
    exact fnNames_yes a len cap w (codeAt_row w0) hn mx hm
  · exact fnNames_no a len cap w (by omega)
end Go.Proofs.YtomlllpojpbciaaDoor.fnNames
