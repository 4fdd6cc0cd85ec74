/-
  The laws' draws of names, words and paths.
-/
import Derived.Test.YtomlllpojpbciaaDoorPickWalk
import Derived.Test.YtomlllpojpbciaaDoorNameWordWalk
import Derived.Test.YtomlllpojpbciaaDoorCutWalk
import Derived.Test.YtomlllpojpbciaaDoorPathNamesMath
namespace Go.Proofs.YtomlllpojpbciaaDoor
open Go.RowKit

set_option maxHeartbeats 1000000 in
theorem drawIsName_any (a : Option Addr) (n c : Nat) (w : World) (h : CodeAt w a n) (hn : n ≤ 1048576) :
    Calls Tryd.prog 5 #[.slice a n c] w fun r w' => (∃ s : ByteArray, r = .returned (.string s) ∧ s.size ≤ 100) ∧ Below w.heap.size w w' := by
  have H := hide h
  clear h
  go_enter Tryd.func5, Tryd.ntmps5
  go_wp2_with fail
  refine (l1Source_any a n c _).mono ?_
  rintro r w1 ⟨rfl, rfl⟩
  have H1 := hide (srcAt_new (unhide H) hn c 0 59)
  go_wp2_with fail
  refine (l1Say_any w.heap.size a n c 0 (fun s => s.size ≤ 100) (w.heap.size + 1) 10 10 _ ((unhide H1).alloc _) (by omega) (by omega) (by omega) (offer_new _ _ _ _ _ _ (by simp) rfl (by simp <;> decide)) (by omega)).mono ?_
  rintro r w2 ⟨⟨s, hs, rfl⟩, hs2, ho2⟩
  have G := hide ((((Below.refl w.heap.size w).alloc (Nat.le_refl _) _).alloc (by simp) _).trans (ho2.below (Nat.le_refl _)))
  clear hs2 ho2
  go_wp2_with fail
  go_ret
  exact ⟨⟨_, rfl, hs⟩, unhide G⟩

set_option maxHeartbeats 1000000 in
theorem drawPathNames_any (a : Option Addr) (n c : Nat) (w : World) (h : CodeAt w a n) (hn : n ≤ 1048576) :
    Calls Tryd.prog 9 #[.slice a n c] w fun r w' => (∃ s : ByteArray, r = .returned (.string s) ∧ s.size ≤ 100) ∧ Below w.heap.size w w' := by
  have H := hide h
  clear h
  go_enter Tryd.func9, Tryd.ntmps9
  go_wp2_with fail
  refine (l1Source_any a n c _).mono ?_
  rintro r w1 ⟨rfl, rfl⟩
  have H1 := hide (srcAt_new (unhide H) hn c 0 59)
  go_wp2_with fail
  refine (l1Say_any w.heap.size a n c 0 (fun s => s.size ≤ 100) (w.heap.size + 1) 12 12 _ ((unhide H1).alloc _) (by omega) (by omega) (by omega) (offer_new _ _ _ _ _ _ (by simp) rfl (by simp <;> decide)) (by omega)).mono ?_
  rintro r w2 ⟨⟨s, hs, rfl⟩, hs2, ho2⟩
  have G := hide ((((Below.refl w.heap.size w).alloc (Nat.le_refl _) _).alloc (by simp) _).trans (ho2.below (Nat.le_refl _)))
  clear hs2 ho2
  go_wp2_with fail
  go_ret
  exact ⟨⟨_, rfl, hs⟩, unhide G⟩

/-- Nothing that was there has turned, but block s; there may be new blocks. -/
structure Past (s : Nat) (w w' : World) : Prop where
  below : Below s w w'
  block : ∀ k, k < w.heap.size → k ≠ s → w'.heap[k]? = w.heap[k]?

theorem Past.cell {s : Nat} {w w' : World} (h : Past s w w') {b : Nat} (hb : b < w.heap.size) (hne : b ≠ s) (o : Nat) : w'.cell? ⟨b, o, none⟩ = w.cell? ⟨b, o, none⟩ :=
  World.cell?_of_block (a := ⟨b, o, none⟩) (h.block b hb hne)
theorem Past.ofOnly {s : Nat} {w w' : World} (h : Only s w w') : Past s w w' := ⟨h.below (Nat.le_refl _), fun k _ hk => h.block k hk⟩
theorem Past.alloc {s : Nat} {w : World} (o : Obj) (hs : s ≤ w.heap.size) : Past s w (w.alloc o) := ⟨(Below.refl _ _).alloc hs o, fun k hk _ => Below.heap_alloc w o k hk⟩
theorem Past.trans {s : Nat} {w w1 w2 : World} (h : Past s w w1) (k : Past s w1 w2) : Past s w w2 :=
  ⟨h.below.trans k.below, fun i hi hne => (k.block i (by have := h.below.size; omega) hne).trans (h.block i hi hne)⟩
theorem Past.own {s base : Nat} {w w' : World} {e : TypeId} {v : Value} {n : Nat} {xs : List Value} (h : Past s w w') (hb : s < base) (ho : w.ownsRow base e 1 v n xs) : w'.ownsRow base e 1 v n xs := by
  refine ⟨ho.1, ?_⟩
  rcases ho.2 with h2 | ⟨g, cap, cur, a, b, c, d⟩
  · exact .inl h2
  · exact .inr ⟨g, cap, cur, a, b, (h.block g (Array.getElem?_eq_some_iff.1 c).1 (by omega)).trans c, d⟩

set_option maxHeartbeats 1000000 in
theorem l1Name_any (s : Nat) (a : Option Addr) (n c p : Nat) (w : World) (h : SrcAt w 59 s a n c p) (hp : p ≤ 1000) :
    Calls Tryd.prog 23 #[.pointer (some ⟨s, 0, none⟩)] w fun e w' => (∃ v : ByteArray, isNameL v.data.toList = true ∧ e = .returned (.string v)) ∧ SrcAt w' 59 s a n c (p + 1) ∧ Past s w w' := by
  have hsl := h.lt
  have H := hide h
  clear h
  go_enter Tryd.func23, Tryd.ntmps23
  go_wp2_with fail
  refine (l1Say_any s a n c p (fun v => isNameL v.data.toList = true) w.heap.size 6 6 _ ((unhide H).alloc _) (by omega) (by omega) (by omega) (offer_new _ _ _ _ _ _ rfl rfl (by simp <;> decide)) (by omega)).mono ?_
  rintro r w2 ⟨⟨v, hv, rfl⟩, hs2, ho2⟩
  have P2 := hide ((Past.alloc _ (Nat.le_of_lt hsl)).trans (Past.ofOnly ho2))
  have H2 := hide hs2
  have HV := hide hv
  clear hs2 ho2 hv
  go_wp2_with fail
  go_ret
  exact ⟨⟨_, unhide HV, rfl⟩, unhide H2, unhide P2⟩

theorem nameWord_bound {l : List UInt8} (h : isNameL l = true) : 0 ≤ nameWordL l ∧ nameWordL l < 387420489 := by
  have h1 := nameWordL_bounds l h l.length (Nat.le_refl _)
  rw [List.take_length] at h1
  have h2 := (isNameL_len h).2
  have h3 : (27 : Int) ^ l.length ≤ 387420489 := by
    match l.length, h2 with
    | 0, _ => decide
    | 1, _ => decide
    | 2, _ => decide
    | 3, _ => decide
    | 4, _ => decide
    | 5, _ => decide
    | 6, _ => decide
  omega

set_option maxHeartbeats 1000000 in
theorem drawWordName_any (a : Option Addr) (n c : Nat) (w : World) (h : CodeAt w a n) (hn : n ≤ 1048576) :
    Calls Tryd.prog 6 #[.slice a n c] w fun r w' => (∃ v : Int, r = .returned (.int .i64 v) ∧ -1 ≤ v ∧ v ≤ 1000000000000000) ∧ Below w.heap.size w w' := by
  have H := hide h
  clear h
  go_enter Tryd.func6, Tryd.ntmps6
  go_wp2_with fail
  refine (l1Source_any a n c _).mono ?_
  rintro r w1 ⟨rfl, rfl⟩
  have H1 := hide (srcAt_new (unhide H) hn c 0 59)
  go_wp2_with fail
  refine (l1Name_any w.heap.size a n c 0 _ (unhide H1) (by omega)).mono ?_
  rintro r w2 ⟨⟨v, hv, rfl⟩, hs2, hp2⟩
  have hz2 : w.heap.size < w2.heap.size := by have := hp2.below.size; simp at this; omega
  have G2 := hide (((Below.refl w.heap.size w).alloc (Nat.le_refl _) _).trans hp2.below)
  have H2 := hide hs2
  have HV := hide hv
  obtain ⟨y0, y1⟩ := nameWord_bound hv
  clear hs2 hp2 hv H1
  go_wp2_with fail
  refine (l1NameWord_any v _ (unhide HV)).mono ?_
  rintro r w3 ⟨rfl, rfl⟩
  generalize nameWordL v.data.toList = y at *
  go_wp2_with fail
  refine (l1Name_any w.heap.size a n c (0 + 1) _ (unhide H2) (by omega)).mono ?_
  rintro r w4 ⟨⟨v2, hv2, rfl⟩, hs4, hp4⟩
  have hz4 : w.heap.size < w4.heap.size := by have := hp4.below.size; omega
  have G4 := hide ((unhide G2).trans hp4.below)
  have H4 := hide hs4
  have HV2 := hide hv2
  obtain ⟨x0, x1⟩ := nameWord_bound hv2
  clear hs4 hp4 hv2 H2 G2
  go_wp2_with fail
  refine (l1NameWord_any v2 _ (unhide HV2)).mono ?_
  rintro r w5 ⟨rfl, rfl⟩
  generalize nameWordL v2.data.toList = x at *
  go_wp2_with fail
  refine (l1Next_src w.heap.size a n c (0 + 1 + 1) 900 _ (unhide H4) (by omega) (by omega) (by omega)).mono ?_
  rintro r w6 ⟨⟨z, rfl, z0, z1⟩, hs6, ho6⟩
  have hz6 : w.heap.size < w6.heap.size := by rw [ho6.size]; exact hz4
  have G6 := hide ((unhide G4).trans (ho6.below (Nat.le_refl _)))
  have H6 := hide hs6
  clear hs6 ho6 H4 G4
  go_wp2_with fail
  refine (l1Pick_any w.heap.size a n c (0 + 1 + 1 + 1) (fun v => -1 ≤ v ∧ v ≤ 1000000000000000) w6.heap.size 10 10 _ ((unhide H6).alloc _) (by omega) (by omega) (by omega) (offer_new _ _ _ _ _ _ rfl rfl (by simp; omega)) (by omega)).mono ?_
  rintro r w7 ⟨⟨u, hu, rfl⟩, hs7, ho7⟩
  have G7 := hide (((unhide G6).alloc (by omega) _).trans (ho7.below (Nat.le_refl _)))
  clear hs7 ho7
  go_wp2_with fail
  go_ret
  exact ⟨⟨_, rfl, hu⟩, unhide G7⟩

set_option maxHeartbeats 2000000 in
theorem drawPathOf_any (a : Option Addr) (n c : Nat) (w : World) (h : CodeAt w a n) (hn : n ≤ 1048576) :
    Calls Tryd.prog 11 #[.slice a n c] w fun r w' => (∃ (ad : Option Addr) (cp : Nat) (l : List ByteArray), r = .returned (.slice ad l.length cp) ∧ StrsAt w' ad l ∧ l.length ≤ cp ∧ l.length ≤ 6 ∧ ∀ s ∈ l, s.size ≤ 100) ∧ Below w.heap.size w w' := by
  have H := hide h
  clear h
  obtain ⟨i0, hi, hz0, hz1, hz2⟩ := info_parts infoStr
  go_enter Tryd.func11, Tryd.ntmps11
  go_wp2_with fail
  refine (l1Source_any a n c _).mono ?_
  rintro r w1 ⟨rfl, rfl⟩
  have H1 := hide (srcAt_new (unhide H) hn c 0 59)
  go_wp2_with fail
  refine (l1Next_src w.heap.size a n c 0 6 _ ((unhide H1).alloc _) (by omega) (by omega) (by omega)).mono ?_
  rintro r w2 ⟨⟨v, rfl, v0, v1⟩, hs2, ho2⟩
  obtain ⟨k0, rfl⟩ := Int.eq_ofNat_of_zero_le v0
  have how0 := World.ownsRow_lit (base := w.heap.size + 1) (e := 9) (size := 1) (w.alloc (.cells #[.slice a n c, .int .i64 0] 59)) #[] 0 (by simp) (by unfold maxLen; omega) rfl
  rw [show (w.alloc (.cells #[.slice a n c, .int .i64 0] 59)).heap.size = w.heap.size + 1 from by simp] at how0
  have how2 := (Past.ofOnly ho2).own (by omega) how0
  have g2 : Below w.heap.size w w2 := (((Below.refl w.heap.size w).alloc (Nat.le_refl _) _).alloc (by simp) _).trans (ho2.below (Nat.le_refl _))
  have H2 := hide hs2
  have G2 := hide g2
  have O2 := hide how2
  clear how0 how2 hs2 ho2 g2 H1
  go_wp2_with fail
  go_loopw [4, 5] (fun v i wr => ∃ (ps : List ByteArray) (k q : Nat), i = .int .i64 k ∧ ps.length + k ≤ 5 ∧ q + k ≤ 6 ∧ wr.ownsRow (w.heap.size + 1) 9 1 v ps.length (ps.map Value.string) ∧ Below w.heap.size w wr ∧ SrcAt wr 59 w.heap.size a n c q ∧ Hid (∀ s ∈ ps, s.size ≤ 100)) (fun _ i _ => (intOf i).toNat)
  case atStart => exact ⟨[], k0, 1, rfl, by simp; omega, by omega, unhide O2, unhide G2, unhide H2, fun s hs => by cases hs⟩
  case round =>
    obtain ⟨ps, k, q, rfl, hpk, hqk, how, hbw, hsr, HS⟩ := hrel
    clear O2 G2 H2
    have HO := hide how
    have HB := hide hbw
    have HR := hide hsr
    have hszr := hsr.lt
    clear how hbw hsr
    by_cases hk : 0 < k
    · go_wp2_with fail
      refine (l1Name_any w.heap.size a n c q _ (unhide HR) (by omega)).mono ?_
      rintro r w3 ⟨⟨nm, hnm, rfl⟩, hs3, hp3⟩
      have how := hp3.own (by omega) (unhide HO)
      have hz3 : w.heap.size < w3.heap.size := by have := hp3.below.size; omega
      have G3 := hide ((unhide HB).trans hp3.below)
      have H3 := hide hs3
      have hn6 := (isNameL_len hnm).2
      rw [len_data] at hn6
      have HS2 : Hid (∀ s ∈ ps ++ [nm], s.size ≤ 100) := by
        intro s hs
        rcases List.mem_append.1 hs with h | h
        · exact unhide HS s h
        · simp at h; subst h; omega
      clear hp3 hs3 hnm hn6 HO HB HR
      go_wp2_with (at_builtin; refine wpList_append_own _ rfl _ _ 32 rfl (w.heap.size + 1) 9 i0 (.string ⟨#[]⟩) 1 16 Tryd.underlying32 hi hz0 hz1 hz2 rfl (by decide) _ _ _ rfl (how.alloc _) ⟨w3.heap.size, 0, none⟩ 1 1 [.string nm] rfl rfl (cell_one_new _ _ _) (fun x hx => by simp at hx; subst hx; rfl) (by unfold maxLen; omega) (by omega) (by simp; omega) ?_; intro v' w4 hown' hgrow3 hnil3; have HOWN := hide hown'; have HK := hide (Below.grown ((Below.refl (w.heap.size + 1) w3).alloc (by omega) _) hgrow3 (by simp; omega) (fun q hq => (how.lt q hq).1)); clear hown' hgrow3 hnil3)
      refine ⟨⟨ps ++ [nm], k - 1, q + 1, by go_num, by simp; omega, by omega, ?_, ?_, ?_, HS2⟩, by simp [intOf]; omega⟩
      · simpa using unhide HOWN
      · exact (unhide G3).trans ((unhide HK).mono (by omega))
      · exact (unhide H3).keep fun j hj => (unhide HK).block j (by omega)
    · obtain rfl : k = 0 := by omega
      go_wp2_with fail
      refine (l1Chance_any w.heap.size a n c q 6 _ (unhide HR) (by omega) (by omega) (by omega)).mono ?_
      rintro r w3 ⟨⟨b, rfl⟩, hs3, ho3⟩
      have how := (Past.ofOnly ho3).own (by omega) (unhide HO)
      have hz3 : wr.heap.size ≤ w3.heap.size := Nat.le_of_eq ho3.size.symm
      have G3 := hide ((unhide HB).trans (ho3.below (Nat.le_refl _)))
      have H3 := hide hs3
      clear ho3 hs3 HO HB HR
      cases b
      · obtain ⟨ad, cp, rfl, hat, hlc, -⟩ := strsAt_own how
        have HAT := hide hat
        clear hat how
        go_wp2_with fail
        go_ret
        exact ⟨⟨ad, cp, ps, rfl, unhide HAT, hlc, by omega, unhide HS⟩, unhide G3⟩
      · have HO3 := hide how
        clear how
        go_wp2_with fail
        refine (l1Say_any w.heap.size a n c (q + 1) (fun s => s.size ≤ 100) w3.heap.size 3 3 _ ((unhide H3).alloc _) (by omega) (by omega) (by omega) (offer_new _ _ _ _ _ _ rfl rfl (by simp <;> decide)) (by omega)).mono ?_
        rintro r w5 ⟨⟨nm, hnm, rfl⟩, hs5, ho5⟩
        have how := (Past.ofOnly ho5).own (by omega) ((Past.alloc (s := w.heap.size) _ (by omega)).own (by omega) (unhide HO3))
        have hz5 : w3.heap.size < w5.heap.size := by rw [ho5.size]; simp
        have G5 := hide (((unhide G3).alloc (by omega) _).trans (ho5.below (Nat.le_refl _)))
        have HS2 : Hid (∀ s ∈ ps ++ [nm], s.size ≤ 100) := by
          intro s hs
          rcases List.mem_append.1 hs with h | h
          · exact unhide HS s h
          · simp at h; subst h; exact hnm
        clear ho5 hs5 hnm H3 G3 HO3
        go_wp2_with (at_builtin; refine wpList_append_own _ rfl _ _ 32 rfl (w.heap.size + 1) 9 i0 (.string ⟨#[]⟩) 1 16 Tryd.underlying32 hi hz0 hz1 hz2 rfl (by decide) _ _ _ rfl (how.alloc _) ⟨w5.heap.size, 0, none⟩ 1 1 [.string nm] rfl rfl (cell_one_new _ _ _) (fun x hx => by simp at hx; subst hx; rfl) (by unfold maxLen; omega) (by omega) (by simp; omega) ?_; intro v' w6 hown' hgrow3 hnil3; have HOWN := hide hown'; have HK := hide (Below.grown ((Below.refl (w.heap.size + 1) w5).alloc (by omega) _) hgrow3 (by simp; omega) (fun q hq => (how.lt q hq).1)); clear hown' hgrow3 hnil3)
        have ho6 : w6.ownsRow (w.heap.size + 1) 9 1 v' (ps ++ [nm]).length ((ps ++ [nm]).map Value.string) := by simpa using unhide HOWN
        obtain ⟨ad, cp, rfl, hat, hlc, -⟩ := strsAt_own ho6
        have HAT := hide hat
        clear hat ho6 how
        go_wp2_with fail
        go_ret
        exact ⟨⟨ad, cp, ps ++ [nm], rfl, unhide HAT, hlc, by simp; omega, HS2⟩, (unhide G5).trans ((unhide HK).mono (by omega))⟩
end Go.Proofs.YtomlllpojpbciaaDoor
