/-
  What spec.DeviceFault answers, and what it asks.
-/
import Derived.Test.YtdnfadbkpajloaaAppSrc
import Derived.Test.YtdnfadbkpajloaaInWalk
import Derived.Test.YtdnfadbkpajloaaWordsWalk
import Derived.Test.YtdnfadbkpajloaaOwnDev
import Derived.Test.YtdnfadbkpajloaaCellMath
namespace Go.Proofs.Ytdnfadbkpajloaa
open Go.RowKit

set_option maxHeartbeats 1000000 in
theorem l2At_any (d n c : Nat) (a : Option Addr) (x : Int) (w : World) (hc : w.cell? ⟨d, 0, none⟩ = some (.slice a n c)) (hn : n ≤ 1048576) :
    Calls Try.prog 80 #[.pointer (some ⟨d, 0, none⟩), .int .i64 x] w fun e w' => e = .returned (.bool (atOk n x)) ∧ w' = w := by
  go_enter Try.func80, Try.ntmps80
  go_wp2_with fail
  refine (l1In_any _ 0 _ _).mono ?_
  rintro e w1 ⟨rfl, rfl⟩
  have HR : Hid (atOk n x = inB x 0 ((n : Int) - 1)) := rfl
  generalize inB x 0 ((n : Int) - 1) = r at *
  go_wp2_with fail
  go_ret
  exact ⟨ret_bool (unhide HR).symm, rfl⟩
/-- The number of the first cell at a place, or -1. -/
def findI : List (Int × Int) → Int → Int → Int
  | [], _, _ => -1
  | d :: l, a, k => if d.1 = a then k else findI l a (k + 1)
theorem findI_drop {l : List (Int × Int)} {a : Int} {k : Nat} (hk : k < l.length) : findI (l.drop k) a k = if l[k].1 = a then (k : Int) else findI (l.drop (k + 1)) a ((k : Int) + 1) := by
  rw [List.drop_eq_getElem_cons hk, findI]
set_option maxHeartbeats 1000000 in
theorem l2Find_any (a : Option Addr) (c : Nat) (l : List (Int × Int)) (x : Int) (w : World) (h : PairsAt w a l) (hn : l.length ≤ 10000000) :
    Calls Try.prog 148 #[.slice a l.length c, .int .i64 x] w fun e w' => e = .returned (.int .i64 (findI l x 0)) ∧ w' = w := by
  go_enter Try.func148, Try.ntmps148
  go_wp2
  go_loop [5] (fun i => ∃ k : Nat, k ≤ l.length ∧ i = .int .i64 k ∧ Hid (findI l x 0 = findI (l.drop k) x k)) (fun i => l.length - (intOf i).toNat)
  case atStart => exact ⟨0, Nat.zero_le _, rfl, by simp [Hid]⟩
  case round =>
    obtain ⟨k, hk, rfl, HX⟩ := hrel
    by_cases hlt : k < l.length
    · obtain ⟨b1, o1, rfl, m1, hc1⟩ := h.at hlt
      have hk1 := (hc1 k hlt).1
      have hst := findI_drop (a := x) hlt
      clear hc1 h
      by_cases he : l[k].1 = x
      · rw [if_pos he] at hst
        have HV := hide ((unhide HX).trans hst)
        have heb : (l[k].1 == x) = true := by simpa using he
        clear hst HX he
        go_wp2
        go_ret
        exact ⟨ret_int (unhide HV).symm, rfl⟩
      · rw [if_neg he] at hst
        have HV := hide ((unhide HX).trans hst)
        have heb : (l[k].1 == x) = false := by simpa using he
        clear hst HX he
        go_wp2
        go_round
        case rel => exact ⟨k + 1, by omega, by go_num, by rw [Hid, unhide HV]; simp⟩
        case measure => simp [intOf]; omega
    · have HV : Hid (findI l x 0 = -1) := by rw [Hid, unhide HX, List.drop_of_length_le (by omega)]; rfl
      clear h HX
      go_wp2
      go_ret
      exact ⟨ret_int (unhide HV).symm, rfl⟩
theorem findI_ge {l : List (Int × Int)} {a : Int} : ∀ (k : Int), findI l a k = -1 ∨ k ≤ findI l a k := by
  induction l with
  | nil => intro k; exact .inl rfl
  | cons d l ih =>
    intro k
    rw [findI]
    split
    · exact .inr (Int.le_refl _)
    · rcases ih (k + 1) with h | h
      · exact .inl h
      · exact .inr (by omega)
theorem findI_take {l : List (Int × Int)} : ∀ {j : Nat} (hj : j < l.length) (k : Int), 0 ≤ k → (findI l l[j].1 k = k + j ↔ l[j].1 ∉ keys (l.take j)) := by
  induction l with
  | nil => intro j hj; simp at hj
  | cons d l ih =>
    intro j hj k hk
    cases j with
    | zero => simp [findI, keys]
    | succ j =>
      have hj' : j < l.length := by simpa using hj
      rw [List.getElem_cons_succ, findI]
      by_cases hd : d.1 = l[j].1
      · rw [if_pos hd]
        simp [keys, hd]
        omega
      · rw [if_neg hd]
        have := ih (j := j) hj' (k + 1) (by omega)
        rw [show k + ((j + 1 : Nat) : Int) = k + 1 + j by omega, this]
        simp [keys]
        intro _
        exact fun e => hd e.symm
theorem uniq_iff {l : List (Int × Int)} : (keys l).Nodup ↔ ∀ j (hj : j < l.length), l[j].1 ∉ keys (l.take j) := by
  constructor
  · intro h j hj hm
    have e1 : keys l = keys (l.take j) ++ keys (l.drop j) := by rw [keys, keys, keys, ← List.map_append, List.take_append_drop]
    rw [e1, List.nodup_append] at h
    refine h.2.2 _ hm _ ?_ rfl
    rw [List.drop_eq_getElem_cons hj]
    exact List.mem_cons_self
  · intro h
    have : ∀ k, k ≤ l.length → (keys (l.take k)).Nodup := by
      intro k
      induction k with
      | zero => intro _; simp [keys]
      | succ k ih =>
        intro hk
        rw [List.take_succ_eq_append_getElem (by omega), keys, List.map_append, List.nodup_append]
        exact ⟨ih (by omega), by simp, fun a ha b hb e => by simp at hb; subst hb; subst e; exact h k (by omega) ha⟩
    have := this l.length (Nat.le_refl _)
    rwa [List.take_length] at this
set_option maxHeartbeats 1000000 in
theorem l2Twice_any (a : Option Addr) (c : Nat) (l : List (Int × Int)) (w : World) (h : PairsAt w a l) (hn : l.length ≤ 10000000) :
    Calls Try.prog 147 #[.slice a l.length c] w fun e w' => e = .returned (.bool (!uniq l)) ∧ w' = w := by
  go_enter Try.func147, Try.ntmps147
  go_wp2
  go_loop [3] (fun i => ∃ k : Nat, k ≤ l.length ∧ i = .int .i64 k ∧ Hid (∀ j (hj : j < l.length), j < k → l[j].1 ∉ keys (l.take j))) (fun i => l.length - (intOf i).toNat)
  case atStart => exact ⟨0, Nat.zero_le _, rfl, fun j _ hj => absurd hj (Nat.not_lt_zero j)⟩
  case round =>
    obtain ⟨k, hk, rfl, HX⟩ := hrel
    have H := hide h
    by_cases hlt : k < l.length
    · obtain ⟨b1, o1, rfl, m1, hc1⟩ := h.at hlt
      have hk1 := (hc1 k hlt).1
      have hit := findI_take hlt 0 (Int.le_refl _)
      clear hc1 h
      by_cases he : l[k].1 ∈ keys (l.take k)
      · have hne : (findI l l[k].1 0 != (k : Int)) = true := by
          simp
          intro e
          exact hit.1 (by rw [e]; simp) he
        have HV : Hid ((!uniq l) = true) := by
          simp [Hid, uniq]
          exact fun hn => uniq_iff.1 hn k hlt he
        clear hit he
        go_wp2_with fail
        refine (l2Find_any _ c l l[k].1 _ (unhide H) hn).mono ?_
        rintro e w1 ⟨rfl, rfl⟩
        generalize findI l l[k].1 0 = r at *
        go_wp2_with fail
        go_ret
        exact ⟨ret_bool (unhide HV).symm, rfl⟩
      · have hne : (findI l l[k].1 0 != (k : Int)) = false := by
          have := hit.2 he
          simp at this ⊢
          exact this
        have HX2 : Hid (∀ j (hj : j < l.length), j < k + 1 → l[j].1 ∉ keys (l.take j)) := by
          intro j hj hj1
          by_cases e : j = k
          · subst e; exact he
          · exact unhide HX j hj (by omega)
        clear hit he HX
        go_wp2_with fail
        refine (l2Find_any _ c l l[k].1 _ (unhide H) hn).mono ?_
        rintro e w1 ⟨rfl, rfl⟩
        generalize findI l l[k].1 0 = r at *
        go_wp2_with fail
        go_round
        case rel => exact ⟨k + 1, by omega, by go_num, HX2⟩
        case measure => simp [intOf]; omega
    · have HV : Hid ((!uniq l) = false) := by
        simp [Hid, uniq]
        exact uniq_iff.2 (fun j hj => unhide HX j hj (by omega))
      clear h HX H
      go_wp2
      go_ret
      exact ⟨ret_bool (unhide HV).symm, rfl⟩

theorem below_newC {w w3 : World} {o : Obj} {g : Nat} (hg : (w.alloc o).drew.grownBy w3 (some g)) (hB : w.heap.size ≤ g) : Below w.heap.size w w3 :=
  ⟨hg.os, hg.tape, hg.output, by have := hg.size; simp at this; omega, fun k hk => (hg.block k (by simp; omega) (fun e => by injection e with e; omega)).trans (Below.heap_alloc w o k hk)⟩

set_option maxHeartbeats 2000000 in
theorem l2Cells_any (d : Nat) (t : TypeId) (v1 : Value) (a2 a3 : Option Addr) (c2 c3 : Nat) (l m : List (Int × Int)) (w : World) (hx : Box w d [v1, .slice a2 l.length c2, .slice a3 m.length c3] t) (h2 : PairsAt w a2 l) (h3 : PairsAt w a3 m) (n2 : l.length ≤ 1048576) (n3 : m.length ≤ 1048576) :
    Calls Try.prog 146 #[.pointer (some ⟨d, 0, none⟩)] w fun e w' => (∃ v, e = .returned v ∧ w'.ownsRow w.heap.size 42 2 v (l.length + m.length) (prs (l ++ m))) ∧ Below w.heap.size w w' := by
  obtain ⟨i0, hi, hz0, hz1, hz2⟩ := info_parts infoCell
  have q1 := hx.cell 1
  have q2 := hx.cell 2
  simp at q1 q2
  have hlt := hx.lt
  have HX := hide hx
  have H2 := hide (h2.below ((Below.refl _ w).alloc (Nat.le_refl _) (.cells #[] 42)))
  have H3 := hide h3
  have HO := hide (World.ownsRow_made (base := w.heap.size) (e := 42) (size := 2) w #[] 0 (Nat.le_refl _) (by unfold maxLen; omega) rfl)
  clear hx h2 h3
  go_enter Try.func146, Try.ntmps146
  go_wp2_with fail
  go_region_law (first
    | (refine step_append_pairs _ rfl _ _ 25 rfl w.heap.size 42 i0 _ Try.underlying25 hi hz0 hz1 hz2 rfl (.slice (some ⟨w.heap.size, 0, none⟩) 0 0) 0 [] rfl (unhide HO) a2 c2 l rfl (unhide H2) (by omega) (by simp) ?_; intro v' w3 hown hgrow hat; have X3 := ((unhide HX).alloc (.cells #[] 42)).drew.grown hgrow (by simp [Value.ownBlock]; omega); have r2 := X3.cell 2; simp at r2; have OW := hide hown; have GR := hide hgrow; have BB := hide (below_newC hgrow (Nat.le_refl _)); have P3 := hide ((unhide H3).below (unhide BB)); have z3 := (unhide BB).size; clear X3 hown hgrow)
    | (refine step_append_pairs _ rfl _ _ 25 rfl w.heap.size 42 i0 _ Try.underlying25 hi hz0 hz1 hz2 rfl v' (0 + l.length) ([] ++ prs l) rfl (unhide OW) a3 c3 m rfl (unhide P3) (by omega) (by omega) ?_; intro v'' w4 hown hgrow hat2; have OW2 := hide hown; have GR2 := hide hgrow; clear hown hgrow))
  all_goals
    have hvb : ∀ k, v'.ownBlock = some k → w.heap.size ≤ k := by
      intro k hk
      rcases hat with h | h
      · rw [h] at hk; simp [Value.ownBlock] at hk; omega
      · rw [h] at hk; simp at hk; omega
    have B4 := hide ((unhide BB).grown (unhide GR2) z3 hvb)
    have O4 : Hid (w4.ownsRow w.heap.size 42 2 v'' (l.length + m.length) (prs (l ++ m))) := by
      have := unhide OW2
      refine hide ?_
      rw [prs_append]
      simpa using this
    clear hvb OW2 GR2 hat hat2
    go_wp2_with fail
    go_ret
    exact ⟨⟨v'', rfl, unhide O4⟩, unhide B4⟩

theorem allCells_append (n : Nat) (l m : List (Int × Int)) : allCells n (l ++ m) = (allCells n l && allCells n m) := by simp [allCells]
theorem allC_false {n : Nat} {l : List (Int × Int)} {k : Nat} (hk : k < l.length) (h : cellOk n l[k] = false) : allCells n l = false := by
  cases hq : allCells n l
  · rfl
  · rw [allCells, List.all_eq_true] at hq
    rw [hq _ (List.getElem_mem hk)] at h; cases h
theorem allC_true {n : Nat} {l : List (Int × Int)} (h : ∀ j (hj : j < l.length), cellOk n l[j] = true) : allCells n l = true := by
  rw [allCells, List.all_eq_true]
  intro x hx
  obtain ⟨j, hj, rfl⟩ := List.getElem_of_mem hx
  exact h j hj

set_option maxHeartbeats 2000000 in
theorem specDeviceFault_any (a1 a2 a3 : Option Addr) (c1 c2 c3 : Nat) (D : Dev) (w : World) (h : DevAt w a1 a2 a3 D) (n1 : D.words.length ≤ 1048576) (n2 : D.flights.length ≤ 1048576) (n3 : D.over.length ≤ 1048576) :
    Calls Try.prog 76 #[.agg #[.slice a1 D.words.length c1, .slice a2 D.flights.length c2, .slice a3 D.over.length c3]] w fun e w' => e = .returned (.int .i64 (devFault D)) ∧ Below w.heap.size w w' := by
  have htm : (D.words.length : Int).tmod 8 = (D.words.length : Int) % 8 := Int.tmod_eq_emod_of_nonneg (by omega)
  by_cases hs : sizeOk D.words.length = true
  case neg =>
    have HV : Hid (devFault D = 2) := by simp [Hid, devFault, hs]
    have hs' : ¬ (D.words.length % 8 = 0 ∧ 16 ≤ D.words.length ∧ D.words.length ≤ 328) := by
      intro hh
      exact hs (by simp [sizeOk]; omega)
    clear h
    by_cases hm : (D.words.length : Int) % 8 = 0
    · have hmb : ((D.words.length : Int) % 8 != 0) = false := by simpa using hm
      by_cases h16 : (D.words.length : Int) < 16
      · clear hs hs' hm
        go_enter Try.func76, Try.ntmps76
        go_wp2
        go_ret
        exact ⟨ret_int (unhide HV).symm, (Below.refl _ _).alloc (Nat.le_refl _) _⟩
      · have h328 : (328 : Int) < (D.words.length : Int) := by omega
        clear hs hs' hm
        go_enter Try.func76, Try.ntmps76
        go_wp2
        go_ret
        exact ⟨ret_int (unhide HV).symm, (Below.refl _ _).alloc (Nat.le_refl _) _⟩
    · have hmb : ((D.words.length : Int) % 8 != 0) = true := by simpa using hm
      clear hs hs' hm
      go_enter Try.func76, Try.ntmps76
      go_wp2
      go_ret
      exact ⟨ret_int (unhide HV).symm, (Below.refl _ _).alloc (Nat.le_refl _) _⟩
  have hsz : (D.words.length : Int) % 8 = 0 ∧ 16 ≤ D.words.length ∧ D.words.length ≤ 328 := by simp [sizeOk] at hs; omega
  have hmb : ((D.words.length : Int) % 8 != 0) = false := by simpa using hsz.1
  have h16 : ¬ (D.words.length : Int) < 16 := by omega
  have h328 : ¬ (328 : Int) < (D.words.length : Int) := by omega
  have HS := hide hs
  clear hsz hs
  have H := hide h
  clear h
  go_enter Try.func76, Try.ntmps76
  go_wp2_with fail
  obtain ⟨W, hW, z1, hb, hx⟩ := boxes1 w [.slice a1 D.words.length c1, .slice a2 D.flights.length c2, .slice a3 D.over.length c3] 27
  rw [← hW]
  clear hW
  have H1 := hide ((unhide H).below (unhide hb))
  clear H
  have q0 := (unhide hx).cell 0
  have q1 := (unhide hx).cell 1
  have q2 := (unhide hx).cell 2
  simp at q0 q1 q2
  go_loop [4] (fun i => ∃ k : Nat, k ≤ D.words.length ∧ i = .int .i64 k ∧ Hid (∀ j (hj : j < D.words.length), j < k → wordOk D.words[j] = true)) (fun i => D.words.length - (intOf i).toNat)
  case atStart => exact ⟨0, Nat.zero_le _, rfl, fun j _ hj => absurd hj (Nat.not_lt_zero j)⟩
  case round =>
    obtain ⟨k, hk, rfl, HX⟩ := hrel
    by_cases hlt : k < D.words.length
    · obtain ⟨b, o, rfl, hb', hc⟩ := (unhide H1).r1.at hlt
      have hck := hc k hlt
      clear hc
      cases hq : wordOk D.words[k]
      · have HV : Hid (devFault D = 3) := by
          unfold Hid devFault
          rw [if_pos (unhide HS), if_neg (by rw [allW_false hlt hq]; decide)]
        go_wp2_with fail
        refine (l1Word_any _ _).mono ?_
        rintro e w1 ⟨rfl, rfl⟩
        rw [hq]
        go_wp2_with fail
        go_ret
        exact ⟨ret_int (unhide HV).symm, unhide hb⟩
      · have HX2 : Hid (∀ j (hj : j < D.words.length), j < k + 1 → wordOk D.words[j] = true) := by
          intro j hj hj1
          by_cases e : j = k
          · subst e; exact hq
          · exact unhide HX j hj (by omega)
        go_wp2_with fail
        refine (l1Word_any _ _).mono ?_
        rintro e w1 ⟨rfl, rfl⟩
        rw [hq]
        clear hq
        go_wp2_with fail
        go_round
        case rel => exact ⟨k + 1, by omega, by go_num, HX2⟩
        case measure => simp [intOf]; omega
    · have HW := hide (allW_true (fun j hj => unhide HX j hj (by omega)))
      clear HX
      go_wp2_with fail
      refine (l2Cells_any w.heap.size _ _ a2 a3 c2 c3 D.flights D.over _ (unhide hx) (unhide H1).r2 (unhide H1).r3 n2 n3).mono ?_
      rintro e w2 ⟨⟨v, rfl, hO⟩, hb2⟩
      rw [← List.length_append] at hO
      obtain ⟨av, cv, ev, -, hP, -⟩ := pairsAt_own hO
      subst ev
      have z2 : W.heap.size ≤ w2.heap.size := hb2.size
      have B2 := hide (below_step (unhide hb) hb2 (by omega))
      have X2 := hide ((unhide hx).below hb2)
      have H2 := hide ((unhide H1).below hb2)
      have P2 := hide hP
      have hlen : (D.flights ++ D.over).length ≤ 10000000 := by rw [List.length_append]; omega
      clear hO hP hb2 q0 q1 q2
      have q0 := (unhide X2).cell 0
      have q1 := (unhide X2).cell 1
      have q2 := (unhide X2).cell 2
      simp at q0 q1 q2
      generalize hL : D.flights ++ D.over = L at *
      have HLL := hide hL
      clear hL
      go_wp2_with fail
      go_loop [6] (fun i => ∃ k : Nat, k ≤ L.length ∧ i = .int .i64 k ∧ Hid (∀ j (hj : j < L.length), j < k → cellOk D.words.length L[j] = true)) (fun i => L.length - (intOf i).toNat)
      case atStart => exact ⟨0, Nat.zero_le _, rfl, fun j _ hj => absurd hj (Nat.not_lt_zero j)⟩
      case round =>
        obtain ⟨k, hk, rfl, HX⟩ := hrel
        by_cases hlt : k < L.length
        · obtain ⟨b, o, rfl, hb', hc⟩ := (unhide P2).at hlt
          obtain ⟨hck, hcj⟩ := hc k hlt
          clear hc
          have hdef : cellOk D.words.length L[k] = (atOk D.words.length L[k].1 && wordOk L[k].2) := rfl
          have bad : cellOk D.words.length L[k] = false → devFault D = 3 := by
            intro hbad
            have := allC_false hlt hbad
            rw [← unhide HLL, allCells_append] at this
            unfold devFault
            rw [if_pos (unhide HS), if_pos (unhide HW), if_neg (by rw [this]; decide)]
          have HBAD := hide bad
          clear bad
          go_wp2_with fail
          refine (l2At_any _ _ _ _ L[k].1 _ q0 n1).mono ?_
          rintro e w1 ⟨rfl, rfl⟩
          cases h1 : atOk D.words.length L[k].1
          · have HV := hide (unhide HBAD (by rw [hdef, h1]; rfl))
            clear hdef h1
            go_wp2_with fail
            go_ret
            exact ⟨ret_int (unhide HV).symm, unhide B2⟩
          rw [h1] at hdef
          clear h1
          go_wp2_with fail
          refine (l1Word_any _ _).mono ?_
          rintro e w1 ⟨rfl, rfl⟩
          cases h2 : wordOk L[k].2
          · have HV := hide (unhide HBAD (by rw [hdef, h2]; rfl))
            clear hdef h2
            go_wp2_with fail
            go_ret
            exact ⟨ret_int (unhide HV).symm, unhide B2⟩
          have HX2 : Hid (∀ j (hj : j < L.length), j < k + 1 → cellOk D.words.length L[j] = true) := by
            intro j hj hj1
            by_cases e : j = k
            · subst e; rw [hdef, h2]; rfl
            · exact unhide HX j hj (by omega)
          clear hdef h2 HX
          go_wp2_with fail
          go_round
          case rel => exact ⟨k + 1, by omega, by go_num, HX2⟩
          case measure => simp [intOf]; omega
        · have hall := allC_true (fun j hj => unhide HX j hj (by omega))
          rw [← unhide HLL, allCells_append] at hall
          have hdv : devFault D = if (uniq D.flights && uniq D.over) = true then 0 else 6 := by
            unfold devFault
            rw [if_pos (unhide HS), if_pos (unhide HW), if_pos hall]
          have HDV := hide hdv
          clear HX hall hdv
          go_wp2_with fail
          refine (l2Twice_any a2 c2 D.flights _ (unhide H2).r2 (by omega)).mono ?_
          rintro e w1 ⟨rfl, rfl⟩
          cases hu : uniq D.flights
          · have HV : Hid (devFault D = 6) := by rw [Hid, unhide HDV, hu]; rfl
            clear hu
            go_wp2_with fail
            go_ret
            exact ⟨ret_int (unhide HV).symm, unhide B2⟩
          have HU := hide hu
          clear hu
          go_wp2_with fail
          refine (l2Twice_any a3 c3 D.over _ (unhide H2).r3 (by omega)).mono ?_
          rintro e w1 ⟨rfl, rfl⟩
          cases hu : uniq D.over
          · have HV : Hid (devFault D = 6) := by rw [Hid, unhide HDV, unhide HU, hu]; rfl
            clear hu
            go_wp2_with fail
            go_ret
            exact ⟨ret_int (unhide HV).symm, unhide B2⟩
          · have HV : Hid (devFault D = 0) := by rw [Hid, unhide HDV, unhide HU, hu]; rfl
            clear hu
            go_wp2_with fail
            go_ret
            exact ⟨ret_int (unhide HV).symm, unhide B2⟩
end Go.Proofs.Ytdnfadbkpajloaa
