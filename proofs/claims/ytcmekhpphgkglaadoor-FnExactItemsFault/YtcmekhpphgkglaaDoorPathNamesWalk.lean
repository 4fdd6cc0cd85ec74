/-
  What spec.l1Names, spec.l1Texts and spec.PathNames answer.
-/
import Derived.Test.YtcmekhpphgkglaaDoorCutWalk
import Derived.Test.YtcmekhpphgkglaaDoorPathNamesMath
import Derived.Test.YtcmekhpphgkglaaDoorIsNameWalk
import Derived.Laws.AppendOwnNone
namespace Go.Proofs.YtcmekhpphgkglaaDoor
open Go.RowKit

theorem toList_data (s : ByteArray) : s.toList = s.data.toList := by
  exact ByteArray.toList_eq s

theorem tuple_len {a : Option Addr} {m n c : Nat} (h : m = n) : Ending.returned (.tuple #[.slice a m c, .bool true]) = .returned (.tuple #[.slice a n c, .bool true]) := by rw [h]

/-- What l1Names tells: the names at some address; or that there are none. -/
def NamesTold (w : World) (l : List UInt8) (e : Ending) : Prop :=
  (pathParse l = none ∧ e = .returned (.tuple #[.slice none 0 0, .bool false])) ∨
  ∃ (a : Option Addr) (c : Nat) (ps : List ByteArray), pathParse l = some (ps.map (·.data.toList)) ∧ e = .returned (.tuple #[.slice a ps.length c, .bool true]) ∧ StrsAt w a ps ∧ (a = none → ps = [] ∧ c = 0)

set_option maxHeartbeats 1000000 in
theorem l1Names_any (s : ByteArray) (w : World) (hs : s.size ≤ 1048576) :
    Calls Tryd.prog 54 #[.string s] w fun e w' => NamesTold w' s.data.toList e ∧ Below w.heap.size w w' := by
  by_cases h0 : s = ⟨#[47]⟩
  · subst h0
    go_enter Tryd.func54, Tryd.ntmps54
    go_wp2
    go_ret2
    exact ⟨.inr ⟨none, 0, [], parse_root, rfl, .inl rfl, fun _ => ⟨rfl, rfl⟩⟩, Below.refl _ _⟩
  have h0' : s.data.toList ≠ [47] := by
    intro e
    apply h0
    cases s with
    | mk d =>
      have : d = #[47] := Array.toList_inj.1 e
      rw [this]
  have ht : (s.toList == [47]) = false := by
    rw [toList_data]
    simpa using h0'
  go_enter Tryd.func54, Tryd.ntmps54
  go_wp2_with fail
  refine (l1Cut_any s _ hs).mono ?_
  rintro e w1 ⟨⟨v, qs, rfl, hq, how⟩, hb1⟩
  obtain ⟨a, c, rfl, hat, hqc, hcm⟩ := strsAt_own how
  have hql : qs.length ≤ 1048577 := by
    have h1 : (qs.map (·.data.toList)).length ≤ s.data.toList.length + 1 := by rw [hq]; exact cutL_length _
    rw [List.length_map, len_data] at h1
    omega
  unfold maxLen at hcm
  have hqpos : 0 < qs.length := by
    rw [← List.length_map (f := fun x : ByteArray => x.data.toList), hq]
    exact List.length_pos_iff.2 (cutL_ne _)
  have G1 := hide hb1
  have HSZ : ∀ t ∈ qs, t.size ≤ maxLen := by
    intro t ht'
    have h1 : t.data.toList ∈ cutL s.data.toList := by rw [← hq]; exact List.mem_map_of_mem ht'
    have h2 := cutL_mem_len _ _ h1
    rw [len_data, len_data] at h2
    unfold maxLen
    omega
  clear hb1 how
  by_cases hone : (qs.length : Int) < 2
  · have hp : pathParse s.data.toList = none := by
      rw [pathParse, if_neg h0', ← hq]
      match qs, hone, hqpos with
      | [x], _, _ => simp
      | x :: y :: r, h, _ => simp only [List.length_cons] at h; omega
    have HP := hide hp
    clear hp hat hq
    go_wp2_with fail
    go_ret2
    exact ⟨.inl ⟨unhide HP, rfl⟩, unhide G1⟩
  obtain ⟨b, o, rfl, hblt, hcells⟩ := hat.at hqpos
  match qs, hone, hq, hcells, hql, hat, hqc, HSZ with
  | [], h, _, _, _, _, _, _ => simp at h
  | [x], h, _, _, _, _, _, _ => simp at h
  | x :: y :: r, _, hq, hcells, hql, hat, hqc, HSZ =>
  have c0 := hcells 0 (by simp)
  simp only [List.getElem_cons_zero, Nat.add_zero] at c0
  have hlen2 : ¬ (((x :: y :: r).length : Nat) : Int) < 2 := by simp; omega
  have hpz : (0 : Int) < (((x :: y :: r).length : Nat) : Int) := by simp; omega
  generalize hm : x :: y :: r = ms at *
  by_cases hx : x.data.toList = []
  · have hxe : x.toList.isEmpty = true := by rw [toList_data, hx]; rfl
    have hpar : pathParse s.data.toList = if ((y :: r).map (·.data.toList)).all isNameL = true then some ((y :: r).map (·.data.toList)) else none := by
      rw [pathParse, if_neg h0', ← hq, ← hm, List.map_cons, hx]
      rfl
    have HPAR := hide hpar
    have HM := hide hm
    have HC := hide hcells
    clear hpar hx hq hat hm hcells
    go_wp2_with fail
    go_loop [5] (fun i => ∃ k : Nat, 1 ≤ k ∧ k ≤ ms.length ∧ i = .int .i64 k ∧ Hid (∀ j (hj : j < ms.length), 1 ≤ j → j < k → isNameL ms[j].data.toList = true)) (fun i => ms.length - (intOf i).toNat)
    case atStart => exact ⟨1, Nat.le_refl _, by omega, rfl, fun j _ h1 h2 => by omega⟩
    case round =>
      obtain ⟨k, hk1, hk, rfl, HX⟩ := hrel
      by_cases hlt : k < ms.length
      · have hck := unhide HC k hlt
        have hsz : ms[k].size ≤ maxLen := HSZ ms[k] (List.getElem_mem hlt)
        cases hqk : isNameL ms[k].data.toList
        · have hp : pathParse s.data.toList = none := by
            rw [unhide HPAR, if_neg]
            rw [map_isName]
            intro hall
            rw [List.all_eq_true] at hall
            have hmem : ms[k] ∈ (y :: r) := by
              have hm := unhide HM
              subst hm
              obtain ⟨k', rfl⟩ : ∃ k', k = k' + 1 := ⟨k - 1, by omega⟩
              simp only [List.getElem_cons_succ]
              exact List.getElem_mem _
            have := hall _ hmem
            rw [hqk] at this
            cases this
          have HP := hide hp
          clear hp
          go_wp2_with fail
          refine (specIsName_any _ _ hsz).mono ?_
          rintro e w2 ⟨rfl, rfl⟩
          rw [hqk]
          go_wp2_with fail
          go_ret2
          exact ⟨.inl ⟨unhide HP, rfl⟩, unhide G1⟩
        · have HQ := hide hqk
          have HX2 : Hid (∀ j (hj : j < ms.length), 1 ≤ j → j < k + 1 → isNameL ms[j].data.toList = true) := by
            intro j hj h1 h2
            by_cases e : j = k
            · subst e; exact hqk
            · exact unhide HX j hj h1 (by omega)
          clear hqk
          go_wp2_with fail
          refine (specIsName_any _ _ hsz).mono ?_
          rintro e w2 ⟨rfl, rfl⟩
          rw [unhide HQ]
          go_wp2_with fail
          go_round
          case rel => exact ⟨k + 1, by omega, by omega, by go_num, HX2⟩
          case measure => simp [intOf]; omega
      · have hm := unhide HM
        have hp : pathParse s.data.toList = some ((y :: r).map (·.data.toList)) := by
          rw [unhide HPAR, if_pos]
          rw [map_isName, List.all_eq_true]
          intro z hz
          obtain ⟨j, hj, rfl⟩ := List.getElem_of_mem hz
          have h1 := unhide HX (j + 1) (by rw [← hm]; simp only [List.length_cons] at hj ⊢; omega) (by omega) (by rw [← hm] at hlt; simp only [List.length_cons] at hj hlt; omega)
          subst hm
          exact h1
        have HP := hide hp
        have hml : ms.length = (y :: r).length + 1 := by rw [← hm]; rfl
        have HML := hide hml
        have hsa : StrsAt w1 (some ⟨b, o + 1, none⟩) (y :: r) := .inr ⟨b, o + 1, rfl, hblt, fun i hi => by
          have h1 := unhide HC (i + 1) (by rw [hml]; omega)
          rw [show o + 1 + i = o + (i + 1) from by omega, h1]
          subst hm
          rfl⟩
        have HS := hide hsa
        clear hp hm hsa hml
        go_wp2_with fail
        go_ret2
        exact ⟨.inr ⟨some ⟨b, o + 1, none⟩, c - 1, y :: r, unhide HP, tuple_len (by rw [unhide HML]; rfl), unhide HS, fun h => by cases h⟩, unhide G1⟩
  · have hxe : x.toList.isEmpty = false := by
      rw [toList_data]
      cases h : x.data.toList with
      | nil => exact absurd h hx
      | cons _ _ => rfl
    have hp : pathParse s.data.toList = none := by
      rw [pathParse, if_neg h0', ← hq, ← hm, List.map_cons]
      cases h : x.data.toList with
      | nil => exact absurd h hx
      | cons _ _ => rfl
    have HP := hide hp
    clear hp hx hq hat hm hcells
    go_wp2_with fail
    go_ret2
    exact ⟨.inl ⟨unhide HP, rfl⟩, unhide G1⟩

set_option maxHeartbeats 1000000 in
theorem l1Texts_any (a : Option Addr) (c : Nat) (ps : List ByteArray) (w : World) (h : StrsAt w a ps) (h0 : a = none → ps = [] ∧ c = 0) (hn : ps.length ≤ 1048577) :
    Calls Tryd.prog 55 #[.slice a ps.length c] w fun e w' => (∃ v, e = .returned v ∧ w'.ownsRow w.heap.size 9 1 v ps.length (ps.map Value.string)) ∧ Below w.heap.size w w' := by
  obtain ⟨i0, hi, hz0, hz1, hz2⟩ := info_parts infoStr
  have how0 := World.ownsRow_lit (base := w.heap.size) (e := 9) (size := 1) w #[] 0 (Nat.le_refl _) (by unfold maxLen; omega) rfl
  have hbw0 : Below w.heap.size w (w.alloc (.cells #[] 9)) := (Below.refl _ _).alloc (Nat.le_refl _) _
  cases a with
  | none =>
    obtain ⟨rfl, rfl⟩ := h0 rfl
    clear h h0
    have HB := hide hbw0
    clear hbw0
    go_enter Tryd.func55, Tryd.ntmps55
    go_wp2_with (at_builtin; refine wpList_append_own_none rfl _ _ 54 rfl w.heap.size 9 i0 1 Tryd.underlying54 hi _ _ _ rfl how0 rfl ?_)
    go_ret
    exact ⟨⟨_, rfl, how0⟩, unhide HB⟩
  | some ad =>
    have hnews : ∀ j u, (ps.map Value.string)[j]? = some u → (w.alloc (.cells #[] 9)).cell? (ad.add j) = some u := by
      intro j u hj
      have hb := h.below hbw0
      have hjl : j < ps.length := by
        have := (List.getElem?_eq_some_iff.1 hj).1
        simpa using this
      obtain ⟨b, o, e, _, hc⟩ := hb.at hjl
      cases e
      rw [Go.WideShapes.add_plain, hc j hjl]
      simp [List.getElem?_eq_getElem hjl] at hj
      rw [← hj]
    have HB := hide hbw0
    clear hbw0 h h0
    go_enter Tryd.func55, Tryd.ntmps55
    go_wp2_with (at_builtin; refine wpList_append_own _ rfl _ _ 54 rfl w.heap.size 9 i0 (.string ⟨#[]⟩) 1 16 Tryd.underlying54 hi hz0 hz1 hz2 rfl (by decide) _ _ _ rfl how0 ad ps.length c (ps.map Value.string) rfl (by simp) hnews (fun x hx => by obtain ⟨y, _, rfl⟩ := List.mem_map.1 hx; rfl) (by unfold maxLen; omega) (by omega) (by simp) ?_; intro v' w3 hown' hgrow3 hnil3; have HOWN := hide hown'; have HBN := hide (Below.grown (unhide HB) hgrow3 (by simp) (fun q hq => (how0.lt q hq).1)); clear hown' hgrow3 hnil3)
    go_ret
    refine ⟨⟨_, rfl, ?_⟩, unhide HBN⟩
    simpa using unhide HOWN

/-- What PathNames tells: a code, and words of its own. -/
def PathTold (base : Nat) (w : World) (l : List UInt8) (e : Ending) : Prop :=
  ∃ (v : Value) (ps : List ByteArray), e = .returned (.agg #[.int .i64 (pnCode l), v]) ∧ ps.map (·.data.toList) = pnWords l ∧ w.ownsRow base 9 1 v ps.length (ps.map Value.string)

theorem ownsRow_keep {w w' : World} {base : Nat} {e : TypeId} {v : Value} {n : Nat} {xs : List Value} (h : w.ownsRow base e 1 v n xs) (hk : ∀ k, base ≤ k → k < w.heap.size → w'.heap[k]? = w.heap[k]?) : w'.ownsRow base e 1 v n xs := by
  refine ⟨h.1, ?_⟩
  rcases h.2 with h2 | ⟨g, cap, cur, a, b, c, d⟩
  · exact .inl h2
  · exact .inr ⟨g, cap, cur, a, b, (hk g b (Array.getElem?_eq_some_iff.1 c).1).trans c, d⟩

set_option maxHeartbeats 1000000 in
theorem specPathNames_any (s : ByteArray) (w : World) (hs : s.size ≤ 1048576) :
    Calls Tryd.prog 30 #[.string s] w fun e w' => PathTold w.heap.size w' s.data.toList e ∧ Below w.heap.size w w' := by
  go_enter Tryd.func30, Tryd.ntmps30
  go_wp2_with fail
  refine (l1Names_any s _ hs).mono ?_
  rintro e w1 ⟨hN, hb1⟩
  have hz1 : w.heap.size < w1.heap.size := by have := hb1.size; simp at this; omega
  have q1 : ∀ j, w1.cell? ⟨w.heap.size, j, none⟩ = _ := fun j => (bcell hb1).1 _ j (by simp)
  have f1 : ∀ j, w1.frozen? ⟨w.heap.size, j, none⟩ = _ := fun j => (bcell hb1).2 _ j (by simp)
  have G1 := hide (below_step ((Below.refl _ _).alloc (Nat.le_refl _) _) hb1 (by simp))
  clear hb1
  rcases hN with ⟨hp, rfl⟩ | ⟨a, c, ps, hp, rfl, hat, ha0⟩
  · have hc : pnCode s.data.toList = 5 ∧ pnWords s.data.toList = [] := by simp [pnCode, pnWords, hp]
    have HC := hide hc
    clear hp hc
    go_wp2_with fail
    refine bodyPost_ret (v := .agg #[.int .i64 5, .slice none 0 0]) (by simp [results, Tryd.results30, go_sem, q1]) rfl ⟨⟨.slice none 0 0, [], by rw [(unhide HC).1], by rw [(unhide HC).2]; rfl, World.ownsRow_nil _ _ _ _⟩, ?_⟩
    repeat (first | (with_reducible exact unhide G1) | (with_reducible exact Below.refl _ _) | (with_reducible refine Below.alloc ?_ ?_ _; rotate_left; first | omega | (simp <;> omega)) | (with_reducible refine Below.setCell ?_ ?_ _; rotate_left; first | omega | (simp <;> omega)))
  have hpl : ps.length ≤ 1048577 := parse_len hp (by rw [len_data]; omega)
  by_cases h4 : (4 : Int) < ps.length
  · have hc : pnCode s.data.toList = 2 ∧ pnWords s.data.toList = [] := by
      have h4' : 4 < (ps.map (·.data.toList)).length := by simp; omega
      simp only [pnCode, pnWords, hp, if_pos h4', and_self]
    have HC := hide hc
    clear hp hc hat ha0
    go_wp2_with fail
    refine bodyPost_ret (v := .agg #[.int .i64 2, .slice none 0 0]) (by simp [results, Tryd.results30, go_sem, q1]) rfl ⟨⟨.slice none 0 0, [], by rw [(unhide HC).1], by rw [(unhide HC).2]; rfl, World.ownsRow_nil _ _ _ _⟩, ?_⟩
    repeat (first | (with_reducible exact unhide G1) | (with_reducible exact Below.refl _ _) | (with_reducible refine Below.alloc ?_ ?_ _; rotate_left; first | omega | (simp <;> omega)) | (with_reducible refine Below.setCell ?_ ?_ _; rotate_left; first | omega | (simp <;> omega)))
  · have hc : pnCode s.data.toList = 0 ∧ pnWords s.data.toList = ps.map (·.data.toList) := by
      have h4' : ¬ 4 < (ps.map (·.data.toList)).length := by simp; omega
      simp only [pnCode, pnWords, hp, if_neg h4', and_self]
    have HC := hide hc
    have HA := hide hat
    have H0 := hide ha0
    clear hp hc hat ha0
    go_wp2_with fail
    refine (l1Texts_any a c ps _ (unhide HA) (unhide H0) hpl).mono ?_
    rintro e w2 ⟨⟨v, rfl, how⟩, hb2⟩
    have hz2 : w.heap.size < w2.heap.size := by have := hb2.size; omega
    have q2 : ∀ j, w2.cell? ⟨w.heap.size, j, none⟩ = _ := fun j => ((bcell hb2).1 _ j hz1).trans (q1 j)
    have f2 : ∀ j, w2.frozen? ⟨w.heap.size, j, none⟩ = _ := fun j => ((bcell hb2).2 _ j hz1).trans (f1 j)
    obtain ⟨a2, c2, rfl, -, -, -⟩ := strsAt_own how
    have HO := hide how
    have G2 := hide (below_step (unhide G1) hb2 (by omega))
    clear how hb2 q1 f1
    go_wp2_with fail
    refine bodyPost_ret (v := .agg #[.int .i64 0, .slice a2 ps.length c2]) (by simp [results, Tryd.results30, go_sem, q2]) rfl ⟨⟨_, ps, by rw [(unhide HC).1], (unhide HC).2.symm, ?_⟩, ?_⟩
    · have h1 := unhide HO
      refine ⟨h1.1, ?_⟩
      rcases h1.2 with h2 | ⟨g, cap, cur, e1, e2, e3, e4⟩
      · exact .inl h2
      · exact .inr ⟨g, cap, cur, e1, by omega, (by rw [Below.heap_setCell _ _ _ g (by show g ≠ w.heap.size; omega), Below.heap_setCell _ _ _ g (by show g ≠ w.heap.size; omega)]; exact e3), e4⟩
    · repeat (first | (with_reducible exact unhide G2) | (with_reducible exact Below.refl _ _) | (with_reducible refine Below.alloc ?_ ?_ _; rotate_left; first | omega | (simp <;> omega)) | (with_reducible refine Below.setCell ?_ ?_ _; rotate_left; first | omega | (simp <;> omega)))
end Go.Proofs.YtcmekhpphgkglaaDoor
