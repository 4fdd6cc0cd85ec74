/-
  What impl.PathNames answers: the same code and the same words as spec.PathNames.
-/
import Derived.Test.YtcmekhpphgkglaaDoorPathNamesWalk
import Derived.Test.YtcmekhpphgkglaaDoorPathOfWalk
import Derived.Test.YtcmekhpphgkglaaDoorShelf
namespace Go.Proofs.YtcmekhpphgkglaaDoor
open Go.RowKit

theorem clone_any (s : ByteArray) (w : World) (h : s.size ≤ 281474976710656) :
    Calls Tryd.prog 59 #[.string s] w fun e w' => e = .returned (.string s) ∧ Below w.heap.size w w' := by
  go_enter Tryd.func59, Tryd.ntmps59
  go_wp2_with fail
  refine (Tryd.stringslite_Clone s _ h).mono ?_
  rintro e w1 ⟨rfl, hb⟩
  go_wp2_with fail
  go_ret
  exact ⟨rfl, hb⟩

theorem split_any (s : ByteArray) (m : Int) (w : World) (hs : s.size ≤ 1048576) (hm : w.cell? ⟨0, 0, none⟩ = some (.int .i64 m)) :
    Calls Tryd.prog 57 #[.string s, .string ⟨#[47]⟩] w fun e w' => ∃ ps : List ByteArray, e = .returned (.slice (some ⟨w.heap.size, 0, none⟩) ps.length ps.length) ∧ ps.map (·.data.toList) = cutL s.data.toList ∧ w' = w.alloc (.cells (ps.map Value.string).toArray 9) := by
  refine (Tryd.strings_Split s ⟨#[47]⟩ m w (by omega) hm (by decide)).mono ?_
  rintro e w' ⟨rfl, rfl⟩
  refine ⟨Lib.splitB ⟨#[47]⟩ 0 (Lib.countB s ⟨#[47]⟩) s, ?_, splitB_cut s, rfl⟩
  rw [Lib.splitB_all ⟨#[47]⟩ (by decide) 0 _ s rfl]

theorem ps_len {ps : List ByteArray} {l : List UInt8} (hq : ps.map (·.data.toList) = cutL l) (hl : l.length ≤ 1048576) : ps.length ≤ 1048577 := by
  have h := cutL_length l
  rw [← hq, List.length_map] at h
  omega

theorem ps_size {ps : List ByteArray} {l : List UInt8} (hq : ps.map (·.data.toList) = cutL l) (hl : l.length ≤ 1048576) {t : ByteArray} (ht : t ∈ ps) : t.size ≤ 1048576 := by
  have h1 : t.data.toList ∈ cutL l := by rw [← hq]; exact List.mem_map_of_mem ht
  have h2 := cutL_mem_len _ _ h1
  rw [len_data] at h2
  omega

theorem hasPrefix_slash (l : List UInt8) : Lib.hasPrefix l [47] = true ↔ ∃ r, l = 47 :: r := by
  cases l with
  | nil => simp [Lib.hasPrefix]
  | cons b r =>
    simp only [Lib.hasPrefix, List.isPrefixOf, Bool.and_true, beq_iff_eq]
    constructor
    · rintro rfl; exact ⟨r, rfl⟩
    · rintro ⟨q, h⟩; exact ((List.cons.inj h).1).symm

set_option maxHeartbeats 1000000 in
theorem implPathNames_any (s : ByteArray) (m : Int) (w : World) (hs : s.size ≤ 1048576) (hm : w.cell? ⟨0, 0, none⟩ = some (.int .i64 m)) (hg : 0 < w.heap.size) :
    Calls Tryd.prog 33 #[.string s] w fun e w' => PathTold w.heap.size w' s.data.toList e ∧ Below w.heap.size w w' := by
  by_cases h0 : s = ⟨#[47]⟩
  · subst h0
    clear hm hg
    go_enter Tryd.func33, Tryd.ntmps33
    go_wp2_with fail
    refine bodyPost_ret (v := .agg #[.int .i64 0, .slice none 0 0]) (by simp [results, Tryd.results33, go_sem]) rfl ⟨⟨.slice none 0 0, [], rfl, rfl, World.ownsRow_nil _ _ _ _⟩, ?_⟩
    repeat (first | (with_reducible exact Below.refl _ _) | (with_reducible refine Below.alloc ?_ ?_ _; rotate_left; first | omega | (simp <;> omega)))
  have h0' : s.data.toList ≠ [47] := by
    intro e
    apply h0
    cases s with
    | mk d =>
      have : d = #[47] := Array.toList_inj.1 e
      rw [this]
  have ht : (s.toList == [47]) = false := by
    rw [toList_data]
    simpa using h0'
  have HM := hide hm
  clear hm h0
  cases hpre : Lib.hasPrefix s.data.toList [47]
  · have hp : pathParse s.data.toList = none := parse_bare _ (fun r e => by
      have := (hasPrefix_slash s.data.toList).2 ⟨r, e⟩
      rw [hpre] at this; cases this)
    have hc : pnCode s.data.toList = 5 ∧ pnWords s.data.toList = [] := by simp [pnCode, pnWords, hp]
    have HC := hide hc
    clear hp hc
    go_enter Tryd.func33, Tryd.ntmps33
    go_wp2_with fail
    refine (Tryd.strings_CutPrefix s ⟨#[47]⟩ _).mono ?_
    rintro e w1 ⟨rfl, rfl⟩
    rw [show Lib.hasPrefix s.data.toList (⟨#[47]⟩ : ByteArray).data.toList = false from hpre]
    go_wp2_with fail
    refine bodyPost_ret (v := .agg #[.int .i64 5, .slice none 0 0]) (by simp [results, Tryd.results33, go_sem]) rfl ⟨⟨.slice none 0 0, [], by rw [(unhide HC).1], by rw [(unhide HC).2]; rfl, World.ownsRow_nil _ _ _ _⟩, ?_⟩
    repeat (first | (with_reducible exact Below.refl _ _) | (with_reducible refine Below.alloc ?_ ?_ _; rotate_left; first | omega | (simp <;> omega)))
  · obtain ⟨l, hl⟩ := (hasPrefix_slash s.data.toList).1 hpre
    have hlne : l ≠ [] := by
      rintro rfl
      exact h0' hl
    have hpar := parse_rest l hlne
    rw [← hl] at hpar
    have htrim : Lib.trimPrefix s.data.toList [47] = l := by
      rw [Lib.trimPrefix, if_pos hpre, hl]; rfl
    have hll : l.length ≤ 1048576 := by
      have := len_data s
      rw [hl] at this
      simp only [List.length_cons] at this
      omega
    have HT := hide htrim
    have HPAR := hide hpar
    clear htrim hpar h0' hlne
    go_enter Tryd.func33, Tryd.ntmps33
    go_wp2_with fail
    refine (Tryd.strings_CutPrefix s ⟨#[47]⟩ _).mono ?_
    rintro e w1 ⟨rfl, rfl⟩
    rw [show Lib.hasPrefix s.data.toList (⟨#[47]⟩ : ByteArray).data.toList = true from hpre, show Lib.trimPrefix s.data.toList (⟨#[47]⟩ : ByteArray).data.toList = l from unhide HT]
    go_wp2_with fail
    refine (split_any ⟨l.toArray⟩ m _ (by show l.toArray.size ≤ _; simpa using hll) ?_).mono ?_
    · rw [← unhide HM]
      exact World.cell?_of_block (a := ⟨0, 0, none⟩) (Below.heap_alloc w _ _ hg)
    rintro e w1 ⟨ps, rfl, hq, rfl⟩
    have how := World.ownsRow_lit (base := w.heap.size + 1) (e := 9) (size := 1) (w.alloc (.cells #[.int .i64 0, .slice none 0 0] 70)) (ps.map Value.string).toArray ps.length (by simp) (by have := ps_len hq hll; unfold maxLen; omega) (by simp)
    rw [World.size_alloc] at how
    have hpn := ps_len hq hll
    have hsz : ∀ t ∈ ps, t.size ≤ 1048576 := fun t ht' => ps_size hq hll ht'
    obtain ⟨a0, c0, e0, hat, -, -⟩ := strsAt_own how
    cases e0
    have hbw := (((Below.refl w.heap.size w).alloc (Nat.le_refl _) (.cells #[.int .i64 0, .slice none 0 0] 70)).alloc (by simp) (.cells (ps.map Value.string).toArray 9))
    have hq1 : ∀ j, ((w.alloc (.cells #[.int .i64 0, .slice none 0 0] 70)).alloc (.cells (ps.map Value.string).toArray 9)).cell? ⟨w.heap.size, j, none⟩ = (w.alloc (.cells #[.int .i64 0, .slice none 0 0] 70)).cell? ⟨w.heap.size, j, none⟩ := fun j => World.cell?_of_block (a := ⟨w.heap.size, j, none⟩) (Below.heap_alloc _ _ _ (by simp))
    have hf1 : ∀ j, ((w.alloc (.cells #[.int .i64 0, .slice none 0 0] 70)).alloc (.cells (ps.map Value.string).toArray 9)).frozen? ⟨w.heap.size, j, none⟩ = (w.alloc (.cells #[.int .i64 0, .slice none 0 0] 70)).frozen? ⟨w.heap.size, j, none⟩ := fun j => World.frozen?_of_block (a := ⟨w.heap.size, j, none⟩) (Below.heap_alloc _ _ _ (by simp))
    have hz0 : ((w.alloc (.cells #[.int .i64 0, .slice none 0 0] 70)).alloc (.cells (ps.map Value.string).toArray 9)).heap.size = w.heap.size + 2 := by simp
    have HAT := hide hat
    have HOW := hide how
    have HBW := hide hbw
    have HQ := hide hq
    clear hat how hbw hq
    go_wp2_with fail
    refine (areNames_any _ _ ps _ (unhide HAT) (fun t ht' => by have := hsz t ht'; unfold maxLen; omega) (by unfold maxLen; omega)).mono ?_
    rintro e w2 ⟨rfl, hb2⟩
    have hz2 : w.heap.size + 1 < w2.heap.size := by have := hb2.size; omega
    have q2 : ∀ j, w2.cell? ⟨w.heap.size, j, none⟩ = _ := fun j => ((bcell hb2).1 _ j (by omega)).trans (hq1 j)
    have f2 : ∀ j, w2.frozen? ⟨w.heap.size, j, none⟩ = _ := fun j => ((bcell hb2).2 _ j (by omega)).trans (hf1 j)
    have G2 := hide (below_step (unhide HBW) hb2 (by omega))
    have HO2 := hide (ownsRow_keep (unhide HOW) (fun k _ hk => hb2.block k hk))
    clear hb2 hq1 hf1 hz0
    have hpall : (cutL l).all isNameL = allNames ps := by rw [← unhide HQ, map_isName]; rfl
    cases hall : allNames ps
    · have hc : pnCode s.data.toList = 5 ∧ pnWords s.data.toList = [] := by
        have hp : pathParse s.data.toList = none := by rw [unhide HPAR, if_neg (by rw [hpall, hall]; decide)]
        simp [pnCode, pnWords, hp]
      have HC := hide hc
      clear hc hpall
      go_wp2_with fail
      refine bodyPost_ret (v := .agg #[.int .i64 5, .slice none 0 0]) (by simp [results, Tryd.results33, go_sem, q2]) rfl ⟨⟨.slice none 0 0, [], by rw [(unhide HC).1], by rw [(unhide HC).2]; rfl, World.ownsRow_nil _ _ _ _⟩, ?_⟩
      repeat (first | (with_reducible exact unhide G2) | (with_reducible exact Below.refl _ _) | (with_reducible refine Below.alloc ?_ ?_ _; rotate_left; first | omega | (simp <;> omega)) | (with_reducible refine Below.setCell ?_ ?_ _; rotate_left; first | omega | (simp <;> omega)))
    have hp : pathParse s.data.toList = some (ps.map (·.data.toList)) := by rw [unhide HPAR, if_pos (by rw [hpall, hall]), unhide HQ]
    by_cases h4 : (4 : Int) < ps.length
    · have hc : pnCode s.data.toList = 2 ∧ pnWords s.data.toList = [] := by
        have h4' : 4 < (ps.map (·.data.toList)).length := by simp; omega
        simp only [pnCode, pnWords, hp, if_pos h4', and_self]
      have HC := hide hc
      clear hp hc hpall
      go_wp2_with fail
      refine bodyPost_ret (v := .agg #[.int .i64 2, .slice none 0 0]) (by simp [results, Tryd.results33, go_sem, q2]) rfl ⟨⟨.slice none 0 0, [], by rw [(unhide HC).1], by rw [(unhide HC).2]; rfl, World.ownsRow_nil _ _ _ _⟩, ?_⟩
      repeat (first | (with_reducible exact unhide G2) | (with_reducible exact Below.refl _ _) | (with_reducible refine Below.alloc ?_ ?_ _; rotate_left; first | omega | (simp <;> omega)) | (with_reducible refine Below.setCell ?_ ?_ _; rotate_left; first | omega | (simp <;> omega)))
    · have hc : pnCode s.data.toList = 0 ∧ pnWords s.data.toList = ps.map (·.data.toList) := by
        have h4' : ¬ 4 < (ps.map (·.data.toList)).length := by simp; omega
        simp only [pnCode, pnWords, hp, if_neg h4', and_self]
      have HC := hide hc
      clear hp hc hpall
      go_wp2_with fail
      go_loopw [6, 7, 31] (fun _ _ i wr => ∃ k : Nat, k ≤ ps.length ∧ i = .int .i64 k ∧ wr.ownsRow (w.heap.size + 1) 9 1 (.slice (some ⟨w.heap.size + 1, 0, none⟩) ps.length ps.length) ps.length (ps.map Value.string) ∧ Below (w.heap.size + 1) w2 wr) (fun _ _ i _ => ps.length - (intOf i).toNat)
      case atStart => exact ⟨0, Nat.zero_le _, rfl, unhide HO2, Below.refl _ _⟩
      case round =>
        obtain ⟨k, hk, rfl, how, hbw⟩ := hrel
        by_cases hlt : k < ps.length
        · have hck : wr.cell? ⟨w.heap.size + 1, k, none⟩ = some (.string ps[k]) := by
            rw [how.cellAt k (by omega)]; simp [hlt]
          have hkz := hsz ps[k] (List.getElem_mem hlt)
          have HO := hide how
          have HB := hide hbw
          have hwz : w.heap.size + 1 < wr.heap.size := by have := hbw.size; omega
          clear how hbw q2 f2
          go_wp2_with fail
          refine (clone_any _ _ (by omega)).mono ?_
          rintro e w3 ⟨rfl, hb3⟩
          have hwz3 : w.heap.size + 1 < w3.heap.size := by have := hb3.size; omega
          have how3 := ownsRow_keep (unhide HO) (fun q _ hq' => hb3.block q hq')
          have hck3 : w3.cell? ⟨w.heap.size + 1, k, none⟩ = some (.string ps[k]) := by
            rw [how3.cellAt k (by omega)]; simp [hlt]
          have hfz3 := how3.frozenAt k
          obtain ⟨hst, -⟩ := how3.stored k (.string ps[k])
          have hset : (ps.map Value.string).set k (.string ps[k]) = ps.map Value.string := by
            have : (ps.map Value.string)[k]'(by simpa using hlt) = .string ps[k] := by simp
            rw [← this, List.set_getElem_self]
          rw [hset] at hst
          have HST := hide hst
          have HB3 := hide (((unhide HB).trans (hb3.mono (by omega))).setCell (p := ⟨w.heap.size + 1, k, none⟩) (Nat.le_refl _) (.string ps[k]))
          clear hst hb3 how3 hset hck
          go_wp2_with fail
          go_roundw
          case rel => exact ⟨k + 1, by omega, by go_num, unhide HST, unhide HB3⟩
          case measure => simp [intOf]; omega
        · have q3 : ∀ j, wr.cell? ⟨w.heap.size, j, none⟩ = _ := fun j => (hbw.cell (p := ⟨w.heap.size, j, none⟩) (by show w.heap.size < w.heap.size + 1; omega)).trans (q2 j)
          have f3 : ∀ j, wr.frozen? ⟨w.heap.size, j, none⟩ = _ := fun j => (hbw.frozen (p := ⟨w.heap.size, j, none⟩) (by show w.heap.size < w.heap.size + 1; omega)).trans (f2 j)
          have HO := hide how
          have G3 := hide ((unhide G2).trans (hbw.mono (by omega)))
          clear how hbw q2 f2
          go_wp2_with fail
          refine bodyPost_ret (v := .agg #[.int .i64 0, .slice (some ⟨w.heap.size + 1, 0, none⟩) ps.length ps.length]) (by simp [results, Tryd.results33, go_sem, q3]) rfl ⟨⟨_, ps, by rw [(unhide HC).1], (unhide HC).2.symm, ?_⟩, ?_⟩
          · have h1 := unhide HO
            refine ⟨h1.1, ?_⟩
            rcases h1.2 with h2 | ⟨g, cap, cur, e1, e2, e3, e4⟩
            · exact .inl h2
            · exact .inr ⟨g, cap, cur, e1, by omega, (by rw [Below.heap_setCell _ _ _ g (by show g ≠ w.heap.size; omega), Below.heap_setCell _ _ _ g (by show g ≠ w.heap.size; omega)]; exact e3), e4⟩
          · repeat (first | (with_reducible exact unhide G3) | (with_reducible exact Below.refl _ _) | (with_reducible refine Below.alloc ?_ ?_ _; rotate_left; first | omega | (simp <;> omega)) | (with_reducible refine Below.setCell ?_ ?_ _; rotate_left; first | omega | (simp <;> omega)))
end Go.Proofs.YtcmekhpphgkglaaDoor
