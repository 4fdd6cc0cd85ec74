/-
  What spec.l2Act does, and what spec.DoActs answers.
-/
import Derived.Test.YtdnfadbkpajloaaDoMath
import Derived.Test.YtdnfadbkpajloaaSFlushWalk
import Derived.Test.YtdnfadbkpajloaaSEvictWalk
import Derived.BigRegion
namespace Go.Proofs.Ytdnfadbkpajloaa
open Go.RowKit
set_option linter.unusedVariables false

set_option maxHeartbeats 3000000 in
theorem l2Act_any (d : Nat) (t : TypeId) (base : Nat) (v1 v2 v3 : Value) (D : Dev) (pb po : Nat) (k a v : Int) (w : World) (h : SMem w base d t v1 v2 v3 D) (hbase : base ≤ w.heap.size) (hg : Good D) (h0 : w.cell? ⟨pb, po, none⟩ = some (.int .i64 k)) (h1 : w.cell? ⟨pb, po + 1, none⟩ = some (.int .i64 a)) (h2 : w.cell? ⟨pb, po + 2, none⟩ = some (.int .i64 v)) (hn : cellsN D ≤ 1100000) :
    Calls Try.prog 192 #[.pointer (some ⟨d, 0, none⟩), .pointer (some ⟨pb, po, none⟩)] w fun e w' => e = .returned (.int .i64 (actCode D (k, a, v))) ∧ (actCode D (k, a, v) = 0 → ∃ u1 u2 u3, SMem w' base d t u1 u2 u3 (actDev D (k, a, v))) ∧ Out (fun q => q = d ∨ SB v1 v2 v3 D q) w w' ∧ (actCode D (k, a, v) ≠ 0 → w' = w) := by
  have n2 : D.flights.length ≤ 1100000 := by unfold cellsN at hn; omega
  have n3 : D.over.length ≤ 1100000 := by unfold cellsN at hn; omega
  have hsz := hg.small
  obtain ⟨s1, d1, s2, d2, s3, d3, e1, e2, e3, -⟩ := h.dev.form
  subst e1 e2 e3
  have c0 := h.box.cell 0
  simp at c0
  have HG := hide hg
  have H := hide h
  clear h hg hn
  cases k1 : (k == 1)
  · have e1 : k ≠ 1 := by simpa using k1
    cases k2 : (k == 2)
    · have e2 : k ≠ 2 := by simpa using k2
      cases k3 : (k == 3)
      · have e3 : k ≠ 3 := by simpa using k3
        have HC : Hid (actCode D (k, a, v) = 1) := by simp only [Hid, actCode]; rw [if_neg e1, if_neg (fun h => e2 h.1), if_neg (fun h => e3 h.1)]
        clear e1 e2 e3
        go_enter Try.func192, Try.ntmps192
        go_wp2_with fail
        go_ret
        exact ⟨ret_int (unhide HC).symm, (fun e => by rw [unhide HC] at e; cases e), Out.refl _ _, fun _ => rfl⟩
      · have e3 : k = 3 := by simpa using k3
        subst e3
        cases h3 : (a != 0 || v != 0)
        · have e4 : a = 0 ∧ v = 0 := by simpa using h3
          obtain ⟨rfl, rfl⟩ := e4
          have HC : Hid (actCode D (3, 0, 0) = 0 ∧ actDev D (3, 0, 0) = fenceDev D) := ⟨rfl, rfl⟩
          clear h3 k1 k2 k3 e1 e2
          go_enter Try.func192, Try.ntmps192
          go_wp2_with fail
          refine (l2Fence_any d t base _ _ _ D _ (unhide H) (unhide HG) (by omega)).mono ?_
          rintro e w2 ⟨rfl, u1, u2, u3, hM, hO⟩
          have M2 := hide hM
          have O2 := hide hO
          clear hM hO h0 h1 h2 c0
          go_wp2_with fail
          go_ret
          exact ⟨ret_int (unhide HC).1.symm, fun _ => ⟨u1, u2, u3, by rw [(unhide HC).2]; exact unhide M2⟩, unhide O2, fun h => absurd (unhide HC).1 h⟩
        · have e4 : ¬ (a = 0 ∧ v = 0) := by intro h; rw [h.1, h.2] at h3; cases h3
          have HC : Hid (actCode D (3, a, v) = 1) := by simp only [Hid, actCode]; rw [if_neg (by decide), if_neg (fun h => by cases h.1), if_neg (fun h => e4 h.2)]
          cases h5 : (a != 0)
          · have h6 : (v != 0) = true := by rw [h5] at h3; simpa using h3
            clear h3 e4 k1 k2 k3 e1 e2
            go_enter Try.func192, Try.ntmps192
            go_wp2_with fail
            go_ret
            exact ⟨ret_int (unhide HC).symm, (fun e => by rw [unhide HC] at e; cases e), Out.refl _ _, fun _ => rfl⟩
          · clear h3 e4 k1 k2 k3 e1 e2
            go_enter Try.func192, Try.ntmps192
            go_wp2_with fail
            go_ret
            exact ⟨ret_int (unhide HC).symm, (fun e => by rw [unhide HC] at e; cases e), Out.refl _ _, fun _ => rfl⟩
    · have e2 : k = 2 := by simpa using k2
      subst e2
      cases h3 : (v != 0)
      · have e4 : v = 0 := by simpa using h3
        subst e4
        have HC : Hid (actCode D (2, a, 0) = flushCode D a ∧ actDev D (2, a, 0) = flushDev D a) := ⟨rfl, rfl⟩
        cases h5 : sizeOkL D.words.length a
        · have HF : Hid (flushCode D a = 3) := by simp [Hid, flushCode, h5]
          clear h3 k1 k2 e1
          go_enter Try.func192, Try.ntmps192
          go_wp2_with fail
          refine (l2Line_any d _ _ _ a _ c0 (by omega)).mono ?_
          rintro e w0 ⟨rfl, rfl⟩
          rw [h5]
          clear h5
          go_wp2_with fail
          go_ret
          exact ⟨ret_int (by rw [(unhide HC).1, unhide HF]), (fun e => by rw [(unhide HC).1, unhide HF] at e; cases e), Out.refl _ _, fun _ => rfl⟩
        · have HF : Hid (flushCode D a = 0) := by simp [Hid, flushCode, h5]
          clear h3 k1 k2 e1
          go_enter Try.func192, Try.ntmps192
          go_wp2_with fail
          refine (l2Line_any d _ _ _ a _ c0 (by omega)).mono ?_
          rintro e w0 ⟨rfl, rfl⟩
          rw [h5]
          clear h5
          go_wp2_with fail
          refine (l2Flush_any d t base _ _ _ D a _ (unhide H) hbase (unhide HG) n2 n3).mono ?_
          rintro e w2 ⟨rfl, u1, u2, u3, hM, hO⟩
          have M2 := hide hM
          have O2 := hide hO
          clear hM hO h0 h1 h2 c0
          go_wp2_with fail
          go_ret
          exact ⟨ret_int (by rw [(unhide HC).1, unhide HF]), fun _ => ⟨u1, u2, u3, by rw [(unhide HC).2]; exact unhide M2⟩, unhide O2, fun h => absurd (by rw [(unhide HC).1, unhide HF]) h⟩
      · have e4 : v ≠ 0 := by simpa using h3
        have HC : Hid (actCode D (2, a, v) = 1) := by simp only [Hid, actCode]; rw [if_neg (by decide), if_neg (fun h => e4 h.2), if_neg (fun h => by cases h.1)]
        clear e4 k1 k2 e1
        go_enter Try.func192, Try.ntmps192
        go_wp2_with fail
        go_ret
        exact ⟨ret_int (unhide HC).symm, (fun e => by rw [unhide HC] at e; cases e), Out.refl _ _, fun _ => rfl⟩
  · have e1 : k = 1 := by simpa using k1
    subst e1
    have HC : Hid (actCode D (1, a, v) = storeCode D a v ∧ actDev D (1, a, v) = storeDev D a v) := ⟨rfl, rfl⟩
    clear k1
    cases h5 : atOk D.words.length a
    · have HF : Hid (storeCode D a v = 3) := by simp [Hid, storeCode, h5]
      go_enter Try.func192, Try.ntmps192
      go_wp2_with fail
      refine (l2At_any d _ _ _ a _ c0 (by omega)).mono ?_
      rintro e w0 ⟨rfl, rfl⟩
      rw [h5]
      clear h5
      go_wp2_with fail
      go_ret
      exact ⟨ret_int (by rw [(unhide HC).1, unhide HF]), (fun e => by rw [(unhide HC).1, unhide HF] at e; cases e), Out.refl _ _, fun _ => rfl⟩
    · cases h6 : wordOk v
      · have HF : Hid (storeCode D a v = 3) := by simp [Hid, storeCode, h6]
        go_enter Try.func192, Try.ntmps192
        go_wp2_with fail
        refine (l2At_any d _ _ _ a _ c0 (by omega)).mono ?_
        rintro e w0 ⟨rfl, rfl⟩
        rw [h5]
        clear h5
        go_wp2_with fail
        refine (l1Word_any v _).mono ?_
        rintro e w0 ⟨rfl, rfl⟩
        rw [h6]
        clear h6
        go_wp2_with fail
        go_ret
        exact ⟨ret_int (by rw [(unhide HC).1, unhide HF]), (fun e => by rw [(unhide HC).1, unhide HF] at e; cases e), Out.refl _ _, fun _ => rfl⟩
      · have HF : Hid (storeCode D a v = 0) := by simp [Hid, storeCode, h5, h6]
        go_enter Try.func192, Try.ntmps192
        go_wp2_with fail
        refine (l2At_any d _ _ _ a _ c0 (by omega)).mono ?_
        rintro e w0 ⟨rfl, rfl⟩
        rw [h5]
        clear h5
        go_wp2_with fail
        refine (l1Word_any v _).mono ?_
        rintro e w1 ⟨rfl, rfl⟩
        rw [h6]
        clear h6
        have HD := hide ((unhide H).drew)
        go_wp2_with fail
        go_region_with (go_at_call 217; refine (l2Store_any d t base _ _ _ D a v _ (unhide HD) hbase (by omega)).mono ?_; rintro e w2 ⟨rfl, u1, u2, u3, hM, hO⟩; have M2 := hide hM; have O2 := hide hO.undrew; clear hM hO)
        all_goals
          clear h0 h1 h2 c0
          go_wp2_with fail
          go_ret
          exact ⟨ret_int (by rw [(unhide HC).1, unhide HF]), fun _ => ⟨u1, u2, u3, by rw [(unhide HC).2]; exact unhide M2⟩, unhide O2, fun h => absurd (by rw [(unhide HC).1, unhide HF]) h⟩


theorem actsDev_len (D : Dev) (l : List Trip) (hw : D.words.length ≤ 1048576) (hc : cellsN D + l.length ≤ 1048576) : (chgDev D (actsCode D l) (actsDev D l)).words.length ≤ 1048576 ∧ (chgDev D (actsCode D l) (actsDev D l)).flights.length ≤ 1048576 ∧ (chgDev D (actsCode D l) (actsDev D l)).over.length ≤ 1048576 := by
  have h := actsRun_len l D
  unfold chgDev
  split
  · have h1 := h.1
    unfold cellsN at h1 hc
    unfold actsDev
    refine ⟨by rw [h.2]; exact hw, by omega, by omega⟩
  · simp [none']
end Go.Proofs.Ytdnfadbkpajloaa
