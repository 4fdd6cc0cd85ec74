/-
  A cell is dropped from a list of cells as the program keeps it.
-/
import Derived.Test.YtdnfadbkpajloaaFenceWalk
import Derived.Test.YtdnfadbkpajloaaLoadWalk
import Derived.Test.YtdnfadbkpajloaaDevMark
import Derived.Lib.SliceRun
import Derived.BigRegion
namespace Go.Proofs.Ytdnfadbkpajloaa
open Go.RowKit
set_option linter.unusedVariables false

theorem filter_erase {x : Int} : ∀ {ks : List Int} (hu : ks.Nodup) {i : Nat} (h : i < ks.length), ks[i] = x → ks.filter (fun k => k != x) = ks.eraseIdx i := by
  intro ks
  induction ks with
  | nil => intro _ i h; simp at h
  | cons y l ih =>
    intro hu i h he
    have hu' : y ∉ l ∧ l.Nodup := by simpa using hu
    cases i with
    | zero =>
      have e : y = x := he
      subst e
      rw [List.filter_cons_of_neg (by simp), List.eraseIdx_cons_zero, List.filter_eq_self]
      intro a ha
      have : a ≠ y := fun e => hu'.1 (e ▸ ha)
      simpa using this
    | succ i =>
      have hi : i < l.length := by simpa using h
      have he' : l[i] = x := he
      have hne : y ≠ x := fun e => hu'.1 (by rw [e, ← he']; exact List.getElem_mem hi)
      rw [List.filter_cons_of_pos (by simpa using hne), List.eraseIdx_cons_succ, ih hu'.2 hi he']
theorem own_shrink {w : World} {base g n c m : Nat} {e : TypeId} {xs : List Value} (h : w.ownsRow base e 1 (.slice (some ⟨g, 0, none⟩) n c) n xs) (hm : m ≤ n) : w.ownsRow base e 1 (.slice (some ⟨g, 0, none⟩) m c) m (xs.take m) := by
  have h1 := h.1
  rcases h.2 with ⟨e1, _⟩ | ⟨g', cap, cur, e1, hg, hh, hn, hc, hs, ht⟩
  · cases e1
  · injection e1 with e2 e3 e4
    injection e2 with e2
    injection e2 with e2
    subst e2 e4
    refine ⟨by rw [List.length_take]; omega, .inr ⟨g, c, cur, rfl, hg, hh, by omega, hc, hs, ?_⟩⟩
    rw [← ht, List.take_take, Nat.mul_one, Nat.mul_one, Nat.min_eq_left hm]

set_option maxHeartbeats 1000000 in
theorem dropFn_any (y x : Int) (p : Nat) (w : World) (h : w.cell? ⟨p, 0, none⟩ = some (.int .i64 x)) :
    Calls Try.prog 196 #[.int .i64 y, .pointer (some ⟨p, 0, none⟩)] w fun e w' => e = .returned (.bool (y == x)) ∧ w' = w := by
  go_enter Try.func196, Try.ntmps196
  go_wp2
  go_ret
  exact ⟨rfl, rfl⟩
set_option maxHeartbeats 1000000 in
theorem indexFunc_any (a : Option Addr) (c : Nat) (l : List (Int × Int)) (x : Int) (p : Nat) (w : World) (h : IntsAt w a (keys l)) (hp : w.cell? ⟨p, 0, none⟩ = some (.int .i64 x)) (hn : l.length ≤ 10000000) :
    Calls Try.prog 222 #[.slice a l.length c, .func (.func 196) #[] #[.pointer (some ⟨p, 0, none⟩)]] w fun e w' => e = .returned (.int .i64 (findI l x 0)) ∧ w' = w := by
  have hkl : (keys l).length = l.length := by simp [keys]
  go_enter Try.func222, Try.ntmps222
  go_wp2
  go_loop [8] (fun i => ∃ k : Nat, k ≤ l.length ∧ i = .int .i64 k ∧ Hid (findI l x 0 = findI (l.drop k) x k)) (fun i => l.length - (intOf i).toNat)
  case atStart => exact ⟨0, Nat.zero_le _, rfl, by simp [Hid]⟩
  case round =>
    obtain ⟨k, hk, rfl, HX⟩ := hrel
    by_cases hlt : k < l.length
    · obtain ⟨b1, o1, rfl, m1, hc1⟩ := h.at (k := k) (by rw [hkl]; exact hlt)
      have hk1 := hc1 k (by rw [hkl]; exact hlt)
      have hke : (keys l)[k]'(by rw [hkl]; exact hlt) = l[k].1 := by simp [keys]
      rw [hke] at hk1
      have hst := findI_drop (a := x) hlt
      clear hc1 h hke
      go_wp2_with fail
      refine (dropFn_any _ x p _ hp).mono ?_
      rintro e w1 ⟨rfl, rfl⟩
      by_cases he : l[k].1 = x
      · rw [if_pos he] at hst
        have HV := hide ((unhide HX).trans hst)
        have heb : (l[k].1 == x) = true := by simpa using he
        rw [heb]
        clear hst HX he heb
        go_wp2_with fail
        go_ret
        exact ⟨ret_int (unhide HV).symm, rfl⟩
      · rw [if_neg he] at hst
        have HV := hide ((unhide HX).trans hst)
        have heb : (l[k].1 == x) = false := by simpa using he
        rw [heb]
        clear hst HX he heb
        go_wp2_with fail
        go_round
        case rel => exact ⟨k + 1, by omega, by go_num, by rw [Hid, unhide HV]; simp⟩
        case measure => simp [intOf]; omega
    · have HV : Hid (findI l x 0 = -1) := by rw [Hid, unhide HX, List.drop_of_length_le (by omega)]; rfl
      clear h HX
      go_wp2
      go_ret
      exact ⟨ret_int (unhide HV).symm, rfl⟩
theorem take_erase : ∀ (ks : List Int) (i : Nat), (ks.eraseIdx i).take i = ks.take i := by
  intro ks
  induction ks with
  | nil => intro i; rfl
  | cons y l ih =>
    intro i
    cases i with
    | zero => simp
    | succ i => rw [List.eraseIdx_cons_succ, List.take_succ_cons, List.take_succ_cons, ih]
theorem take_up {ks : List Int} {i j : Nat} (hi : i ≤ j) (hj : j + 1 < ks.length) : (ks.eraseIdx i).take (j + 1) = (ks.eraseIdx i).take j ++ [ks[j + 1]] := by
  have hl : (ks.eraseIdx i).length = ks.length - 1 := List.length_eraseIdx_of_lt (by omega)
  rw [List.take_succ_eq_append_getElem (by omega)]
  congr 2
  rw [List.getElem_eraseIdx]
  rw [dif_neg (by omega)]

set_option maxRecDepth 1000000 in
set_option maxHeartbeats 2000000 in
theorem deleteFunc_any (v : Value) (L : List (Int × Int)) (x : Int) (p : Nat) (w : World) (h : w.ownsRow 0 2 1 v L.length (nums (keys L))) (hu : (keys L).Nodup) (hp : w.cell? ⟨p, 0, none⟩ = some (.int .i64 x)) (hpv : v.ownBlock ≠ some p) (hn : L.length ≤ 10000000) :
    Calls Try.prog 195 #[v, .func (.func 196) #[] #[.pointer (some ⟨p, 0, none⟩)]] w fun e w' => ∃ a c, e = .returned (.slice a (without L x).length c) ∧ w'.ownsRow 0 2 1 (.slice a (without L x).length c) (without L x).length (nums (keys (without L x))) ∧ (Value.slice a (without L x).length c).ownBlock = v.ownBlock ∧ Out (fun q => v.ownBlock = some q) w w' := by
  obtain ⟨a, c, e, -, hI, hcap, -⟩ := intsAt_own h
  have hkl : (keys L).length = L.length := by simp [keys]
  rw [hkl] at e hcap
  subst e
  have hpl : p < w.heap.size := World.block_lt_of_cell? w _ hp
  have HI := hide hI
  clear hI
  go_enter Try.func195, Try.ntmps195
  go_wp2_with fail
  refine (indexFunc_any a c L x p _ (unhide HI) hp hn).mono ?_
  rintro e w1 ⟨rfl, rfl⟩
  rcases findI_look L x 0 with ⟨hl, hf⟩ | ⟨i, hil, hf, hl, hx, -⟩
  · rw [hf]
    have HW := hide (without_none hl)
    have HO := hide h
    clear hf hl h
    go_wp2_with fail
    go_ret
    exact ⟨a, c, by rw [unhide HW]; rfl, by rw [unhide HW]; exact unhide HO, by rw [unhide HW], Out.refl _ _⟩
  · rw [hf, Int.zero_add]
    have hne : (without L x).length + 1 = L.length := without_length hu (by rw [hl]; rfl)
    obtain ⟨g, rfl⟩ : ∃ g, a = some ⟨g, 0, none⟩ := by
      rcases h.2 with ⟨_, h0⟩ | ⟨g, cap, cur, e, _⟩
      · omega
      · injection e with e; exact ⟨g, e⟩
    have hke : keys (without L x) = (keys L).eraseIdx i := by rw [keys_without]; exact filter_erase hu (by rw [hkl]; exact hil) (by simp [keys]; exact hx)
    have HKE := hide hke
    have hgp : p ≠ g := fun e => hpv (by rw [e]; rfl)
    have h00 := h.1
    have HROW := hide h
    have hi0 : ((i : Int) == -1) = false := by simp
    have HXI : Hid (∀ hki : i < (keys L).length, (keys L)[i] = x) := fun hki => by simp [keys]; exact hx
    clear hf hl hke h hx
    go_wp2_with fail
    go_loopw [5, 6] (fun s5 s6 wr => ∃ (j : Nat) (ys : List Value), i ≤ j ∧ j + 1 ≤ L.length ∧ s5 = .int .i64 j ∧ s6 = .int .i64 (j + 1) ∧ ys.length = L.length ∧ Hid (wr.ownsRow 0 2 1 (.slice (some ⟨g, 0, none⟩) L.length c) L.length ys) ∧ Hid (Out (fun q => q = g) w1 wr) ∧ Hid (ys.take j = nums (((keys L).eraseIdx i).take j)) ∧ Hid (∀ t, j < t → ys[t]? = (nums (keys L))[t]?)) (fun _ s6 _ => L.length - (intOf s6).toNat)
    case atStart =>
      refine ⟨i, nums (keys L), Nat.le_refl _, by omega, rfl, by go_num, by rw [nums_length, hkl], HROW, Out.refl _ _, ?_, fun _ _ => rfl⟩
      rw [Hid, nums, ← List.map_take, nums]
      congr 1
      exact (take_erase _ _).symm
    case round =>
      obtain ⟨j, ys, hij, hj, rfl, rfl, hyl, HO, HU, HT, HR⟩ := hrel
      have hpw := ((unhide HU).cell hpl hgp 0).trans hp
      by_cases hlt : j + 1 < L.length
      · have hks : j + 1 < (keys L).length := by rw [hkl]; exact hlt
        have hcj := (unhide HO).cellAt (j + 1) (by omega)
        rw [unhide HR (j + 1) (by omega), nums_at hks] at hcj
        have hney : (keys L)[j + 1] ≠ x := by
          intro e
          have hki : i < (keys L).length := by rw [hkl]; exact hil
          exact (List.pairwise_iff_getElem.1 hu) i (j + 1) hki hks (by omega) ((unhide HXI hki).trans e.symm)
        have HT2 := hide (take_step (v := .int .i64 (keys L)[j + 1]) (unhide HT) (by omega))
        rw [← nums_one, ← nums_append, ← take_up hij hks] at HT2
        generalize (keys L)[j + 1]'hks = y at *
        obtain ⟨oy, hci⟩ : ∃ oy, wr.cell? ⟨g, j, none⟩ = some oy := ⟨_, by rw [(unhide HO).cellAt j (by omega), List.getElem?_eq_getElem (by omega)]⟩
        have hfi := (unhide HO).frozenAt j
        have HO2 := hide ((unhide HO).stored j (.int .i64 y)).1
        have HU2 := hide ((unhide HU).setCell (p := ⟨g, j, none⟩) (.inl rfl) (.int .i64 y))
        have hyl2 : (ys.set j (.int .i64 y)).length = L.length := by simpa using hyl
        have HR2 : Hid (∀ t, j + 1 < t → (ys.set j (.int .i64 y))[t]? = (nums (keys L))[t]?) := fun t ht => by
          rw [List.getElem?_set_ne (by omega)]; exact unhide HR t (by omega)
        have k0 : (0 : Int) ≤ (j : Int) + 1 := by omega
        have k1 : (j : Int) + 1 < L.length := by omega
        have k2 : ((j : Int) + 1).toNat = j + 1 := by omega
        clear HT HR HO HU HROW HI HKE hne h00 HXI
        go_wp2_with fail
        refine (dropFn_any y x p _ hpw).mono ?_
        rintro e w2 ⟨rfl, rfl⟩
        have heb : (y == x) = false := by simpa using hney
        rw [heb]
        clear heb hney
        go_wp2_with fail
        go_roundw
        case rel => exact ⟨j + 1, _, by omega, by omega, by go_num, by go_num, hyl2, HO2, HU2, HT2, HR2⟩
        case measure => simp [intOf]; omega
      · have hjl : j + 1 = L.length := by omega
        have hcl : ∀ ty, (Builtin.clear_ #[24] ty #[.slice (some ⟨g, j, none⟩) (L.length - j) (c - j)]).run Try.prog wr = .ok (.tuple #[]) (wr.setCell ⟨g, j, none⟩ (.int .i64 0)) := fun ty => by
          have e1 : L.length - j = 1 := by omega
          rw [e1]
          exact Lib.run_clear_slice wr _ _ ty _ Try.underlying24 zeroI rfl rfl g j 1 _ (by omega) (fun t ht => by
            have : t = 0 := by omega
            subst this
            rw [Nat.add_zero, (unhide HO).cellAt j (by omega), List.getElem?_eq_getElem (by omega)]; rfl) (fun t ht => (unhide HO).frozenAt _)
        have HO2 := hide ((unhide HO).stored j (.int .i64 0)).1
        have HU2 := hide ((unhide HU).setCell (p := ⟨g, j, none⟩) (.inl rfl) (.int .i64 0))
        have HT2 : Hid ((ys.set j (.int .i64 0)).take j = nums (keys (without L x))) := by
          rw [Hid, List.take_set_of_le (Nat.le_refl _), unhide HT, unhide HKE, List.take_of_length_le]
          rw [List.length_eraseIdx_of_lt (by rw [hkl]; exact hil), hkl]; omega
        have HLW : Hid ((without L x).length = j) := by rw [Hid]; omega
        have k0 : (0 : Int) ≤ (j : Int) + 1 := by omega
        have k1 : ¬ (j : Int) + 1 < L.length := by omega
        have k3 : (j : Int) ≤ L.length := by omega
        have k4 : j < c := by omega
        have k5 : (j : Int) < c := by omega
        have k6 : ¬ c = j := by omega
        have k7 : (j : Int) ≤ c := by omega
        clear HT HR HO HU HROW HI HKE hne h00 hpw HXI hjl hkl hyl
        generalize hLn : L.length = n at *
        clear hLn
        go_wp2_with fail
        go_ret
        refine ⟨some ⟨g, 0, none⟩, c, by rw [unhide HLW]; rfl, ?_, rfl, (unhide HU2).weak (fun q _ e => by rw [e]; rfl)⟩
        rw [← unhide HT2, unhide HLW]
        exact own_shrink (unhide HO2) (by omega)
end Go.Proofs.Ytdnfadbkpajloaa
