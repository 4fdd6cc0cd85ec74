/-
  A list of cells as the program keeps it (the order of their places, and a map): is there one, one is put.
-/
import Derived.Test.YtdnfadbkpajloaaMapWalk
import Derived.Test.YtdnfadbkpajloaaDevTo
import Derived.BigQuiet
import Derived.Deep.QuietTactic
import Derived.Deep.RegionHeld3
import Derived.Deep.AppendLies
import Derived.Deep.RegionLaw
namespace Go.Proofs.Ytdnfadbkpajloaa
open Go.RowKit

theorem List.set_getElem?_self' {α : Type} {l : List α} {i : Nat} {v : α} (h : l[i]? = some v) : l.set i v = l := by
  apply List.ext_getElem?
  intro j
  rw [List.getElem?_set]
  by_cases e : i = j
  · subst e
    rw [if_pos rfl, h]
    simp [(List.getElem?_eq_some_iff.1 h).1]
  · rw [if_neg e]

/-- The cells L: their places in order at ov, their values in the map mb. -/
structure CM (w : World) (ov : Value) (mb : Nat) (L : List (Int × Int)) : Prop where
  row : w.ownsRow 0 2 1 ov L.length (nums (keys L))
  map : MapAt w mb L
  uq : (keys L).Nodup
  ne : ov.ownBlock ≠ some mb
  fine : Fine L
def CMB (ov : Value) (mb : Nat) (q : Nat) : Prop := ov.ownBlock = some q ∨ q = mb

theorem CM.stay {w w' : World} {ov : Value} {mb : Nat} {L : List (Int × Int)} (h : CM w ov mb L) (hk : ∀ q, CMB ov mb q → q < w.heap.size → w'.heap[q]? = w.heap[q]?) : CM w' ov mb L :=
  ⟨own_stay h.row fun q hq => hk q (.inl hq), h.map.stay (hk mb (.inr rfl) h.map.lt), h.uq, h.ne, h.fine⟩
theorem CM.below {w w' : World} {ov : Value} {mb : Nat} {L : List (Int × Int)} (h : CM w ov mb L) (hb : Below w.heap.size w w') : CM w' ov mb L := h.stay fun q _ hq => hb.block q hq
theorem CM.out {F : Nat → Prop} {w w' : World} {ov : Value} {mb : Nat} {L : List (Int × Int)} (h : CM w ov mb L) (ho : Out F w w') (hF : ∀ q, CMB ov mb q → ¬ F q) : CM w' ov mb L := h.stay fun q hq hl => ho.block q hl (hF q hq)
theorem CM.lt {w : World} {ov : Value} {mb : Nat} {L : List (Int × Int)} (h : CM w ov mb L) {q : Nat} (hq : CMB ov mb q) : q < w.heap.size := by
  rcases hq with hq | rfl
  · exact (h.row.lt q hq).2
  · exact h.map.lt

set_option maxHeartbeats 1000000 in
theorem has_any (b o mb : Nat) (L : List (Int × Int)) (k : Int) (w : World) (hc : w.cell? ⟨b, o + 1, none⟩ = some (.map (some mb))) (h : MapAt w mb L) (wk : (Lit.int .i64 k).wf = true) :
    Calls Try.prog 143 #[.pointer (some ⟨b, o, none⟩), .int .i64 k] w fun e w' => e = .returned (.bool (look L k).isSome) ∧ w' = w := by
  have hrun := h.look_ok wk
  clear h wk
  generalize (look L k).isSome = r at *
  generalize (look L k).getD 0 = r' at *
  go_enter Try.func143, Try.ntmps143
  go_wp2
  go_ret
  exact ⟨rfl, rfl⟩

set_option maxHeartbeats 2000000 in
theorem put_any (b o mb : Nat) (ov : Value) (cs : List Value) (t : TypeId) (L : List (Int × Int)) (x y : Int) (w : World) (hx : Box w b cs t) (c0 : cs[o]? = some ov) (c1 : cs[o + 1]? = some (.map (some mb))) (h : CM w ov mb L)
    (nb : b ≠ mb) (nb2 : ov.ownBlock ≠ some b) (hL : L.length ≤ 10000000) (hf : 0 ≤ x ∧ x ≤ 1000 ∧ 0 ≤ y ∧ y ≤ 999999999999999) :
    Calls Try.prog 223 #[.pointer (some ⟨b, o, none⟩), .agg #[.int .i64 x, .int .i64 y]] w fun e w' => e = .returned (.tuple #[]) ∧
      ∃ ov', Box w' b (cs.set o ov') t ∧ CM w' ov' mb (setC L (x, y)) ∧ (ov'.ownBlock = ov.ownBlock ∨ ∃ q, ov'.ownBlock = some q ∧ w.heap.size ≤ q) ∧ Out (fun q => q = b ∨ CMB ov mb q) w w' := by
  have wx : (Lit.int .i64 x).wf = true := wfI (by omega) (by omega)
  have wy : (Lit.int .i64 y).wf = true := wfI (by omega) (by omega)
  cases hk : (look L x).isSome
  case true =>
    obtain ⟨W, hW, z1, hb, hbx⟩ := boxes1 w [.int .i64 x, .int .i64 y] 42
    have X := hide (hx.below (unhide hb))
    have H := hide (h.below (unhide hb))
    obtain ⟨W2, hrun, hm2, ho2⟩ := MapAt.put (w := W.drew) (unhide H).map wx wy (by unfold maxLen; omega)
    have p0 := (unhide hbx).cell 0
    have p1 := (unhide hbx).cell 1
    have q1 := (unhide X).cell (o + 1)
    rw [c1] at q1
    simp at p0 p1
    have HM := hide hm2
    have HU := hide ho2
    have HP := hide hk
    have lt1 := hx.lt
    have lt2 : mb < w.heap.size := h.map.lt
    clear hm2 ho2 hx h
    go_enter Try.func223, Try.ntmps223
    go_wp2_with fail
    rw [← hW]
    clear hW
    refine (has_any b o mb L x _ q1 (unhide H).map wx).mono ?_
    rintro e w1 ⟨rfl, rfl⟩
    rw [unhide HP]
    have hD : (fun w' => w'.cell? ⟨b, o + 1, none⟩ = some (.map (some mb)) ∧ w'.cell? ⟨w.heap.size, 0, none⟩ = some (.int .i64 x) ∧ w'.cell? ⟨w.heap.size, 1, none⟩ = some (.int .i64 y)) w1.drew := ⟨q1, p0, p1⟩
    have hD2 : (fun w' => w'.cell? ⟨b, o + 1, none⟩ = some (.map (some mb)) ∧ w'.cell? ⟨w.heap.size, 0, none⟩ = some (.int .i64 x) ∧ w'.cell? ⟨w.heap.size, 1, none⟩ = some (.int .i64 y)) W2 :=
      ⟨((unhide HU).cell (b := b) (by show b < w1.heap.size; omega) nb _).trans q1, ((unhide HU).cell (b := w.heap.size) (by show w.heap.size < w1.heap.size; omega) (by omega) _).trans p0, ((unhide HU).cell (b := w.heap.size) (by show w.heap.size < w1.heap.size; omega) (by omega) _).trans p1⟩
    have HD := hide hD
    have HD2 := hide hD2
    clear q1 p0 p1 hD hD2
    go_wp2_with fail
    go_region_held3 (fun w' => w'.cell? ⟨b, o + 1, none⟩ = some (.map (some mb)) ∧ w'.cell? ⟨w.heap.size, 0, none⟩ = some (.int .i64 x) ∧ w'.cell? ⟨w.heap.size, 1, none⟩ = some (.int .i64 y)) (first | exact unhide HD | exact unhide HD2) (fail)
    clear HD HD2
    have ho : Out (fun q => q = b ∨ CMB ov mb q) w W2 := (Out.ofBelow (unhide hb)).trans (b := w1) (unhide HU).undrew (fun q _ h => .inr (.inr h))
    have h2 := unhide H
    have hk2 := unhide HP
    have hks : keys (setC L (x, y)) = keys L := by rw [keys_setC, if_pos hk2]
    have hcm : CM W2 ov mb (setC L (x, y)) := ⟨by rw [hks, setC_length_some (c := (x, y)) hk2]; exact (unhide HU).own (w := w1.drew) h2.row (fun q hq e => h2.ne (by rw [hq, e])), unhide HM, by rw [hks]; exact h2.uq, h2.ne, fine_setC h2.fine hf⟩
    have hbx2 : Box W2 b (cs.set o ov) t := by
      rw [List.set_getElem?_self' c0]
      exact (show Box w1.drew b cs t from unhide X).out (unhide HU) nb
    have HO := hide ho
    have HC := hide hcm
    have HB := hide hbx2
    clear ho h2 hk2 hks hcm hbx2
    go_wp2_with fail
    go_end0
    exact ⟨rfl, ov, unhide HB, unhide HC, .inl rfl, unhide HO⟩
  case false =>
    have hk0 : look L x = none := by simpa using hk
    obtain ⟨i0, hi, hz0, hz1, hz2⟩ := info_parts infoInt64
    obtain ⟨W, hW, z1, hb, hbx⟩ := boxes1 w [.int .i64 x, .int .i64 y] 42
    have X := hide (hx.below (unhide hb))
    have H := hide (h.below (unhide hb))
    have p0 := (unhide hbx).cell 0
    have p1 := (unhide hbx).cell 1
    have q0 := (unhide X).cell o
    have f0 := (unhide X).frozen o
    have q1 := (unhide X).cell (o + 1)
    rw [c1] at q1
    rw [c0] at q0
    simp at p0 p1
    have HP := hide hk
    have lt1 := hx.lt
    have lt2 : mb < w.heap.size := h.map.lt
    have OVL := hide (fun q hq => (h.row.lt q hq).2)
    have HUQ := hide h.uq
    have HFI := hide h.fine
    clear hx h
    go_enter Try.func223, Try.ntmps223
    go_wp2_with fail
    rw [← hW]
    clear hW
    refine (has_any b o mb L x _ q1 (unhide H).map wx).mono ?_
    rintro e w1 ⟨rfl, rfl⟩
    rw [unhide HP]
    go_wp2_with fail
    have HOWN := hide (((unhide H).row.alloc (.cells #[.int .i64 x] 2)).drew)
    have lt3 : b < w1.heap.size := by omega
    go_region_law (refine step_append_lies _ rfl _ _ 24 rfl 0 2 i0 (.int .i64 0) 1 8 Try.underlying24 hi hz0 hz1 hz2 rfl (by decide) ov L.length (nums (keys L)) rfl (unhide HOWN) ⟨w1.heap.size, 0, none⟩ 1 1 [.int .i64 x] rfl rfl (cell_one_new w1 _ _) (by simp [Value.oneCell']) (by decide) (by unfold maxLen; omega) (by omega) (Nat.zero_le _) (w1.heap.size + 1) (by simp) ?_; intro g cap w3 hown hgrow hat hlt; have X3 := ((unhide X).alloc (.cells #[.int .i64 x] 2)).drew.grown hgrow nb2; have q3 := X3.cell o; have f3 := X3.frozen o; rw [c0] at q3; have XH := hide X3; have GH := hide hgrow; have OH := hide hown; clear X3 hgrow hown)
    all_goals
      clear q3 f3
      have lt4 : w.heap.size < w3.heap.size := by have := (unhide GH).size; simp at this; omega
      have hgb : g ≠ b := by
        rcases hat with h | h
        · exact fun e => nb2 (by rw [h, e])
        · omega
      have hgm : g ≠ mb := by
        rcases hat with h | h
        · exact fun e => (unhide H).ne (by rw [h, e])
        · omega
      have how : ov.ownBlock ≠ some w.heap.size := fun e => Nat.lt_irrefl _ (unhide OVL _ e)
      have M3 : Hid (MapAt w3 mb L) := ((unhide H).map.stay (w' := w3) (((unhide GH).block mb (by simp; omega) (fun e => (unhide H).ne e.symm)).trans (Below.heap_alloc w1 _ mb (by omega))))
      have C3 := hide (((unhide hbx).alloc (.cells #[.int .i64 x] 2)).drew.grown (unhide GH) how)
      have O3 : Hid (Out (fun q => q = b ∨ CMB ov mb q) w w3) := ((Out.ofBelow (unhide hb)).alloc (.cells #[.int .i64 x] 2)).trans ((Out.ofGrown (unhide GH)).undrew) (fun q _ h => .inr (.inl h.symm))
      go_wp2_with fail
      generalize hU : w3.setCell _ _ = U
      have XU := hide ((unhide XH).set' hU)
      have CU := hide ((unhide C3).other' hU (by dsimp only; omega))
      have RU := hide (own_set' (unhide OH) hU (by simp [Value.ownBlock]; exact hgb))
      have MU : Hid (MapAt U mb L) := (unhide M3).stay (by rw [← hU]; exact Below.heap_setCell w3 _ _ mb (by dsimp only; omega))
      have OU := hide (out_set' (unhide O3) hU (.inl (.inl rfl)))
      have zU := size_set' hU
      clear hU XH C3 OH M3 O3 GH HOWN X H
      obtain ⟨W2, hrun, hm2, ho2⟩ := MapAt.put (w := U.drew) (unhide MU) wx wy (by unfold maxLen; omega)
      have p0 := (unhide CU).cell 0
      have p1 := (unhide CU).cell 1
      have q1 := (unhide XU).cell (o + 1)
      rw [List.getElem?_set_ne (by omega), c1] at q1
      simp at p0 p1
      have HM := hide hm2
      have HU := hide ho2
      clear hm2 ho2
      have hD : (fun w' => w'.cell? ⟨b, o + 1, none⟩ = some (.map (some mb)) ∧ w'.cell? ⟨w.heap.size, 0, none⟩ = some (.int .i64 x) ∧ w'.cell? ⟨w.heap.size, 1, none⟩ = some (.int .i64 y)) U.drew := ⟨q1, p0, p1⟩
      have hD2 : (fun w' => w'.cell? ⟨b, o + 1, none⟩ = some (.map (some mb)) ∧ w'.cell? ⟨w.heap.size, 0, none⟩ = some (.int .i64 x) ∧ w'.cell? ⟨w.heap.size, 1, none⟩ = some (.int .i64 y)) W2 :=
        ⟨((unhide HU).cell (b := b) (by show b < U.heap.size; omega) nb _).trans q1, ((unhide HU).cell (b := w.heap.size) (by show w.heap.size < U.heap.size; omega) (by omega) _).trans p0, ((unhide HU).cell (b := w.heap.size) (by show w.heap.size < U.heap.size; omega) (by omega) _).trans p1⟩
      have HD := hide hD
      have HD2 := hide hD2
      clear q1 p0 p1 hD hD2
      go_region_held3 (fun w' => w'.cell? ⟨b, o + 1, none⟩ = some (.map (some mb)) ∧ w'.cell? ⟨w.heap.size, 0, none⟩ = some (.int .i64 x) ∧ w'.cell? ⟨w.heap.size, 1, none⟩ = some (.int .i64 y)) (first | exact unhide HD | exact unhide HD2) (fail)
      clear HD HD2
      have hks : keys (setC L (x, y)) = keys L ++ [x] := by rw [setC_none (c := (x, y)) hk0]; simp [keys]
      have hcm : CM W2 (.slice (some ⟨g, 0, none⟩) (L.length + 1) cap) mb (setC L (x, y)) := ⟨by
        rw [hks, setC_length_none (c := (x, y)) hk0, nums_append, nums_one]
        exact (unhide HU).own (w := U.drew) (unhide RU) (fun q hq e => by simp [Value.ownBlock] at hq; omega), unhide HM, nodup_setC (unhide HUQ), by simp [Value.ownBlock]; exact hgm, fine_setC (unhide HFI) hf⟩
      have hbx2 : Box W2 b (cs.set o (.slice (some ⟨g, 0, none⟩) (L.length + 1) cap)) t := (unhide XU).drew.out (unhide HU) nb
      have ho : Out (fun q => q = b ∨ CMB ov mb q) w W2 := (unhide OU).trans (unhide HU).undrew (fun q _ h => .inr (.inr h))
      have HO := hide ho
      have HC := hide hcm
      have HB := hide hbx2
      have hlast : (Value.slice (some ⟨g, 0, none⟩) (L.length + 1) cap).ownBlock = ov.ownBlock ∨ ∃ q, (Value.slice (some ⟨g, 0, none⟩) (L.length + 1) cap).ownBlock = some q ∧ w.heap.size ≤ q := by
        rcases hat with h | h
        · exact .inl (by rw [h]; rfl)
        · exact .inr ⟨g, rfl, by omega⟩
      have HLA := hide hlast
      clear hks hcm hbx2 ho hlast
      go_wp2_with fail
      go_end0
      exact ⟨rfl, _, unhide HB, unhide HC, unhide HLA, unhide HO⟩
end Go.Proofs.Ytdnfadbkpajloaa
