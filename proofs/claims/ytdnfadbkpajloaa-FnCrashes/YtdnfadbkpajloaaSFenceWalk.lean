/-
  The fence, as the specification does it.
-/
import Derived.Test.YtdnfadbkpajloaaSStoreWalk
import Derived.Test.YtdnfadbkpajloaaFenceWalk
import Derived.BigRegion
namespace Go.Proofs.Ytdnfadbkpajloaa
open Go.RowKit
set_option linter.unusedVariables false

theorem SMem.fenced {w w' : World} {base d : Nat} {t : TypeId} {v1 v2 v3 : Value} {D : Dev} {ws : List Int} (h : SMem w base d t v1 v2 v3 D) (hx : Box w' d [v1, .slice none 0 0, v3] t) (hw : w'.ownsRow base 2 1 v1 ws.length (nums ws)) (ho : Out (fun q => q = d ∨ v1.ownBlock = some q) w w') :
    SMem w' base d t v1 (.slice none 0 0) v3 ⟨ws, [], D.over⟩ := by
  refine ⟨hx, ⟨hw, .inl ⟨rfl, none, rfl, .inl rfl⟩, h.dev.o3.out ho (fun hl q hq e => ?_), fun hl => absurd rfl hl, h.dev.n13, fun hl => absurd rfl hl⟩, ?_⟩
  · rcases e with e | e
    · exact h.nd q (.inr (.inr ⟨hl, hq⟩)) e
    · exact h.dev.n13 hl q e hq
  · rintro q (h1 | ⟨hl, h1⟩ | h1) e
    · exact h.nd q (.inl h1) e
    · exact absurd rfl hl
    · exact h.nd q (.inr (.inr h1)) e

set_option maxRecDepth 20000 in
set_option maxHeartbeats 4000000 in
theorem l2Fence_any (d : Nat) (t : TypeId) (base : Nat) (v1 v2 v3 : Value) (D : Dev) (w : World) (h : SMem w base d t v1 v2 v3 D) (hg : Good D) (hn : D.flights.length ≤ 10000000) :
    Calls Try.prog 220 #[.pointer (some ⟨d, 0, none⟩)] w fun e w' => e = .returned (.tuple #[]) ∧ ∃ u1 u2 u3, SMem w' base d t u1 u2 u3 (fenceDev D) ∧ Out (fun q => q = d ∨ SB v1 v2 v3 D q) w w' := by
  obtain ⟨aw, cw, ew, -, hIw, -⟩ := intsAt_own h.dev.o1
  obtain ⟨gw, ow, eaw, -⟩ := hIw.at (k := 0) (by have := hg.small; omega)
  have how0 := h.dev.o1
  obtain ⟨a2, c2, e2, -, hb2, hg2⟩ := h.dev.o2.form
  subst ew
  subst eaw
  subst e2
  have eow : ow = 0 := by
    rcases how0.2 with ⟨e, _⟩ | ⟨g, cap, cur, e, _⟩
    · cases e
    · injection e with e; injection e with e; injection e
  subst eow
  have hsz := hg.small
  have hgd : gw ≠ d := h.nd gw (.inl rfl)
  have H := hide h
  have HG := hide hg
  clear h hg how0 hIw hb2
  go_enter Try.func220, Try.ntmps220
  go_wp2_with fail
  go_loopw [2] (fun i wr => ∃ k : Nat, k ≤ D.flights.length ∧ i = .int .i64 k ∧ Hid (wr.ownsRow base 2 1 (.slice (some ⟨gw, 0, none⟩) D.words.length cw) D.words.length (nums (keepAll D.words (D.flights.take k)))) ∧ Hid (Out (fun q => q = gw) w wr)) (fun i _ => D.flights.length - (intOf i).toNat)
  case atStart => exact ⟨0, Nat.zero_le _, rfl, by have := (unhide H).dev.o1; simpa [Hid, keepAll] using this, Out.refl _ _⟩
  case round =>
    obtain ⟨k, hk, rfl, HO, HU⟩ := hrel
    have XM := hide ((unhide H).box.out (unhide HU) (fun e => hgd e.symm))
    have q0 := (unhide XM).cell 0
    have q1 := (unhide XM).cell 1
    simp at q0 q1
    by_cases hlt : k < D.flights.length
    · have hne : D.flights ≠ [] := by intro e; rw [e] at hlt; simp at hlt
      obtain ⟨g2, rfl⟩ := hg2 hne
      have hn12 := (unhide H).dev.n12 hne
      obtain ⟨a0, c0, e0, hP, -⟩ := ((unhide H).dev.o2.out (unhide HU) (fun _ q hq e => by subst e; exact hn12 q rfl hq)).form
      injection e0 with e1 e2 e3
      subst e1 e3
      obtain ⟨b, o, eb, lb, hc⟩ := hP.at hlt
      injection eb with eb
      injection eb with eb1 eb2
      subst eb1 eb2
      have hck := hc k hlt
      have hca := hck.1
      have hcb := hck.2
      rw [Nat.zero_add] at hca hcb
      have hat := cellOk_at (unhide HG).flights hlt
      clear hck hc hP e2 hn12 hg2
      generalize hA : D.flights[k].1 = A at *
      generalize hV : D.flights[k].2 = V at *
      have HKT : Hid (keepAll D.words (D.flights.take (k + 1)) = (keepAll D.words (D.flights.take k)).set A.toNat V) := by rw [← hA, ← hV]; exact keepAll_take hlt _
      clear hA hV
      have hln : A.toNat < (nums (keepAll D.words (D.flights.take k))).length := by rw [nums_length, keepAll_len]; omega
      obtain ⟨ov, hcw⟩ : ∃ ov, wr.cell? ⟨gw, A.toNat, none⟩ = some ov := ⟨_, by rw [(unhide HO).cellAt A.toNat (by have := (unhide HO).1; omega), List.getElem?_eq_getElem hln]⟩
      have hfw := (unhide HO).frozenAt A.toNat
      have O3 := hide ((unhide HO).stored A.toNat (.int .i64 V)).1
      rw [nums_set, ← unhide HKT] at O3
      have U3 := hide ((unhide HU).setCell (p := ⟨gw, A.toNat, none⟩) (.inl rfl) (.int .i64 V))
      clear XM HKT HO HU hln
      have hl0 : 0 ≤ A := hat.1
      have hl1 : A < D.words.length := hat.2
      have k0 : (0 : Int) ≤ (k : Int) := by omega
      have k1 : (k : Int) < D.flights.length := by omega
      clear hat
      go_wp2_with fail
      go_region
      all_goals
        go_wp2_with fail
        go_roundw
        case rel => exact ⟨k + 1, by omega, by go_num, O3, outDrew (unhide U3)⟩
        case measure => simp [intOf]; omega
    · have hke : k = D.flights.length := by omega
      subst hke
      rw [List.take_length] at HO
      have f1 := (unhide XM).frozen 1
      clear hg2
      go_wp2_with fail
      clear q0 q1 f1
      generalize hU1 : wr.setCell _ _ = V1
      have X4 := (unhide XM).set' hU1
      have O4 := own_set' (unhide HO) hU1 (by simp [Value.ownBlock]; exact hgd)
      have OU : Out (fun q => q = d) wr V1 := out_set' (Out.refl _ _) hU1 (.inl rfl)
      have OA : Out (fun q => q = d ∨ (Value.slice (some ⟨gw, 0, none⟩) D.words.length cw).ownBlock = some q) w V1 := ((unhide HU).weak (fun q _ e => .inr (by rw [e]; rfl))).trans OU (fun q _ e => .inl e)
      have R := (unhide H).fenced X4 (ws := keepAll D.words D.flights) (by rw [keepAll_len]; exact O4) OA
      go_end0
      exact ⟨rfl, _, _, _, R, OA.weak (fun q _ e => by rcases e with e | e; (exact .inl e); exact .inr (.inl e))⟩
theorem fenceDev_len (D : Dev) (k1 : D.words.length ≤ 1048576) (k3 : D.over.length ≤ 1048576) : (chgDev D 0 (fenceDev D)).words.length ≤ 1048576 ∧ (chgDev D 0 (fenceDev D)).flights.length ≤ 1048576 ∧ (chgDev D 0 (fenceDev D)).over.length ≤ 1048576 := by
  refine chgDev_len fun hg => ⟨?_, ?_, k3⟩
  · show (keepAll D.words D.flights).length ≤ _; rw [keepAll_len]; exact k1
  · show [].length ≤ _; simp

end Go.Proofs.Ytdnfadbkpajloaa
