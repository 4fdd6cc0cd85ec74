/-
  The walk of laws.FnCrashes: it returns true, and writes nothing that was there.
-/
import Derived.Test.YtdnfadbkpajloaaCrashParts
import Derived.Deep.RegionHeld3
import Derived.Deep.CutRange
namespace Go.Proofs.Ytdnfadbkpajloaa
open Go.RowKit
set_option linter.unusedVariables false

theorem sleft' {W0 w' : World} {p : Prop} (h : Below W0.heap.size W0 w' ∧ p) : Below W0.heap.size W0 w' := h.1
/-- Whether it was so at first, or a cell of the first j tells v of word k. -/
def okAt (b : Bool) (l : List (Int × Int)) (k : Nat) (v : Int) (j : Nat) : Bool := b || (l.take j).any (fun c => c.1 == (k : Int) && c.2 == v)
theorem okAt_zero (b : Bool) (l : List (Int × Int)) (k : Nat) (v : Int) : okAt b l k v 0 = b := by simp [okAt]
theorem okAt_succ (b : Bool) (l : List (Int × Int)) (k : Nat) (v : Int) {j : Nat} (h : j < l.length) : okAt b l k v (j + 1) = (okAt b l k v j || (l[j].1 == (k : Int) && l[j].2 == v)) := by
  unfold okAt
  rw [List.take_succ_eq_append_getElem h, List.any_append]
  simp [Bool.or_assoc]
theorem okAt_end {b : Bool} {l : List (Int × Int)} {k : Nat} {v : Int} (h : b = true ∨ ∃ j, ∃ h : j < l.length, l[j].1 = (k : Int) ∧ l[j].2 = v) {j : Nat} (hj : l.length ≤ j) : okAt b l k v j = true := by
  unfold okAt
  rcases h with rfl | ⟨i, hi, e1, e2⟩
  · rfl
  · rw [List.take_of_length_le hj, Bool.or_eq_true]
    exact .inr (List.any_eq_true.2 ⟨l[i], List.getElem_mem hi, by simp [e1, e2]⟩)
theorem okAt_or {v d x : Int} {p : Prop} (h : (v == d) = false) (hc : v = d ∨ v = x ∨ p) : (v == x) = true ∨ p := by
  rcases hc with hc | hc | hc
  · subst hc; simp at h
  · exact .inl (by simpa using hc)
  · exact .inr hc
theorem box_next (w : World) (o : Obj) (cs : List Value) (t : TypeId) : Box ((w.alloc o).alloc (.cells cs.toArray t)) (w.heap.size + 1) cs t := by
  have := box_new (w.alloc o) cs t
  rwa [World.size_alloc] at this
theorem ints_box {w : World} {b : Nat} {l : List Int} {t : TypeId} (h : Box w b (nums l) t) : IntsAt w (some ⟨b, 0, none⟩) l :=
  .inr ⟨b, 0, rfl, h.lt, fun i hi => by rw [Nat.zero_add, h.cell i, nums_at hi]⟩
theorem make_zeros (m : Nat) (hm : m ≤ 1048576) (w : World) : (Instr.makeSlice 24 (.int .i64 (m : Int)) (.int .i64 (m : Int))).run Try.prog w = .ok (.slice (some ⟨w.heap.size, 0, none⟩) m m) (w.alloc (.cells (nums (List.replicate m 0)).toArray 2)) := by
  obtain ⟨i0, hi, hz0, hz1, hz2⟩ := info_parts infoInt64
  have h := run_make w 24 2 i0 (.int .i64 0) Try.underlying24 hi hz0 .i64 .i64 m m (by omega) (by omega) (by rw [hz2]; omega) (by omega)
  rw [Int.toNat_natCast, hz1] at h
  rw [h]
  have e : madeCells (Value.int .i64 0).cells (m * 1) = (nums (List.replicate m 0)).toArray := by rw [← made_zero]
  rw [e]
theorem specLoad_rd (a1 a2 a3 : Option Addr) (c1 c2 c3 p q r : Nat) (k : Nat) (x : Int) (w : World) (h : LoadRd w a1 a2 a3 p q r k x) :
    Calls Try.prog 19 #[.agg #[.slice a1 p c1, .slice a2 q c2, .slice a3 r c3], .int .i64 k] w fun e w' => e = .returned (.agg #[.int .i64 0, .int .i64 x]) ∧ Below w.heap.size w w' := by
  obtain ⟨D, h, hp, hq, hr, hg, hk, hx⟩ := h
  exact specLoad_is a1 a2 a3 c1 c2 c3 p q r D k x w h hp hq hr hg hk hx
theorem evict_gone (a1 a2 a3 : Option Addr) (c1 c2 c3 p : Nat) (D : Dev) (k : Nat) (w : World) (h : DevRd w a1 a2 a3 D) (hp : p = D.words.length) (hc : chgCode D (evictCode D k) = 4) :
    Calls Try.prog 15 #[.agg #[.slice a1 p c1, .slice a2 D.flights.length c2, .slice a3 D.over.length c3], .int .i64 k] w fun e w' => (∃ v1 v2 v3, e = .returned (.agg #[.int .i64 4, v1, v2, v3])) ∧ Below w.heap.size w w' := by
  subst hp
  refine (implEvictWord_any a1 a2 a3 c1 c2 c3 D k w h.r h.n1 h.n2 h.n3).mono ?_
  rintro e w' ⟨hr, hb⟩
  rw [hc] at hr
  obtain ⟨b1, d1, b2, d2, b3, d3, rfl, -⟩ := resIs_at hr
  exact ⟨⟨_, _, _, rfl⟩, hb⟩
theorem own_blk {w : World} {base n m c : Nat} {e : TypeId} {k : Nat} {a : Option Addr} {xs : List Value} (h : w.ownsRow base e k (.slice a n c) m xs) : ∀ x, a = some x → base ≤ x.block := by
  intro x hx
  rcases h.2 with ⟨e, _⟩ | ⟨g, cap, cur, e, hg, hh, _⟩
  · cases e
    cases hx
  · cases e
    cases hx
    exact hg
theorem implCrash_good (a1 a2 a3 : Option Addr) (c1 c2 c3 : Nat) (D : Dev) (af : Option Addr) (cf : Nat) (fs : List Int) (w : World) (h : DevRd w a1 a2 a3 D) (hI : IntsAt w af fs) (hg : Good D) (hc : crashCode D fs = 0) {m : Nat} (hm : m = fs.length) (hmm : m ≤ 1048576) :
    Calls Try.prog 13 #[.agg #[.slice a1 D.words.length c1, .slice a2 D.flights.length c2, .slice a3 D.over.length c3], .slice af m cf] w fun e w' => (∃ b1 d1 b2 d2 b3 d3, e = .returned (.agg #[.int .i64 0, .slice b1 D.words.length d1, .slice b2 0 d2, .slice b3 0 d3]) ∧ IntsAt w' b1 (crashDev D fs).words ∧ ∀ x, b1 = some x → w.heap.size ≤ x.block) ∧ Below w.heap.size w w' := by
  subst hm
  refine (implCrashDevice_any a1 a2 a3 c1 c2 c3 D af cf fs w h.r hI h.n1 h.n2 h.n3 hmm).mono ?_
  rintro e w' ⟨⟨v1, v2, v3, rfl, ho⟩, hb⟩
  have hk : chgCode D (crashCode D fs) = 0 := by rw [chgCode_good hg]; exact hc
  rw [hk]
  rw [chgDev_ok hk] at ho
  obtain ⟨b1, d1, b2, d2, b3, d3, rfl, rfl, rfl, hr, -⟩ := ho.form
  have hl : (crashDev D fs).words.length = D.words.length := crashAll_len _ _
  have hw := own_blk ho.o1
  refine ⟨⟨b1, d1, b2, d2, b3, d3, ?_, hr.r1, hw⟩, hb⟩
  rw [hl]
  rfl
theorem keepC7 {W0 w' w1 : World} {b0 b1 b2 b3 b4 b5 b6 o0 o1 o2 o3 o4 o5 o6 : Nat} {v0 v1 v2 v3 v4 v5 v6 : Value} (h0 : b0 < W0.heap.size) (h1 : b1 < W0.heap.size) (h2 : b2 < W0.heap.size) (h3 : b3 < W0.heap.size) (h4 : b4 < W0.heap.size) (h5 : b5 < W0.heap.size) (h6 : b6 < W0.heap.size) (hS : Below W0.heap.size W0 w' ∧ w'.cell? ⟨b0, o0, none⟩ = some v0 ∧ w'.cell? ⟨b1, o1, none⟩ = some v1 ∧ w'.cell? ⟨b2, o2, none⟩ = some v2 ∧ w'.cell? ⟨b3, o3, none⟩ = some v3 ∧ w'.cell? ⟨b4, o4, none⟩ = some v4 ∧ w'.cell? ⟨b5, o5, none⟩ = some v5 ∧ w'.cell? ⟨b6, o6, none⟩ = some v6) (hb : Below w'.heap.size w' w1) : Below W0.heap.size W0 w1 ∧ w1.cell? ⟨b0, o0, none⟩ = some v0 ∧ w1.cell? ⟨b1, o1, none⟩ = some v1 ∧ w1.cell? ⟨b2, o2, none⟩ = some v2 ∧ w1.cell? ⟨b3, o3, none⟩ = some v3 ∧ w1.cell? ⟨b4, o4, none⟩ = some v4 ∧ w1.cell? ⟨b5, o5, none⟩ = some v5 ∧ w1.cell? ⟨b6, o6, none⟩ = some v6 := by
  obtain ⟨h, d0, d1, d2, d3, d4, d5, d6⟩ := hS
  have hz := h.size
  exact ⟨h.trans (hb.mono hz), ((bcell hb).1 _ _ (by omega)).trans d0, ((bcell hb).1 _ _ (by omega)).trans d1, ((bcell hb).1 _ _ (by omega)).trans d2, ((bcell hb).1 _ _ (by omega)).trans d3, ((bcell hb).1 _ _ (by omega)).trans d4, ((bcell hb).1 _ _ (by omega)).trans d5, ((bcell hb).1 _ _ (by omega)).trans d6⟩
theorem keepC8 {W0 w' w1 : World} {b0 b1 b2 b3 b4 b5 b6 b7 o0 o1 o2 o3 o4 o5 o6 o7 : Nat} {v0 v1 v2 v3 v4 v5 v6 v7 : Value} (h0 : b0 < W0.heap.size) (h1 : b1 < W0.heap.size) (h2 : b2 < W0.heap.size) (h3 : b3 < W0.heap.size) (h4 : b4 < W0.heap.size) (h5 : b5 < W0.heap.size) (h6 : b6 < W0.heap.size) (h7 : b7 < W0.heap.size) (hS : Below W0.heap.size W0 w' ∧ w'.cell? ⟨b0, o0, none⟩ = some v0 ∧ w'.cell? ⟨b1, o1, none⟩ = some v1 ∧ w'.cell? ⟨b2, o2, none⟩ = some v2 ∧ w'.cell? ⟨b3, o3, none⟩ = some v3 ∧ w'.cell? ⟨b4, o4, none⟩ = some v4 ∧ w'.cell? ⟨b5, o5, none⟩ = some v5 ∧ w'.cell? ⟨b6, o6, none⟩ = some v6 ∧ w'.cell? ⟨b7, o7, none⟩ = some v7) (hb : Below w'.heap.size w' w1) : Below W0.heap.size W0 w1 ∧ w1.cell? ⟨b0, o0, none⟩ = some v0 ∧ w1.cell? ⟨b1, o1, none⟩ = some v1 ∧ w1.cell? ⟨b2, o2, none⟩ = some v2 ∧ w1.cell? ⟨b3, o3, none⟩ = some v3 ∧ w1.cell? ⟨b4, o4, none⟩ = some v4 ∧ w1.cell? ⟨b5, o5, none⟩ = some v5 ∧ w1.cell? ⟨b6, o6, none⟩ = some v6 ∧ w1.cell? ⟨b7, o7, none⟩ = some v7 := by
  obtain ⟨h, d0, d1, d2, d3, d4, d5, d6, d7⟩ := hS
  have hz := h.size
  exact ⟨h.trans (hb.mono hz), ((bcell hb).1 _ _ (by omega)).trans d0, ((bcell hb).1 _ _ (by omega)).trans d1, ((bcell hb).1 _ _ (by omega)).trans d2, ((bcell hb).1 _ _ (by omega)).trans d3, ((bcell hb).1 _ _ (by omega)).trans d4, ((bcell hb).1 _ _ (by omega)).trans d5, ((bcell hb).1 _ _ (by omega)).trans d6, ((bcell hb).1 _ _ (by omega)).trans d7⟩

namespace fnCrashes
set_option maxRecDepth 20000 in
theorem no (a : Option Addr) (n c : Nat) (w : World) (hn : ¬ (n : Int) ≤ 1048576) :
    Calls Try.prog 3 #[.slice a n c] w fun r w' => r = .returned (.bool true) ∧ Below w.heap.size w w' := by
  go_enter Try.func3, Try.ntmps3
  go_wp2_with (go_at_call 11; go_in)
  go_ret
  exact ⟨rfl, Below.refl _ _⟩

set_option maxRecDepth 20000 in
set_option maxHeartbeats 8000000 in
theorem yes (a : Option Addr) (n c : Nat) (w : World) (h : CodeAt w a n) (hn : n ≤ 1048576) :
    Calls Try.prog 3 #[.slice a n c] w fun r w' => r = .returned (.bool true) ∧ Below w.heap.size w w' := by
  have hn' : ¬ (1048576 : Int) < n := by omega
  have AZ := hide h
  clear h
  go_enter Try.func3, Try.ntmps3
  go_wp2_with (go_at_call 11; go_in)
  refine (drawCrashDevice_any a n c _ (unhide AZ) hn).mono ?_
  rintro e w1 ⟨⟨a1, c1, a2, c2, a3, c3, D, av, cv, l, rfl, hR, hF, hT, hl⟩, hb⟩
  have z1 : w.heap.size ≤ w1.heap.size := hb.size
  have A1 := hide ((unhide AZ).below hb)
  have B1 := hide hb
  clear hb AZ
  obtain ⟨hF1, hF2, hF3⟩ := hF
  have DX : Hid (DevRd w1 a1 a2 a3 D) := hide ⟨hR.r, by omega, by omega, by omega⟩
  have TX := hide hT
  have n1 := (unhide DX).n1
  have n2 := (unhide DX).n2
  have n3 := (unhide DX).n3
  have n4 : l.length ≤ 1048576 := by omega
  clear hR hF1 hF2 hF3 hT
  go_wp2_with fail
  obtain ⟨W2, hW, z2, hbx, hx⟩ := boxes1 w1 [.slice a1 D.words.length c1, .slice a2 D.flights.length c2, .slice a3 D.over.length c3] 27
  rw [← hW]
  clear hW
  have A2 := hide ((unhide A1).below (unhide hbx))
  have D2 := hide ((unhide DX).below (unhide hbx))
  have T2 := hide ((unhide TX).below (unhide hbx))
  have B2 := hide (below_step (unhide B1) (unhide hbx) (by omega))
  have P2 := hx
  clear hbx hx A1 DX TX B1
  have u2 : w1.heap.size < W2.heap.size := by omega
  generalize w1.heap.size = b2 at *
  refine (implCrashDevice_any a1 a2 a3 c1 c2 c3 D av cv l _ (unhide D2).r (unhide T2) n1 n2 n3 n4).mono ?_
  rintro e w3 ⟨hres, hb⟩
  obtain ⟨f1, g1, f2, g2, f3, g3, rfl, hf⟩ := resIs_at hres
  clear hres
  obtain ⟨cd, hcd⟩ : ∃ cd, cd = chgCode D (crashCode D l) := ⟨_, rfl⟩
  obtain ⟨F, hFD⟩ : ∃ F, F = chgDev D (crashCode D l) (crashDev D l) := ⟨_, rfl⟩
  rw [← hFD] at hf
  rw [← hcd, ← hFD]
  have HCD := hide hcd
  have HFD := hide hFD
  clear hcd hFD
  have z3 : W2.heap.size ≤ w3.heap.size := hb.size
  have A3 := hide ((unhide A2).below hb)
  have D3 := hide ((unhide D2).below hb)
  have T3 := hide ((unhide T2).below hb)
  have P3 := hide ((unhide P2).below hb)
  have B3 := hide (below_step (unhide B2) hb (by omega))
  clear hb A2 D2 T2 P2 B2
  have FX := hide hf
  clear hf
  go_wp2_with fail
  obtain ⟨W4, hW, z4, hbx, hx⟩ := boxes1 w3 [.int .i64 cd, .slice f1 F.words.length g1, .slice f2 F.flights.length g2, .slice f3 F.over.length g3] 31
  rw [← hW]
  clear hW
  have A4 := hide ((unhide A3).below (unhide hbx))
  have D4 := hide ((unhide D3).below (unhide hbx))
  have T4 := hide ((unhide T3).below (unhide hbx))
  have P4 := hide ((unhide P3).below (unhide hbx))
  have F4 := hide ((unhide FX).below (unhide hbx))
  have B4 := hide (below_step (unhide B3) (unhide hbx) (by omega))
  have R4 := hx
  clear hbx hx A3 D3 T3 P3 FX B3
  have u4 : w3.heap.size < W4.heap.size := by omega
  generalize w3.heap.size = b4 at *
  refine (drawEvictWord_any a n c _ (unhide A4) hn).mono ?_
  rintro e w5 ⟨⟨x1, y1, x2, y2, x3, y3, E, at_, rfl, hR, hF⟩, hb⟩
  have z5 : W4.heap.size ≤ w5.heap.size := hb.size
  have A5 := hide ((unhide A4).below hb)
  have D5 := hide ((unhide D4).below hb)
  have T5 := hide ((unhide T4).below hb)
  have P5 := hide ((unhide P4).below hb)
  have F5 := hide ((unhide F4).below hb)
  have R5 := hide ((unhide R4).below hb)
  have B5 := hide (below_step (unhide B4) hb (by omega))
  clear hb A4 D4 T4 P4 F4 R4 B4
  obtain ⟨hF1, hF2, hF3⟩ := hF
  have EX : Hid (DevRd w5 x1 x2 x3 E) := hide ⟨hR.r, by omega, by omega, by omega⟩
  have m1 := (unhide EX).n1
  have m2 := (unhide EX).n2
  have m3 := (unhide EX).n3
  clear hR hF1 hF2 hF3
  clear A5
  go_wp2_with fail
  obtain ⟨W6, hW, z6, hbx, hx⟩ := boxes1 w5 [.slice x1 E.words.length y1, .slice x2 E.flights.length y2, .slice x3 E.over.length y3] 27
  rw [← hW]
  clear hW
  have D6 := hide ((unhide D5).below (unhide hbx))
  have T6 := hide ((unhide T5).below (unhide hbx))
  have P6 := hide ((unhide P5).below (unhide hbx))
  have F6 := hide ((unhide F5).below (unhide hbx))
  have R6 := hide ((unhide R5).below (unhide hbx))
  have E6 := hide ((unhide EX).below (unhide hbx))
  have B6 := hide (below_step (unhide B5) (unhide hbx) (by omega))
  have X6 := hx
  clear hbx hx D5 T5 P5 F5 R5 EX B5
  have u6 : w5.heap.size < W6.heap.size := by omega
  generalize w5.heap.size = b6 at *
  refine (implEvictWord_any x1 x2 x3 y1 y2 y3 E at_ _ (unhide E6).r m1 m2 m3).mono ?_
  rintro e w7 ⟨hres, hb⟩
  obtain ⟨v1, u1, v2, u2, v3, u3, rfl, hf⟩ := resIs_at hres
  clear hres
  obtain ⟨ce, hce⟩ : ∃ ce, ce = chgCode E (evictCode E at_) := ⟨_, rfl⟩
  obtain ⟨G, hGD⟩ : ∃ G, G = chgDev E (evictCode E at_) (evictDev E at_) := ⟨_, rfl⟩
  rw [← hGD] at hf
  rw [← hce, ← hGD]
  have HCE := hide hce
  have HGD := hide hGD
  clear hce hGD
  have z7 : W6.heap.size ≤ w7.heap.size := hb.size
  have D7 := hide ((unhide D6).below hb)
  have T7 := hide ((unhide T6).below hb)
  have P7 := hide ((unhide P6).below hb)
  have F7 := hide ((unhide F6).below hb)
  have R7 := hide ((unhide R6).below hb)
  have E7 := hide ((unhide E6).below hb)
  have X7 := hide ((unhide X6).below hb)
  have B7 := hide (below_step (unhide B6) hb (by omega))
  clear hb D6 T6 P6 F6 R6 E6 X6 B6
  have GX := hide hf
  clear hf
  go_wp2_with fail
  obtain ⟨W8, hW, z8, hbx, hx⟩ := boxes1 w7 [.int .i64 ce, .slice v1 G.words.length u1, .slice v2 G.flights.length u2, .slice v3 G.over.length u3] 31
  rw [← hW]
  clear hW
  have D8 := hide ((unhide D7).below (unhide hbx))
  have T8 := hide ((unhide T7).below (unhide hbx))
  have P8 := hide ((unhide P7).below (unhide hbx))
  have F8 := hide ((unhide F7).below (unhide hbx))
  have R8 := hide ((unhide R7).below (unhide hbx))
  have E8 := hide ((unhide E7).below (unhide hbx))
  have X8 := hide ((unhide X7).below (unhide hbx))
  have G8 := hide ((unhide GX).below (unhide hbx))
  have B8 := hide (below_step (unhide B7) (unhide hbx) (by omega))
  have V8 := hx
  clear hbx hx D7 T7 P7 F7 R7 E7 X7 GX B7
  have u8 : w7.heap.size < W8.heap.size := by omega
  generalize w7.heap.size = b8 at *
  have hfd : ∀ (x : Int) (v1 v2 v3 : Value) (w : World), (Instr.field 31 (.agg #[.int .i64 x, v1, v2, v3]) 0).run Try.prog w = .ok (.int .i64 x) w := fun x v1 v2 v3 w => by kernel_rfl
  have hne := int_neq_self cd
  have hne2 := int_neq_self ce
  have R_0 := (unhide R8).cell 0
  have m_R : b4 < W8.heap.size := by omega
  have P_0 := (unhide P8).cell 0
  have P_1 := (unhide P8).cell 1
  have P_2 := (unhide P8).cell 2
  have m_P : b2 < W8.heap.size := by omega
  have V_0 := (unhide V8).cell 0
  have m_V : b8 < W8.heap.size := by omega
  have X_0 := (unhide X8).cell 0
  have X_1 := (unhide X8).cell 1
  have X_2 := (unhide X8).cell 2
  have m_X : b6 < W8.heap.size := by omega
  simp at R_0 P_0 P_1 P_2 V_0 X_0 X_1 X_2
  have hD : (fun w' => Below W8.heap.size W8 w' ∧ w'.cell? ⟨b4, 0, none⟩ = some (.int .i64 cd) ∧ w'.cell? ⟨b2, 0, none⟩ = some (.slice a1 D.words.length c1) ∧ w'.cell? ⟨b2, 1, none⟩ = some (.slice a2 D.flights.length c2) ∧ w'.cell? ⟨b2, 2, none⟩ = some (.slice a3 D.over.length c3) ∧ w'.cell? ⟨b8, 0, none⟩ = some (.int .i64 ce) ∧ w'.cell? ⟨b6, 0, none⟩ = some (.slice x1 E.words.length y1) ∧ w'.cell? ⟨b6, 1, none⟩ = some (.slice x2 E.flights.length y2) ∧ w'.cell? ⟨b6, 2, none⟩ = some (.slice x3 E.over.length y3)) W8.drew := ⟨(Below.refl _ _).drew, R_0, P_0, P_1, P_2, V_0, X_0, X_1, X_2⟩
  have HD := hide hD
  clear hD R_0 P_0 P_1 P_2 V_0 X_0 X_1 X_2
  go_region_held3 (fun w' => Below W8.heap.size W8 w' ∧ w'.cell? ⟨b4, 0, none⟩ = some (.int .i64 cd) ∧ w'.cell? ⟨b2, 0, none⟩ = some (.slice a1 D.words.length c1) ∧ w'.cell? ⟨b2, 1, none⟩ = some (.slice a2 D.flights.length c2) ∧ w'.cell? ⟨b2, 2, none⟩ = some (.slice a3 D.over.length c3) ∧ w'.cell? ⟨b8, 0, none⟩ = some (.int .i64 ce) ∧ w'.cell? ⟨b6, 0, none⟩ = some (.slice x1 E.words.length y1) ∧ w'.cell? ⟨b6, 1, none⟩ = some (.slice x2 E.flights.length y2) ∧ w'.cell? ⟨b6, 2, none⟩ = some (.slice x3 E.over.length y3)) (first | exact unhide HD | assumption | exact keepC8 m_R m_P m_P m_P m_V m_X m_X m_X (by assumption) (by assumption))
    (first
      | (go_at_call 16; refine (specCrashDevice_any a1 a2 a3 c1 c2 c3 D av cv l _ ((unhide D8).below (sleft' (by assumption))).r n1 n2 n3 ((unhide T8).below (sleft' (by assumption))) n4).mono ?_; rintro r w5 ⟨⟨p1, q1, p2, q2, p3, q3, rfl, -⟩, hb5⟩; rw [← unhide HCD])
      | (go_at_call 17; refine (specEvictWord_any x1 x2 x3 y1 y2 y3 E at_ _ ((unhide E8).below (sleft' (by assumption))).r m1 m2 m3).mono ?_; rintro r w5 ⟨⟨p1, q1, p2, q2, p3, q3, rfl, -⟩, hb5⟩; rw [← unhide HCE]))
  rename_i hSF
  have hbS := hSF.1
  clear hSF HD m_P m_R m_V m_X
  generalize hwn : w5 = w209 at *
  clear hwn
  have z9 : W8.heap.size ≤ w209.heap.size := hbS.size
  have D9 := hide ((unhide D8).below hbS)
  have T9 := hide ((unhide T8).below hbS)
  have P9 := hide ((unhide P8).below hbS)
  have F9 := hide ((unhide F8).below hbS)
  have R9 := hide ((unhide R8).below hbS)
  have E9 := hide ((unhide E8).below hbS)
  have X9 := hide ((unhide X8).below hbS)
  have G9 := hide ((unhide G8).below hbS)
  have V9 := hide ((unhide V8).below hbS)
  have B9 := hide (below_step (unhide B8) hbS (by omega))
  clear hbS D8 T8 P8 F8 R8 E8 X8 G8 V8 B8
  clear hne hne2
  have cv0 := (unhide V9).cell 0
  simp at cv0
  have lcv : b8 < w209.heap.size := by omega
  go_upto_region 9 with fail
  clear cv0 lcv
  go_cut [79] from 49 (fun s79 wx => s79 = .bool false ∧ Hid (Below w209.heap.size w209 wx))
  case first =>
    as_aux_lemma =>
      have YY := hide (Below.refl w209.heap.size w209)
      by_cases hc0 : ce = 0
      · skip
        have e0 : (ce == 0) = true := by simpa using hc0
        have hch : chgCode E (evictCode E at_) = 0 := (unhide HCE).symm.trans hc0
        have hGl : G = evictDev E at_ := (unhide HGD).trans (chgDev_ok hch)
        obtain ⟨k, rfl, hk⟩ := evictCode_at (chg_ok hch).2
        have hg := (chg_ok hch).1
        have hGG : Good G := by rw [hGl]; exact hg.evict hk
        have hwl : G.words.length = E.words.length := by rw [hGl]; simp [evictDev]
        have hfw := evict_few (D := E) (k : Int) m2 m3
        rw [← hGl] at hfw
        have GR : Hid (DevRd w209 v1 v2 v3 G) := hide ⟨unhide G9, by omega, hfw.1, hfw.2⟩
        obtain ⟨x, hx⟩ : ∃ x, load E k = x := ⟨_, rfl⟩
        have hx2 : load G k = x := by rw [hGl, load_evict hk]; exact hx
        have hag : chgCode G (evictCode G k) = 4 := by rw [chgCode_good hGG, hGl]; exact evict_again hk
        have VX : Hid (Box w209 b8 [.int .i64 ce, .slice v1 E.words.length u1, .slice v2 G.flights.length u2, .slice v3 G.over.length u3] 31) := hide (by rw [← hwl]; exact unhide V9)
        have RG : Hid (LoadRd w209 v1 v2 v3 E.words.length G.flights.length G.over.length k x) := hide ⟨G, unhide GR, hwl.symm, rfl, rfl, hGG, by omega, hx2⟩
        have RE : Hid (LoadRd w209 x1 x2 x3 E.words.length E.flights.length E.over.length k x) := hide ⟨E, unhide E9, rfl, rfl, rfl, hg, hk, hx⟩
        have HAG := hide hag
        have HWG := hide hwl
        have hN := neq_int2 0 x
        have hnn := int_neq_self (E.words.length : Int)
        have h44 : ((4 : Int) != 4) = false := rfl
        clear hc0 hch hGl hGG hwl hfw hx hx2 hag
        go_wp2_with fail
        have V_0 := (unhide VX).cell 0
        have V_1 := (unhide VX).cell 1
        have V_2 := (unhide VX).cell 2
        have V_3 := (unhide VX).cell 3
        have m_V : b8 < w209.heap.size := by omega
        have X_0 := (unhide X9).cell 0
        have X_1 := (unhide X9).cell 1
        have X_2 := (unhide X9).cell 2
        have m_X : b6 < w209.heap.size := by omega
        simp at V_0 V_1 V_2 V_3 X_0 X_1 X_2
        have hD : (fun w' => Below w209.heap.size w209 w' ∧ w'.cell? ⟨b8, 0, none⟩ = some (.int .i64 ce) ∧ w'.cell? ⟨b8, 1, none⟩ = some (.slice v1 E.words.length u1) ∧ w'.cell? ⟨b8, 2, none⟩ = some (.slice v2 G.flights.length u2) ∧ w'.cell? ⟨b8, 3, none⟩ = some (.slice v3 G.over.length u3) ∧ w'.cell? ⟨b6, 0, none⟩ = some (.slice x1 E.words.length y1) ∧ w'.cell? ⟨b6, 1, none⟩ = some (.slice x2 E.flights.length y2) ∧ w'.cell? ⟨b6, 2, none⟩ = some (.slice x3 E.over.length y3)) w209.drew := ⟨(Below.refl _ _).drew, V_0, V_1, V_2, V_3, X_0, X_1, X_2⟩
        have HD := hide hD
        clear hD V_0 V_1 V_2 V_3 X_0 X_1 X_2
        go_region_held3 (fun w' => Below w209.heap.size w209 w' ∧ w'.cell? ⟨b8, 0, none⟩ = some (.int .i64 ce) ∧ w'.cell? ⟨b8, 1, none⟩ = some (.slice v1 E.words.length u1) ∧ w'.cell? ⟨b8, 2, none⟩ = some (.slice v2 G.flights.length u2) ∧ w'.cell? ⟨b8, 3, none⟩ = some (.slice v3 G.over.length u3) ∧ w'.cell? ⟨b6, 0, none⟩ = some (.slice x1 E.words.length y1) ∧ w'.cell? ⟨b6, 1, none⟩ = some (.slice x2 E.flights.length y2) ∧ w'.cell? ⟨b6, 2, none⟩ = some (.slice x3 E.over.length y3)) (first | exact unhide HD | assumption | exact keepC7 m_V m_V m_V m_V m_X m_X m_X (by assumption) (by assumption))
          (first
            | (go_at_call 18; refine (implLoad_rd _ _ _ _ _ _ _ _ _ k x _ ((unhide RG).below (sleft' (by assumption)))).mono ?_; rintro r w5 ⟨rfl, hb5⟩)
            | (go_at_call 19; refine (specLoad_rd _ _ _ _ _ _ _ _ _ k x _ ((unhide RE).below (sleft' (by assumption)))).mono ?_; rintro r w5 ⟨rfl, hb5⟩)
            | (go_at_call 15; refine (evict_gone _ _ _ _ _ _ _ G k _ ((unhide GR).below (sleft' (by assumption))) (unhide HWG).symm (unhide HAG)).mono ?_; rintro r w5 ⟨⟨p1, p2, p3, rfl⟩, hb5⟩))
        rename_i hSF
        have hbS := hSF.1
        clear hSF HD m_V m_X
        generalize hwn : w5 = w210 at *
        clear hwn
        have z10 : w209.heap.size ≤ w210.heap.size := hbS.size
        have D10 := hide ((unhide D9).below hbS)
        have T10 := hide ((unhide T9).below hbS)
        have P10 := hide ((unhide P9).below hbS)
        have F10 := hide ((unhide F9).below hbS)
        have R10 := hide ((unhide R9).below hbS)
        have E10 := hide ((unhide E9).below hbS)
        have X10 := hide ((unhide X9).below hbS)
        have V10 := hide ((unhide VX).below hbS)
        have G10 := hide ((unhide GR).below hbS)
        have M10 := hide ((unhide RG).below hbS)
        have N10 := hide ((unhide RE).below hbS)
        have B10 := hide (below_step (unhide B9) hbS (by omega))
        have Y10 := hide (below_step (unhide YY) hbS (by omega))
        clear hbS D9 T9 P9 F9 R9 E9 X9 VX GR RG RE B9 YY
        clear hN hnn h44
        go_wp2_with fail
        go_meet
        exact ⟨rfl, Y10⟩
      · skip
        have e0 : (ce == 0) = false := by simpa using hc0
        clear hc0
        have cv0 := (unhide V9).cell 0
        simp at cv0
        have lcv : b8 < w209.heap.size := by omega
        go_wp2_with fail
        go_quiet (fail)
        clear cv0 lcv
        go_wp2_with fail
        go_meet
        exact ⟨rfl, hide (below_drewN (unhide YY) _)⟩
  case rest =>
  obtain ⟨rfl, BB⟩ := hcut
  obtain ⟨w10, rfl⟩ : ∃ x : World, x = wc := ⟨_, rfl⟩
  have z10 : w209.heap.size ≤ w10.heap.size := (unhide BB).size
  clear E9
  clear X9
  clear V9
  clear G9
  have D10 := hide ((unhide D9).below (unhide BB))
  have T10 := hide ((unhide T9).below (unhide BB))
  have P10 := hide ((unhide P9).below (unhide BB))
  have F10 := hide ((unhide F9).below (unhide BB))
  have R10 := hide ((unhide R9).below (unhide BB))
  have B10 := hide (below_step (unhide B9) (unhide BB) (by omega))
  clear BB D9 T9 P9 F9 R9 B9
  clear HCE HGD m1 m2 m3
  by_cases hc0 : cd = 0
  · skip
    have e0 : (cd != 0) = false := by simpa using hc0
    have hch : chgCode D (crashCode D l) = 0 := (unhide HCD).symm.trans hc0
    have hFl : F = crashDev D l := (unhide HFD).trans (chgDev_ok hch)
    have hg : Good D := (chg_ok hch).1
    have hlen := crashCode_len (chg_ok hch).2
    have HG := hide hg
    have HGF : Hid (Good F) := hide (by rw [hFl]; exact hg.crash l)
    have hwl : F.words.length = D.words.length := by rw [hFl]; exact crashAll_len _ _
    have hf2 : F.flights.length = 0 := by rw [hFl]; rfl
    have hf3 : F.over.length = 0 := by rw [hFl]; rfl
    have FR : Hid (DevRd w10 f1 f2 f3 F) := hide ⟨unhide F10, by omega, by omega, by omega⟩
    have RX : Hid (Box w10 b4 [.int .i64 cd, .slice f1 D.words.length g1, .slice f2 0 g2, .slice f3 0 g3] 31) := (by have hRX := unhide R10; rw [hf2, hf3, hwl] at hRX; exact hide hRX)
    have HFl := hide hFl
    have HWL := hide hwl
    have HF2 := hide hf2
    have HF3 := hide hf3
    obtain ⟨m, hm⟩ : ∃ m, m = l.length := ⟨_, rfl⟩
    have hmD : m = D.flights.length + D.over.length := by omega
    have HMD := hide hmD
    have hmm : m ≤ 1048576 := by omega
    have HC0 : Hid (crashCode D (List.replicate m 0) = 0) := hide (crashCode_rep rfl hmD)
    have HC1 : Hid (crashCode D (List.replicate m 1) = 0) := hide (crashCode_rep rfl hmD)
    have HM := hide hm
    clear hFl hch hc0 HCD HFD hwl hg hlen hf2 hf3 hmD hm F10 R10 T10
    have cr0 := (unhide RX).cell 0
    simp at cr0
    have lcr : b4 < w10.heap.size := by omega
    go_upto_region 13 with fail
    clear cr0 lcr
    go_cut [9] from 83 (fun s9 wx => ∃ bx k11a j11a k11b j11b k11c j11c, s9 = .pointer (some ⟨bx, 0, none⟩) ∧ Hid (Box wx bx [.int .i64 0, .slice k11a D.words.length j11a, .slice k11b 0 j11b, .slice k11c 0 j11c] 31) ∧ Hid (IntsAt wx k11a (crashDev D (List.replicate m 0)).words) ∧ Hid (Below w10.heap.size w10 wx) ∧ bx < wx.heap.size)
    case first =>
      as_aux_lemma =>
        have hlm : (l.length : Int) = (m : Int) := by rw [unhide HM]
        have pc0 := (unhide P10).cell 0
        have pc1 := (unhide P10).cell 1
        have pc2 := (unhide P10).cell 2
        simp at pc0 pc1 pc2
        have pcl : b2 < w10.heap.size := by omega
        have hmk : ∀ w : World, (Instr.makeSlice 24 (.int .i64 (m : Int)) (.int .i64 (m : Int))).run Try.prog w = .ok (.slice (some ⟨w.heap.size, 0, none⟩) m m) (w.alloc (.cells (nums (List.replicate m 0)).toArray 2)) := make_zeros m hmm
        have BW1 : Hid (Below w10.heap.size w10 ((w10.alloc (.cells (nums (List.replicate m 0)).toArray 2)).drew)) := hide ((Below.refl _ _).alloc (Nat.le_refl _) _).drew
        have SZ1 : Hid (((w10.alloc (.cells (nums (List.replicate m 0)).toArray 2)).drew).heap.size = w10.heap.size + 1) := hide (by show ((w10.alloc (.cells (nums (List.replicate m 0)).toArray 2))).heap.size = _; simp)
        have IN1 : Hid (IntsAt ((w10.alloc (.cells (nums (List.replicate m 0)).toArray 2)).drew) (some ⟨w10.heap.size, 0, none⟩) (List.replicate m 0)) := hide (ints_box (l := (List.replicate m 0)) (box_new w10 (nums (List.replicate m 0)) 2).drew)
        have CK1 : Hid (Calls Try.prog 13 #[.agg #[.slice a1 D.words.length c1, .slice a2 D.flights.length c2, .slice a3 D.over.length c3], .slice (some ⟨w10.heap.size, 0, none⟩) m m] ((w10.alloc (.cells (nums (List.replicate m 0)).toArray 2)).drew) fun e w' => (∃ k11a j11a k11b j11b k11c j11c, e = .returned (.agg #[.int .i64 0, .slice k11a D.words.length j11a, .slice k11b 0 j11b, .slice k11c 0 j11c]) ∧ IntsAt w' k11a (crashDev D (List.replicate m 0)).words ∧ ∀ x, k11a = some x → ((w10.alloc (.cells (nums (List.replicate m 0)).toArray 2)).drew).heap.size ≤ x.block) ∧ Below ((w10.alloc (.cells (nums (List.replicate m 0)).toArray 2)).drew).heap.size ((w10.alloc (.cells (nums (List.replicate m 0)).toArray 2)).drew) w') := hide (implCrash_good _ _ _ _ _ _ D _ _ _ _ ((unhide D10).below (unhide BW1)) (unhide IN1) (unhide HG) (unhide HC0) (List.length_replicate.symm) hmm)
        have BW2 : Hid (Below w10.heap.size w10 (((w10.alloc (.cells (nums (List.replicate m 0)).toArray 2)).alloc (.cells #[.int .i64 0, .slice none 0 0, .slice none 0 0, .slice none 0 0] 31)).drew)) := hide (((Below.refl _ _).alloc (Nat.le_refl _) _).alloc (by simp) _).drew
        have SZ2 : Hid ((((w10.alloc (.cells (nums (List.replicate m 0)).toArray 2)).alloc (.cells #[.int .i64 0, .slice none 0 0, .slice none 0 0, .slice none 0 0] 31)).drew).heap.size = w10.heap.size + 2) := hide (by show (((w10.alloc (.cells (nums (List.replicate m 0)).toArray 2)).alloc (.cells #[.int .i64 0, .slice none 0 0, .slice none 0 0, .slice none 0 0] 31))).heap.size = _; simp)
        have IN2 : Hid (IntsAt (((w10.alloc (.cells (nums (List.replicate m 0)).toArray 2)).alloc (.cells #[.int .i64 0, .slice none 0 0, .slice none 0 0, .slice none 0 0] 31)).drew) (some ⟨w10.heap.size, 0, none⟩) (List.replicate m 0)) := hide (ints_box (l := (List.replicate m 0)) ((box_new w10 (nums (List.replicate m 0)) 2).alloc _).drew)
        have ZX2 : Hid (Box (((w10.alloc (.cells (nums (List.replicate m 0)).toArray 2)).alloc (.cells #[.int .i64 0, .slice none 0 0, .slice none 0 0, .slice none 0 0] 31)).drew) (w10.heap.size + 1) [.int .i64 0, .slice none 0 0, .slice none 0 0, .slice none 0 0] 31) := hide (box_next w10 _ [.int .i64 0, .slice none 0 0, .slice none 0 0, .slice none 0 0] 31).drew
        have CK2 : Hid (Calls Try.prog 13 #[.agg #[.slice a1 D.words.length c1, .slice a2 D.flights.length c2, .slice a3 D.over.length c3], .slice (some ⟨w10.heap.size, 0, none⟩) m m] (((w10.alloc (.cells (nums (List.replicate m 0)).toArray 2)).alloc (.cells #[.int .i64 0, .slice none 0 0, .slice none 0 0, .slice none 0 0] 31)).drew) fun e w' => (∃ k11a j11a k11b j11b k11c j11c, e = .returned (.agg #[.int .i64 0, .slice k11a D.words.length j11a, .slice k11b 0 j11b, .slice k11c 0 j11c]) ∧ IntsAt w' k11a (crashDev D (List.replicate m 0)).words ∧ ∀ x, k11a = some x → (((w10.alloc (.cells (nums (List.replicate m 0)).toArray 2)).alloc (.cells #[.int .i64 0, .slice none 0 0, .slice none 0 0, .slice none 0 0] 31)).drew).heap.size ≤ x.block) ∧ Below (((w10.alloc (.cells (nums (List.replicate m 0)).toArray 2)).alloc (.cells #[.int .i64 0, .slice none 0 0, .slice none 0 0, .slice none 0 0] 31)).drew).heap.size (((w10.alloc (.cells (nums (List.replicate m 0)).toArray 2)).alloc (.cells #[.int .i64 0, .slice none 0 0, .slice none 0 0, .slice none 0 0] 31)).drew) w') := hide (implCrash_good _ _ _ _ _ _ D _ _ _ _ ((unhide D10).below (unhide BW2)) (unhide IN2) (unhide HG) (unhide HC0) (List.length_replicate.symm) hmm)
        have BW3 : Hid (Below w10.heap.size w10 (((w10.alloc (.cells #[.int .i64 0, .slice none 0 0, .slice none 0 0, .slice none 0 0] 31)).alloc (.cells (nums (List.replicate m 0)).toArray 2)).drew)) := hide (((Below.refl _ _).alloc (Nat.le_refl _) _).alloc (by simp) _).drew
        have SZ3 : Hid ((((w10.alloc (.cells #[.int .i64 0, .slice none 0 0, .slice none 0 0, .slice none 0 0] 31)).alloc (.cells (nums (List.replicate m 0)).toArray 2)).drew).heap.size = w10.heap.size + 2) := hide (by show (((w10.alloc (.cells #[.int .i64 0, .slice none 0 0, .slice none 0 0, .slice none 0 0] 31)).alloc (.cells (nums (List.replicate m 0)).toArray 2))).heap.size = _; simp)
        have IN3 : Hid (IntsAt (((w10.alloc (.cells #[.int .i64 0, .slice none 0 0, .slice none 0 0, .slice none 0 0] 31)).alloc (.cells (nums (List.replicate m 0)).toArray 2)).drew) (some ⟨w10.heap.size + 1, 0, none⟩) (List.replicate m 0)) := hide (ints_box (l := (List.replicate m 0)) (box_next w10 _ (nums (List.replicate m 0)) 2).drew)
        have ZX3 : Hid (Box (((w10.alloc (.cells #[.int .i64 0, .slice none 0 0, .slice none 0 0, .slice none 0 0] 31)).alloc (.cells (nums (List.replicate m 0)).toArray 2)).drew) (w10.heap.size) [.int .i64 0, .slice none 0 0, .slice none 0 0, .slice none 0 0] 31) := hide ((box_new w10 [.int .i64 0, .slice none 0 0, .slice none 0 0, .slice none 0 0] 31).alloc _).drew
        have CK3 : Hid (Calls Try.prog 13 #[.agg #[.slice a1 D.words.length c1, .slice a2 D.flights.length c2, .slice a3 D.over.length c3], .slice (some ⟨w10.heap.size + 1, 0, none⟩) m m] (((w10.alloc (.cells #[.int .i64 0, .slice none 0 0, .slice none 0 0, .slice none 0 0] 31)).alloc (.cells (nums (List.replicate m 0)).toArray 2)).drew) fun e w' => (∃ k11a j11a k11b j11b k11c j11c, e = .returned (.agg #[.int .i64 0, .slice k11a D.words.length j11a, .slice k11b 0 j11b, .slice k11c 0 j11c]) ∧ IntsAt w' k11a (crashDev D (List.replicate m 0)).words ∧ ∀ x, k11a = some x → (((w10.alloc (.cells #[.int .i64 0, .slice none 0 0, .slice none 0 0, .slice none 0 0] 31)).alloc (.cells (nums (List.replicate m 0)).toArray 2)).drew).heap.size ≤ x.block) ∧ Below (((w10.alloc (.cells #[.int .i64 0, .slice none 0 0, .slice none 0 0, .slice none 0 0] 31)).alloc (.cells (nums (List.replicate m 0)).toArray 2)).drew).heap.size (((w10.alloc (.cells #[.int .i64 0, .slice none 0 0, .slice none 0 0, .slice none 0 0] 31)).alloc (.cells (nums (List.replicate m 0)).toArray 2)).drew) w') := hide (implCrash_good _ _ _ _ _ _ D _ _ _ _ ((unhide D10).below (unhide BW3)) (unhide IN3) (unhide HG) (unhide HC0) (List.length_replicate.symm) hmm)
        go_region_with (first
          | (go_at_call 13; (with_reducible refine (unhide CK1).mono ?_); rintro r w5 ⟨⟨k11a, j11a, k11b, j11b, k11c, j11c, rfl, hE, hLO⟩, hb5⟩; have E5 := hide hE; have z5 : w10.heap.size ≤ w5.heap.size := (by have h5 := hb5.size; rw [unhide SZ1] at h5; omega); have L5 : Hid (∀ x, k11a = some x → w10.heap.size + 1 ≤ x.block) := (by rw [unhide SZ1] at hLO; exact hide hLO); have B5 := hide (below_step (unhide BW1) hb5 (by rw [unhide SZ1]; omega)); clear hE hLO hb5)
          | (go_at_call 13; (with_reducible refine (unhide CK2).mono ?_); rintro r w5 ⟨⟨k11a, j11a, k11b, j11b, k11c, j11c, rfl, hE, hLO⟩, hb5⟩; have E5 := hide hE; have z5 : w10.heap.size ≤ w5.heap.size := (by have h5 := hb5.size; rw [unhide SZ2] at h5; omega); have L5 : Hid (∀ x, k11a = some x → w10.heap.size + 2 ≤ x.block) := (by rw [unhide SZ2] at hLO; exact hide hLO); have B5 := hide (below_step (unhide BW2) hb5 (by rw [unhide SZ2]; omega)); have X7 := hide ((unhide ZX2).below hb5); have xl2 : w10.heap.size + 1 < w5.heap.size := (by have h5 := (unhide X7).lt; exact h5); have x0 := (unhide X7).cell 0; have x1 := (unhide X7).cell 1; have x2 := (unhide X7).cell 2; have x3 := (unhide X7).cell 3; have y0 := (unhide X7).frozen 0; have y1 := (unhide X7).frozen 1; have y2 := (unhide X7).frozen 2; have y3 := (unhide X7).frozen 3; simp only [List.getElem?_cons_zero, List.getElem?_cons_succ] at x0 x1 x2 x3; clear hE hLO hb5)
          | (go_at_call 13; (with_reducible refine (unhide CK3).mono ?_); rintro r w5 ⟨⟨k11a, j11a, k11b, j11b, k11c, j11c, rfl, hE, hLO⟩, hb5⟩; have E5 := hide hE; have z5 : w10.heap.size ≤ w5.heap.size := (by have h5 := hb5.size; rw [unhide SZ3] at h5; omega); have L5 : Hid (∀ x, k11a = some x → w10.heap.size + 2 ≤ x.block) := (by rw [unhide SZ3] at hLO; exact hide hLO); have B5 := hide (below_step (unhide BW3) hb5 (by rw [unhide SZ3]; omega)); have X8 := hide ((unhide ZX3).below hb5); have xl3 : w10.heap.size < w5.heap.size := (by have h5 := (unhide X8).lt; exact h5); have x0 := (unhide X8).cell 0; have x1 := (unhide X8).cell 1; have x2 := (unhide X8).cell 2; have x3 := (unhide X8).cell 3; have y0 := (unhide X8).frozen 0; have y1 := (unhide X8).frozen 1; have y2 := (unhide X8).frozen 2; have y3 := (unhide X8).frozen 3; simp only [List.getElem?_cons_zero, List.getElem?_cons_succ] at x0 x1 x2 x3; clear hE hLO hb5))
        all_goals go_wp2_with fail
        all_goals go_meet
        all_goals first
          | (have _t := X7; refine ⟨w10.heap.size + 1, k11a, j11a, k11b, j11b, k11c, j11c, rfl, ?_⟩; generalize hU : (((w5.setCell _ _).setCell _ _).setCell _ _).setCell _ _ = U; obtain ⟨XU, OU⟩ := store4' (unhide X7) hU; exact ⟨XU, hide ((unhide OU).ints (unhide E5) (fun x hx e => by have h6 := unhide L5 x hx; omega)), hide ((unhide OU).below (unhide B5) (Nat.le_refl _) (fun q hq e => by omega)), by have h7 := (unhide OU).size; have h8 := (unhide X7).lt; omega⟩)
          | (have _t := X8; refine ⟨w10.heap.size, k11a, j11a, k11b, j11b, k11c, j11c, rfl, ?_⟩; generalize hU : (((w5.setCell _ _).setCell _ _).setCell _ _).setCell _ _ = U; obtain ⟨XU, OU⟩ := store4' (unhide X8) hU; exact ⟨XU, hide ((unhide OU).ints (unhide E5) (fun x hx e => by have h6 := unhide L5 x hx; omega)), hide ((unhide OU).below (unhide B5) (Nat.le_refl _) (fun q hq e => by omega)), by have h7 := (unhide OU).size; have h8 := (unhide X8).lt; omega⟩)
          | exact ⟨w5.heap.size, k11a, j11a, k11b, j11b, k11c, j11c, rfl, hide (box_new w5 [.int .i64 0, .slice k11a D.words.length j11a, .slice k11b 0 j11b, .slice k11c 0 j11c] _), hide ((unhide E5).below ((Below.refl _ _).alloc (Nat.le_refl _) _)), hide ((unhide B5).alloc z5 _), by simp⟩
    case rest =>
    obtain ⟨b11, k11a, j11a, k11b, j11b, k11c, j11c, rfl, XX, II, BB, hbx11⟩ := hcut
    obtain ⟨w11, rfl⟩ : ∃ x : World, x = wc := ⟨_, rfl⟩
    have z11 : w10.heap.size ≤ w11.heap.size := (unhide BB).size
    have D11 := hide ((unhide D10).below (unhide BB))
    have P11 := hide ((unhide P10).below (unhide BB))
    have R11 := hide ((unhide RX).below (unhide BB))
    have F11 := hide ((unhide FR).below (unhide BB))
    have B11 := hide (below_step (unhide B10) (unhide BB) (by omega))
    have NX11 := XX
    have NI11 := II
    clear XX II BB D10 P10 RX FR B10
    rw [crash_none] at NI11
    have cr0 := (unhide R11).cell 0
    simp at cr0
    have lcr : b4 < w11.heap.size := by omega
    go_upto_region 14 with fail
    clear cr0 lcr
    go_cut [10] from 88 (fun s10 wx => ∃ bx k12a j12a k12b j12b k12c j12c, s10 = .pointer (some ⟨bx, 0, none⟩) ∧ Hid (Box wx bx [.int .i64 0, .slice k12a D.words.length j12a, .slice k12b 0 j12b, .slice k12c 0 j12c] 31) ∧ Hid (IntsAt wx k12a (crashDev D (List.replicate m 1)).words) ∧ Hid (Below w11.heap.size w11 wx) ∧ bx < wx.heap.size)
    case first =>
      as_aux_lemma =>
        have hlm : (l.length : Int) = (m : Int) := by rw [unhide HM]
        have pc0 := (unhide P11).cell 0
        have pc1 := (unhide P11).cell 1
        have pc2 := (unhide P11).cell 2
        simp at pc0 pc1 pc2
        have pcl : b2 < w11.heap.size := by omega
        have BW1 : Hid (Below w11.heap.size w11 ((w11.alloc (.cells #[.int .i64 1] 2)).drew)) := hide ((Below.refl _ _).alloc (Nat.le_refl _) _).drew
        have SZ1 : Hid (((w11.alloc (.cells #[.int .i64 1] 2)).drew).heap.size = w11.heap.size + 1) := hide (by show ((w11.alloc (.cells #[.int .i64 1] 2))).heap.size = _; simp)
        have IN1 : Hid (IntsAt ((w11.alloc (.cells #[.int .i64 1] 2)).drew) (some ⟨w11.heap.size, 0, none⟩) [1]) := hide (ints_box (l := [1]) (box_new w11 [.int .i64 1] 2).drew)
        have LK1 : Hid (Calls Try.prog 20 #[.slice (some ⟨w11.heap.size, 0, none⟩) 1 1, .int .i64 (m : Int)] ((w11.alloc (.cells #[.int .i64 1] 2)).drew) fun r w' => (∃ g, r = .returned (.slice (some ⟨g, 0, none⟩) m m) ∧ IntsAt w' (some ⟨g, 0, none⟩) (List.replicate m 1)) ∧ Below ((w11.alloc (.cells #[.int .i64 1] 2)).drew).heap.size ((w11.alloc (.cells #[.int .i64 1] 2)).drew) w') := hide (lwFates_ones _ 1 m _ (unhide IN1) hmm)
        have BW2 : Hid (Below w11.heap.size w11 (((w11.alloc (.cells #[.int .i64 1] 2)).alloc (.cells #[.int .i64 0, .slice none 0 0, .slice none 0 0, .slice none 0 0] 31)).drew)) := hide (((Below.refl _ _).alloc (Nat.le_refl _) _).alloc (by simp) _).drew
        have SZ2 : Hid ((((w11.alloc (.cells #[.int .i64 1] 2)).alloc (.cells #[.int .i64 0, .slice none 0 0, .slice none 0 0, .slice none 0 0] 31)).drew).heap.size = w11.heap.size + 2) := hide (by show (((w11.alloc (.cells #[.int .i64 1] 2)).alloc (.cells #[.int .i64 0, .slice none 0 0, .slice none 0 0, .slice none 0 0] 31))).heap.size = _; simp)
        have IN2 : Hid (IntsAt (((w11.alloc (.cells #[.int .i64 1] 2)).alloc (.cells #[.int .i64 0, .slice none 0 0, .slice none 0 0, .slice none 0 0] 31)).drew) (some ⟨w11.heap.size, 0, none⟩) [1]) := hide (ints_box (l := [1]) ((box_new w11 [.int .i64 1] 2).alloc _).drew)
        have ZX2 : Hid (Box (((w11.alloc (.cells #[.int .i64 1] 2)).alloc (.cells #[.int .i64 0, .slice none 0 0, .slice none 0 0, .slice none 0 0] 31)).drew) (w11.heap.size + 1) [.int .i64 0, .slice none 0 0, .slice none 0 0, .slice none 0 0] 31) := hide (box_next w11 _ [.int .i64 0, .slice none 0 0, .slice none 0 0, .slice none 0 0] 31).drew
        have LK2 : Hid (Calls Try.prog 20 #[.slice (some ⟨w11.heap.size, 0, none⟩) 1 1, .int .i64 (m : Int)] (((w11.alloc (.cells #[.int .i64 1] 2)).alloc (.cells #[.int .i64 0, .slice none 0 0, .slice none 0 0, .slice none 0 0] 31)).drew) fun r w' => (∃ g, r = .returned (.slice (some ⟨g, 0, none⟩) m m) ∧ IntsAt w' (some ⟨g, 0, none⟩) (List.replicate m 1)) ∧ Below (((w11.alloc (.cells #[.int .i64 1] 2)).alloc (.cells #[.int .i64 0, .slice none 0 0, .slice none 0 0, .slice none 0 0] 31)).drew).heap.size (((w11.alloc (.cells #[.int .i64 1] 2)).alloc (.cells #[.int .i64 0, .slice none 0 0, .slice none 0 0, .slice none 0 0] 31)).drew) w') := hide (lwFates_ones _ 1 m _ (unhide IN2) hmm)
        have BW3 : Hid (Below w11.heap.size w11 (((w11.alloc (.cells #[.int .i64 0, .slice none 0 0, .slice none 0 0, .slice none 0 0] 31)).alloc (.cells #[.int .i64 1] 2)).drew)) := hide (((Below.refl _ _).alloc (Nat.le_refl _) _).alloc (by simp) _).drew
        have SZ3 : Hid ((((w11.alloc (.cells #[.int .i64 0, .slice none 0 0, .slice none 0 0, .slice none 0 0] 31)).alloc (.cells #[.int .i64 1] 2)).drew).heap.size = w11.heap.size + 2) := hide (by show (((w11.alloc (.cells #[.int .i64 0, .slice none 0 0, .slice none 0 0, .slice none 0 0] 31)).alloc (.cells #[.int .i64 1] 2))).heap.size = _; simp)
        have IN3 : Hid (IntsAt (((w11.alloc (.cells #[.int .i64 0, .slice none 0 0, .slice none 0 0, .slice none 0 0] 31)).alloc (.cells #[.int .i64 1] 2)).drew) (some ⟨w11.heap.size + 1, 0, none⟩) [1]) := hide (ints_box (l := [1]) (box_next w11 _ [.int .i64 1] 2).drew)
        have ZX3 : Hid (Box (((w11.alloc (.cells #[.int .i64 0, .slice none 0 0, .slice none 0 0, .slice none 0 0] 31)).alloc (.cells #[.int .i64 1] 2)).drew) (w11.heap.size) [.int .i64 0, .slice none 0 0, .slice none 0 0, .slice none 0 0] 31) := hide ((box_new w11 [.int .i64 0, .slice none 0 0, .slice none 0 0, .slice none 0 0] 31).alloc _).drew
        have LK3 : Hid (Calls Try.prog 20 #[.slice (some ⟨w11.heap.size + 1, 0, none⟩) 1 1, .int .i64 (m : Int)] (((w11.alloc (.cells #[.int .i64 0, .slice none 0 0, .slice none 0 0, .slice none 0 0] 31)).alloc (.cells #[.int .i64 1] 2)).drew) fun r w' => (∃ g, r = .returned (.slice (some ⟨g, 0, none⟩) m m) ∧ IntsAt w' (some ⟨g, 0, none⟩) (List.replicate m 1)) ∧ Below (((w11.alloc (.cells #[.int .i64 0, .slice none 0 0, .slice none 0 0, .slice none 0 0] 31)).alloc (.cells #[.int .i64 1] 2)).drew).heap.size (((w11.alloc (.cells #[.int .i64 0, .slice none 0 0, .slice none 0 0, .slice none 0 0] 31)).alloc (.cells #[.int .i64 1] 2)).drew) w') := hide (lwFates_ones _ 1 m _ (unhide IN3) hmm)
        go_region_with (first
          | (go_at_call 20; (with_reducible refine (unhide LK1).mono ?_); rintro r w4 ⟨⟨g, rfl, hI⟩, hb4⟩; have I4 := hide hI; have z4 : w11.heap.size ≤ w4.heap.size := (by have h5 := hb4.size; rw [unhide SZ1] at h5; omega); have z4b : w11.heap.size + 1 ≤ w4.heap.size := (by have h5 := hb4.size; rw [unhide SZ1] at h5; omega); have B4 := hide (below_step (unhide BW1) hb4 (by rw [unhide SZ1]; omega)); have pd0 := ((unhide P11).below (unhide B4)).cell 0; have pd1 := ((unhide P11).below (unhide B4)).cell 1; have pd2 := ((unhide P11).below (unhide B4)).cell 2; simp at pd0 pd1 pd2; have ld : b2 < w4.heap.size := (by omega); have CA : Hid (Calls Try.prog 13 #[.agg #[.slice a1 D.words.length c1, .slice a2 D.flights.length c2, .slice a3 D.over.length c3], .slice (some ⟨g, 0, none⟩) m m] w4 fun e w' => (∃ k12a j12a k12b j12b k12c j12c, e = .returned (.agg #[.int .i64 0, .slice k12a D.words.length j12a, .slice k12b 0 j12b, .slice k12c 0 j12c]) ∧ IntsAt w' k12a (crashDev D (List.replicate m 1)).words ∧ ∀ x, k12a = some x → (w4).heap.size ≤ x.block) ∧ Below (w4).heap.size (w4) w') := hide (implCrash_good _ _ _ _ _ _ D _ _ _ _ ((unhide D11).below (unhide B4)) (unhide I4) (unhide HG) (unhide HC1) (List.length_replicate.symm) hmm); have B4z : Hid (Below w11.heap.size w11 (w4.alloc (.cells #[.int .i64 0, .slice none 0 0, .slice none 0 0, .slice none 0 0] 31))) := hide ((unhide B4).alloc z4 _); have CB : Hid (Calls Try.prog 13 #[.agg #[.slice a1 D.words.length c1, .slice a2 D.flights.length c2, .slice a3 D.over.length c3], .slice (some ⟨g, 0, none⟩) m m] (w4.alloc (.cells #[.int .i64 0, .slice none 0 0, .slice none 0 0, .slice none 0 0] 31)) fun e w' => (∃ k12a j12a k12b j12b k12c j12c, e = .returned (.agg #[.int .i64 0, .slice k12a D.words.length j12a, .slice k12b 0 j12b, .slice k12c 0 j12c]) ∧ IntsAt w' k12a (crashDev D (List.replicate m 1)).words ∧ ∀ x, k12a = some x → (w4.alloc (.cells #[.int .i64 0, .slice none 0 0, .slice none 0 0, .slice none 0 0] 31)).heap.size ≤ x.block) ∧ Below (w4.alloc (.cells #[.int .i64 0, .slice none 0 0, .slice none 0 0, .slice none 0 0] 31)).heap.size (w4.alloc (.cells #[.int .i64 0, .slice none 0 0, .slice none 0 0, .slice none 0 0] 31)) w') := hide (implCrash_good _ _ _ _ _ _ D _ _ _ _ ((unhide D11).below (unhide B4z)) ((unhide I4).below ((Below.refl _ _).alloc (Nat.le_refl _) _)) (unhide HG) (unhide HC1) (List.length_replicate.symm) hmm); clear hI hb4)
          | (go_at_call 20; (with_reducible refine (unhide LK2).mono ?_); rintro r w4 ⟨⟨g, rfl, hI⟩, hb4⟩; have I4 := hide hI; have z4 : w11.heap.size ≤ w4.heap.size := (by have h5 := hb4.size; rw [unhide SZ2] at h5; omega); have z4b : w11.heap.size + 2 ≤ w4.heap.size := (by have h5 := hb4.size; rw [unhide SZ2] at h5; omega); have B4 := hide (below_step (unhide BW2) hb4 (by rw [unhide SZ2]; omega)); have pd0 := ((unhide P11).below (unhide B4)).cell 0; have pd1 := ((unhide P11).below (unhide B4)).cell 1; have pd2 := ((unhide P11).below (unhide B4)).cell 2; simp at pd0 pd1 pd2; have ld : b2 < w4.heap.size := (by omega); have X7 := hide ((unhide ZX2).below hb4); have CA : Hid (Calls Try.prog 13 #[.agg #[.slice a1 D.words.length c1, .slice a2 D.flights.length c2, .slice a3 D.over.length c3], .slice (some ⟨g, 0, none⟩) m m] w4 fun e w' => (∃ k12a j12a k12b j12b k12c j12c, e = .returned (.agg #[.int .i64 0, .slice k12a D.words.length j12a, .slice k12b 0 j12b, .slice k12c 0 j12c]) ∧ IntsAt w' k12a (crashDev D (List.replicate m 1)).words ∧ ∀ x, k12a = some x → (w4).heap.size ≤ x.block) ∧ Below (w4).heap.size (w4) w') := hide (implCrash_good _ _ _ _ _ _ D _ _ _ _ ((unhide D11).below (unhide B4)) (unhide I4) (unhide HG) (unhide HC1) (List.length_replicate.symm) hmm); have B4z : Hid (Below w11.heap.size w11 (w4.alloc (.cells #[.int .i64 0, .slice none 0 0, .slice none 0 0, .slice none 0 0] 31))) := hide ((unhide B4).alloc z4 _); have CB : Hid (Calls Try.prog 13 #[.agg #[.slice a1 D.words.length c1, .slice a2 D.flights.length c2, .slice a3 D.over.length c3], .slice (some ⟨g, 0, none⟩) m m] (w4.alloc (.cells #[.int .i64 0, .slice none 0 0, .slice none 0 0, .slice none 0 0] 31)) fun e w' => (∃ k12a j12a k12b j12b k12c j12c, e = .returned (.agg #[.int .i64 0, .slice k12a D.words.length j12a, .slice k12b 0 j12b, .slice k12c 0 j12c]) ∧ IntsAt w' k12a (crashDev D (List.replicate m 1)).words ∧ ∀ x, k12a = some x → (w4.alloc (.cells #[.int .i64 0, .slice none 0 0, .slice none 0 0, .slice none 0 0] 31)).heap.size ≤ x.block) ∧ Below (w4.alloc (.cells #[.int .i64 0, .slice none 0 0, .slice none 0 0, .slice none 0 0] 31)).heap.size (w4.alloc (.cells #[.int .i64 0, .slice none 0 0, .slice none 0 0, .slice none 0 0] 31)) w') := hide (implCrash_good _ _ _ _ _ _ D _ _ _ _ ((unhide D11).below (unhide B4z)) ((unhide I4).below ((Below.refl _ _).alloc (Nat.le_refl _) _)) (unhide HG) (unhide HC1) (List.length_replicate.symm) hmm); clear hI hb4)
          | (go_at_call 20; (with_reducible refine (unhide LK3).mono ?_); rintro r w4 ⟨⟨g, rfl, hI⟩, hb4⟩; have I4 := hide hI; have z4 : w11.heap.size ≤ w4.heap.size := (by have h5 := hb4.size; rw [unhide SZ3] at h5; omega); have z4b : w11.heap.size + 2 ≤ w4.heap.size := (by have h5 := hb4.size; rw [unhide SZ3] at h5; omega); have B4 := hide (below_step (unhide BW3) hb4 (by rw [unhide SZ3]; omega)); have pd0 := ((unhide P11).below (unhide B4)).cell 0; have pd1 := ((unhide P11).below (unhide B4)).cell 1; have pd2 := ((unhide P11).below (unhide B4)).cell 2; simp at pd0 pd1 pd2; have ld : b2 < w4.heap.size := (by omega); have X8 := hide ((unhide ZX3).below hb4); have CA : Hid (Calls Try.prog 13 #[.agg #[.slice a1 D.words.length c1, .slice a2 D.flights.length c2, .slice a3 D.over.length c3], .slice (some ⟨g, 0, none⟩) m m] w4 fun e w' => (∃ k12a j12a k12b j12b k12c j12c, e = .returned (.agg #[.int .i64 0, .slice k12a D.words.length j12a, .slice k12b 0 j12b, .slice k12c 0 j12c]) ∧ IntsAt w' k12a (crashDev D (List.replicate m 1)).words ∧ ∀ x, k12a = some x → (w4).heap.size ≤ x.block) ∧ Below (w4).heap.size (w4) w') := hide (implCrash_good _ _ _ _ _ _ D _ _ _ _ ((unhide D11).below (unhide B4)) (unhide I4) (unhide HG) (unhide HC1) (List.length_replicate.symm) hmm); have B4z : Hid (Below w11.heap.size w11 (w4.alloc (.cells #[.int .i64 0, .slice none 0 0, .slice none 0 0, .slice none 0 0] 31))) := hide ((unhide B4).alloc z4 _); have CB : Hid (Calls Try.prog 13 #[.agg #[.slice a1 D.words.length c1, .slice a2 D.flights.length c2, .slice a3 D.over.length c3], .slice (some ⟨g, 0, none⟩) m m] (w4.alloc (.cells #[.int .i64 0, .slice none 0 0, .slice none 0 0, .slice none 0 0] 31)) fun e w' => (∃ k12a j12a k12b j12b k12c j12c, e = .returned (.agg #[.int .i64 0, .slice k12a D.words.length j12a, .slice k12b 0 j12b, .slice k12c 0 j12c]) ∧ IntsAt w' k12a (crashDev D (List.replicate m 1)).words ∧ ∀ x, k12a = some x → (w4.alloc (.cells #[.int .i64 0, .slice none 0 0, .slice none 0 0, .slice none 0 0] 31)).heap.size ≤ x.block) ∧ Below (w4.alloc (.cells #[.int .i64 0, .slice none 0 0, .slice none 0 0, .slice none 0 0] 31)).heap.size (w4.alloc (.cells #[.int .i64 0, .slice none 0 0, .slice none 0 0, .slice none 0 0] 31)) w') := hide (implCrash_good _ _ _ _ _ _ D _ _ _ _ ((unhide D11).below (unhide B4z)) ((unhide I4).below ((Below.refl _ _).alloc (Nat.le_refl _) _)) (unhide HG) (unhide HC1) (List.length_replicate.symm) hmm); clear hI hb4)
          | (go_at_call 13; have _t := X7; (with_reducible refine (unhide CA).mono ?_); rintro r w5 ⟨⟨k12a, j12a, k12b, j12b, k12c, j12c, rfl, hE, hLO⟩, hb5⟩; have E5 := hide hE; have z5 : w11.heap.size ≤ w5.heap.size := (by have h5 := hb5.size; omega); have L5 : Hid (∀ x, k12a = some x → w11.heap.size + 2 ≤ x.block) := hide (fun x hx => Nat.le_trans z4b (hLO x hx)); have B5 := hide (below_step (unhide B4) hb5 z4); have Q7 := hide ((unhide X7).below hb5); have xl : w11.heap.size + 1 < w5.heap.size := (unhide Q7).lt; have x0 := (unhide Q7).cell 0; have x1 := (unhide Q7).cell 1; have x2 := (unhide Q7).cell 2; have x3 := (unhide Q7).cell 3; have y0 := (unhide Q7).frozen 0; have y1 := (unhide Q7).frozen 1; have y2 := (unhide Q7).frozen 2; have y3 := (unhide Q7).frozen 3; simp only [List.getElem?_cons_zero, List.getElem?_cons_succ] at x0 x1 x2 x3; clear hE hLO hb5)
          | (go_at_call 13; have _t := X8; (with_reducible refine (unhide CA).mono ?_); rintro r w5 ⟨⟨k12a, j12a, k12b, j12b, k12c, j12c, rfl, hE, hLO⟩, hb5⟩; have E5 := hide hE; have z5 : w11.heap.size ≤ w5.heap.size := (by have h5 := hb5.size; omega); have L5 : Hid (∀ x, k12a = some x → w11.heap.size + 2 ≤ x.block) := hide (fun x hx => Nat.le_trans z4b (hLO x hx)); have B5 := hide (below_step (unhide B4) hb5 z4); have Q8 := hide ((unhide X8).below hb5); have xl : w11.heap.size < w5.heap.size := (unhide Q8).lt; have x0 := (unhide Q8).cell 0; have x1 := (unhide Q8).cell 1; have x2 := (unhide Q8).cell 2; have x3 := (unhide Q8).cell 3; have y0 := (unhide Q8).frozen 0; have y1 := (unhide Q8).frozen 1; have y2 := (unhide Q8).frozen 2; have y3 := (unhide Q8).frozen 3; simp only [List.getElem?_cons_zero, List.getElem?_cons_succ] at x0 x1 x2 x3; clear hE hLO hb5)
          | (go_at_call 13; (with_reducible refine (unhide CA).mono ?_); rintro r w5 ⟨⟨k12a, j12a, k12b, j12b, k12c, j12c, rfl, hE, hLO⟩, hb5⟩; have E5 := hide hE; have z5 : w11.heap.size ≤ w5.heap.size := (by have h5 := hb5.size; omega); have B5 := hide (below_step (unhide B4) hb5 z4); clear hE hLO hb5)
          | (go_at_call 13; (with_reducible refine (unhide CB).mono ?_); rintro r w5 ⟨⟨k12a, j12a, k12b, j12b, k12c, j12c, rfl, hE, hLO⟩, hb5⟩; have E5 := hide hE; have h5 := hb5.size; rw [World.size_alloc] at h5; have z5 : w11.heap.size ≤ w5.heap.size := (by omega); have L5 : Hid (∀ x, k12a = some x → w4.heap.size + 1 ≤ x.block) := hide (fun x hx => by have h6 := hLO x hx; rw [World.size_alloc] at h6; exact h6); have B5 := hide (below_step (unhide B4z) hb5 (by rw [World.size_alloc]; omega)); have Q9 := hide ((box_new w4 [.int .i64 0, .slice none 0 0, .slice none 0 0, .slice none 0 0] 31).below hb5); have xl : w4.heap.size < w5.heap.size := (unhide Q9).lt; have x0 := (unhide Q9).cell 0; have x1 := (unhide Q9).cell 1; have x2 := (unhide Q9).cell 2; have x3 := (unhide Q9).cell 3; have y0 := (unhide Q9).frozen 0; have y1 := (unhide Q9).frozen 1; have y2 := (unhide Q9).frozen 2; have y3 := (unhide Q9).frozen 3; simp only [List.getElem?_cons_zero, List.getElem?_cons_succ] at x0 x1 x2 x3; clear hE hLO hb5 h5))
        all_goals go_wp2_with fail
        all_goals go_meet
        all_goals first
          | (have _t := Q7; refine ⟨w11.heap.size + 1, k12a, j12a, k12b, j12b, k12c, j12c, rfl, ?_⟩; generalize hU : (((w5.setCell _ _).setCell _ _).setCell _ _).setCell _ _ = U; obtain ⟨XU, OU⟩ := store4' (unhide Q7) hU; exact ⟨XU, hide ((unhide OU).ints (unhide E5) (fun x hx e => by have h6 := unhide L5 x hx; omega)), hide ((unhide OU).below (unhide B5) (Nat.le_refl _) (fun q hq e => by omega)), by have h7 := (unhide OU).size; have h8 := (unhide Q7).lt; omega⟩)
          | (have _t := Q8; refine ⟨w11.heap.size, k12a, j12a, k12b, j12b, k12c, j12c, rfl, ?_⟩; generalize hU : (((w5.setCell _ _).setCell _ _).setCell _ _).setCell _ _ = U; obtain ⟨XU, OU⟩ := store4' (unhide Q8) hU; exact ⟨XU, hide ((unhide OU).ints (unhide E5) (fun x hx e => by have h6 := unhide L5 x hx; omega)), hide ((unhide OU).below (unhide B5) (Nat.le_refl _) (fun q hq e => by omega)), by have h7 := (unhide OU).size; have h8 := (unhide Q8).lt; omega⟩)
          | (have _t := Q9; refine ⟨w4.heap.size, k12a, j12a, k12b, j12b, k12c, j12c, rfl, ?_⟩; generalize hU : (((w5.setCell _ _).setCell _ _).setCell _ _).setCell _ _ = U; obtain ⟨XU, OU⟩ := store4' (unhide Q9) hU; exact ⟨XU, hide ((unhide OU).ints (unhide E5) (fun x hx e => by have h6 := unhide L5 x hx; omega)), hide ((unhide OU).below (unhide B5) (Nat.le_refl _) (fun q hq e => by omega)), by have h7 := (unhide OU).size; have h8 := (unhide Q9).lt; omega⟩)
          | exact ⟨w5.heap.size, k12a, j12a, k12b, j12b, k12c, j12c, rfl, hide (box_new w5 [.int .i64 0, .slice k12a D.words.length j12a, .slice k12b 0 j12b, .slice k12c 0 j12c] _), hide ((unhide E5).below ((Below.refl _ _).alloc (Nat.le_refl _) _)), hide ((unhide B5).alloc z5 _), by simp⟩
    case rest =>
    obtain ⟨b12, k12a, j12a, k12b, j12b, k12c, j12c, rfl, XX, II, BB, hbx12⟩ := hcut
    obtain ⟨w12, rfl⟩ : ∃ x : World, x = wc := ⟨_, rfl⟩
    have z12 : w11.heap.size ≤ w12.heap.size := (unhide BB).size
    have D12 := hide ((unhide D11).below (unhide BB))
    have P12 := hide ((unhide P11).below (unhide BB))
    have R12 := hide ((unhide R11).below (unhide BB))
    have F12 := hide ((unhide F11).below (unhide BB))
    have N12 := hide ((unhide NX11).below (unhide BB))
    have NI12 := hide ((unhide NI11).below (unhide BB))
    have B12 := hide (below_step (unhide B11) (unhide BB) (by omega))
    have KX12 := XX
    have KI12 := II
    clear XX II BB D11 P11 R11 F11 NX11 NI11 B11
    have hnn := int_neq_self (D.words.length : Int)
    have cr0 := (unhide R12).cell 0
    have cr1 := (unhide R12).cell 1
    have cr2 := (unhide R12).cell 2
    have cr3 := (unhide R12).cell 3
    simp at cr0 cr1 cr2 cr3
    have lcr : b4 < w12.heap.size := by omega
    have cp0 := (unhide P12).cell 0
    have cp1 := (unhide P12).cell 1
    have cp2 := (unhide P12).cell 2
    simp at cp0 cp1 cp2
    have lcp : b2 < w12.heap.size := by omega
    have cn0 := (unhide N12).cell 0
    have cn1 := (unhide N12).cell 1
    have cn2 := (unhide N12).cell 2
    have cn3 := (unhide N12).cell 3
    simp at cn0 cn1 cn2 cn3
    have lcn : b11 < w12.heap.size := by omega
    have ck0 := (unhide KX12).cell 0
    have ck1 := (unhide KX12).cell 1
    have ck2 := (unhide KX12).cell 2
    have ck3 := (unhide KX12).cell 3
    simp at ck0 ck1 ck2 ck3
    have lck : b12 < w12.heap.size := by omega
    go_wp2_with fail
    clear cr0 cr1 cr2 cr3 lcr cp0 cp1 cp2 lcp cn0 cn1 cn2 cn3 lcn ck0 ck1 ck2 ck3 lck
    refine (lwNums_same k11a a1 _ c1 D.words _ (unhide NI12) (unhide D12).r.r1 n1).mono ?_
    rintro e w13 ⟨rfl, hb⟩
    have z13 : w12.heap.size ≤ w13.heap.size := hb.size
    have D13 := hide ((unhide D12).below hb)
    have P13 := hide ((unhide P12).below hb)
    have R13 := hide ((unhide R12).below hb)
    have F13 := hide ((unhide F12).below hb)
    have N13 := hide ((unhide N12).below hb)
    have NI13 := hide ((unhide NI12).below hb)
    have K13 := hide ((unhide KX12).below hb)
    have KI13 := hide ((unhide KI12).below hb)
    have B13 := hide (below_step (unhide B12) hb (by omega))
    clear hb D12 P12 R12 F12 N12 NI12 KX12 KI12 B12
    clear hnn
    clear N13
    clear NI13
    go_wp2_with fail
    go_loopw [11] (fun i wr => ∃ k : Nat, k ≤ D.words.length ∧ i = .int .i64 k ∧ Hid (Below w13.heap.size w13 wr)) (fun i _ => D.words.length - (intOf i).toNat)
    case atStart => exact ⟨0, Nat.zero_le _, rfl, hide (Below.refl _ _)⟩
    case round =>
      obtain ⟨k, hkl, rfl, hbr⟩ := hrel
      obtain ⟨w14, rfl⟩ : ∃ x : World, x = wr := ⟨_, rfl⟩
      have z14 : w13.heap.size ≤ w14.heap.size := (unhide hbr).size
      have D14 := hide ((unhide D13).below (unhide hbr))
      have P14 := hide ((unhide P13).below (unhide hbr))
      have R14 := hide ((unhide R13).below (unhide hbr))
      have F14 := hide ((unhide F13).below (unhide hbr))
      have K14 := hide ((unhide K13).below (unhide hbr))
      have KI14 := hide ((unhide KI13).below (unhide hbr))
      have B14 := hide (below_step (unhide B13) (unhide hbr) (by omega))
      clear D13 P13 R13 F13 K13 KI13 B13
      by_cases hlt : k < D.words.length
      · skip
        have hlt' : (k : Int) < D.words.length := by omega
        have hltF : k < F.words.length := by rw [unhide HWL]; exact hlt
        have hltK : k < (crashDev D (List.replicate m 1)).words.length := by rw [show (crashDev D (List.replicate m 1)).words.length = D.words.length from crashAll_len _ _]; exact hlt
        obtain ⟨x, hx⟩ : ∃ x, load D k = x := ⟨_, rfl⟩
        have HX := hide hx
        obtain ⟨v, hv⟩ : ∃ v, F.words[k] = v := ⟨_, rfl⟩
        obtain ⟨d, hd⟩ : ∃ d, D.words[k] = d := ⟨_, rfl⟩
        have hcw : v = d ∨ v = x ∨ ∃ j, ∃ h : j < D.flights.length, D.flights[j].1 = (k : Int) ∧ D.flights[j].2 = v := by
          have hk3 : k < (crashDev D l).words.length := by rw [← unhide HFl]; exact hltF
          have h := crash_word (unhide HG) l hlt hk3
          have e : (crashDev D l).words[k] = v := by rw [← hv]; congr 1; rw [unhide HFl]
          rw [e, hd, hx] at h
          exact h
        have hak : (crashDev D (List.replicate m 1)).words[k] = x := by rw [crash_all (unhide HG) (by rw [unhide HMD]; exact Nat.le_refl _) hlt hltK]; exact hx
        obtain ⟨bf, of, efb, hbf, hcf⟩ := (unhide F14).r.r1.at hltF
        have ef := hcf k hltF
        rw [hv] at ef
        subst efb
        obtain ⟨bd, od, edb, hbd, hcd⟩ := (unhide D14).r.r1.at hlt
        have ed := hcd k hlt
        rw [hd] at ed
        subst edb
        obtain ⟨bk, ok, ekb, hbk, hck⟩ := (unhide KI14).at hltK
        have ek := hck k hltK
        rw [hak] at ek
        subst ekb
        have EK := hide ek
        have HCW := hide hcw
        clear hcf hcd hck hcw hak ek hx hv hd
        have cp0 := (unhide P14).cell 0
        have cp1 := (unhide P14).cell 1
        have cp2 := (unhide P14).cell 2
        simp at cp0 cp1 cp2
        have lcp : b2 < w14.heap.size := by omega
        have cr0 := (unhide R14).cell 0
        have cr1 := (unhide R14).cell 1
        have cr2 := (unhide R14).cell 2
        have cr3 := (unhide R14).cell 3
        simp at cr0 cr1 cr2 cr3
        have lcr : b4 < w14.heap.size := by omega
        cases hvd : (v == d)
        · as_aux_lemma =>
            go_wp2_with fail
            clear cp0 cp1 cp2 lcp cr0 cr1 cr2 cr3 lcr
            clear ef ed
            refine (specLoad_is _ a2 a3 c1 c2 c3 _ _ _ D k x _ (unhide D14) rfl rfl rfl (unhide HG) hlt (unhide HX)).mono ?_
            rintro e w15 ⟨rfl, hb⟩
            have EK2 := hide (((bcell hb).1 _ _ hbk).trans (unhide EK))
            have z15 : w14.heap.size ≤ w15.heap.size := hb.size
            have D15 := hide ((unhide D14).below hb)
            have P15 := hide ((unhide P14).below hb)
            have R15 := hide ((unhide R14).below hb)
            have F15 := hide ((unhide F14).below hb)
            have K15 := hide ((unhide K14).below hb)
            have KI15 := hide ((unhide KI14).below hb)
            have B15 := hide (below_step (unhide B14) hb (by omega))
            have Y15 := hide (below_step (unhide hbr) hb (by omega))
            clear hb D14 P14 R14 F14 K14 KI14 B14 hbr
            have hfi0 : ∀ (p q : Int) (w : World), (Instr.field 37 (.agg #[.int .i64 p, .int .i64 q]) 1).run Try.prog w = .ok (.int .i64 q) w := fun p q w => by kernel_rfl
            have cp0 := (unhide P15).cell 0
            have cp1 := (unhide P15).cell 1
            have cp2 := (unhide P15).cell 2
            simp at cp0 cp1 cp2
            have lcp : b2 < w15.heap.size := by omega
            go_wp2_with fail
            clear cp0 cp1 cp2 lcp
            clear hfi0
            have cp0 := (unhide P15).cell 0
            have cp1 := (unhide P15).cell 1
            have cp2 := (unhide P15).cell 2
            simp at cp0 cp1 cp2
            have lcp : b2 < w15.heap.size := by omega
            have hI0 : okAt (v == x) D.flights k v 0 = (v == x) := okAt_zero _ _ _ _
            have HI0 := hide hI0
            clear hI0
            go_loopw [13, 14] (fun t i wr => ∃ j : Nat, j ≤ D.flights.length ∧ i = .int .i64 j ∧ t = .bool (okAt (v == x) D.flights k v j) ∧ w15 = wr) (fun _ i _ => D.flights.length - (intOf i).toNat)
            case atStart => exact ⟨0, Nat.zero_le _, rfl, by rw [unhide HI0], rfl⟩
            case round =>
              obtain ⟨j, hjl, rfl, rfl, rfl⟩ := hrel
              by_cases hjt : j < D.flights.length
              · have hjt' : (j : Int) < D.flights.length := by omega
                obtain ⟨bl, ol, elb, hbl, hcl⟩ := (unhide D15).r.r2.at hjt
                have el := hcl j hjt
                obtain ⟨el1, el2⟩ := el
                have hst := okAt_succ (v == x) D.flights k v hjt
                have HST := hide hst
                generalize D.flights[j].1 = p1 at *
                generalize D.flights[j].2 = p2 at *
                clear hcl hst
                subst elb
                generalize hob : okAt (v == x) D.flights k v j = ob at *
                clear hob
                cases ob
                · cases h1 : (p1 == (k : Int))
                  · go_wp2_with fail
                    exact ⟨⟨j + 1, by omega, by go_num, by rw [unhide HST, h1]; rfl, by trivial⟩, by simp [intOf]; omega⟩
                  · cases h2 : (p2 == v)
                    · go_wp2_with fail
                      exact ⟨⟨j + 1, by omega, by go_num, by rw [unhide HST, h1, h2]; rfl, by trivial⟩, by simp [intOf]; omega⟩
                    · go_wp2_with fail
                      exact ⟨⟨j + 1, by omega, by go_num, by rw [unhide HST, h1, h2]; rfl, by trivial⟩, by simp [intOf]; omega⟩
                · go_wp2_with fail
                  exact ⟨⟨j + 1, by omega, by go_num, by rw [unhide HST]; rfl, by trivial⟩, by simp [intOf]; omega⟩
              have hjt' : ¬ (j : Int) < D.flights.length := by omega
              have hok : okAt (v == x) D.flights k v j = true := okAt_end (okAt_or hvd (unhide HCW)) (by omega)
              rw [hok]
              clear hok
              go_wp2_with fail
              clear cp0 cp1 cp2 lcp
              have hfi : ∀ (p q : Int) (w : World), (Instr.field 37 (.agg #[.int .i64 p, .int .i64 q]) 1).run Try.prog w = .ok (.int .i64 q) w := fun p q w => by kernel_rfl
              have hnx := int_neq_self x
              have ek := (unhide EK2)
              have hbkc : bk < w15.heap.size := by omega
              have K_1 := (unhide K15).cell 1
              have K_2 := (unhide K15).cell 2
              have K_3 := (unhide K15).cell 3
              have m_K : b12 < w15.heap.size := by omega
              have P_0 := (unhide P15).cell 0
              have P_1 := (unhide P15).cell 1
              have P_2 := (unhide P15).cell 2
              have m_P : b2 < w15.heap.size := by omega
              simp at K_1 K_2 K_3 P_0 P_1 P_2
              have hD : (fun w' => Below w15.heap.size w15 w' ∧ w'.cell? ⟨b12, 1, none⟩ = some (.slice (some ⟨bk, ok, none⟩) D.words.length j12a) ∧ w'.cell? ⟨b12, 2, none⟩ = some (.slice k12b 0 j12b) ∧ w'.cell? ⟨b12, 3, none⟩ = some (.slice k12c 0 j12c) ∧ w'.cell? ⟨b2, 0, none⟩ = some (.slice (some ⟨bd, od, none⟩) D.words.length c1) ∧ w'.cell? ⟨b2, 1, none⟩ = some (.slice a2 D.flights.length c2) ∧ w'.cell? ⟨b2, 2, none⟩ = some (.slice a3 D.over.length c3) ∧ w'.cell? ⟨bk, ok + k, none⟩ = some (.int .i64 x)) w15.drew := ⟨(Below.refl _ _).drew, K_1, K_2, K_3, P_0, P_1, P_2, ek⟩
              have HD := hide hD
              clear hD K_1 K_2 K_3 P_0 P_1 P_2
              go_region_held3 (fun w' => Below w15.heap.size w15 w' ∧ w'.cell? ⟨b12, 1, none⟩ = some (.slice (some ⟨bk, ok, none⟩) D.words.length j12a) ∧ w'.cell? ⟨b12, 2, none⟩ = some (.slice k12b 0 j12b) ∧ w'.cell? ⟨b12, 3, none⟩ = some (.slice k12c 0 j12c) ∧ w'.cell? ⟨b2, 0, none⟩ = some (.slice (some ⟨bd, od, none⟩) D.words.length c1) ∧ w'.cell? ⟨b2, 1, none⟩ = some (.slice a2 D.flights.length c2) ∧ w'.cell? ⟨b2, 2, none⟩ = some (.slice a3 D.over.length c3) ∧ w'.cell? ⟨bk, ok + k, none⟩ = some (.int .i64 x)) (first | exact unhide HD | assumption | exact keepC7 m_K m_K m_K m_P m_P m_P hbkc (by assumption) (by assumption))
                (first
                  | (go_at_call 19; refine (specLoad_is _ a2 a3 c1 c2 c3 _ _ _ D k x _ ((unhide D15).below (sleft' (by assumption))) rfl rfl rfl (unhide HG) hlt (unhide HX)).mono ?_; rintro r w5 ⟨rfl, hb5⟩))
              rename_i hSF
              have hbS := hSF.1
              clear hSF HD m_K m_P
              generalize hwn : w5 = w216 at *
              clear hwn
              have z16 : w15.heap.size ≤ w216.heap.size := hbS.size
              have D16 := hide ((unhide D15).below hbS)
              have P16 := hide ((unhide P15).below hbS)
              have R16 := hide ((unhide R15).below hbS)
              have F16 := hide ((unhide F15).below hbS)
              have K16 := hide ((unhide K15).below hbS)
              have KI16 := hide ((unhide KI15).below hbS)
              have B16 := hide (below_step (unhide B15) hbS (by omega))
              have Y16 := hide (below_step (unhide Y15) hbS (by omega))
              clear hbS D15 P15 R15 F15 K15 KI15 B15 Y15
              clear hfi hnx
              go_wp2_with fail
              exact ⟨⟨k + 1, by omega, by go_num, Y16⟩, by simp [intOf]; omega⟩
        · as_aux_lemma =>
            go_wp2_with fail
            clear cp0 cp1 cp2 lcp cr0 cr1 cr2 cr3 lcr
            clear hvd ef ed
            have cp0 := (unhide P14).cell 0
            have cp1 := (unhide P14).cell 1
            have cp2 := (unhide P14).cell 2
            simp at cp0 cp1 cp2
            have lcp : b2 < w14.heap.size := by omega
            have hI0 : okAt true D.flights k v 0 = true := okAt_zero _ _ _ _
            have HI0 := hide hI0
            clear hI0
            go_loopw [13, 14] (fun t i wr => ∃ j : Nat, j ≤ D.flights.length ∧ i = .int .i64 j ∧ t = .bool (okAt true D.flights k v j) ∧ w14 = wr) (fun _ i _ => D.flights.length - (intOf i).toNat)
            case atStart => exact ⟨0, Nat.zero_le _, rfl, by rw [unhide HI0], rfl⟩
            case round =>
              obtain ⟨j, hjl, rfl, rfl, rfl⟩ := hrel
              by_cases hjt : j < D.flights.length
              · have hjt' : (j : Int) < D.flights.length := by omega
                obtain ⟨bl, ol, elb, hbl, hcl⟩ := (unhide D14).r.r2.at hjt
                have el := hcl j hjt
                obtain ⟨el1, el2⟩ := el
                have hst := okAt_succ true D.flights k v hjt
                have HST := hide hst
                generalize D.flights[j].1 = p1 at *
                generalize D.flights[j].2 = p2 at *
                clear hcl hst
                subst elb
                generalize hob : okAt true D.flights k v j = ob at *
                clear hob
                cases ob
                · cases h1 : (p1 == (k : Int))
                  · go_wp2_with fail
                    exact ⟨⟨j + 1, by omega, by go_num, by rw [unhide HST, h1]; rfl, by trivial⟩, by simp [intOf]; omega⟩
                  · cases h2 : (p2 == v)
                    · go_wp2_with fail
                      exact ⟨⟨j + 1, by omega, by go_num, by rw [unhide HST, h1, h2]; rfl, by trivial⟩, by simp [intOf]; omega⟩
                    · go_wp2_with fail
                      exact ⟨⟨j + 1, by omega, by go_num, by rw [unhide HST, h1, h2]; rfl, by trivial⟩, by simp [intOf]; omega⟩
                · go_wp2_with fail
                  exact ⟨⟨j + 1, by omega, by go_num, by rw [unhide HST]; rfl, by trivial⟩, by simp [intOf]; omega⟩
              have hjt' : ¬ (j : Int) < D.flights.length := by omega
              have hok : okAt true D.flights k v j = true := okAt_end (.inl rfl) (by omega)
              rw [hok]
              clear hok
              go_wp2_with fail
              clear cp0 cp1 cp2 lcp
              have hfi : ∀ (p q : Int) (w : World), (Instr.field 37 (.agg #[.int .i64 p, .int .i64 q]) 1).run Try.prog w = .ok (.int .i64 q) w := fun p q w => by kernel_rfl
              have hnx := int_neq_self x
              have ek := (unhide EK)
              have hbkc : bk < w14.heap.size := by omega
              have K_1 := (unhide K14).cell 1
              have K_2 := (unhide K14).cell 2
              have K_3 := (unhide K14).cell 3
              have m_K : b12 < w14.heap.size := by omega
              have P_0 := (unhide P14).cell 0
              have P_1 := (unhide P14).cell 1
              have P_2 := (unhide P14).cell 2
              have m_P : b2 < w14.heap.size := by omega
              simp at K_1 K_2 K_3 P_0 P_1 P_2
              have hD : (fun w' => Below w14.heap.size w14 w' ∧ w'.cell? ⟨b12, 1, none⟩ = some (.slice (some ⟨bk, ok, none⟩) D.words.length j12a) ∧ w'.cell? ⟨b12, 2, none⟩ = some (.slice k12b 0 j12b) ∧ w'.cell? ⟨b12, 3, none⟩ = some (.slice k12c 0 j12c) ∧ w'.cell? ⟨b2, 0, none⟩ = some (.slice (some ⟨bd, od, none⟩) D.words.length c1) ∧ w'.cell? ⟨b2, 1, none⟩ = some (.slice a2 D.flights.length c2) ∧ w'.cell? ⟨b2, 2, none⟩ = some (.slice a3 D.over.length c3) ∧ w'.cell? ⟨bk, ok + k, none⟩ = some (.int .i64 x)) w14.drew := ⟨(Below.refl _ _).drew, K_1, K_2, K_3, P_0, P_1, P_2, ek⟩
              have HD := hide hD
              clear hD K_1 K_2 K_3 P_0 P_1 P_2
              go_region_held3 (fun w' => Below w14.heap.size w14 w' ∧ w'.cell? ⟨b12, 1, none⟩ = some (.slice (some ⟨bk, ok, none⟩) D.words.length j12a) ∧ w'.cell? ⟨b12, 2, none⟩ = some (.slice k12b 0 j12b) ∧ w'.cell? ⟨b12, 3, none⟩ = some (.slice k12c 0 j12c) ∧ w'.cell? ⟨b2, 0, none⟩ = some (.slice (some ⟨bd, od, none⟩) D.words.length c1) ∧ w'.cell? ⟨b2, 1, none⟩ = some (.slice a2 D.flights.length c2) ∧ w'.cell? ⟨b2, 2, none⟩ = some (.slice a3 D.over.length c3) ∧ w'.cell? ⟨bk, ok + k, none⟩ = some (.int .i64 x)) (first | exact unhide HD | assumption | exact keepC7 m_K m_K m_K m_P m_P m_P hbkc (by assumption) (by assumption))
                (first
                  | (go_at_call 19; refine (specLoad_is _ a2 a3 c1 c2 c3 _ _ _ D k x _ ((unhide D14).below (sleft' (by assumption))) rfl rfl rfl (unhide HG) hlt (unhide HX)).mono ?_; rintro r w5 ⟨rfl, hb5⟩))
              rename_i hSF
              have hbS := hSF.1
              clear hSF HD m_K m_P
              generalize hwn : w5 = w215 at *
              clear hwn
              have z15 : w14.heap.size ≤ w215.heap.size := hbS.size
              have D15 := hide ((unhide D14).below hbS)
              have P15 := hide ((unhide P14).below hbS)
              have R15 := hide ((unhide R14).below hbS)
              have F15 := hide ((unhide F14).below hbS)
              have K15 := hide ((unhide K14).below hbS)
              have KI15 := hide ((unhide KI14).below hbS)
              have B15 := hide (below_step (unhide B14) hbS (by omega))
              have Y15 := hide (below_step (unhide hbr) hbS (by omega))
              clear hbS D14 P14 R14 F14 K14 KI14 B14 hbr
              clear hfi hnx
              go_wp2_with fail
              exact ⟨⟨k + 1, by omega, by go_num, Y15⟩, by simp [intOf]; omega⟩
      · as_aux_lemma =>
          have hlt' : ¬ (k : Int) < D.words.length := by omega
          have cp0 := (unhide P14).cell 0
          have cp1 := (unhide P14).cell 1
          have cp2 := (unhide P14).cell 2
          simp at cp0 cp1 cp2
          have lcp : b2 < w14.heap.size := by omega
          have cr0 := (unhide R14).cell 0
          have cr1 := (unhide R14).cell 1
          have cr2 := (unhide R14).cell 2
          have cr3 := (unhide R14).cell 3
          simp at cr0 cr1 cr2 cr3
          have lcr : b4 < w14.heap.size := by omega
          go_wp2_with fail
          clear cp0 cp1 cp2 lcp cr0 cr1 cr2 cr3 lcr
          refine (implFault_good f1 f2 f3 g1 g2 g3 _ _ _ F _ (unhide F14) (unhide HWL).symm (unhide HF2).symm (unhide HF3).symm (unhide HGF)).mono ?_
          rintro e w15 ⟨rfl, hb⟩
          have z15 : w14.heap.size ≤ w15.heap.size := hb.size
          have D15 := hide ((unhide D14).below hb)
          have P15 := hide ((unhide P14).below hb)
          have R15 := hide ((unhide R14).below hb)
          have F15 := hide ((unhide F14).below hb)
          have K15 := hide ((unhide K14).below hb)
          have KI15 := hide ((unhide KI14).below hb)
          have B15 := hide (below_step (unhide B14) hb (by omega))
          have Y15 := hide (below_step (unhide hbr) hb (by omega))
          clear hb D14 P14 R14 F14 K14 KI14 B14 hbr
          go_wp2_with fail
          go_ret
          exact ⟨rfl, unhide B15⟩
  · as_aux_lemma =>
      have e0 : (cd != 0) = true := by simpa using hc0
      clear hc0 hfd
      have cr0 := (unhide R10).cell 0
      simp at cr0
      have lcr : b4 < w10.heap.size := by omega
      go_wp2_with fail
      clear cr0 lcr
      go_ret
      exact ⟨rfl, unhide B10⟩
end fnCrashes
end Go.Proofs.Ytdnfadbkpajloaa
