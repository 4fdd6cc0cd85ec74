/-
  The word that is stored: what the specification answers.
-/
import Derived.Test.YtdnfadbkpajloaaSetWalk
namespace Go.Proofs.Ytdnfadbkpajloaa
open Go.RowKit
set_option linter.unusedVariables false

/-- The blocks of a device of the specification's own. -/
def SB (v1 v2 v3 : Value) (D : Dev) (q : Nat) : Prop := v1.ownBlock = some q ∨ (D.flights ≠ [] ∧ v2.ownBlock = some q) ∨ (D.over ≠ [] ∧ v3.ownBlock = some q)
theorem SDev.stay {w w' : World} {base : Nat} {v1 v2 v3 : Value} {D : Dev} (h : SDev w base v1 v2 v3 D) (hk : ∀ q, SB v1 v2 v3 D q → q < w.heap.size → w'.heap[q]? = w.heap[q]?) : SDev w' base v1 v2 v3 D :=
  ⟨own_stay h.o1 fun q hq => hk q (.inl hq), h.o2.stay fun hl q hq => hk q (.inr (.inl ⟨hl, hq⟩)), h.o3.stay fun hl q hq => hk q (.inr (.inr ⟨hl, hq⟩)), h.n12, h.n13, h.n23⟩
theorem SDev.below {w w' : World} {base : Nat} {v1 v2 v3 : Value} {D : Dev} (h : SDev w base v1 v2 v3 D) (hb : Below w.heap.size w w') : SDev w' base v1 v2 v3 D := h.stay fun q _ hq => hb.block q hq
theorem SDev.out {F : Nat → Prop} {w w' : World} {base : Nat} {v1 v2 v3 : Value} {D : Dev} (h : SDev w base v1 v2 v3 D) (ho : Out F w w') (hF : ∀ q, SB v1 v2 v3 D q → ¬ F q) : SDev w' base v1 v2 v3 D := h.stay fun q hq hl => ho.block q hl (hF q hq)
theorem SDev.lt {w : World} {base : Nat} {v1 v2 v3 : Value} {D : Dev} (h : SDev w base v1 v2 v3 D) {q : Nat} (hq : SB v1 v2 v3 D q) : base ≤ q ∧ q < w.heap.size := by
  rcases hq with hq | ⟨hl, hq⟩ | ⟨hl, hq⟩
  · exact h.o1.lt q hq
  · exact h.o2.lt hl q hq
  · exact h.o3.lt hl q hq
theorem SDev.form {w : World} {base : Nat} {v1 v2 v3 : Value} {D : Dev} (h : SDev w base v1 v2 v3 D) : ∃ a1 c1 a2 c2 a3 c3, v1 = .slice a1 D.words.length c1 ∧ v2 = .slice a2 D.flights.length c2 ∧ v3 = .slice a3 D.over.length c3 ∧ DevAt w a1 a2 a3 D := by
  obtain ⟨a1, c1, e1, -, r1, -⟩ := intsAt_own h.o1
  obtain ⟨a2, c2, e2, r2, -⟩ := h.o2.form
  obtain ⟨a3, c3, e3, r3, -⟩ := h.o3.form
  exact ⟨a1, c1, a2, c2, a3, c3, e1, e2, e3, r1, r2, r3⟩
/-- The device D can be read there, in blocks from lo to hi. -/
structure RDev (w : World) (lo hi : Nat) (a1 a2 a3 : Option Addr) (D : Dev) : Prop where
  r : DevAt w a1 a2 a3 D
  b1 : D.words ≠ [] → ∀ x, a1 = some x → lo ≤ x.block ∧ x.block < hi
  b2 : D.flights ≠ [] → ∀ x, a2 = some x → lo ≤ x.block ∧ x.block < hi
  b3 : D.over ≠ [] → ∀ x, a3 = some x → lo ≤ x.block ∧ x.block < hi
theorem RDev.below {w w' : World} {lo hi : Nat} {a1 a2 a3 : Option Addr} {D : Dev} (h : RDev w lo hi a1 a2 a3 D) (hb : Below w.heap.size w w') : RDev w' lo hi a1 a2 a3 D := ⟨h.r.below hb, h.b1, h.b2, h.b3⟩
theorem RDev.wide {w : World} {lo hi lo' hi' : Nat} {a1 a2 a3 : Option Addr} {D : Dev} (h : RDev w lo hi a1 a2 a3 D) (h1 : lo' ≤ lo) (h2 : hi ≤ hi') : RDev w lo' hi' a1 a2 a3 D :=
  ⟨h.r, fun hl x hx => by have := h.b1 hl x hx; omega, fun hl x hx => by have := h.b2 hl x hx; omega, fun hl x hx => by have := h.b3 hl x hx; omega⟩
theorem RDev.out {F : Nat → Prop} {w w' : World} {lo hi : Nat} {a1 a2 a3 : Option Addr} {D : Dev} (h : RDev w lo hi a1 a2 a3 D) (ho : Out F w w') (hF : ∀ q, lo ≤ q → q < hi → ¬ F q) : RDev w' lo hi a1 a2 a3 D := by
  refine ⟨⟨?_, ?_, ?_⟩, h.b1, h.b2, h.b3⟩
  · by_cases hl : D.words = []
    · exact .inl hl
    · exact ho.ints h.r.r1 fun x hx => hF _ (h.b1 hl x hx).1 (h.b1 hl x hx).2
  · by_cases hl : D.flights = []
    · exact .inl hl
    · exact ho.pairs h.r.r2 fun x hx => hF _ (h.b2 hl x hx).1 (h.b2 hl x hx).2
  · by_cases hl : D.over = []
    · exact .inl hl
    · exact ho.pairs h.r.r3 fun x hx => hF _ (h.b3 hl x hx).1 (h.b3 hl x hx).2
theorem SDev.toR {w : World} {base : Nat} {v1 v2 v3 : Value} {D : Dev} (h : SDev w base v1 v2 v3 D) : ∃ a1 c1 a2 c2 a3 c3, v1 = .slice a1 D.words.length c1 ∧ v2 = .slice a2 D.flights.length c2 ∧ v3 = .slice a3 D.over.length c3 ∧ RDev w base w.heap.size a1 a2 a3 D := by
  obtain ⟨a1, c1, e1, -, r1, -⟩ := intsAt_own h.o1
  obtain ⟨a2, c2, e2, r2, b2, -⟩ := h.o2.form
  obtain ⟨a3, c3, e3, r3, b3, -⟩ := h.o3.form
  exact ⟨a1, c1, a2, c2, a3, c3, e1, e2, e3, ⟨r1, r2, r3⟩, fun _ x hx => by subst hx; subst e1; exact h.o1.lt x.block rfl, b2, b3⟩
theorem rNone (w : World) (lo hi : Nat) : RDev w lo hi none none none none' := ⟨⟨.inl rfl, .inl rfl, .inl rfl⟩, fun h => absurd rfl h, fun h => absurd rfl h, fun h => absurd rfl h⟩
def ResRd (e : Ending) (base : Nat) (w' : World) (code : Int) (D : Dev) : Prop := ∃ a1 c1 a2 c2 a3 c3, e = .returned (.agg #[.int .i64 code, .slice a1 D.words.length c1, .slice a2 D.flights.length c2, .slice a3 D.over.length c3]) ∧ RDev w' base w'.heap.size a1 a2 a3 D
/-- A device of the specification's own, in the box d. -/
structure SMem (w : World) (base d : Nat) (t : TypeId) (v1 v2 v3 : Value) (D : Dev) : Prop where
  box : Box w d [v1, v2, v3] t
  dev : SDev w base v1 v2 v3 D
  nd : ∀ q, SB v1 v2 v3 D q → q ≠ d

theorem chgDev_len {D D' : Dev} {code : Int} (h : Good D → D'.words.length ≤ 1048576 ∧ D'.flights.length ≤ 1048576 ∧ D'.over.length ≤ 1048576) : (chgDev D code D').words.length ≤ 1048576 ∧ (chgDev D code D').flights.length ≤ 1048576 ∧ (chgDev D code D').over.length ≤ 1048576 := by
  unfold chgDev
  split
  · rename_i hc; exact h (good_of hc.1)
  · simp [none']
theorem setC_len (l : List (Int × Int)) (c : Int × Int) : (setC l c).length ≤ l.length + 1 := by
  cases hk : (look l c.1).isSome
  · rw [setC_length_none (c := c) (by simpa using hk)]; exact Nat.le_refl _
  · rw [setC_length_some (c := c) hk]; omega
theorem storeDev_len (D : Dev) (n v : Int) (hl : ((D.words.length : Int) + D.flights.length + D.over.length) ≤ 1048576) : (chgDev D (storeCode D n v) (storeDev D n v)).words.length ≤ 1048576 ∧ (chgDev D (storeCode D n v) (storeDev D n v)).flights.length ≤ 1048576 ∧ (chgDev D (storeCode D n v) (storeDev D n v)).over.length ≤ 1048576 := by
  refine chgDev_len fun hg => ?_
  have := hg.small
  have h2 := setC_len D.over (n, v)
  refine ⟨?_, ?_, ?_⟩
  · show D.words.length ≤ _; omega
  · show D.flights.length ≤ _; omega
  · show (setC D.over (n, v)).length ≤ _; omega

theorem SMem.setOver {w w' : World} {base d : Nat} {t : TypeId} {v1 v2 v3 v3' : Value} {D : Dev} {L : List (Int × Int)} (h : SMem w base d t v1 v2 v3 D) (hx : Box w' d [v1, v2, v3'] t) (hL : RowW w' base v3' L) (hq : L ≠ [] → ∀ q, v3'.ownBlock = some q → (D.over ≠ [] ∧ v3.ownBlock = some q) ∨ w.heap.size ≤ q) (ho : Out (fun q => q = d ∨ (D.over ≠ [] ∧ v3.ownBlock = some q)) w w') :
    SMem w' base d t v1 v2 v3' ⟨D.words, D.flights, L⟩ := by
  have hdl := h.box.lt
  refine ⟨hx, ⟨ho.own h.dev.o1 (fun q hq e => ?_), h.dev.o2.out ho (fun hl q hq e => ?_), hL, h.dev.n12, fun hl q h1 h2 => ?_, fun hf hl q h1 h2 => ?_⟩, ?_⟩
  · rcases e with e | ⟨hl, e⟩
    · exact h.nd q (.inl hq) e
    · exact h.dev.n13 hl q hq e
  · rcases e with e | ⟨hl2, e⟩
    · exact h.nd q (.inr (.inl ⟨hl, hq⟩)) e
    · exact h.dev.n23 hl hl2 q hq e
  · rcases hq hl q h2 with ⟨hl2, e⟩ | e
    · exact h.dev.n13 hl2 q h1 e
    · have := (h.dev.o1.lt q h1).2; omega
  · rcases hq hl q h2 with ⟨hl2, e⟩ | e
    · exact h.dev.n23 hf hl2 q h1 e
    · have := (h.dev.o2.lt hf q h1).2; omega
  · rintro q (h1 | h1 | ⟨hl, h1⟩) e
    · exact h.nd q (.inl h1) e
    · exact h.nd q (.inr (.inl h1)) e
    · rcases hq hl q h1 with h2 | h2
      · exact h.nd q (.inr (.inr h2)) e
      · omega

set_option maxHeartbeats 2000000 in
theorem l2Store_any (d : Nat) (t : TypeId) (base : Nat) (v1 v2 v3 : Value) (D : Dev) (a v : Int) (w : World) (h : SMem w base d t v1 v2 v3 D) (hbase : base ≤ w.heap.size) (hn : D.over.length ≤ 10000000) :
    Calls Try.prog 217 #[.pointer (some ⟨d, 0, none⟩), .int .i64 a, .int .i64 v] w fun e w' => e = .returned (.tuple #[]) ∧ ∃ u1 u2 u3, SMem w' base d t u1 u2 u3 (storeDev D a v) ∧ Out (fun q => q = d ∨ SB v1 v2 v3 D q) w w' := by
  obtain ⟨s1, d1, s2, d2, s3, d3, e1, e2, e3, -⟩ := h.dev.form
  subst e1 e2 e3
  have c2 := h.box.cell 2
  simp at c2
  have H := hide h
  clear h
  go_enter Try.func217, Try.ntmps217
  go_wp2_with fail
  refine (l2Set_any s3 d3 D.over a v base _ (unhide H).dev.o3 hbase hn).mono ?_
  rintro e w1 ⟨a', c', rfl, hR, hq, hO⟩
  have X1 := hide ((unhide H).box.out hO (fun e => (unhide H).nd d (.inr (.inr e)) rfl))
  have y2 := (unhide X1).cell 2
  have f2 := (unhide X1).frozen 2
  simp at y2
  have HR := hide hR
  have HQ := hide hq
  have HO := hide hO
  clear hR hq hO c2
  go_wp2_with fail
  generalize hU : w1.setCell _ _ = U
  have XU := (unhide X1).set' hU
  have hlt := (unhide H).box.lt
  have hlt1 := (unhide X1).lt
  have OU : Out (fun q => q = d) w1 U := out_set' (Out.refl _ _) hU (.inl rfl)
  go_end0
  refine ⟨rfl, _, _, _, (unhide H).setOver XU ((unhide HR).out OU (fun hl q hq e => ?_)) (fun hl q hq => ?_) (((unhide HO).weak (fun q _ e => .inr e)).trans OU (fun q _ e => .inl e)), ((unhide HO).weak (fun q _ e => .inr (.inr (.inr e)))).trans OU (fun q _ e => .inl e)⟩
  · subst e
    rcases unhide HQ with ⟨h1, h2⟩ | ⟨q2, h1, h2⟩
    · exact (unhide H).nd q (.inr (.inr ⟨h1, by rw [← h2]; exact hq⟩)) rfl
    · rw [hq] at h1; injection h1 with h1; omega
  · rcases unhide HQ with ⟨h1, h2⟩ | ⟨q2, h1, h2⟩
    · exact .inl ⟨h1, by rw [← h2]; exact hq⟩
    · rw [hq] at h1; injection h1 with h1; exact .inr (by omega)

end Go.Proofs.Ytdnfadbkpajloaa
