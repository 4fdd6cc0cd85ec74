/-
  A device of the specification's own, in a box: a cell is set, a word is stored.
-/
import Derived.Test.YtdnfadbkpajloaaStoreWalk
import Derived.Test.YtdnfadbkpajloaaLoadWalk
namespace Go.Proofs.Ytdnfadbkpajloaa
open Go.RowKit
set_option linter.unusedVariables false

theorem setC_ne (l : List (Int × Int)) (c : Int × Int) : setC l c ≠ [] := by
  cases l with
  | nil => simp [setC]
  | cons d l => rw [setC]; split <;> simp
theorem run_append_row {P : Program} (w : World) (base : Nat) (t ty : TypeId) (i : TypeInfo) (z : Value) (ht : P.underlying t = some (.slice 42)) (hi : P.info? 42 = some i) (hz : i.zero = some z) (hsize : i.size = 2) (hby : i.bytes = 16) (hzs : z.cells.size = 2)
    (v : Value) (l : List (Int × Int)) (h : RowW w base v l) (a : Option Addr) (c : Nat) (m : List (Int × Int)) (hp : PairsAt w a m) (hm : m ≠ []) (hn : l.length + m.length ≤ 100000000) (hbase : base ≤ w.heap.size) :
    ∃ v' w', (Builtin.append_ #[t, t] ty #[v, .slice a m.length c]).run P w = .ok v' w' ∧ RowW w' base v' (l ++ m) ∧ Out (fun q => l ≠ [] ∧ v.ownBlock = some q) w w' ∧ ((l ≠ [] ∧ v'.ownBlock = v.ownBlock) ∨ ∃ q, v'.ownBlock = some q ∧ w.heap.size ≤ q) := by
  have hne : l ++ m ≠ [] := by simp [hm]
  have hsome : ∀ (w' : World) (v' : Value) (b : Nat), w'.ownsRow b 42 2 v' (l ++ m).length (prs (l ++ m)) → ∃ q, v'.ownBlock = some q := by
    intro w' v' b h
    rcases h.2 with ⟨_, h0⟩ | ⟨g, cap, cur, rfl, _⟩
    · exact absurd (List.length_eq_zero_iff.1 h0) hne
    · exact ⟨g, rfl⟩
  rcases h with ⟨rfl, b, rfl, hb⟩ | ⟨hl, h⟩
  · rcases hb with rfl | ⟨g, rfl⟩
    · obtain ⟨v', w', hr, h2, h3, h4⟩ := run_append_pairs w base t ty 42 i z ht hi hz hsize hby hzs (.slice none 0 0) 0 [] (World.ownsRow_nil _ _ _ _) a c m hp (by simpa using hn) hbase
      have h2' : w'.ownsRow base 42 2 v' ([] ++ m).length (prs ([] ++ m)) := by simpa using h2
      obtain ⟨q, hq⟩ := hsome w' v' base h2'
      refine ⟨v', w', hr, .inr ⟨hne, h2'⟩, ⟨h3.os, h3.tape, h3.output, h3.size, fun k hk _ => h3.block k hk (by simp [Value.ownBlock])⟩, .inr ⟨q, hq, ?_⟩⟩
      rcases h4 with h4 | h4
      · rw [hq] at h4; simp [Value.ownBlock] at h4
      · rw [hq] at h4; injection h4 with h4; omega
    · obtain ⟨v', w', hr, h2, h3⟩ := run_append_fresh w t ty 42 i z ht hi hz hsize hby hzs g a c m hp (by simpa using hn)
      rcases h2 with ⟨h2, _⟩ | ⟨_, h2⟩
      · exact absurd h2 hm
      obtain ⟨q, hq⟩ := hsome w' v' w.heap.size (by simpa using h2)
      exact ⟨v', w', hr, .inr ⟨hne, own_base (by simpa using h2) (fun q hq => Nat.le_trans hbase (h2.lt q hq).1)⟩, Out.ofBelow h3, .inr ⟨q, hq, (h2.lt q hq).1⟩⟩
  · obtain ⟨v', w', hr, h2, h3, h4⟩ := run_append_pairs w base t ty 42 i z ht hi hz hsize hby hzs v l.length (prs l) h a c m hp hn hbase
    have h2' : w'.ownsRow base 42 2 v' (l ++ m).length (prs (l ++ m)) := by rw [prs_append, List.length_append]; exact h2
    refine ⟨v', w', hr, .inr ⟨hne, h2'⟩, (Out.ofGrown h3).weak (fun q _ e => ⟨hl, e.symm⟩), ?_⟩
    rcases h4 with h4 | h4
    · exact .inl ⟨hl, h4⟩
    · exact .inr ⟨_, h4, Nat.le_refl _⟩
theorem wpList_append_row {P : Program} {w : World} {ops : Array Oper} {rest : List Oper} {o : Oper} {a : Act} {Q : Exit → Act → World → Prop} (hgd : o.guard = none) (s x : Operand) (t : TypeId)
    (ho : o.op = .call { callee := .builtin .append, args := #[s, x], argTypes := #[t, t] })
    (base : Nat) (i : TypeInfo) (z : Value) (ht : P.underlying t = some (.slice 42)) (hi : P.info? 42 = some i) (hz : i.zero = some z) (hsize : i.size = 2) (hby : i.bytes = 16) (hzs : z.cells.size = 2)
    (v : Value) (l : List (Int × Int)) (hs : a.eval s = v) (hr : RowW w base v l) (ad : Option Addr) (c : Nat) (m : List (Int × Int)) (hx : a.eval x = .slice ad m.length c) (hp : PairsAt w ad m) (hm : m ≠ []) (hn : l.length + m.length ≤ 100000000) (hbase : base ≤ w.heap.size)
    (h : ∀ a' c' w', RowW w' base (.slice a' (l ++ m).length c') (l ++ m) → Out (fun q => l ≠ [] ∧ v.ownBlock = some q) w w' → ((l ≠ [] ∧ (Value.slice a' (l ++ m).length c').ownBlock = v.ownBlock) ∨ ∃ q, (Value.slice a' (l ++ m).length c').ownBlock = some q ∧ w.heap.size ≤ q) → wpList P ops Q rest (a.put o.dst (.slice a' (l ++ m).length c')) w') :
    wpList P ops Q (o :: rest) a w := by
  refine wpList_plain hgd fun K hK => ?_
  obtain ⟨v', w', hr, h2, h3, h4⟩ := run_append_row (P := P) w base t o.type i z ht hi hz hsize hby hzs v l hr ad c m hp hm hn hbase
  unfold Oper.wp execOp
  simp only [ho, resolve, invoke, builtin, Sem.run_bind, Sem.run_pure, Result.andThen_ok, List.map_toArray, List.map_cons, List.map_nil, hs, hx, hr]
  obtain ⟨a', c', e, -⟩ := h2.form
  subst e
  exact hK _ _ (h a' c' w' h2 h3 h4)
theorem pairs_one_new (w : World) (x y : Int) (t : TypeId) : PairsAt (w.alloc (.cells #[.int .i64 x, .int .i64 y] t)) (some ⟨w.heap.size, 0, none⟩) [(x, y)] := by
  refine .inr ⟨w.heap.size, 0, rfl, by simp, fun i hi => ?_⟩
  have : i = 0 := by simp at hi; omega
  subst this
  exact ⟨(box_new w [.int .i64 x, .int .i64 y] t).cell 0, (box_new w [.int .i64 x, .int .i64 y] t).cell 1⟩

set_option maxHeartbeats 2000000 in
theorem l2Set_any (a : Option Addr) (c : Nat) (l : List (Int × Int)) (x y : Int) (base : Nat) (w : World) (h : RowW w base (.slice a l.length c) l) (hbase : base ≤ w.heap.size) (hn : l.length ≤ 10000000) :
    Calls Try.prog 225 #[.slice a l.length c, .agg #[.int .i64 x, .int .i64 y]] w fun e w' => ∃ a' c', e = .returned (.slice a' (setC l (x, y)).length c') ∧ RowW w' base (.slice a' (setC l (x, y)).length c') (setC l (x, y)) ∧ ((l ≠ [] ∧ (Value.slice a' (setC l (x, y)).length c').ownBlock = (Value.slice a l.length c).ownBlock) ∨ ∃ q, (Value.slice a' (setC l (x, y)).length c').ownBlock = some q ∧ w.heap.size ≤ q) ∧ Out (fun q => l ≠ [] ∧ (Value.slice a l.length c).ownBlock = some q) w w' := by
  obtain ⟨i0, hi, hz0, hz1, hz2⟩ := info_parts infoCell
  have H0 := hide h
  go_enter Try.func225, Try.ntmps225
  go_wp2_with fail
  obtain ⟨W, hW, z1, hb, hx⟩ := boxes1 w [.int .i64 x, .int .i64 y] 42
  rw [← hW]
  clear hW
  have H := hide (h.below (unhide hb))
  have p0 := (unhide hx).cell 0
  have p1 := (unhide hx).cell 1
  simp at p0 p1
  clear h
  obtain ⟨a0, c0, e0, hP, -, hg⟩ := (unhide H).form
  injection e0 with e1 e2 e3
  subst e1 e3
  refine (l2Find_any a c l x _ hP hn).mono ?_
  rintro e w1 ⟨rfl, rfl⟩
  rcases findI_look l x 0 with ⟨hl, hf⟩ | ⟨k, hk, hf, hl, h1, hset⟩
  · rw [hf]
    clear hf hP hg
    have HS := hide (setC_none (c := (x, y)) hl)
    have HA := hide ((unhide H).below ((Below.refl _ w1).alloc (Nat.le_refl _) (.cells #[.int .i64 x, .int .i64 y] 42)))
    clear hl
    go_wp2_with (at_builtin; refine wpList_append_row rfl _ _ 25 rfl base i0 _ Try.underlying25 hi hz0 hz1 hz2 rfl (.slice a l.length c) l rfl (unhide HA) (some ⟨w1.heap.size, 0, none⟩) 1 [(x, y)] rfl (pairs_one_new w1 x y _) (by simp) (by simp; omega) (by simp; omega) ?_; intro a' c' w3 hR hO hq; have HR := hide hR; have HO := hide (((Out.ofBelow (unhide hb)).trans (Out.ofBelow ((Below.refl _ w1).alloc (Nat.le_refl _) (.cells #[.int .i64 x, .int .i64 y] 42))) (fun _ _ h => h)).trans hO (fun _ _ h => h)); have HQ := hide hq; clear hR hO hq)
    go_ret
    rw [unhide HS]
    refine ⟨a', c', by rw [List.length_append]; rfl, unhide HR, ?_, unhide HO⟩
    rcases unhide HQ with h | ⟨q, h, h2⟩
    · exact .inl h
    · exact .inr ⟨q, h, by simp at h2; omega⟩
  · have hne : l ≠ [] := by intro e; subst e; simp at hk
    obtain ⟨g, rfl⟩ := hg hne
    rcases unhide H with ⟨e, _⟩ | ⟨_, how⟩
    · exact absurd e hne
    have hck := how.cellAt (k * 2) (by have := how.1; omega)
    have hcj := how.cellAt (k * 2 + 1) (by have := how.1; omega)
    rw [(prs_at hk).1] at hck
    rw [(prs_at hk).2] at hcj
    have hfz := how.frozenAt (k * 2)
    have hfj := how.frozenAt (k * 2 + 1)
    have HO2 := hide ((how.stored (k * 2) (.int .i64 x)).1.stored (k * 2 + 1) (.int .i64 y)).1
    have HU2 := hide (((Out.ofBelow (F := fun q => l ≠ [] ∧ (Value.slice (some ⟨g, 0, none⟩) l.length c).ownBlock = some q) (unhide hb)).setCell (p := ⟨g, k * 2, none⟩) (.inl ⟨hne, rfl⟩) (.int .i64 x)).setCell (p := ⟨g, k * 2 + 1, none⟩) (.inl ⟨hne, rfl⟩) (.int .i64 y))
    have HS := hide (hset y)
    have HNE := hide hne
    rw [hf, Int.zero_add]
    have k0 : (0 : Int) ≤ (k : Int) := by omega
    have k1 : (k : Int) < l.length := by omega
    clear hf hP hg hl h1 hset how H hne hi hz0 hz1 hz2
    go_wp2_with fail
    go_ret
    have hlen : (l.set k (x, y)).length = l.length := by simp
    rw [unhide HS]
    refine ⟨some ⟨g, 0, none⟩, c, by rw [hlen]; rfl, ?_, .inl ⟨unhide HNE, rfl⟩, unhide HU2⟩
    have := unhide HO2
    have e : ((prs l).set (k * 2) (.int .i64 x)).set (k * 2 + 1) (.int .i64 y) = prs (l.set k (x, y)) := prs_set k (x, y)
    rw [e] at this
    exact .inr ⟨by intro e; have := congrArg List.length e; simp at this; exact unhide HNE this, by rw [hlen]; exact this⟩
end Go.Proofs.Ytdnfadbkpajloaa
