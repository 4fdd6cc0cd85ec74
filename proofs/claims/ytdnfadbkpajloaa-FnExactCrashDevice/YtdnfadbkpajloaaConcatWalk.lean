/-
  Two lists of cells put together by slices.Concat; whether fates are fates.
-/
import Derived.Test.YtdnfadbkpajloaaSFlushWalk
import Derived.Lib.AppendZeros
namespace Go.Proofs.Ytdnfadbkpajloaa
open Go.RowKit
set_option linter.unusedVariables false

def fateOk (x : Int) : Bool := inB x 0 1
def allFates (l : List Int) : Bool := l.all fateOk
theorem allFates_false {l : List Int} {k : Nat} (hk : k < l.length) (h : fateOk l[k] = false) : allFates l = false := by
  cases hq : allFates l
  · rfl
  · rw [allFates, List.all_eq_true] at hq
    rw [hq _ (List.getElem_mem hk)] at h; cases h
theorem allFates_true {l : List Int} (h : ∀ j (hj : j < l.length), fateOk l[j] = true) : allFates l = true := by
  rw [allFates, List.all_eq_true]
  intro x hx
  obtain ⟨j, hj, rfl⟩ := List.getElem_of_mem hx
  exact h j hj
set_option maxHeartbeats 1000000 in
theorem areFates_any (a : Option Addr) (c : Nat) (l : List Int) (w : World) (h : IntsAt w a l) (hn : l.length ≤ 10000000) :
    Calls Try.prog 140 #[.slice a l.length c] w fun e w' => e = .returned (.bool (allFates l)) ∧ w' = w := by
  go_enter Try.func140, Try.ntmps140
  go_wp2
  go_loop [7] (fun i => ∃ k : Nat, k ≤ l.length ∧ i = .int .i64 k ∧ Hid (∀ j (hj : j < l.length), j < k → fateOk l[j] = true)) (fun i => l.length - (intOf i).toNat)
  case atStart => exact ⟨0, Nat.zero_le _, rfl, fun j _ hj => absurd hj (Nat.not_lt_zero j)⟩
  case round =>
    obtain ⟨k, hk, rfl, HX⟩ := hrel
    by_cases hlt : k < l.length
    · obtain ⟨b, o, rfl, hb, hc⟩ := h.at hlt
      have hck := hc k hlt
      clear hc h
      cases hq : fateOk l[k]
      · have HV := hide (allFates_false hlt hq)
        have HQ : Hid (inB l[k] 0 1 = false) := hq
        clear hq
        go_wp2_with fail
        refine (isWithin_any _ 0 1 _).mono ?_
        rintro e w1 ⟨rfl, rfl⟩
        rw [unhide HQ]
        go_wp2_with fail
        go_ret
        exact ⟨ret_bool (unhide HV).symm, rfl⟩
      · have HX2 : Hid (∀ j (hj : j < l.length), j < k + 1 → fateOk l[j] = true) := by
          intro j hj hj1
          by_cases e : j = k
          · subst e; exact hq
          · exact unhide HX j hj (by omega)
        have HQ : Hid (inB l[k] 0 1 = true) := hq
        clear hq
        go_wp2_with fail
        refine (isWithin_any _ 0 1 _).mono ?_
        rintro e w1 ⟨rfl, rfl⟩
        rw [unhide HQ]
        go_wp2_with fail
        go_round
        case rel => exact ⟨k + 1, by omega, by go_num, HX2⟩
        case measure => simp [intOf]; omega
    · have HV := hide (allFates_true (fun j hj => unhide HX j hj (by omega)))
      clear h
      go_wp2
      go_ret
      exact ⟨ret_bool (unhide HV).symm, rfl⟩
theorem wpList_append_run {P : Program} {w w' : World} {ops : Array Oper} {rest : List Oper} {o : Oper} {a : Act} {Q : Exit → Act → World → Prop} (hgd : o.guard = none) (s x : Operand) (t t2 : TypeId)
    (ho : o.op = .call { callee := .builtin .append, args := #[s, x], argTypes := #[t, t2] }) (v xv v' : Value) (hs : a.eval s = v) (hx : a.eval x = xv) (hr : (Builtin.append_ #[t, t2] o.type #[v, xv]).run P w = .ok v' w') (h : wpList P ops Q rest (a.put o.dst v') w') :
    wpList P ops Q (o :: rest) a w := by
  refine wpList_plain hgd fun K hK => ?_
  unfold Oper.wp execOp
  simp only [ho, resolve, invoke, builtin, Sem.run_bind, Sem.run_pure, Result.andThen_ok, List.map_toArray, List.map_cons, List.map_nil, hs, hx, hr]
  exact hK _ _ h
set_option maxRecDepth 100000 in
set_option maxHeartbeats 1000000 in
theorem grow_any (n : Nat) (w : World) (hn : n ≤ 20000000) :
    Calls Try.prog 221 #[.slice none 0 0, .int .i64 n] w fun e w' => (∃ v, e = .returned v ∧ w'.ownsRow w.heap.size 42 2 v 0 []) ∧ Below w.heap.size w w' := by
  obtain ⟨i0, hi, hz0, hz1, hz2⟩ := info_parts infoCell
  by_cases h0 : n = 0
  · subst h0
    go_enter Try.func221, Try.ntmps221
    go_wp2
    go_ret
    exact ⟨⟨_, rfl, World.ownsRow_nil _ _ _ _⟩, Below.refl _ _⟩
  · have happ := fun ty => Lib.run_append_nil_zeros (P := Try.prog) w 25 3 ty 42 i0 _ .i64 .i64 Try.underlying25 Try.underlying3 hi hz0 n (by omega) (by rw [hz1]; decide) (by omega) (by rw [hz2]; omega)
    have hcap := grownCap_ge w n 0 42
    have hmax := grownCap_le_maxLen w n 0 42 (by unfold maxLen; omega)
    generalize hG : grownCap w n 0 42 = cap at *
    have n0 : ¬ (n : Int) < 0 := by omega
    have n1 : (0 : Int) < n := by omega
    clear hG hi
    obtain ⟨cur, hcur, hsz⟩ : ∃ cur : Array Value, cur = Builtin.zeroCells (Value.agg #[.int .i64 0, .int .i64 0]).cells n ++ Builtin.zeroCells (Value.agg #[.int .i64 0, .int .i64 0]).cells (cap - n) ∧ cur.size = cap * 2 := ⟨_, rfl, by rw [Array.size_append, size_zeroCells, size_zeroCells]; show n * 2 + (cap - n) * 2 = _; omega⟩
    rw [← hcur] at happ
    clear hcur
    have HB : Hid (Below w.heap.size w (w.drew.alloc (.cells cur 42))) := ((Below.refl _ w).drew).alloc (Nat.le_refl _) _
    have HO : Hid ((w.drew.alloc (.cells cur 42)).ownsRow w.heap.size 42 2 (.slice (some ⟨w.heap.size, 0, none⟩) 0 cap) 0 []) :=
      ⟨rfl, .inr ⟨w.heap.size, cap, cur, rfl, Nat.le_refl _, heap_alloc_new w.drew _, Nat.zero_le _, hmax, hsz, by simp⟩⟩
    clear hsz hmax
    go_enter Try.func221, Try.ntmps221
    go_wp2_with (at_builtin; refine wpList_append_run rfl _ _ 25 3 rfl (.slice none 0 0) (.int .i64 n) _ rfl rfl (happ _) ?_)
    go_ret
    exact ⟨⟨_, rfl, unhide HO⟩, unhide HB⟩
theorem wpList_append_prs {P : Program} {w : World} {ops : Array Oper} {rest : List Oper} {o : Oper} {a : Act} {Q : Exit → Act → World → Prop} (hgd : o.guard = none) (s x : Operand) (t : TypeId)
    (ho : o.op = .call { callee := .builtin .append, args := #[s, x], argTypes := #[t, t] })
    (base : Nat) (e : TypeId) (i : TypeInfo) (z : Value) (ht : P.underlying t = some (.slice e)) (hi : P.info? e = some i) (hz : i.zero = some z) (hsize : i.size = 2) (hby : i.bytes = 16) (hzs : z.cells.size = 2)
    (v : Value) (n : Nat) (xs : List Value) (hs : a.eval s = v) (hown : w.ownsRow base e 2 v n xs) (ad : Option Addr) (c : Nat) (l : List (Int × Int)) (hx : a.eval x = .slice ad l.length c) (hp : PairsAt w ad l) (hn : n + l.length ≤ 100000000) (hbase : base ≤ w.heap.size)
    (h : ∀ v' w', w'.ownsRow base e 2 v' (n + l.length) (xs ++ prs l) → w.grownBy w' v.ownBlock → wpList P ops Q rest (a.put o.dst v') w') :
    wpList P ops Q (o :: rest) a w := by
  obtain ⟨v', w', hr, h2, h3, h4⟩ := run_append_pairs w base t o.type e i z ht hi hz hsize hby hzs v n xs hown ad c l hp hn hbase
  exact wpList_append_run hgd s x t t ho v _ v' hs hx hr (h v' w' h2 h3)
set_option maxRecDepth 100000 in
set_option maxHeartbeats 2000000 in
theorem concat_any (b : Nat) (a1 a2 : Option Addr) (c1 c2 : Nat) (l m : List (Int × Int)) (w : World) (q0 : w.cell? ⟨b, 0, none⟩ = some (.slice a1 l.length c1)) (q1 : w.cell? ⟨b, 1, none⟩ = some (.slice a2 m.length c2)) (h1 : PairsAt w a1 l) (h2 : PairsAt w a2 m) (n1 : l.length ≤ 1100000) (n2 : m.length ≤ 1100000) :
    Calls Try.prog 194 #[.slice (some ⟨b, 0, none⟩) 2 2] w fun e w' => (∃ a c, e = .returned (.slice a (l ++ m).length c) ∧ w'.ownsRow w.heap.size 42 2 (.slice a (l ++ m).length c) (l ++ m).length (prs (l ++ m))) ∧ Below w.heap.size w w' := by
  obtain ⟨i0, hi, hz0, hz1, hz2⟩ := info_parts infoCell
  have hbl : b < w.heap.size := World.block_lt_of_cell? w _ q0
  have H1 := hide h1
  have H2 := hide h2
  clear h1 h2
  obtain ⟨N, hN⟩ : ∃ N : Nat, N = l.length + m.length := ⟨_, rfl⟩
  have HN := hide hN
  have hNb : N ≤ 2200000 := by omega
  clear hN
  go_enter Try.func194, Try.ntmps194
  go_wp2_with fail
  go_loop [3, 11] (fun s i => ∃ k : Nat, i = .int .i64 k ∧ ((k = 0 ∧ s = .int .i64 0) ∨ (k = 1 ∧ s = .int .i64 l.length) ∨ (k = 2 ∧ s = .int .i64 N))) (fun _ i => 2 - (intOf i).toNat)
  case atStart => exact ⟨0, rfl, .inl ⟨rfl, rfl⟩⟩
  case round =>
    obtain ⟨k, rfl, hk⟩ := hrel
    rcases hk with ⟨rfl, rfl⟩ | ⟨rfl, rfl⟩ | ⟨rfl, rfl⟩
    · have k1 : ¬ (l.length : Int) < 0 := by omega
      go_wp2_with fail
      go_round
      case rel => exact ⟨1, by go_num, .inr (.inl ⟨rfl, by go_num⟩)⟩
      case measure => simp [intOf]
    · have k1 : ¬ (l.length : Int) + m.length < 0 := by omega
      go_wp2_with fail
      go_round
      case rel => exact ⟨2, by go_num, .inr (.inr ⟨rfl, by have := unhide HN; go_num⟩)⟩
      case measure => simp [intOf]
    · go_wp2_with fail
      refine (grow_any N _ (by omega)).mono ?_
      rintro e w1 ⟨⟨v0, rfl, hO⟩, hb⟩
      have HB := hide hb
      have HO := hide hO
      clear hb hO
      go_wp2_with fail
      go_loopw [6, 27] (fun v i wr => ∃ k : Nat, i = .int .i64 k ∧ Hid (Below w.heap.size w wr) ∧ ((k = 0 ∧ Hid (wr.ownsRow w.heap.size 42 2 v 0 [])) ∨ (k = 1 ∧ Hid (wr.ownsRow w.heap.size 42 2 v l.length (prs l))) ∨ (k = 2 ∧ ∃ a c, v = .slice a (l ++ m).length c ∧ Hid (wr.ownsRow w.heap.size 42 2 (.slice a (l ++ m).length c) (l ++ m).length (prs (l ++ m)))))) (fun _ i _ => 2 - (intOf i).toNat)
      case atStart => exact ⟨0, rfl, HB, .inl ⟨rfl, HO⟩⟩
      case round =>
        obtain ⟨k, rfl, HBr, hk⟩ := hrel
        have zr := (unhide HBr).size
        have r0 := ((bcell (unhide HBr)).1 b 0 hbl).trans q0
        have r1 := ((bcell (unhide HBr)).1 b 1 hbl).trans q1
        have P1 := hide ((unhide H1).below (unhide HBr))
        have P2 := hide ((unhide H2).below (unhide HBr))
        rcases hk with ⟨rfl, HR⟩ | ⟨rfl, HR⟩ | ⟨rfl, a, c, rfl, HR⟩
        · go_wp2_with (at_builtin; refine wpList_append_prs rfl _ _ 25 rfl w.heap.size 42 i0 _ Try.underlying25 hi hz0 hz1 hz2 rfl _ 0 [] rfl (unhide HR) a1 c1 l rfl (unhide P1) (by omega) zr ?_; intro v' w3 hown hgrow; have HR3 := hide hown; have HB3 := hide ((unhide HBr).grown hgrow zr (fun q hq => ((unhide HR).lt q hq).1)); clear hown hgrow)
          go_roundw
          case rel => exact ⟨1, by go_num, HB3, .inr (.inl ⟨rfl, hide (by simpa using unhide HR3)⟩)⟩
          case measure => simp [intOf]
        · go_wp2_with (at_builtin; refine wpList_append_prs rfl _ _ 25 rfl w.heap.size 42 i0 _ Try.underlying25 hi hz0 hz1 hz2 rfl _ l.length (prs l) rfl (unhide HR) a2 c2 m rfl (unhide P2) (by omega) zr ?_; intro v' w3 hown hgrow; have HR3 : Hid (w3.ownsRow w.heap.size 42 2 v' (l ++ m).length (prs (l ++ m))) := (by rw [List.length_append, prs_append]; exact hown); have HB3 := hide ((unhide HBr).grown hgrow zr (fun q hq => ((unhide HR).lt q hq).1)); clear hown hgrow)
          go_roundw
          case rel =>
            obtain ⟨a, c, e, -⟩ := pairsAt_own (unhide HR3)
            exact ⟨2, by go_num, HB3, .inr (.inr ⟨rfl, a, c, e, by rw [← e]; exact HR3⟩)⟩
          case measure => simp [intOf]
        · go_wp2_with fail
          go_ret
          exact ⟨⟨a, c, rfl, unhide HR⟩, unhide HBr⟩
end Go.Proofs.Ytdnfadbkpajloaa
