/-
  Several texts in one: Draw2Place, AppInts, Draw2Crash, FncMath, ConcatWalk, CrashWalk, CrashMath, SCrashWalk, FncKit, LwNums, LwFates, CodeRow.
-/
import Derived.Test.YtdnfadbkpajloaaDraw2Flush
import Derived.Test.YtdnfadbkpajloaaRowMath
import Derived.Maps.AppendAt
import Derived.WalkKit
import Derived.WalkLawsBesides
import Derived.OwnWalk
import Derived.Test.YtdnfadbkpajloaaDoMath
import Derived.Test.YtdnfadbkpajloaaSFlushWalk
import Derived.Lib.AppendZeros
import Derived.Test.YtdnfadbkpajloaaEvictWalk
import Derived.Test.YtdnfadbkpajloaaLoadWalk
import Derived.Test.YtdnfadbkpajloaaSFenceWalk
import Derived.ProofKit
import Derived.Test.YtdnfadbkpajloaaProg
import Derived.Deep.QuietTactic
import Derived.BigQuiet
import Derived.Test.YtdnfadbkpajloaaDevTo
import Derived.Test.YtdnfadbkpajloaaSrcMath
/-
  The laws' draws of devices: a place and a value.
-/
namespace Go.Proofs.Ytdnfadbkpajloaa
open Go.RowKit
set_option linter.unusedVariables false

theorem SrcTo.drew {w : World} {s : Nat} {a : Option Addr} {n c P : Nat} (h : SrcTo w s a n c P) : SrcTo w.drew s a n c P := h.below ((Below.refl _ _).drew)
theorem Out.drew' {F : Nat → Prop} {w w' : World} (h : Out F w w') : Out F w w'.drew := ⟨h.os, h.tape, h.output, h.size, h.block⟩
set_option maxRecDepth 20000 in
set_option maxHeartbeats 2000000 in
theorem l2Place_any (s : Nat) (a : Option Addr) (n c P d : Nat) (v1 : Value) (a2 a3 : Option Addr) (c2 c3 : Nat) (l m : List (Int × Int)) (t : TypeId) (w : World) (h : SrcTo w s a n c P) (hp : P ≤ 900) (hx : Box w d [v1, .slice a2 l.length c2, .slice a3 m.length c3] t) (h2 : PairsAt w a2 l) (h3 : PairsAt w a3 m) (n2 : l.length ≤ 100) (n3 : m.length ≤ 100) :
    Calls Try.prog 142 #[.pointer (some ⟨s, 0, none⟩), .pointer (some ⟨d, 0, none⟩)] w fun e w' => (∃ v : Int, e = .returned (.int .i64 v)) ∧ SrcTo w' s a n c (P + 3) ∧ Out (fun q => q = s) w w' := by
  have H := hide h
  have hsz := h.lt
  have X := hide hx
  have H2 := hide h2
  have H3 := hide h3
  clear h hx h2 h3
  go_enter Try.func142, Try.ntmps142
  go_wp2_with fail
  refine (l2Cells_any d t v1 a2 a3 c2 c3 l m _ (unhide X) (unhide H2) (unhide H3) (by omega) (by omega)).mono ?_
  rintro r w1 ⟨⟨v, rfl, hO⟩, hb⟩
  obtain ⟨av, cv, ev, hlen, hP, -⟩ := pairsAt_own hO
  have hlt := hO.lt
  subst ev
  have z1 := hb.size
  obtain ⟨L, hL⟩ : ∃ L, L = l ++ m := ⟨_, rfl⟩
  have hLl : L.length ≤ 200 := by rw [hL, List.length_append]; omega
  rw [← hL] at hP hlt
  rw [← hL]
  have S1 := hide ((unhide H).below hb)
  have O1 := hide (Out.ofBelow (F := fun q => q = s) hb)
  have P1 := hide hP
  have HLT := hide hlt
  clear hO hb hP hlt hlen hL H X H2 H3
  by_cases hk : (0 : Int) < L.length
  · have hk' : 0 < L.length := by omega
    go_wp2_with fail
    refine (chanceTo s a n c P 2 _ (unhide S1) (by omega) (by omega) (by omega)).mono ?_
    rintro r w2 ⟨⟨b, rfl⟩, hs2, ho2⟩
    have z2 := ho2.size
    have S2 := hide hs2
    have O2 := hide ((unhide O1).trans ho2 (fun _ _ e => e))
    have OB2 := hide ho2
    clear hs2 ho2 S1 O1
    cases b
    · go_wp2_with fail
      refine (nextTo s a n c (P + 1) 16 _ (unhide S2) (by omega) (by omega) (by omega)).mono ?_
      rintro r w3 ⟨⟨x, rfl, hx0, hx1⟩, hs3, ho3⟩
      have S3 := hide hs3
      have O3 := hide ((unhide O2).trans ho3 (fun _ _ e => e))
      clear hs3 ho3
      go_wp2_with fail
      refine (pickTo s a n c (P + 1 + 1) (fun _ => True) _ _ 6 w3 (unhide S3) (by omega) rfl (by omega) (by omega) (by simp)).mono ?_
      rintro r w4 ⟨⟨y, -, rfl⟩, hs4, ho4⟩
      have S4 := hide hs4
      have O4 := hide ((unhide O3).trans ho4 (fun _ _ e => e))
      clear hs4 ho4
      go_wp2_with fail
      go_ret
      exact ⟨⟨_, rfl⟩, (unhide S4).more (by omega), unhide O4⟩
    · go_wp2_with fail
      refine (nextTo s a n c (P + 1) L.length _ (unhide S2) (by omega) (by omega) (by omega)).mono ?_
      rintro r w3 ⟨⟨x, rfl, hx0, hx1⟩, hs3, ho3⟩
      obtain ⟨j, rfl⟩ := Int.eq_ofNat_of_zero_le hx0
      have hj : j < L.length := by omega
      obtain ⟨b, o, e, hbl, hcs⟩ := (unhide P1).at hj
      subst e
      have hge : w.heap.size ≤ b := (unhide HLT b rfl).1
      have hc := (hcs j hj).1
      have hc3 : w3.cell? ⟨b, o + j * 2, none⟩ = some (.int .i64 L[j].1) := (ho3.cell (by have := z2; omega) (by show ¬ b = s; omega) _).trans (((unhide OB2).cell hbl (by show ¬ b = s; omega) _).trans hc)
      have O3 := hide ((unhide O2).trans ho3 (fun _ _ e => e))
      have S3 := hide hs3
      clear hcs hc ho3 hs3 S2 O2 OB2 P1 HLT
      go_wp2_with fail
      go_ret
      exact ⟨⟨_, rfl⟩, (unhide S3).more (by omega), unhide O3⟩
  · have S2 := S1
    have O2 := O1
    have w2 := w1
    clear S1 O1 w2
    go_wp2_with fail
    refine (nextTo s a n c (P) 16 _ (unhide S2) (by omega) (by omega) (by omega)).mono ?_
    rintro r w3 ⟨⟨x, rfl, hx0, hx1⟩, hs3, ho3⟩
    have S3 := hide hs3
    have O3 := hide ((unhide O2).trans ho3 (fun _ _ e => e))
    clear hs3 ho3
    go_wp2_with fail
    refine (pickTo s a n c (P + 1) (fun _ => True) _ _ 6 w3 (unhide S3) (by omega) rfl (by omega) (by omega) (by simp)).mono ?_
    rintro r w4 ⟨⟨y, -, rfl⟩, hs4, ho4⟩
    have S4 := hide hs4
    have O4 := hide ((unhide O3).trans ho4 (fun _ _ e => e))
    clear hs4 ho4
    go_wp2_with fail
    go_ret
    exact ⟨⟨_, rfl⟩, (unhide S4).more (by omega), unhide O4⟩
theorem resCTT {P : Program} {fn : Func} {p q s : Tmp} {ty : TypeId} (h : fn.results = #[.cell p ty, .tmp q, .tmp s]) (tmps : Array Value) (w : World) (g : Nat) (t : TypeId) (cs : Array Value) (fr : Nat × Nat) (d : TypeDesc) (v u : Value)
    (hp : tmps.getD p undef = .pointer (some ⟨g, 0, none⟩)) (hq : tmps.getD q undef = v) (hs : tmps.getD s undef = u) (hg : w.heap[g]? = some (.cells cs t fr))
    (hu : P.underlying ty = some d) (hd : (match d with | .struct _ | .array _ _ => true | _ => false) = true) (hi : (P.info? ty).map (·.size) = some cs.size) :
    (results fn tmps).run P w = .ok (.tuple #[.agg cs, v, u]) w := by
  have hp' : tmps[p]?.getD undef = .pointer (some ⟨g, 0, none⟩) := by simpa using hp
  have hq' : tmps[q]?.getD undef = v := by simpa using hq
  have hs' : tmps[s]?.getD undef = u := by simpa using hs
  simp [results, h, hp', hq', hs', asAddr, run_loadVar_row w g t ty cs fr d hg hu hd hi]
theorem RDev.drew {w : World} {lo hi : Nat} {a1 a2 a3 : Option Addr} {D : Dev} (h : RDev w lo hi a1 a2 a3 D) : RDev w.drew lo hi a1 a2 a3 D := h.out (F := fun _ => False) ⟨rfl, rfl, rfl, Nat.le_refl _, fun _ _ _ => rfl⟩ (fun _ _ _ h => h)
set_option maxRecDepth 20000 in
set_option maxHeartbeats 4000000 in
theorem drawLoadWord_any (a : Option Addr) (n c : Nat) (w : World) (h : CodeAt w a n) (hn : n ≤ 1048576) :
    Calls Try.prog 73 #[.slice a n c] w fun r w' => (∃ a1 c1 a2 c2 a3 c3 D at_, r = .returned (.tuple #[.agg #[.slice a1 (List.length (Dev.words D)) c1, .slice a2 (List.length (Dev.flights D)) c2, .slice a3 (List.length (Dev.over D)) c3], .int .i64 at_]) ∧ RDev w' w.heap.size w'.heap.size a1 a2 a3 D ∧ Few D) ∧ Below w.heap.size w w' := by
  obtain ⟨W, hW, hWz, HB0, HX0⟩ := boxes1 w [.slice none 0 0, .slice none 0 0, .slice none 0 0] 27
  have H := hide (h.below (unhide HB0))
  clear h
  go_enter Try.func73, Try.ntmps73
  go_wp2_with fail
  rw [← hW]
  clear hW
  refine (l1Source_any a n c _).mono ?_
  rintro r W1 ⟨rfl, hW1⟩
  obtain ⟨hS, hB⟩ := sourceTo hW1 (unhide H) hn
  have z1 := hB.size
  have hslt := hS.lt
  have S1 := hide hS
  have B1 := hide (below_step (unhide HB0) hB (by omega))
  have HX1 := hide ((unhide HX0).below hB)
  clear hS hB hW1 H HB0 HX0
  go_wp2_with fail
  refine (l2Bent_any W.heap.size a n c 0 _ (unhide S1) (by omega)).mono ?_
  rintro r w2 ⟨⟨a1, c1, a2, c2, a3, c3, D, rfl, hR, hF⟩, h2, o2⟩
  have z2 := o2.size
  have S2 := hide h2
  have HX2 := hide ((unhide HX1).out o2 (by show ¬ w.heap.size = W.heap.size; omega))
  have B2 := hide (o2.below (unhide B1) (Nat.le_refl _) (fun q hq e => by omega))
  have R2 := hide hR
  have F2 := hide hF
  clear hR hF h2 o2 S1 HX1 B1
  obtain ⟨W3, hW3, z3, hb3, hx3⟩ := boxes1 w2 [.slice a1 D.words.length c1, .slice a2 D.flights.length c2, .slice a3 D.over.length c3] 27
  have S5 : Hid (SrcTo W3.drew W.heap.size a n c (0 + 70)) := hide ((unhide S2).below (unhide hb3)).drew
  have XD : Hid (Box W3.drew w2.heap.size [.slice a1 D.words.length c1, .slice a2 D.flights.length c2, .slice a3 D.over.length c3] 27) := hide (unhide hx3).drew
  have XA : Hid (Box W3.drew w.heap.size [.slice none 0 0, .slice none 0 0, .slice none 0 0] 27) := hide ((unhide HX2).below (unhide hb3)).drew
  have BD : Hid (Below w.heap.size w W3) := hide (below_step (unhide B2) (unhide hb3) (by omega))
  have RD : Hid (RDev W3.drew W1.heap.size w2.heap.size a1 a2 a3 D) := hide ((unhide R2).below (unhide hb3)).drew
  have O5 : Hid (Out (fun q => q = W.heap.size) W3.drew W3.drew) := hide (Out.refl _ _)
  have hnd : ¬ w2.heap.size = W.heap.size := by omega
  have hna : ¬ w.heap.size = W.heap.size := by omega
  have dz : w2.heap.size < W3.heap.size := by omega
  have az : w.heap.size < W3.heap.size := by omega
  have d0 := (unhide XD).cell 0
  have d1 := (unhide XD).cell 1
  have d2 := (unhide XD).cell 2
  simp only [List.getElem?_cons_zero, List.getElem?_cons_succ] at d0 d1 d2
  clear S2 HX2 B2 R2 hb3 hx3
  go_wp2_with fail
  rw [← hW3]
  clear hW3
  go_region_with (go_at_call 142; refine (l2Place_any W.heap.size a n c (0 + 70) w2.heap.size _ a2 a3 c2 c3 D.flights D.over _ _ (unhide S5) (by omega) (unhide XD) (unhide RD).r.r2 (unhide RD).r.r3 (unhide F2).2.1 (unhide F2).2.2).mono ?_; rintro r w5 ⟨⟨at_, rfl⟩, hs5, ho5⟩; have z5 := ho5.size; have O5 := hide ((unhide O5).trans ho5 (fun _ _ e => e)); have S5 := hide hs5; have d0 := ((unhide XD).out (unhide O5) hnd).cell 0; have d1 := ((unhide XD).out (unhide O5) hnd).cell 1; have d2 := ((unhide XD).out (unhide O5) hnd).cell 2; have q0 := ((unhide XA).out (unhide O5) hna).cell 0; have q1 := ((unhide XA).out (unhide O5) hna).cell 1; have q2 := ((unhide XA).out (unhide O5) hna).cell 2; have f0 := ((unhide XA).out (unhide O5) hna).frozen 0; have f1 := ((unhide XA).out (unhide O5) hna).frozen 1; have f2 := ((unhide XA).out (unhide O5) hna).frozen 2; simp only [List.getElem?_cons_zero, List.getElem?_cons_succ] at d0 d1 d2 q0 q1 q2; have dz5 : w2.heap.size < w5.heap.size := Nat.lt_of_lt_of_le dz (unhide O5).size; have az5 : w.heap.size < w5.heap.size := Nat.lt_of_lt_of_le az (unhide O5).size; clear hs5 ho5)
  all_goals
    clear d0 d1 d2 q0 q1 q2 f0 f1 f2
    generalize hU : ((w5.setCell _ _).setCell _ _).setCell _ _ = U at *
    obtain ⟨XU, OU⟩ := store3' ((unhide XA).out (unhide O5) hna) hU
    have zU := (unhide OU).size
    have B6 : Below w.heap.size w w5 := ((unhide O5).below (w0 := w) (B := w.heap.size) (unhide BD).drew (Nat.le_refl _) (fun q hq e => by omega))
    have BU := hide ((unhide OU).below B6 (Nat.le_refl _) (fun q hq e => by omega))
    have RU := hide ((((unhide RD).out (unhide O5) (fun q h1 h2 e => by omega)).out (unhide OU) (fun q h1 h2 e => by omega)).wide (lo' := w.heap.size) (hi' := U.heap.size) (by omega) (by have := (unhide O5).size; simp at this; omega))
    clear hU OU B6
    go_wp2_with fail
    refine bodyPost_ret (resCT Try.results73 _ U w.heap.size 27 _ (0, 0) _ _ rfl rfl (unhide XU) Try.underlying27 rfl (by kernel_rfl)) rfl ⟨⟨_, _, _, _, _, _, D, _, rfl, unhide RU, unhide F2⟩, unhide BU⟩
end Go.Proofs.Ytdnfadbkpajloaa
/-
  append of a slice of numbers to a row of our own.
-/
namespace Go.Proofs.Ytdnfadbkpajloaa
open Go.RowKit
open Go.WideShapes (add_plain)

theorem run_append_nothing1 {P : Program} {w : World} (base : Nat) (t ty e : TypeId) (i : TypeInfo) (size : Nat) (ht : P.underlying t = some (.slice e)) (hi : P.info? e = some i) (v : Value) (n c : Nat) (xs : List Value) (hown : w.ownsRow base e size v n xs) :
    (Builtin.append_ #[t, t] ty #[v, .slice none 0 c]).run P w = .ok v w := by
  rcases hown.2 with ⟨rfl, rfl⟩ | ⟨g, cap, cur, rfl, _, _, hnc, _⟩
  · simp [Builtin.append_, run_underlying ht, sizeOf, typeInfo, hi, Builtin.lenOf, Builtin.firstCells]
  · simp [Builtin.append_, run_underlying ht, sizeOf, typeInfo, hi, Builtin.lenOf, Builtin.firstCells, hnc, storeCells]
theorem nums_one_cell (l : List Int) : ∀ u ∈ nums l, u.oneCell' = true := by
  intro u hu
  simp only [nums, List.mem_map] at hu
  obtain ⟨x, _, rfl⟩ := hu
  rfl
theorem ints_cells {w : World} {ad : Addr} {l : List Int} (h : IntsAt w (some ad) l) {j : Nat} {u : Value} (hj : (nums l)[j]? = some u) : w.cell? (ad.add j) = some u := by
  have hl : j < l.length := by
    have := (List.getElem?_eq_some_iff.1 hj).1
    rwa [nums_length] at this
  obtain ⟨b, o, e, _, hc⟩ := h.at hl
  injection e with e
  subst e
  rw [add_plain, hc j hl, ← hj, nums_at hl]
theorem run_append_ints {P : Program} (w : World) (base : Nat) (t ty e : TypeId) (i : TypeInfo) (z : Value) (ht : P.underlying t = some (.slice e)) (hi : P.info? e = some i) (hz : i.zero = some z) (hsize : i.size = 1) (hby : i.bytes = 8) (hzs : z.cells.size = 1)
    (v : Value) (n : Nat) (xs : List Value) (hown : w.ownsRow base e 1 v n xs) (a : Option Addr) (m c : Nat) (l : List Int) (hm : m = l.length) (hp : IntsAt w a l) (hn : n + l.length ≤ 100000000) (hbase : base ≤ w.heap.size) :
    ∃ v' w', (Builtin.append_ #[t, t] ty #[v, .slice a m c]).run P w = .ok v' w' ∧ w'.ownsRow base e 1 v' (n + l.length) (xs ++ nums l) ∧ w.grownBy w' v.ownBlock ∧ (v'.ownBlock = v.ownBlock ∨ v'.ownBlock = some w.heap.size) := by
  subst hm
  cases a with
  | none =>
    have hl : l = [] := by
      rcases hp with h | ⟨b, o, h, _⟩
      · exact h
      · cases h
    subst hl
    exact ⟨v, w, run_append_nothing1 base t ty e i 1 ht hi v n c xs hown, by simpa [nums] using hown, ⟨rfl, rfl, rfl, Nat.le_refl _, fun _ _ _ => rfl⟩, .inl rfl⟩
  | some ad =>
    obtain ⟨v', w', hr, h2, h3, -, h5⟩ := run_append_own_at (P := P) w base t ty e i z 1 8 ht hi hz hsize hby hzs (by decide) v n xs hown ad l.length c (nums l) (by rw [nums_length]; omega) (fun j u hj => ints_cells hp hj) (nums_one_cell l) (by unfold maxLen; omega) (by omega) hbase
    exact ⟨v', w', hr, h2, h3, h5⟩
theorem wpList_append_ints {P : Program} (w : World) {ops : Array Oper} {rest : List Oper} {o : Oper} {a : Act} {Q : Exit → Act → World → Prop} (hgd : o.guard = none) (s x : Operand) (t : TypeId)
    (ho : o.op = .call { callee := .builtin .append, args := #[s, x], argTypes := #[t, t] })
    (base : Nat) (e : TypeId) (i : TypeInfo) (z : Value) (ht : P.underlying t = some (.slice e)) (hi : P.info? e = some i) (hz : i.zero = some z) (hsize : i.size = 1) (hby : i.bytes = 8) (hzs : z.cells.size = 1)
    (v : Value) (n : Nat) (xs : List Value) (hs : a.eval s = v) (hown : w.ownsRow base e 1 v n xs) (ad : Option Addr) (m c : Nat) (l : List Int) (hm : m = l.length) (hx : a.eval x = .slice ad m c) (hp : IntsAt w ad l) (hn : n + l.length ≤ 100000000) (hbase : base ≤ w.heap.size)
    (h : ∀ v' w', w'.ownsRow base e 1 v' (n + l.length) (xs ++ nums l) → w.grownBy w' v.ownBlock → (v'.ownBlock = v.ownBlock ∨ v'.ownBlock = some w.heap.size) → wpList P ops Q rest (a.put o.dst v') w') : wpList P ops Q (o :: rest) a w := by
  refine wpList_plain hgd fun K hK => ?_
  obtain ⟨v', w', hr, h2, h3, h4⟩ := run_append_ints w base t o.type e i z ht hi hz hsize hby hzs v n xs hown ad m c l hm hp hn hbase
  unfold Oper.wp execOp
  simp only [ho, resolve, invoke, builtin, Sem.run_bind, Sem.run_pure, Result.andThen_ok, List.map_toArray, List.map_cons, List.map_nil, hs, hx, hr]
  exact hK _ _ (h v' w' h2 h3 h4)
end Go.Proofs.Ytdnfadbkpajloaa
/-
  The laws' draws of devices: fates for one.
-/
namespace Go.Proofs.Ytdnfadbkpajloaa
open Go.RowKit
set_option linter.unusedVariables false

theorem ints_fresh1 (w : World) (x : Int) (t : TypeId) : IntsAt (w.alloc (.cells #[.int .i64 x] t)) (some ⟨w.heap.size, 0, none⟩) [x] := by
  have hb : Box (w.alloc (.cells #[.int .i64 x] t)) w.heap.size [.int .i64 x] t := box_new w [.int .i64 x] t
  refine .inr ⟨w.heap.size, 0, rfl, hb.lt, fun i hi => ?_⟩
  rw [Nat.zero_add, hb.cell i]
  match i, hi with
  | 0, _ => rfl
/-- What there is while fates are drawn: the source s, the answer's box, the device's box db with its device, the fates. -/
structure CD (w : World) (s lo db : Nat) (a : Option Addr) (n c : Nat) (a1 a2 a3 : Option Addr) (c1 c2 c3 : Nat) (D : Dev) (P : Nat) (v : Value) (l : List Int) (wr : World) : Prop where
  src : SrcTo wr s a n c P
  bel : Below w.heap.size w wr
  ans : Box wr w.heap.size [.slice none 0 0, .slice none 0 0, .slice none 0 0] 27
  dev : Box wr db [.slice a1 D.words.length c1, .slice a2 D.flights.length c2, .slice a3 D.over.length c3] 27
  rd : RDev wr lo db a1 a2 a3 D
  row : wr.ownsRow (db + 1) 2 1 v l.length (nums l)
  q1 : w.heap.size < s
  q2 : s < lo
  q3 : lo ≤ db
  q4 : db < wr.heap.size
theorem CD.step {w : World} {s lo db : Nat} {a : Option Addr} {n c : Nat} {a1 a2 a3 : Option Addr} {c1 c2 c3 : Nat} {D : Dev} {P P' : Nat} {v : Value} {l : List Int} {wr w' : World} (h : CD w s lo db a n c a1 a2 a3 c1 c2 c3 D P v l wr) (hs : SrcTo w' s a n c P') (ho : Out (fun q => q = s) wr w') : CD w s lo db a n c a1 a2 a3 c1 c2 c3 D P' v l w' := by
  have h1 := h.q1
  have h2 := h.q2
  have h3 := h.q3
  have h4 := h.q4
  have hz := ho.size
  exact ⟨hs, ho.below h.bel (Nat.le_refl _) (fun q hq e => by omega), h.ans.out ho (by show ¬ w.heap.size = s; omega), h.dev.out ho (by show ¬ db = s; omega), h.rd.out ho (fun q g1 g2 e => by omega), ho.own h.row (fun q hq e => by have := (h.row.lt q hq).1; omega), h1, h2, h3, by omega⟩
theorem CD.below {w : World} {s lo db : Nat} {a : Option Addr} {n c : Nat} {a1 a2 a3 : Option Addr} {c1 c2 c3 : Nat} {D : Dev} {P : Nat} {v : Value} {l : List Int} {wr w' : World} (h : CD w s lo db a n c a1 a2 a3 c1 c2 c3 D P v l wr) (hb : Below wr.heap.size wr w') : CD w s lo db a n c a1 a2 a3 c1 c2 c3 D P v l w' :=
  ⟨h.src.below hb, below_step h.bel hb h.bel.size, h.ans.below hb, h.dev.below hb, h.rd.below hb, own_below h.row hb, h.q1, h.q2, h.q3, by have := hb.size; have := h.q4; omega⟩
/-- Behind a store into a box of our own above the device's, which is not the fates' row. -/
theorem CD.put {w : World} {s lo db : Nat} {a : Option Addr} {n c : Nat} {a1 a2 a3 : Option Addr} {c1 c2 c3 : Nat} {D : Dev} {P : Nat} {v : Value} {l : List Int} {wr w' : World} {b : Nat} (h : CD w s lo db a n c a1 a2 a3 c1 c2 c3 D P v l wr) (ho : Out (fun q => q = b) wr w') (hb : db < b) (hne : v.ownBlock ≠ some b) : CD w s lo db a n c a1 a2 a3 c1 c2 c3 D P v l w' := by
  have h1 := h.q1
  have h2 := h.q2
  have h3 := h.q3
  have h4 := h.q4
  have hz := ho.size
  exact ⟨h.src.above ho (fun q e => by omega), ho.below h.bel (Nat.le_refl _) (fun q hq e => by omega), h.ans.out ho (by show ¬ w.heap.size = b; omega), h.dev.out ho (by show ¬ db = b; omega), h.rd.out ho (fun q g1 g2 e => by omega), ho.own h.row (fun q hq e => hne (by rw [hq, e])), h1, h2, h3, by omega⟩
theorem CD.grow {w : World} {s lo db : Nat} {a : Option Addr} {n c : Nat} {a1 a2 a3 : Option Addr} {c1 c2 c3 : Nat} {D : Dev} {P : Nat} {v v' : Value} {l m : List Int} {k : Nat} {wr w' : World} (h : CD w s lo db a n c a1 a2 a3 c1 c2 c3 D P v l wr) (hg : wr.grownBy w' v.ownBlock) (ho : w'.ownsRow (db + 1) 2 1 v' (l.length + k) (nums l ++ nums m)) (hk : m.length = k) : CD w s lo db a n c a1 a2 a3 c1 c2 c3 D P v' (l ++ m) w' := by
  have h1 := h.q1
  have h2 := h.q2
  have h3 := h.q3
  have h4 := h.q4
  have hO := Out.ofGrown hg
  have hz := hO.size
  have hF : ∀ q, some q = v.ownBlock → db < q := fun q e => by have := (h.row.lt q e.symm).1; omega
  refine ⟨h.src.above hO (fun q e => by have := hF q e; omega), hO.below h.bel (Nat.le_refl _) (fun q hq e => by have := hF q e; omega), h.ans.out hO (fun e => by have := hF _ e; omega), h.dev.out hO (fun e => by have := hF _ e; omega), h.rd.out hO (fun q g1 g2 e => by have := hF q e; omega), ?_, h1, h2, h3, by omega⟩
  rw [nums_append, List.length_append, hk]
  exact ho
theorem CD.form {w : World} {s lo db : Nat} {a : Option Addr} {n c : Nat} {a1 a2 a3 : Option Addr} {c1 c2 c3 : Nat} {D : Dev} {P : Nat} {v : Value} {l : List Int} {wr : World} (h : CD w s lo db a n c a1 a2 a3 c1 c2 c3 D P v l wr) : ∃ av cv, v = .slice av l.length cv ∧ IntsAt wr av l := by
  obtain ⟨av, cv, e, -, ht, -⟩ := intsAt_own h.row
  exact ⟨av, cv, e, ht⟩
set_option maxRecDepth 20000 in
set_option maxHeartbeats 2000000 in
theorem l2Fates_any (s : Nat) (a : Option Addr) (n c P m : Nat) (w : World) (h : SrcTo w s a n c P) (hp : P + m ≤ 900) :
    Calls Try.prog 67 #[.pointer (some ⟨s, 0, none⟩), .int .i64 m] w fun r w' => (∃ v l, r = .returned v ∧ w'.ownsRow w.heap.size 2 1 v (List.length l) (nums l) ∧ List.length l = m) ∧ SrcTo w' s a n c (P + m) ∧ Out (fun q => q = s) w w' := by
  obtain ⟨i0, hi, hz0, hz1, hz2⟩ := info_parts infoInt64
  have hsl := h.lt
  have H := hide h
  clear h
  go_enter Try.func67, Try.ntmps67
  go_wp2
  go_loopw [5, 6] (fun v i wr => ∃ (k : Nat) (l : List Int), k ≤ m ∧ i = .int .i64 k ∧ l.length = k ∧ w.heap.size ≤ wr.heap.size ∧ Hid (wr.ownsRow w.heap.size 2 1 v k (nums l)) ∧ Hid (SrcTo wr s a n c (P + k)) ∧ Hid (Out (fun q => q = s) w wr)) (fun _ i _ => m - (intOf i).toNat)
  case atStart => exact ⟨0, [], by omega, rfl, rfl, by simp, World.ownsRow_made w #[] 0 (Nat.le_refl _) (by unfold maxLen; omega) rfl, hide ((unhide H).below ((Below.refl _ _).alloc (Nat.le_refl _) _)), (Out.refl _ _).alloc _⟩
  case round =>
    obtain ⟨k, l, hk, rfl, hlk, hzw, HO, HS, HU⟩ := hrel
    clear H
    by_cases hlt : k < m
    · have hlt' : (k : Int) < m := by omega
      go_wp2_with fail
      refine (nextTo s a n c (P + k) 2 _ (unhide HS) (by omega) (by omega) (by omega)).mono ?_
      rintro r w2 ⟨⟨x, rfl, x0, x1⟩, h2, o2⟩
      have O2 := hide (o2.own (unhide HO) (fun g hg e => by have := (unhide HO).lt g hg; omega))
      have S2 := hide h2
      have U2 := hide ((unhide HU).trans o2 (fun _ _ e => e))
      have z2 : wr.heap.size ≤ w2.heap.size := o2.size
      clear h2 o2 HO HS HU
      go_wp2_with (at_builtin; refine wpList_append_ints _ rfl _ _ 24 rfl w.heap.size 2 i0 (.int .i64 0) Try.underlying24 hi hz0 hz1 hz2 rfl _ k (nums l) rfl (own_below (unhide O2) ((Below.refl _ _).alloc (Nat.le_refl _) _)) (some ⟨w2.heap.size, 0, none⟩) 1 1 [x] rfl rfl (ints_fresh1 w2 x _) (by simp; omega) (by simp; omega) ?_; intro v3 w3 hown hgrow hblk; have hG := Out.ofGrown hgrow; have O3 := hide hown; have G3 := hide (((unhide U2).alloc _).trans hG (fun q hq e => by have := ((unhide O2).lt q e.symm).1; omega)); have S3 := hide (((unhide S2).below ((Below.refl _ _).alloc (Nat.le_refl _) _)).above hG (fun q e => by have := ((unhide O2).lt q e.symm).1; omega)); have z3 : w2.heap.size ≤ w3.heap.size := (by have h3 := hG.size; simp at h3; omega); clear hown hgrow hblk hG)
      go_roundw
      case rel => exact ⟨k + 1, l ++ [x], by omega, by go_num, by simp [hlk], by omega, by rw [nums_append]; exact O3, by rw [show P + (k + 1) = P + k + 1 by omega]; exact S3, G3⟩
      case measure => simp [intOf]; omega
    · have hlt' : ¬ (k : Int) < m := by omega
      have hkm : k = m := by omega
      have HKM := hide hkm
      clear hkm
      go_wp2_with fail
      go_ret
      exact ⟨⟨_, rfl, l, by rw [hlk]; exact unhide HO, by rw [hlk]; exact unhide HKM⟩, by rw [← unhide HKM]; exact unhide HS, unhide HU⟩
set_option maxRecDepth 20000 in
set_option maxHeartbeats 4000000 in
theorem drawCrashDevice_any (a : Option Addr) (n c : Nat) (w : World) (h : CodeAt w a n) (hn : n ≤ 1048576) :
    Calls Try.prog 12 #[.slice a n c] w fun r w' => (∃ a1 c1 a2 c2 a3 c3 D av cv l, r = .returned (.tuple #[.agg #[.slice a1 (List.length (Dev.words D)) c1, .slice a2 (List.length (Dev.flights D)) c2, .slice a3 (List.length (Dev.over D)) c3], .slice av (List.length l) cv]) ∧ RDev w' w.heap.size w'.heap.size a1 a2 a3 D ∧ Few D ∧ IntsAt w' av l ∧ List.length l ≤ 1000) ∧ Below w.heap.size w w' := by
  obtain ⟨i0, hi, hz0, hz1, hz2⟩ := info_parts infoInt64
  obtain ⟨W, hW, hWz, HB0, HX0⟩ := boxes1 w [.slice none 0 0, .slice none 0 0, .slice none 0 0] 27
  have H := hide (h.below (unhide HB0))
  clear h
  go_enter Try.func12, Try.ntmps12
  go_wp2_with fail
  rw [← hW]
  clear hW
  refine (l1Source_any a n c _).mono ?_
  rintro r W1 ⟨rfl, hW1⟩
  obtain ⟨hS, hB⟩ := sourceTo hW1 (unhide H) hn
  have z1 := hB.size
  have hslt := hS.lt
  have S1 := hide hS
  have B1 := hide (below_step (unhide HB0) hB (by omega))
  have HX1 := hide ((unhide HX0).below hB)
  clear hS hB hW1 H HB0 HX0
  go_wp2_with fail
  refine (l2Bent_any W.heap.size a n c 0 _ (unhide S1) (by omega)).mono ?_
  rintro r w2 ⟨⟨a1, c1, a2, c2, a3, c3, D, rfl, hR, hF⟩, h2, o2⟩
  have z2 := o2.size
  have S2 := hide h2
  have HX2 := hide ((unhide HX1).out o2 (by show ¬ w.heap.size = W.heap.size; omega))
  have B2 := hide (o2.below (unhide B1) (Nat.le_refl _) (fun q hq e => by omega))
  have R2 := hide hR
  have F2 := hide hF
  obtain ⟨-, hF2, hF3⟩ := hF
  clear hR h2 o2 S1 HX1 B1
  obtain ⟨W3, hW3, z3, hb3, hx3⟩ := boxes1 w2 [.slice a1 D.words.length c1, .slice a2 D.flights.length c2, .slice a3 D.over.length c3] 27
  have A3 : Hid (CD w W.heap.size W1.heap.size w2.heap.size a n c a1 a2 a3 c1 c2 c3 D (0 + 70) (.slice none 0 0) ([]) W3) := hide ⟨(unhide S2).below (unhide hb3), below_step (unhide B2) (unhide hb3) (by omega), (unhide HX2).below (unhide hb3), unhide hx3, (unhide R2).below (unhide hb3), World.ownsRow_nil _ _ _ _, by omega, by omega, by omega, by omega⟩
  clear S2 HX2 B2 R2 hb3 hx3
  have hwf : IntKind.i64.wrap ((D.flights.length : Int) + (D.over.length : Int)) = (D.flights.length : Int) + (D.over.length : Int) := by rw [IntKind.wrap_i64]; omega
  obtain ⟨m, hm⟩ : ∃ m : Nat, m = D.flights.length + D.over.length := ⟨_, rfl⟩
  have hmi : (D.flights.length : Int) + (D.over.length : Int) = (m : Int) := by omega
  have hm200 : m ≤ 200 := by omega
  have HMI := hide hmi
  clear hmi hm
  go_wp2_with fail
  rw [← hW3]
  clear hW3 hwf
  rw [unhide HMI]
  refine (l2Fates_any W.heap.size a n c (0 + 70) m _ (unhide A3).src (by omega)).mono ?_
  rintro r w4 ⟨⟨v, l, rfl, ho, hlm⟩, hs4, ho4⟩
  have A4a := (unhide A3).step hs4 ho4
  obtain ⟨av, cv, ev, -⟩ := intsAt_own ho
  have hlb := ho.lt
  have A4 : Hid (CD w W.heap.size W1.heap.size w2.heap.size a n c a1 a2 a3 c1 c2 c3 D (0 + 70 + m) (.slice av l.length cv) (l) w4) := hide ⟨A4a.src, A4a.bel, A4a.ans, A4a.dev, A4a.rd, own_base (by rw [← ev]; exact ho) (fun q hq => by have h9 := (hlb q (by rw [ev]; exact hq)).1; omega), A4a.q1, A4a.q2, A4a.q3, A4a.q4⟩
  subst ev
  have hl200 : l.length ≤ 200 := by omega
  clear hs4 ho4 A3 A4a ho hlb hlm
  go_wp2_with fail
  refine (nextTo W.heap.size a n c (0 + 70 + m) 9 _ (unhide A4).src (by omega) (by omega) (by omega)).mono ?_
  rintro r w5 ⟨⟨x, rfl, hx0, hx1⟩, hs5, ho5⟩
  have A5 := hide ((unhide A4).step hs5 ho5)
  have hdz := (unhide A5).q4
  clear hs5 ho5 A4 hx0 hx1
  cases x0 : (x == 0)
  case true =>
    have A6 := hide ((unhide A5).below ((Below.refl _ _).alloc (Nat.le_refl _) (.cells #[.int .i64 0] 2)))
    have dd0 := (unhide A5).dev.cell 0
    have dd1 := (unhide A5).dev.cell 1
    have dd2 := (unhide A5).dev.cell 2
    clear dd0 dd1 dd2 A5
    go_wp2_with (at_builtin; refine wpList_append_ints _ rfl _ _ 24 rfl (w2.heap.size + 1) 2 i0 (.int .i64 0) Try.underlying24 hi hz0 hz1 hz2 rfl (.slice av l.length cv) l.length (nums l) rfl (unhide A6).row (some ⟨w5.heap.size, 0, none⟩) 1 1 [0] rfl rfl (ints_fresh1 w5 0 _) (by simp; omega) (by simp; omega) ?_; intro v7 w7 hown hgrow hblk; have A7 := hide ((unhide A6).grow (m := [0]) hgrow hown rfl); obtain ⟨a7, c7, e7, -⟩ := (unhide A7).form; subst e7; have d0 := (unhide A7).dev.cell 0; have d1 := (unhide A7).dev.cell 1; have d2 := (unhide A7).dev.cell 2; have q0 := (unhide A7).ans.cell 0; have q1 := (unhide A7).ans.cell 1; have q2 := (unhide A7).ans.cell 2; have f0 := (unhide A7).ans.frozen 0; have f1 := (unhide A7).ans.frozen 1; have f2 := (unhide A7).ans.frozen 2; simp only [List.getElem?_cons_zero, List.getElem?_cons_succ] at d0 d1 d2 q0 q1 q2; clear hown hgrow hblk A6)
    clear d0 d1 d2 q0 q1 q2 f0 f1 f2
    generalize hV : ((w7.setCell _ _).setCell _ _).setCell _ _ = V at *
    obtain ⟨XV, OV⟩ := store3' (unhide A7).ans hV
    have g1 := (unhide A7).q1
    have g2 := (unhide A7).q2
    have g3 := (unhide A7).q3
    have g4 := (unhide A7).q4
    have zV := (unhide OV).size
    have BV := hide ((unhide OV).below (unhide A7).bel (Nat.le_refl _) (fun q hq e => by omega))
    have RV := hide (((unhide A7).rd.out (unhide OV) (fun q h1 h2 e => by omega)).wide (lo' := w.heap.size) (hi' := V.heap.size) (by omega) (by omega))
    have TV : Hid (IntsAt V a7 (l ++ [0])) := hide (intsAt_own1 ((unhide OV).own (unhide A7).row (fun q hq e => by have h9 := ((unhide A7).row.lt q hq).1; omega)))
    clear hV OV
    refine bodyPost_ret (resCT Try.results12 _ V w.heap.size 27 _ (0, 0) _ _ rfl rfl (unhide XV) Try.underlying27 rfl (by kernel_rfl)) rfl ⟨⟨_, _, _, _, _, _, D, a7, c7, (l ++ [0]), by rw [List.length_append]; rfl, unhide RV, unhide F2, unhide TV, by first | omega | (simp; omega)⟩, unhide BV⟩
  cases x1 : (x == 1)
  case true =>
    by_cases hl0 : 0 < l.length
    · have hl0' : (0 : Int) < l.length := by omega
      go_wp2_with fail
      refine (pickTo W.heap.size a n c _ (fun _ => True) _ _ 2 w5 (unhide A5).src (by omega) rfl (by omega) (by omega) (by simp)).mono ?_
      rintro r w6 ⟨⟨y, -, rfl⟩, hs6, ho6⟩
      have A6 := hide ((unhide A5).step hs6 ho6)
      clear hs6 ho6 A5
      obtain ⟨b, o, e, hbl, -⟩ := (intsAt_own1 (unhide A6).row).at hl0
      subst e
      have ho0 : o = 0 := by
        rcases (unhide A6).row.2 with ⟨e, _⟩ | ⟨g, cap, cur, e, _⟩
        · cases e
        · cases e; rfl
      subst ho0
      have hbg := ((unhide A6).row.lt b rfl).1
      obtain ⟨hst, hgr⟩ := (unhide A6).row.stored 0 (.int .i64 y)
      have hkc := (unhide A6).row.cellAt 0 (by omega)
      have hfz := (unhide A6).row.frozenAt 0
      rw [nums_at hl0] at hkc
      obtain ⟨U, hU⟩ : ∃ U, U = w6.setCell ⟨b, 0, none⟩ (.int .i64 y) := ⟨_, rfl⟩
      have OU : Out (fun q => q = b) w6 U := out_set' (Out.refl _ _) hU.symm (.inl rfl)
      have zU := OU.size
      have h1 := (unhide A6).q1
      have h2 := (unhide A6).q2
      have h3 := (unhide A6).q3
      have h4 := (unhide A6).q4
      have hst' : U.ownsRow (w2.heap.size + 1) 2 1 (.slice (some ⟨b, 0, none⟩) (l.set 0 y).length cv) (l.set 0 y).length (nums (l.set 0 y)) := by rw [hU, List.length_set, ← nums_set]; exact hst
      have AU : Hid (CD w W.heap.size W1.heap.size w2.heap.size a n c a1 a2 a3 c1 c2 c3 D (0 + 70 + m + 1 + 1) (.slice (some ⟨b, 0, none⟩) (l.set 0 y).length cv) (l.set 0 y) U) := hide ⟨(unhide A6).src.above OU (fun q e => by omega), OU.below (unhide A6).bel (Nat.le_refl _) (fun q hq e => by omega), (unhide A6).ans.out OU (by show ¬ w.heap.size = b; omega), (unhide A6).dev.out OU (by show ¬ w2.heap.size = b; omega), (unhide A6).rd.out OU (fun q g1 g2 e => by omega), hst', h1, h2, h3, by omega⟩
      have d0 := (unhide A6).dev.cell 0
      have d1 := (unhide A6).dev.cell 1
      have d2 := (unhide A6).dev.cell 2
      have q0 := (unhide A6).ans.cell 0
      have q1 := (unhide A6).ans.cell 1
      have q2 := (unhide A6).ans.cell 2
      have f0 := (unhide A6).ans.frozen 0
      have f1 := (unhide A6).ans.frozen 1
      have f2 := (unhide A6).ans.frozen 2
      simp only [List.getElem?_cons_zero, List.getElem?_cons_succ] at d0 d1 d2 q0 q1 q2
      have nb1 : b ≠ w.heap.size := by omega
      have nb2 : b ≠ w2.heap.size := by omega
      have nb3 : w.heap.size ≠ b := by omega
      have nb4 : w2.heap.size ≠ b := by omega
      have hls : (l.set 0 y).length = l.length := List.length_set
      have HLS := hide hls
      clear hst hgr hst' OU zU h1 h2 h3 h4 hls A6
      go_wp2_with fail
      rw [← hU]
      clear hU hkc hfz
      rw [← unhide HLS]
      clear d0 d1 d2 q0 q1 q2 f0 f1 f2
      generalize hV : ((U.setCell _ _).setCell _ _).setCell _ _ = V at *
      obtain ⟨XV, OV⟩ := store3' (unhide AU).ans hV
      have g1 := (unhide AU).q1
      have g2 := (unhide AU).q2
      have g3 := (unhide AU).q3
      have g4 := (unhide AU).q4
      have zV := (unhide OV).size
      have BV := hide ((unhide OV).below (unhide AU).bel (Nat.le_refl _) (fun q hq e => by omega))
      have RV := hide (((unhide AU).rd.out (unhide OV) (fun q h1 h2 e => by omega)).wide (lo' := w.heap.size) (hi' := V.heap.size) (by omega) (by omega))
      have TV : Hid (IntsAt V (some ⟨b, 0, none⟩) (l.set 0 y)) := hide (intsAt_own1 ((unhide OV).own (unhide AU).row (fun q hq e => by have h9 := ((unhide AU).row.lt q hq).1; omega)))
      clear hV OV
      refine bodyPost_ret (resCT Try.results12 _ V w.heap.size 27 _ (0, 0) _ _ rfl rfl (unhide XV) Try.underlying27 rfl (by kernel_rfl)) rfl ⟨⟨_, _, _, _, _, _, D, (some ⟨b, 0, none⟩), cv, (l.set 0 y), rfl, unhide RV, unhide F2, unhide TV, by first | omega | (simp; omega)⟩, unhide BV⟩
    · have hl0' : ¬ (0 : Int) < l.length := by omega
      have d0 := (unhide A5).dev.cell 0
      have d1 := (unhide A5).dev.cell 1
      have d2 := (unhide A5).dev.cell 2
      have q0 := (unhide A5).ans.cell 0
      have q1 := (unhide A5).ans.cell 1
      have q2 := (unhide A5).ans.cell 2
      have f0 := (unhide A5).ans.frozen 0
      have f1 := (unhide A5).ans.frozen 1
      have f2 := (unhide A5).ans.frozen 2
      simp only [List.getElem?_cons_zero, List.getElem?_cons_succ] at d0 d1 d2 q0 q1 q2
      go_wp2_with fail
      clear d0 d1 d2 q0 q1 q2 f0 f1 f2
      generalize hV : ((w5.setCell _ _).setCell _ _).setCell _ _ = V at *
      obtain ⟨XV, OV⟩ := store3' (unhide A5).ans hV
      have g1 := (unhide A5).q1
      have g2 := (unhide A5).q2
      have g3 := (unhide A5).q3
      have g4 := (unhide A5).q4
      have zV := (unhide OV).size
      have BV := hide ((unhide OV).below (unhide A5).bel (Nat.le_refl _) (fun q hq e => by omega))
      have RV := hide (((unhide A5).rd.out (unhide OV) (fun q h1 h2 e => by omega)).wide (lo' := w.heap.size) (hi' := V.heap.size) (by omega) (by omega))
      have TV : Hid (IntsAt V av l) := hide (intsAt_own1 ((unhide OV).own (unhide A5).row (fun q hq e => by have h9 := ((unhide A5).row.lt q hq).1; omega)))
      clear hV OV
      refine bodyPost_ret (resCT Try.results12 _ V w.heap.size 27 _ (0, 0) _ _ rfl rfl (unhide XV) Try.underlying27 rfl (by kernel_rfl)) rfl ⟨⟨_, _, _, _, _, _, D, av, cv, l, rfl, unhide RV, unhide F2, unhide TV, by first | omega | (simp; omega)⟩, unhide BV⟩
  case false =>
    have d0 := (unhide A5).dev.cell 0
    have d1 := (unhide A5).dev.cell 1
    have d2 := (unhide A5).dev.cell 2
    have q0 := (unhide A5).ans.cell 0
    have q1 := (unhide A5).ans.cell 1
    have q2 := (unhide A5).ans.cell 2
    have f0 := (unhide A5).ans.frozen 0
    have f1 := (unhide A5).ans.frozen 1
    have f2 := (unhide A5).ans.frozen 2
    simp only [List.getElem?_cons_zero, List.getElem?_cons_succ] at d0 d1 d2 q0 q1 q2
    go_wp2_with fail
    clear d0 d1 d2 q0 q1 q2 f0 f1 f2
    generalize hV : ((w5.setCell _ _).setCell _ _).setCell _ _ = V at *
    obtain ⟨XV, OV⟩ := store3' (unhide A5).ans hV
    have g1 := (unhide A5).q1
    have g2 := (unhide A5).q2
    have g3 := (unhide A5).q3
    have g4 := (unhide A5).q4
    have zV := (unhide OV).size
    have BV := hide ((unhide OV).below (unhide A5).bel (Nat.le_refl _) (fun q hq e => by omega))
    have RV := hide (((unhide A5).rd.out (unhide OV) (fun q h1 h2 e => by omega)).wide (lo' := w.heap.size) (hi' := V.heap.size) (by omega) (by omega))
    have TV : Hid (IntsAt V av l) := hide (intsAt_own1 ((unhide OV).own (unhide A5).row (fun q hq e => by have h9 := ((unhide A5).row.lt q hq).1; omega)))
    clear hV OV
    refine bodyPost_ret (resCT Try.results12 _ V w.heap.size 27 _ (0, 0) _ _ rfl rfl (unhide XV) Try.underlying27 rfl (by kernel_rfl)) rfl ⟨⟨_, _, _, _, _, _, D, av, cv, l, rfl, unhide RV, unhide F2, unhide TV, by first | omega | (simp; omega)⟩, unhide BV⟩
set_option maxRecDepth 20000 in
set_option maxHeartbeats 2000000 in
theorem drawEvictWord_any (a : Option Addr) (n c : Nat) (w : World) (h : CodeAt w a n) (hn : n ≤ 1048576) :
    Calls Try.prog 14 #[.slice a n c] w fun r w' => (∃ a1 c1 a2 c2 a3 c3 D at_, r = .returned (.tuple #[.agg #[.slice a1 (List.length (Dev.words D)) c1, .slice a2 (List.length (Dev.flights D)) c2, .slice a3 (List.length (Dev.over D)) c3], .int .i64 at_]) ∧ RDev w' w.heap.size w'.heap.size a1 a2 a3 D ∧ Few D) ∧ Below w.heap.size w w' := by
  obtain ⟨W, hW, hWz, HB0, HX0⟩ := boxes1 w [.slice none 0 0, .slice none 0 0, .slice none 0 0] 27
  have H := hide (h.below (unhide HB0))
  clear h
  go_enter Try.func14, Try.ntmps14
  go_wp2_with fail
  rw [← hW]
  clear hW
  refine (drawLoadWord_any a n c _ (unhide H) hn).mono ?_
  rintro r w2 ⟨⟨a1, c1, a2, c2, a3, c3, D, at_, rfl, hR, hF⟩, hb⟩
  have z2 := hb.size
  have HX2 := hide ((unhide HX0).below hb)
  have B2 := hide (below_step (unhide HB0) hb (by omega))
  have R2 := hide hR
  have F2 := hide hF
  clear hR hF hb HX0 HB0 H
  have q0 := (unhide HX2).cell 0
  have q1 := (unhide HX2).cell 1
  have q2 := (unhide HX2).cell 2
  have f0 := (unhide HX2).frozen 0
  have f1 := (unhide HX2).frozen 1
  have f2 := (unhide HX2).frozen 2
  simp only [List.getElem?_cons_zero, List.getElem?_cons_succ] at q0 q1 q2
  go_wp2_with fail
  clear q0 q1 q2 f0 f1 f2
  generalize hU : ((w2.setCell _ _).setCell _ _).setCell _ _ = U at *
  obtain ⟨XU, OU⟩ := store3' (unhide HX2) hU
  have zU := (unhide OU).size
  have BU := hide ((unhide OU).below (unhide B2) (Nat.le_refl _) (fun q hq e => by omega))
  have RU := hide (((unhide R2).out (unhide OU) (fun q h1 h2 e => by omega)).wide (lo' := w.heap.size) (hi' := U.heap.size) (by omega) (by omega))
  clear hU OU
  refine bodyPost_ret (resCT Try.results14 _ U w.heap.size 27 _ (0, 0) _ _ rfl rfl (unhide XU) Try.underlying27 rfl (by kernel_rfl)) rfl ⟨⟨_, _, _, _, _, _, D, at_, rfl, unhide RU, unhide F2⟩, unhide BU⟩
end Go.Proofs.Ytdnfadbkpajloaa
/-
  What flush and fence leave of what is loaded (no Go in sight).
-/
namespace Go.Proofs.Ytdnfadbkpajloaa
open Go.RowKit

theorem look_filter (l : List (Int × Int)) (p : Int → Bool) (k : Int) : look (l.filter (fun c => p c.1)) k = if p k = true then look l k else none := by
  induction l with
  | nil => simp [look]
  | cons d l ih =>
    by_cases hp : p d.1 = true
    · rw [List.filter_cons_of_pos (by simpa using hp)]
      simp only [look]
      by_cases hk : d.1 = k
      · subst hk; simp [hp]
      · rw [if_neg hk, if_neg hk, ih]
    · rw [List.filter_cons_of_neg (by simpa using hp), ih]
      simp only [look]
      by_cases hk : d.1 = k
      · subst hk; simp [hp]
      · rw [if_neg hk]
theorem look_fold (m : List (Int × Int)) : ∀ (l : List (Int × Int)) (k : Int), (keys m).Nodup → look (m.foldl setC l) k = match look m k with
    | some v => some v
    | none => look l k := by
  induction m with
  | nil => intro l k _; simp [look]
  | cons d m ih =>
    intro l k hu
    have hu' : d.1 ∉ keys m ∧ (keys m).Nodup := by simpa [keys] using hu
    rw [List.foldl_cons, ih _ _ hu'.2, look_setC]
    by_cases hk : d.1 = k
    · subst hk
      rw [look_none.2 hu'.1]
      simp [look]
    · simp only [look, if_neg hk]
theorem keep_get (l : List (Int × Int)) : ∀ (ws : List Int) (k : Nat), (∀ c ∈ l, 0 ≤ c.1 ∧ c.1 < ws.length) → (keys l).Nodup → k < ws.length → (keepAll ws l).getD k 0 = match look l k with
    | some v => v
    | none => ws.getD k 0 := by
  induction l with
  | nil => intro ws k _ _ _; simp [look, keepAll]
  | cons d l ih =>
    intro ws k hb hu hk
    have hu' : d.1 ∉ keys l ∧ (keys l).Nodup := by simpa [keys] using hu
    have hd := hb d (by simp)
    have e : keepAll ws (d :: l) = keepAll (keepW ws d) l := rfl
    rw [e, ih _ _ (fun c hc => by simpa [keepW] using hb c (by simp [hc])) hu'.2 (by simpa [keepW] using hk)]
    by_cases hdk : d.1 = (k : Int)
    · rw [← hdk, look_none.2 hu'.1]
      simp only [look, if_true]
      have : d.1.toNat = k := by omega
      simp [keepW, this, hk]
    · simp only [look, if_neg hdk]
      have : ¬ d.1.toNat = k := by omega
      cases look l k with
      | some v => rfl
      | none => simp [keepW, this]
theorem cells_in {n : Nat} {l : List (Int × Int)} (h : allCells n l = true) : ∀ c ∈ l, 0 ≤ c.1 ∧ c.1 < n := by
  intro c hc
  have := List.all_eq_true.1 h c hc
  simp [cellOk, atOk, inB] at this
  omega
theorem look_flushO (l : List (Int × Int)) (line k : Int) : look (flushO l line) k = if k / 8 = line then none else look l k := by
  have := look_filter l (fun a => !(a / 8 == line)) k
  unfold flushO
  rw [show (fun c : Int × Int => !inLine line c) = fun c => !(c.1 / 8 == line) from rfl, this]
  by_cases h : k / 8 = line <;> simp [h]
theorem look_flushF {D : Dev} (h : Good D) (line k : Int) : look (flushF D.flights D.over line) k = if k / 8 = line then (match look D.over k with | some v => some v | none => look D.flights k) else look D.flights k := by
  unfold flushF
  rw [look_fold _ _ _ (nodup_filter h.uo)]
  have := look_filter D.over (fun a => a / 8 == line) k
  rw [show inLine line = fun c : Int × Int => (c.1 / 8 == line) from rfl, this]
  by_cases hk : k / 8 = line <;> simp [hk]
theorem load_flush {D : Dev} (h : Good D) (line k : Int) : load (flushDev D line) k = load D k := by
  unfold load flushDev
  simp only [look_flushO, look_flushF h]
  by_cases hk : k / 8 = line
  · simp only [if_pos hk]
    cases look D.over k <;> rfl
  · simp only [if_neg hk]
theorem load_fence {D : Dev} (h : Good D) {k : Nat} (hk : k < D.words.length) : load (fenceDev D) k = load D k := by
  unfold load fenceDev
  simp only [look]
  rw [Int.toNat_natCast, keep_get _ _ _ (cells_in h.flights) h.uf hk]
  cases look D.over k <;> cases look D.flights k <;> rfl
theorem kept_flush {D : Dev} (h : Good D) {k : Nat} (hk : k < D.words.length) {line : Int} (hl : (k : Int) / 8 = line) : (fenceDev (flushDev D line)).words.getD k 0 = load D k := by
  have hg := h.flush line
  have hk' : k < (flushDev D line).words.length := hk
  have e : (fenceDev (flushDev D line)).words = keepAll (flushDev D line).words (flushDev D line).flights := rfl
  rw [e, keep_get _ _ _ (cells_in hg.flights) hg.uf hk']
  have e2 : look (flushDev D line).flights k = _ := look_flushF h line k
  rw [e2, if_pos hl]
  unfold load
  cases look D.over k with
  | some v => rfl
  | none => cases look D.flights k <;> rfl
theorem load_store (D : Dev) (a v k : Int) : load (storeDev D a v) k = if k = a then v else load D k := by
  unfold load storeDev
  simp only [look_setC]
  by_cases hk : a = k
  · subst hk; simp
  · rw [if_neg hk, if_neg (fun e => hk e.symm)]
end Go.Proofs.Ytdnfadbkpajloaa
/-
  Two lists of cells put together by slices.Concat; whether fates are fates.
-/
namespace Go.Proofs.Ytdnfadbkpajloaa
open Go.RowKit
set_option linter.unusedVariables false

def fateOk (x : Int) : Bool := inB x 0 1
def allFates (l : List Int) : Bool := l.all fateOk
theorem allFates_false {l : List Int} {k : Nat} (hk : k < l.length) (h : fateOk l[k] = false) : allFates l = false := by
  cases hq : allFates l
  · rfl
  · rw [allFates, List.all_eq_true] at hq
    rw [hq _ (List.getElem_mem hk)] at h; cases h
theorem allFates_true {l : List Int} (h : ∀ j (hj : j < l.length), fateOk l[j] = true) : allFates l = true := by
  rw [allFates, List.all_eq_true]
  intro x hx
  obtain ⟨j, hj, rfl⟩ := List.getElem_of_mem hx
  exact h j hj
set_option maxHeartbeats 1000000 in
theorem areFates_any (a : Option Addr) (c : Nat) (l : List Int) (w : World) (h : IntsAt w a l) (hn : l.length ≤ 10000000) :
    Calls Try.prog 140 #[.slice a l.length c] w fun e w' => e = .returned (.bool (allFates l)) ∧ w' = w := by
  go_enter Try.func140, Try.ntmps140
  go_wp2
  go_loop [7] (fun i => ∃ k : Nat, k ≤ l.length ∧ i = .int .i64 k ∧ Hid (∀ j (hj : j < l.length), j < k → fateOk l[j] = true)) (fun i => l.length - (intOf i).toNat)
  case atStart => exact ⟨0, Nat.zero_le _, rfl, fun j _ hj => absurd hj (Nat.not_lt_zero j)⟩
  case round =>
    obtain ⟨k, hk, rfl, HX⟩ := hrel
    by_cases hlt : k < l.length
    · obtain ⟨b, o, rfl, hb, hc⟩ := h.at hlt
      have hck := hc k hlt
      clear hc h
      cases hq : fateOk l[k]
      · have HV := hide (allFates_false hlt hq)
        have HQ : Hid (inB l[k] 0 1 = false) := hq
        clear hq
        go_wp2_with fail
        refine (isWithin_any _ 0 1 _).mono ?_
        rintro e w1 ⟨rfl, rfl⟩
        rw [unhide HQ]
        go_wp2_with fail
        go_ret
        exact ⟨ret_bool (unhide HV).symm, rfl⟩
      · have HX2 : Hid (∀ j (hj : j < l.length), j < k + 1 → fateOk l[j] = true) := by
          intro j hj hj1
          by_cases e : j = k
          · subst e; exact hq
          · exact unhide HX j hj (by omega)
        have HQ : Hid (inB l[k] 0 1 = true) := hq
        clear hq
        go_wp2_with fail
        refine (isWithin_any _ 0 1 _).mono ?_
        rintro e w1 ⟨rfl, rfl⟩
        rw [unhide HQ]
        go_wp2_with fail
        go_round
        case rel => exact ⟨k + 1, by omega, by go_num, HX2⟩
        case measure => simp [intOf]; omega
    · have HV := hide (allFates_true (fun j hj => unhide HX j hj (by omega)))
      clear h
      go_wp2
      go_ret
      exact ⟨ret_bool (unhide HV).symm, rfl⟩
theorem wpList_append_run {P : Program} {w w' : World} {ops : Array Oper} {rest : List Oper} {o : Oper} {a : Act} {Q : Exit → Act → World → Prop} (hgd : o.guard = none) (s x : Operand) (t t2 : TypeId)
    (ho : o.op = .call { callee := .builtin .append, args := #[s, x], argTypes := #[t, t2] }) (v xv v' : Value) (hs : a.eval s = v) (hx : a.eval x = xv) (hr : (Builtin.append_ #[t, t2] o.type #[v, xv]).run P w = .ok v' w') (h : wpList P ops Q rest (a.put o.dst v') w') :
    wpList P ops Q (o :: rest) a w := by
  refine wpList_plain hgd fun K hK => ?_
  unfold Oper.wp execOp
  simp only [ho, resolve, invoke, builtin, Sem.run_bind, Sem.run_pure, Result.andThen_ok, List.map_toArray, List.map_cons, List.map_nil, hs, hx, hr]
  exact hK _ _ h
set_option maxRecDepth 100000 in
set_option maxHeartbeats 1000000 in
theorem grow_any (n : Nat) (w : World) (hn : n ≤ 20000000) :
    Calls Try.prog 221 #[.slice none 0 0, .int .i64 n] w fun e w' => (∃ v, e = .returned v ∧ w'.ownsRow w.heap.size 42 2 v 0 []) ∧ Below w.heap.size w w' := by
  obtain ⟨i0, hi, hz0, hz1, hz2⟩ := info_parts infoCell
  by_cases h0 : n = 0
  · subst h0
    go_enter Try.func221, Try.ntmps221
    go_wp2
    go_ret
    exact ⟨⟨_, rfl, World.ownsRow_nil _ _ _ _⟩, Below.refl _ _⟩
  · have happ := fun ty => Lib.run_append_nil_zeros (P := Try.prog) w 25 3 ty 42 i0 _ .i64 .i64 Try.underlying25 Try.underlying3 hi hz0 n (by omega) (by rw [hz1]; decide) (by omega) (by rw [hz2]; omega)
    have hcap := grownCap_ge w n 0 42
    have hmax := grownCap_le_maxLen w n 0 42 (by unfold maxLen; omega)
    generalize hG : grownCap w n 0 42 = cap at *
    have n0 : ¬ (n : Int) < 0 := by omega
    have n1 : (0 : Int) < n := by omega
    clear hG hi
    obtain ⟨cur, hcur, hsz⟩ : ∃ cur : Array Value, cur = Builtin.zeroCells (Value.agg #[.int .i64 0, .int .i64 0]).cells n ++ Builtin.zeroCells (Value.agg #[.int .i64 0, .int .i64 0]).cells (cap - n) ∧ cur.size = cap * 2 := ⟨_, rfl, by rw [Array.size_append, size_zeroCells, size_zeroCells]; show n * 2 + (cap - n) * 2 = _; omega⟩
    rw [← hcur] at happ
    clear hcur
    have HB : Hid (Below w.heap.size w (w.drew.alloc (.cells cur 42))) := ((Below.refl _ w).drew).alloc (Nat.le_refl _) _
    have HO : Hid ((w.drew.alloc (.cells cur 42)).ownsRow w.heap.size 42 2 (.slice (some ⟨w.heap.size, 0, none⟩) 0 cap) 0 []) :=
      ⟨rfl, .inr ⟨w.heap.size, cap, cur, rfl, Nat.le_refl _, heap_alloc_new w.drew _, Nat.zero_le _, hmax, hsz, by simp⟩⟩
    clear hsz hmax
    go_enter Try.func221, Try.ntmps221
    go_wp2_with (at_builtin; refine wpList_append_run rfl _ _ 25 3 rfl (.slice none 0 0) (.int .i64 n) _ rfl rfl (happ _) ?_)
    go_ret
    exact ⟨⟨_, rfl, unhide HO⟩, unhide HB⟩
theorem wpList_append_prs {P : Program} {w : World} {ops : Array Oper} {rest : List Oper} {o : Oper} {a : Act} {Q : Exit → Act → World → Prop} (hgd : o.guard = none) (s x : Operand) (t : TypeId)
    (ho : o.op = .call { callee := .builtin .append, args := #[s, x], argTypes := #[t, t] })
    (base : Nat) (e : TypeId) (i : TypeInfo) (z : Value) (ht : P.underlying t = some (.slice e)) (hi : P.info? e = some i) (hz : i.zero = some z) (hsize : i.size = 2) (hby : i.bytes = 16) (hzs : z.cells.size = 2)
    (v : Value) (n : Nat) (xs : List Value) (hs : a.eval s = v) (hown : w.ownsRow base e 2 v n xs) (ad : Option Addr) (c : Nat) (l : List (Int × Int)) (hx : a.eval x = .slice ad l.length c) (hp : PairsAt w ad l) (hn : n + l.length ≤ 100000000) (hbase : base ≤ w.heap.size)
    (h : ∀ v' w', w'.ownsRow base e 2 v' (n + l.length) (xs ++ prs l) → w.grownBy w' v.ownBlock → wpList P ops Q rest (a.put o.dst v') w') :
    wpList P ops Q (o :: rest) a w := by
  obtain ⟨v', w', hr, h2, h3, h4⟩ := run_append_pairs w base t o.type e i z ht hi hz hsize hby hzs v n xs hown ad c l hp hn hbase
  exact wpList_append_run hgd s x t t ho v _ v' hs hx hr (h v' w' h2 h3)
set_option maxRecDepth 100000 in
set_option maxHeartbeats 2000000 in
theorem concat_any (b : Nat) (a1 a2 : Option Addr) (c1 c2 : Nat) (l m : List (Int × Int)) (w : World) (q0 : w.cell? ⟨b, 0, none⟩ = some (.slice a1 l.length c1)) (q1 : w.cell? ⟨b, 1, none⟩ = some (.slice a2 m.length c2)) (h1 : PairsAt w a1 l) (h2 : PairsAt w a2 m) (n1 : l.length ≤ 1100000) (n2 : m.length ≤ 1100000) :
    Calls Try.prog 194 #[.slice (some ⟨b, 0, none⟩) 2 2] w fun e w' => (∃ a c, e = .returned (.slice a (l ++ m).length c) ∧ w'.ownsRow w.heap.size 42 2 (.slice a (l ++ m).length c) (l ++ m).length (prs (l ++ m))) ∧ Below w.heap.size w w' := by
  obtain ⟨i0, hi, hz0, hz1, hz2⟩ := info_parts infoCell
  have hbl : b < w.heap.size := World.block_lt_of_cell? w _ q0
  have H1 := hide h1
  have H2 := hide h2
  clear h1 h2
  obtain ⟨N, hN⟩ : ∃ N : Nat, N = l.length + m.length := ⟨_, rfl⟩
  have HN := hide hN
  have hNb : N ≤ 2200000 := by omega
  clear hN
  go_enter Try.func194, Try.ntmps194
  go_wp2_with fail
  go_loop [3, 11] (fun s i => ∃ k : Nat, i = .int .i64 k ∧ ((k = 0 ∧ s = .int .i64 0) ∨ (k = 1 ∧ s = .int .i64 l.length) ∨ (k = 2 ∧ s = .int .i64 N))) (fun _ i => 2 - (intOf i).toNat)
  case atStart => exact ⟨0, rfl, .inl ⟨rfl, rfl⟩⟩
  case round =>
    obtain ⟨k, rfl, hk⟩ := hrel
    rcases hk with ⟨rfl, rfl⟩ | ⟨rfl, rfl⟩ | ⟨rfl, rfl⟩
    · have k1 : ¬ (l.length : Int) < 0 := by omega
      go_wp2_with fail
      go_round
      case rel => exact ⟨1, by go_num, .inr (.inl ⟨rfl, by go_num⟩)⟩
      case measure => simp [intOf]
    · have k1 : ¬ (l.length : Int) + m.length < 0 := by omega
      go_wp2_with fail
      go_round
      case rel => exact ⟨2, by go_num, .inr (.inr ⟨rfl, by have := unhide HN; go_num⟩)⟩
      case measure => simp [intOf]
    · go_wp2_with fail
      refine (grow_any N _ (by omega)).mono ?_
      rintro e w1 ⟨⟨v0, rfl, hO⟩, hb⟩
      have HB := hide hb
      have HO := hide hO
      clear hb hO
      go_wp2_with fail
      go_loopw [6, 27] (fun v i wr => ∃ k : Nat, i = .int .i64 k ∧ Hid (Below w.heap.size w wr) ∧ ((k = 0 ∧ Hid (wr.ownsRow w.heap.size 42 2 v 0 [])) ∨ (k = 1 ∧ Hid (wr.ownsRow w.heap.size 42 2 v l.length (prs l))) ∨ (k = 2 ∧ ∃ a c, v = .slice a (l ++ m).length c ∧ Hid (wr.ownsRow w.heap.size 42 2 (.slice a (l ++ m).length c) (l ++ m).length (prs (l ++ m)))))) (fun _ i _ => 2 - (intOf i).toNat)
      case atStart => exact ⟨0, rfl, HB, .inl ⟨rfl, HO⟩⟩
      case round =>
        obtain ⟨k, rfl, HBr, hk⟩ := hrel
        have zr := (unhide HBr).size
        have r0 := ((bcell (unhide HBr)).1 b 0 hbl).trans q0
        have r1 := ((bcell (unhide HBr)).1 b 1 hbl).trans q1
        have P1 := hide ((unhide H1).below (unhide HBr))
        have P2 := hide ((unhide H2).below (unhide HBr))
        rcases hk with ⟨rfl, HR⟩ | ⟨rfl, HR⟩ | ⟨rfl, a, c, rfl, HR⟩
        · go_wp2_with (at_builtin; refine wpList_append_prs rfl _ _ 25 rfl w.heap.size 42 i0 _ Try.underlying25 hi hz0 hz1 hz2 rfl _ 0 [] rfl (unhide HR) a1 c1 l rfl (unhide P1) (by omega) zr ?_; intro v' w3 hown hgrow; have HR3 := hide hown; have HB3 := hide ((unhide HBr).grown hgrow zr (fun q hq => ((unhide HR).lt q hq).1)); clear hown hgrow)
          go_roundw
          case rel => exact ⟨1, by go_num, HB3, .inr (.inl ⟨rfl, hide (by simpa using unhide HR3)⟩)⟩
          case measure => simp [intOf]
        · go_wp2_with (at_builtin; refine wpList_append_prs rfl _ _ 25 rfl w.heap.size 42 i0 _ Try.underlying25 hi hz0 hz1 hz2 rfl _ l.length (prs l) rfl (unhide HR) a2 c2 m rfl (unhide P2) (by omega) zr ?_; intro v' w3 hown hgrow; have HR3 : Hid (w3.ownsRow w.heap.size 42 2 v' (l ++ m).length (prs (l ++ m))) := (by rw [List.length_append, prs_append]; exact hown); have HB3 := hide ((unhide HBr).grown hgrow zr (fun q hq => ((unhide HR).lt q hq).1)); clear hown hgrow)
          go_roundw
          case rel =>
            obtain ⟨a, c, e, -⟩ := pairsAt_own (unhide HR3)
            exact ⟨2, by go_num, HB3, .inr (.inr ⟨rfl, a, c, e, by rw [← e]; exact HR3⟩)⟩
          case measure => simp [intOf]
        · go_wp2_with fail
          go_ret
          exact ⟨⟨a, c, rfl, unhide HR⟩, unhide HBr⟩
end Go.Proofs.Ytdnfadbkpajloaa
/-
  A crash, as the program does it: what the fates keep is kept.
-/
namespace Go.Proofs.Ytdnfadbkpajloaa
open Go.RowKit
set_option linter.unusedVariables false

def crashAll (ws : List Int) (l : List ((Int × Int) × Int)) : List Int := l.foldl (fun ws p => if p.2 = 1 then keepW ws p.1 else ws) ws
theorem crashAll_len (l : List ((Int × Int) × Int)) : ∀ ws : List Int, (crashAll ws l).length = ws.length := by
  induction l with
  | nil => intro ws; rfl
  | cons c l ih =>
    intro ws
    rw [crashAll, List.foldl_cons, ← crashAll, ih]
    split
    · simp [keepW]
    · rfl
theorem crashAll_take {cs : List (Int × Int)} {fs : List Int} {k : Nat} (hk : k < cs.length) (hf : k < fs.length) (ws : List Int) : crashAll ws ((cs.zip fs).take (k + 1)) = if fs[k] = 1 then (crashAll ws ((cs.zip fs).take k)).set cs[k].1.toNat cs[k].2 else crashAll ws ((cs.zip fs).take k) := by
  have hz : k < (cs.zip fs).length := by rw [List.length_zip]; omega
  rw [List.take_succ_eq_append_getElem hz, crashAll, List.foldl_append]
  simp only [List.foldl_cons, List.foldl_nil, List.getElem_zip]
  rfl
def crashCode (D : Dev) (fs : List Int) : Int := if fs.length = D.flights.length + D.over.length then (if allFates fs = true then 0 else 3) else 2
def crashDev (D : Dev) (fs : List Int) : Dev := ⟨crashAll D.words ((D.flights ++ D.over).zip fs), [], []⟩
theorem pairsAt_slice {w : World} {base n c : Nat} {a : Option Addr} {l : List (Int × Int)} (h : w.ownsRow base 42 2 (.slice a n c) n (prs l)) : PairsAt w a l := by
  obtain ⟨a0, c0, e, -, hp, -⟩ := pairsAt_own h
  injection e with e
  subst e
  exact hp

theorem Mem.crashed {w w' : World} {m : Nat} {wv fo oo : Value} {fm om : Nat} {D : Dev} (h : Mem w m wv fo oo fm om D) {fm' om' : Nat} {ws : List Int} (hx : Box w' m [wv, .slice none 0 0, .map (some fm'), .slice none 0 0, .map (some om')] 201) (hw : w'.ownsRow 0 2 1 wv ws.length (nums ws)) (hC : CM w' (.slice none 0 0) fm' []) (hC2 : CM w' (.slice none 0 0) om' []) (hq : w.heap.size ≤ fm') (hq2 : w.heap.size ≤ om') (hne : fm' ≠ om') :
    Chg m wv fo oo fm om w w' ⟨ws, [], []⟩ := by
  have hnew : ∀ z q, w.heap.size ≤ z → CMB (.slice none 0 0) z q → w.heap.size ≤ q := by
    intro z q hz hqq
    rcases hqq with hqq | rfl
    · simp [Value.ownBlock] at hqq
    · exact hz
  refine ⟨wv, .slice none 0 0, .slice none 0 0, fm', om', ⟨hx, hw, hC, hC2, h.s1, fun e => ?_, fun e => ?_, fun q hq' e => ?_, fun q hq' e => ?_, fun q h1 h2 => ?_⟩, ?_⟩
  · have := hnew _ m hq e; have := h.box.lt; omega
  · have := hnew _ m hq2 e; have := h.box.lt; omega
  · have := hnew _ q hq e; have := (h.words.lt q hq').2; omega
  · have := hnew _ q hq2 e; have := (h.words.lt q hq').2; omega
  · rcases h1 with h1 | h1
    · simp [Value.ownBlock] at h1
    · rcases h2 with h2 | h2
      · simp [Value.ownBlock] at h2
      · exact hne (by rw [← h1, h2])
  · intro q hqq
    rcases hqq with rfl | hqq | hqq | hqq
    · exact .inl (.inl rfl)
    · exact .inl (.inr (.inl hqq))
    · exact .inr (hnew _ q hq hqq)
    · exact .inr (hnew _ q hq2 hqq)

set_option maxRecDepth 20000 in
set_option maxHeartbeats 4000000 in
theorem memCells_any (m : Nat) (wv fo oo : Value) (fm om : Nat) (D : Dev) (w : World) (h : Mem w m wv fo oo fm om D) (n2 : D.flights.length ≤ 1100000) (n3 : D.over.length ≤ 1100000) :
    Calls Try.prog 139 #[.pointer (some ⟨m, 0, none⟩)] w fun e w' => (∃ a c CL, CL = D.flights ++ D.over ∧ e = .returned (.slice a (List.length CL) c) ∧ w'.ownsRow w.heap.size 42 2 (.slice a (List.length CL) c) (List.length CL) (prs CL)) ∧ Below w.heap.size w w' := by
  have HMd : Hid (Mem w.drew m wv fo oo fm om D) := h.stay (fun _ _ _ => rfl)
  have lm := h.box.lt
  clear h
  go_enter Try.func139, Try.ntmps139
  go_wp2_with fail
  go_region_with (first
    | (go_at_call 193; have _t := M2; refine (list_any m 3 om oo D.over _ ((unhide M2).box.cell 3) ((unhide M2).box.cell 4) (unhide M2).ov (by omega)).mono ?_; rintro e w3 ⟨⟨a3, c3, rfl, hO3⟩, hb3⟩; have B3 := hide (below_step (unhide B2) hb3 (unhide B2).size); have L3 := hide hO3; have L23 := hide (own_below (unhide L2) hb3); clear _t hO3 hb3)
    | (go_at_call 193; refine (list_any m 1 fm fo D.flights _ ((unhide HMd).box.cell 1) ((unhide HMd).box.cell 2) (unhide HMd).fl (by omega)).mono ?_; rintro e w2 ⟨⟨a2, c2, rfl, hO2⟩, hb2⟩; have M2 := hide ((unhide HMd).below hb2); have B2 : Hid (Below w.heap.size w w2) := (below_undrew hb2); have L2 := hide hO2; clear hO2 hb2)
    | (go_at_call 194; refine (concat_any w3.heap.size a2 a3 c2 c3 D.flights D.over _ ((box_new w3 [.slice a2 D.flights.length c2, .slice a3 D.over.length c3] _).cell 0) ((box_new w3 [.slice a2 D.flights.length c2, .slice a3 D.over.length c3] _).cell 1) (pairsAt_slice (own_below (unhide L23) ((Below.refl _ w3).alloc (Nat.le_refl _) _))) (pairsAt_slice (own_below (unhide L3) ((Below.refl _ w3).alloc (Nat.le_refl _) _))) n2 n3).mono ?_; rintro e w5 ⟨⟨a5, c5, rfl, hO5⟩, hb5⟩; obtain ⟨CL, hCL⟩ : ∃ CL, CL = D.flights ++ D.over := ⟨_, rfl⟩; rw [← hCL] at hO5 ⊢; have HCL := hide hCL; clear hCL; have B5 := hide (below_step (unhide B3) (below_step ((Below.refl _ w3).alloc (Nat.le_refl _) _) hb5 (by simp)) (unhide B3).size); have L5 := hide hO5; have z5 := (unhide B3).size; clear hO5 hb5))
  all_goals
    have HLB := hide (fun q hq => Nat.le_trans (show w.heap.size ≤ _ by simp; omega) ((unhide L5).lt q hq).1)
    go_wp2_with fail
    go_ret
    exact ⟨⟨_, _, CL, unhide HCL, rfl, own_base (unhide L5) (unhide HLB)⟩, unhide B5⟩
set_option maxRecDepth 20000 in
set_option maxHeartbeats 4000000 in
theorem crash_any (m : Nat) (wv fo oo : Value) (fm om : Nat) (D : Dev) (af : Option Addr) (cf : Nat) (fs : List Int) (z : Nat) (w : World) (h : Mem w m wv fo oo fm om D) (hg : Good D) (hz : ∀ q, MemB m wv fo oo fm om q → z ≤ q) (hI : IntsAt w af fs) (hfz : fs ≠ [] → ∀ x, af = some x → x.block < z) (n2 : D.flights.length ≤ 1100000) (n3 : D.over.length ≤ 1100000) (n4 : fs.length ≤ 1100000) :
    Calls Try.prog 72 #[.pointer (some ⟨m, 0, none⟩), .slice af fs.length cf] w fun e w' => e = .returned (.int .i64 (crashCode D fs)) ∧ (crashCode D fs = 0 → Chg m wv fo oo fm om w w' (crashDev D fs)) ∧ Out (MemB m wv fo oo fm om) w w' := by
  obtain ⟨aw, cw, ew, -, hIw, -⟩ := intsAt_own h.words
  obtain ⟨gw, ow, eaw, -⟩ := hIw.at (k := 0) (by have := hg.small; omega)
  have how0 := h.words
  subst ew
  subst eaw
  have eow : ow = 0 := by
    rcases how0.2 with ⟨e, _⟩ | ⟨g, cap, cur, e, _⟩
    · cases e
    · injection e with e; injection e with e; injection e
  subst eow
  have hsz := hg.small
  have lgw := (h.words.lt gw rfl).2
  have zgw : z ≤ gw := hz gw (.inr (.inl rfl))
  have lm := h.box.lt
  have hgm : gw ≠ m := fun e => h.s1 (by rw [← e]; rfl)
  have H := hide h
  have HMd : Hid (Mem w.drew m (.slice (some ⟨gw, 0, none⟩) D.words.length cw) fo oo fm om D) := h.stay (fun _ _ _ => rfl)
  have HG := hide hg
  have HI := hide hI
  have HFZ := hide hfz
  clear h hg how0 hIw hI hfz hz
  go_enter Try.func72, Try.ntmps72
  go_wp2_with fail
  refine (memCells_any m (.slice (some ⟨gw, 0, none⟩) D.words.length cw) fo oo fm om D _ (unhide H) n2 n3).mono ?_
  rintro e w5 ⟨⟨a5, c5, CL, hCL, rfl, hO5⟩, hb5⟩
  have HCL := hide hCL
  have L5 := hide hO5
  have B5 := hide hb5
  clear hCL hO5 hb5
  all_goals
    have HLB := hide (fun q hq => ((unhide L5).lt q hq).1)
    have hAll : allCells D.words.length CL = true := by rw [unhide HCL, allCells_append, (unhide HG).flights, (unhide HG).over]; rfl
    have hcc : crashCode D fs = if fs.length = CL.length then (if allFates fs = true then 0 else 3) else 2 := by rw [unhide HCL, crashCode, List.length_append]
    have HDV : Hid (crashDev D fs = ⟨crashAll D.words (CL.zip fs), [], []⟩) := by rw [Hid, unhide HCL]; rfl
    have hnb : CL.length ≤ 2200000 := by rw [unhide HCL, List.length_append]; omega
    clear HMd
    have z6 := (unhide B5).size
    have HI5 := hide ((unhide HI).below (unhide B5))
    by_cases hlen : fs.length = CL.length
    case neg =>
      have hne : ((fs.length : Int) != CL.length) = true := by simp; omega
      have HC : Hid (crashCode D fs = 2) := by rw [Hid, hcc, if_neg hlen]
      clear hcc hlen
      go_wp2_with fail
      go_ret
      exact ⟨ret_int (unhide HC).symm, (fun e => by rw [unhide HC] at e; cases e), Out.ofBelow (unhide B5)⟩
    have hne : ((fs.length : Int) != CL.length) = false := by simp; omega
    rw [if_pos hlen] at hcc
    have HLEN := hide hlen
    clear hlen
    go_wp2_with fail
    refine (areFates_any af cf fs _ (unhide HI5) (by omega)).mono ?_
    rintro e w6 ⟨rfl, rfl⟩
    cases hfa : allFates fs
    · have HC : Hid (crashCode D fs = 3) := by rw [Hid, hcc, hfa]; rfl
      clear hcc hfa
      go_wp2_with fail
      go_ret
      exact ⟨ret_int (unhide HC).symm, (fun e => by rw [unhide HC] at e; cases e), Out.ofBelow (unhide B5)⟩
    have HC : Hid (crashCode D fs = 0) := by rw [Hid, hcc, hfa]; rfl
    clear hcc hfa hne
    have HAL := hide hAll
    clear hAll
    go_wp2_with fail
    go_loopw [20] (fun i wr => ∃ k : Nat, k ≤ CL.length ∧ i = .int .i64 k ∧ Hid (wr.ownsRow 0 2 1 (.slice (some ⟨gw, 0, none⟩) D.words.length cw) D.words.length (nums (crashAll D.words ((CL.zip fs).take k)))) ∧ Hid (Out (fun q => q = gw) w6 wr)) (fun i _ => CL.length - (intOf i).toNat)
    case atStart => exact ⟨0, Nat.zero_le _, rfl, by have := own_below (unhide H).words (unhide B5); simpa [Hid, crashAll] using this, Out.refl _ _⟩
    case round =>
      obtain ⟨k, hk, rfl, HO, HU⟩ := hrel
      have zr : w6.heap.size ≤ wr.heap.size := (unhide HU).size
      have XM := hide (((unhide H).box.below (unhide B5)).out (unhide HU) (fun e => hgm e.symm))
      by_cases hlt : k < CL.length
      · have hlf : k < fs.length := by have := unhide HLEN; omega
        obtain ⟨b, o, rfl, lb, hc⟩ := (pairsAt_slice ((unhide HU).own (unhide L5) (fun q hq e => by have := unhide HLB q hq; omega))).at hlt
        have hfne : fs ≠ [] := by intro e; rw [e] at hlf; simp at hlf
        obtain ⟨bf, of, rfl, lbf, hcf⟩ := (unhide HI5).at hlf
        have hbz := unhide HFZ hfne _ rfl
        have hfk := ((unhide HU).cell (b := bf) lbf (by have : bf < z := hbz; omega) (of + k)).trans (hcf k hlf)
        have lbr : bf < wr.heap.size := by omega
        have hca := (hc k hlt).1
        have hcb := (hc k hlt).2
        have hat := cellOk_at (unhide HAL) hlt
        have hKT := crashAll_take hlt hlf D.words
        clear hc hcf hbz hfne
        have k0 : (0 : Int) ≤ (k : Int) := by omega
        have k1 : (k : Int) < CL.length := by omega
        have k2 : (k : Int) < fs.length := by omega
        generalize hA : CL[k].1 = A at *
        generalize hV : CL[k].2 = V at *
        generalize hFF : fs[k] = F at *
        clear hA hV hFF
        by_cases hF1 : F = 1
        · rw [if_pos hF1] at hKT
          have HKT := hide hKT
          have heb : (F == 1) = true := by simpa using hF1
          clear hKT hF1
          go_wp2_with fail
          obtain ⟨W, hW, z2, hb, hx⟩ := boxes1 wr [.int .i64 A, .int .i64 V] 42
          rw [← hW]
          clear hW
          have XM2 := hide ((unhide XM).below (unhide hb))
          have O2 := hide (own_below (unhide HO) (unhide hb))
          have U2 := hide ((unhide HU).trans (Out.ofBelow (F := fun q => q = gw) (unhide hb)) (fun _ _ h => h))
          have q0 := (unhide XM2).cell 0
          have p0 := (unhide hx).cell 0
          have p1 := (unhide hx).cell 1
          simp at q0 p0 p1
          have hln : A.toNat < (nums (crashAll D.words ((CL.zip fs).take k))).length := by rw [nums_length, crashAll_len]; omega
          obtain ⟨ov, hcw⟩ : ∃ ov, W.cell? ⟨gw, A.toNat, none⟩ = some ov := ⟨_, by rw [(unhide O2).cellAt A.toNat (by have := (unhide O2).1; omega), List.getElem?_eq_getElem hln]⟩
          have hfw := (unhide O2).frozenAt A.toNat
          have O3 := hide ((unhide O2).stored A.toNat (.int .i64 V)).1
          rw [nums_set, ← unhide HKT] at O3
          have U3 := hide ((unhide U2).setCell (p := ⟨gw, A.toNat, none⟩) (.inl rfl) (.int .i64 V))
          clear hx hb XM XM2 HKT HO HU O2 U2 hca hcb hln hfk
          have hl0 : 0 ≤ A := hat.1
          have hl1 : A < D.words.length := hat.2
          clear hat
          go_region
          all_goals
            go_wp2_with fail
            go_roundw
            case rel => exact ⟨k + 1, by omega, by go_num, O3, outDrew (unhide U3)⟩
            case measure => simp [intOf]; omega
        · rw [if_neg hF1] at hKT
          have HKT := hide hKT
          have heb : (F == 1) = false := by simpa using hF1
          have BA := hide ((Below.refl _ wr).alloc (Nat.le_refl _) (.cells #[.int .i64 A, .int .i64 V] 42))
          have O2 := hide (own_below (unhide HO) (unhide BA))
          have U2 := hide ((unhide HU).trans (Out.ofBelow (F := fun q => q = gw) (unhide BA)) (fun _ _ h => h))
          clear hKT hF1 HO HU XM
          go_wp2_with fail
          go_roundw
          case rel => exact ⟨k + 1, by omega, by go_num, by rw [unhide HKT]; exact O2, U2⟩
          case measure => simp [intOf]; omega
      · have hke : k = CL.length := by omega
        subst hke
        have HTK : Hid ((CL.zip fs).take CL.length = CL.zip fs) := by rw [Hid, List.take_of_length_le]; rw [List.length_zip]; omega
        rw [unhide HTK] at HO
        clear HTK
        go_wp2_with fail
        refine (noCells_any _).mono ?_
        rintro e w7 ⟨rfl, hCM, hb3⟩
        have z7 : wr.heap.size ≤ w7.heap.size := hb3.size
        have zq : wr.heap.size + 1 < w7.heap.size := hCM.map.lt
        have X3 := hide ((unhide XM).below hb3)
        have O3 := hide (own_below (unhide HO) hb3)
        have C3 := hide hCM
        have U3 := hide ((unhide HU).trans (Out.ofBelow (F := fun q => q = gw) hb3) (fun _ _ h => h))
        clear hCM hb3 XM HO HU
        generalize hmb : wr.heap.size + 1 = mb at *
        have hmw : w.heap.size < mb := by omega
        clear hmb
        have y1 := (unhide X3).cell 1
        have y2 := (unhide X3).cell 2
        have f1 := (unhide X3).frozen 1
        have f2 := (unhide X3).frozen 2
        simp at y1 y2
        go_wp2_with fail
        clear y1 y2 f1 f2
        obtain ⟨V2, hV2, X4, O4, C4, U4, z8⟩ : ∃ V2, V2 = (w7.setCell ⟨m, 1, none⟩ (.slice none 0 0)).setCell ⟨m, 2, none⟩ (.map (some mb)) ∧ Hid (Box V2 m [.slice (some ⟨gw, 0, none⟩) D.words.length cw, .slice none 0 0, .map (some mb), oo, .map (some om)] 201) ∧ Hid (V2.ownsRow 0 2 1 (.slice (some ⟨gw, 0, none⟩) D.words.length cw) D.words.length (nums (crashAll D.words (CL.zip fs)))) ∧ Hid (CM V2 (.slice none 0 0) mb []) ∧ Hid (Out (fun q => q = m ∨ q = gw) w6 V2) ∧ w7.heap.size ≤ V2.heap.size := by
          have OU : Out (fun q => q = m) w7 ((w7.setCell ⟨m, 1, none⟩ (.slice none 0 0)).setCell ⟨m, 2, none⟩ (.map (some mb))) := out_set' (out_set' (Out.refl _ _) rfl (.inl rfl)) rfl (.inl rfl)
          exact ⟨_, rfl, ((unhide X3).set' rfl).set' rfl, OU.own (unhide O3) (fun q hq e => hgm (by simp [Value.ownBlock] at hq; omega)), (unhide C3).out OU (fun q hq e => by rcases hq with hq | hq; (simp [Value.ownBlock] at hq); omega), ((unhide U3).weak (fun q _ e => .inr e)).trans OU (fun q _ e => .inl e), OU.size⟩
        rw [← hV2]
        clear hV2 X3 O3 C3 U3
        refine (noCells_any _).mono ?_
        rintro e w8 ⟨rfl, hCM, hb3⟩
        have z9 : V2.heap.size ≤ w8.heap.size := hb3.size
        have zq2 : V2.heap.size + 1 < w8.heap.size := hCM.map.lt
        have X5 := hide ((unhide X4).below hb3)
        have O5 := hide (own_below (unhide O4) hb3)
        have C5 := hide ((unhide C4).below hb3)
        have D5 := hide hCM
        have U5 := hide ((unhide U4).trans (Out.ofBelow (F := fun q => q = m ∨ q = gw) hb3) (fun _ _ h => h))
        clear hCM hb3 X4 O4 C4 U4
        generalize hmb : V2.heap.size + 1 = mb2 at *
        have hmw2 : w.heap.size < mb2 := by omega
        have hmne : mb < mb2 := by omega
        clear hmb
        have y1 := (unhide X5).cell 3
        have y2 := (unhide X5).cell 4
        have f1 := (unhide X5).frozen 3
        have f2 := (unhide X5).frozen 4
        simp at y1 y2
        go_wp2_with fail
        clear y1 y2 f1 f2
        generalize hU1 : w8.setCell _ _ = V3
        generalize hU2 : V3.setCell _ _ = V4
        have X6 := ((unhide X5).set' hU1).set' hU2
        have OU : Out (fun q => q = m) w8 V4 := out_set' (out_set' (Out.refl _ _) hU1 (.inl rfl)) hU2 (.inl rfl)
        have O6 := OU.own (unhide O5) (fun q hq e => hgm (by simp [Value.ownBlock] at hq; omega))
        have C6 := (unhide C5).out OU (fun q hq e => by rcases hq with hq | hq; (simp [Value.ownBlock] at hq); omega)
        have D6 := (unhide D5).out OU (fun q hq e => by rcases hq with hq | hq; (simp [Value.ownBlock] at hq); omega)
        have OA : Out (MemB m (.slice (some ⟨gw, 0, none⟩) D.words.length cw) fo oo fm om) w V4 := ((Out.ofBelow (unhide B5)).trans (unhide U5) (fun q _ e => by rcases e with e | e; (exact .inl e); exact .inr (.inl (by rw [e]; rfl)))).trans OU (fun q _ e => .inl e)
        have R := (unhide H).crashed X6 (ws := crashAll D.words (CL.zip fs)) (by rw [crashAll_len]; exact O6) C6 D6 (by omega) (by omega) (by omega)
        go_ret
        exact ⟨ret_int (unhide HC).symm, fun _ => by rw [unhide HDV]; exact R, OA⟩
set_option maxHeartbeats 2000000 in
theorem changed_crash (a1 a2 a3 : Option Addr) (c1 c2 c3 : Nat) (D D' : Dev) (code : Int) (p0 : Nat) (w : World) (h : DevAt w a1 a2 a3 D) (n1 : D.words.length ≤ 1048576) (n2 : D.flights.length ≤ 1048576) (n3 : D.over.length ≤ 1048576) (m2 : D'.flights.length ≤ 10000000) (m3 : D'.over.length ≤ 10000000)
    (hch : Good D → ∀ w2, Below w.heap.size w w2 → ∀ m wv fo oo fm om, Mem w2 m wv fo oo fm om D → (∀ q, MemB m wv fo oo fm om q → w.heap.size ≤ q) → Calls Try.prog 71 #[.pointer (some ⟨m, 0, none⟩), .pointer (some ⟨p0, 0, none⟩)] w2 fun e w3 => e = .returned (.int .i64 code) ∧ (code = 0 → Chg m wv fo oo fm om w2 w3 D') ∧ Out (MemB m wv fo oo fm om) w2 w3) :
    Calls Try.prog 70 #[.agg #[.slice a1 D.words.length c1, .slice a2 D.flights.length c2, .slice a3 D.over.length c3], .func (.func 71) #[] #[.pointer (some ⟨p0, 0, none⟩)]] w fun e w' => ResIs e w.heap.size w' (chgCode D code) (chgDev D code D') ∧ Below w.heap.size w w' := by
  have H := hide h
  have HCH := hide hch
  clear h hch
  go_enter Try.func70, Try.ntmps70
  go_wp2_with fail
  obtain ⟨W, hW, z1, hb, hx, hy⟩ := boxes2 w [.slice a1 D.words.length c1, .slice a2 D.flights.length c2, .slice a3 D.over.length c3] [.int .i64 0, .slice none 0 0, .slice none 0 0, .slice none 0 0] 27 31
  rw [← hW]
  clear hW
  refine (openedDevice_any a1 a2 a3 c1 c2 c3 D _ ((unhide H).below (unhide hb)) n1 n2 n3).mono ?_
  rintro e w2 ⟨hor, hb2⟩
  have z2 : W.heap.size ≤ w2.heap.size := hb2.size
  have B2 := hide (below_step (unhide hb) hb2 (by omega))
  have Y2 := hide ((unhide hy).below hb2)
  have y0 := (unhide Y2).cell 0
  have y1 := (unhide Y2).cell 1
  have y2 := (unhide Y2).cell 2
  have y3 := (unhide Y2).cell 3
  have f0 := (unhide Y2).frozen 0
  have f1 := (unhide Y2).frozen 1
  have f2 := (unhide Y2).frozen 2
  have f3 := (unhide Y2).frozen 3
  simp at y0 y1 y2 y3
  clear hb2 hb hx hy H
  rcases hor with ⟨hg, m, wv, fo, oo, fm, om, rfl, hM, hL⟩ | ⟨hf, rfl⟩
  case inr =>
    have hfb : (devFault D != 0) = true := by simpa using hf
    have HC : Hid (chgCode D code = devFault D ∧ chgDev D code D' = none') := by simp [Hid, chgCode, chgDev, hf]
    clear hf
    go_wp2_with fail
    clear y0 y1 y2 y3 f0 f1 f2 f3
    generalize hU : (((w2.setCell _ _).setCell _ _).setCell _ _).setCell _ _ = U
    obtain ⟨XU, OU⟩ := store4' (unhide Y2) hU
    have t0 := (unhide XU).cell 0
    have t1 := (unhide XU).cell 1
    have t2 := (unhide XU).cell 2
    have t3 := (unhide XU).cell 3
    simp at t0 t1 t2 t3
    refine bodyPost_ret (v := .agg #[.int .i64 (devFault D), .slice none 0 0, .slice none 0 0, .slice none 0 0]) (by simp [results, Try.results70, go_sem, t0, t1, t2, t3]) rfl ⟨⟨_, _, _, by rw [(unhide HC).1], by rw [(unhide HC).2]; exact ownNone _ _⟩, (unhide OU).below (unhide B2) (Nat.le_refl _) (fun q hq e => by omega)⟩
  have HD0 := hide (devFault_good hg)
  have HG := hide hg
  have HM := hide hM
  have HL := hide hL
  clear hg hM hL
  go_wp2_with fail
  refine (unhide HCH (unhide HG) _ (unhide B2) m wv fo oo fm om (unhide HM) (fun q hq => by have := unhide HL q hq; omega)).mono ?_
  rintro e w3 ⟨rfl, hC, hO⟩
  have z3 : w2.heap.size ≤ w3.heap.size := hO.size
  have B3 := hide (hO.below (unhide B2) (Nat.le_refl _) (fun q hq e => by have := unhide HL q e; omega))
  have Y3 := hide ((unhide Y2).out hO (fun e => by have := unhide HL _ e; omega))
  clear hO y0 y1 y2 y3 f0 f1 f2 f3 Y2 B2
  have y0 := (unhide Y3).cell 0
  have y1 := (unhide Y3).cell 1
  have y2 := (unhide Y3).cell 2
  have y3 := (unhide Y3).cell 3
  have f0 := (unhide Y3).frozen 0
  have f1 := (unhide Y3).frozen 1
  have f2 := (unhide Y3).frozen 2
  have f3 := (unhide Y3).frozen 3
  simp at y0 y1 y2 y3
  by_cases hc : code = 0
  case neg =>
    have hcb : (code != 0) = true := by simpa using hc
    have HC : Hid (chgCode D code = code ∧ chgDev D code D' = none') := by simp [Hid, chgCode, chgDev, hc, unhide HD0]
    clear hc hC
    go_wp2_with fail
    clear y0 y1 y2 y3 f0 f1 f2 f3
    generalize hU : (((w3.setCell _ _).setCell _ _).setCell _ _).setCell _ _ = U
    obtain ⟨XU, OU⟩ := store4' (unhide Y3) hU
    have t0 := (unhide XU).cell 0
    have t1 := (unhide XU).cell 1
    have t2 := (unhide XU).cell 2
    have t3 := (unhide XU).cell 3
    simp at t0 t1 t2 t3
    refine bodyPost_ret (v := .agg #[.int .i64 code, .slice none 0 0, .slice none 0 0, .slice none 0 0]) (by simp [results, Try.results70, go_sem, t0, t1, t2, t3]) rfl ⟨⟨_, _, _, by rw [(unhide HC).1], by rw [(unhide HC).2]; exact ownNone _ _⟩, (unhide OU).below (unhide B3) (Nat.le_refl _) (fun q hq e => by omega)⟩
  obtain ⟨wv', fo', oo', fm', om', hM', hL'⟩ := hC hc
  have HC : Hid (chgCode D code = 0 ∧ chgDev D code D' = D') := by simp [Hid, chgCode, chgDev, hc, unhide HD0]
  rw [hc]
  clear hc hC
  have HM' := hide hM'
  have HL' : Hid (∀ q, MemB m wv' fo' oo' fm' om' q → W.heap.size ≤ q) := fun q hq => by
    rcases hL' q hq with h | h
    · exact unhide HL q h
    · omega
  clear hM' hL'
  go_wp2_with fail
  refine (device_any m wv' fo' oo' fm' om' D' W.heap.size _ (unhide HM') (unhide HL') (by omega) m2 m3).mono ?_
  rintro e w4 ⟨⟨s1, d1, s2, d2, s3, d3, rfl, hOD⟩, hb4⟩
  have z4 : w3.heap.size ≤ w4.heap.size := hb4.size
  have B4 := hide (below_step (unhide B3) hb4 (by omega))
  have Y4 := hide ((unhide Y3).below hb4)
  have OD := hide hOD
  clear hb4 hOD y0 y1 y2 y3 f0 f1 f2 f3 B3 Y3
  have y0 := (unhide Y4).cell 0
  have y1 := (unhide Y4).cell 1
  have y2 := (unhide Y4).cell 2
  have y3 := (unhide Y4).cell 3
  have f0 := (unhide Y4).frozen 0
  have f1 := (unhide Y4).frozen 1
  have f2 := (unhide Y4).frozen 2
  have f3 := (unhide Y4).frozen 3
  simp at y0 y1 y2 y3
  go_wp2_with fail
  clear y0 y1 y2 y3 f0 f1 f2 f3
  generalize hU : (((w4.setCell _ _).setCell _ _).setCell _ _).setCell _ _ = U
  obtain ⟨XU, OU⟩ := store4' (unhide Y4) hU
  have t0 := (unhide XU).cell 0
  have t1 := (unhide XU).cell 1
  have t2 := (unhide XU).cell 2
  have t3 := (unhide XU).cell 3
  simp at t0 t1 t2 t3
  have OD4 := (unhide OD).out (unhide OU) (fun q hq e => by have := ((unhide OD).lt hq).1; omega)
  have OD5 : OwnDev U w.heap.size (.slice s1 D'.words.length d1) (.slice s2 D'.flights.length d2) (.slice s3 D'.over.length d3) D' := ⟨own_base OD4.o1 (fun q hq => by have := (OD4.lt (.inl hq)).1; omega), own_base OD4.o2 (fun q hq => by have := (OD4.lt (.inr (.inl hq))).1; omega), own_base OD4.o3 (fun q hq => by have := (OD4.lt (.inr (.inr hq))).1; omega), OD4.n12, OD4.n13, OD4.n23⟩
  refine bodyPost_ret (v := .agg #[.int .i64 0, .slice s1 D'.words.length d1, .slice s2 D'.flights.length d2, .slice s3 D'.over.length d3]) (by simp [results, Try.results70, go_sem, t0, t1, t2, t3]) rfl ⟨⟨_, _, _, by rw [(unhide HC).1], by rw [(unhide HC).2]; exact OD5⟩, (unhide OU).below (unhide B4) (Nat.le_refl _) (fun q hq e => by omega)⟩

set_option maxHeartbeats 1000000 in
theorem crashFn_any (m : Nat) (wv fo oo : Value) (fm om : Nat) (D : Dev) (af : Option Addr) (cf : Nat) (fs : List Int) (z p0 : Nat) (w : World) (h : Mem w m wv fo oo fm om D) (hg : Good D) (hz : ∀ q, MemB m wv fo oo fm om q → z ≤ q) (hI : IntsAt w af fs) (hfz : fs ≠ [] → ∀ x, af = some x → x.block < z) (n2 : D.flights.length ≤ 1100000) (n3 : D.over.length ≤ 1100000) (n4 : fs.length ≤ 1100000) (h0 : w.cell? ⟨p0, 0, none⟩ = some (.slice af fs.length cf)) :
    Calls Try.prog 71 #[.pointer (some ⟨m, 0, none⟩), .pointer (some ⟨p0, 0, none⟩)] w fun e w' => e = .returned (.int .i64 (crashCode D fs)) ∧ (crashCode D fs = 0 → Chg m wv fo oo fm om w w' (crashDev D fs)) ∧ Out (MemB m wv fo oo fm om) w w' := by
  have H := hide h
  have HI := hide hI
  have HZ := hide hz
  have HFZ := hide hfz
  clear h hI hz hfz
  go_enter Try.func71, Try.ntmps71
  go_wp2_with fail
  refine (crash_any m wv fo oo fm om D af cf fs z _ (unhide H) hg (unhide HZ) (unhide HI) (unhide HFZ) n2 n3 n4).mono ?_
  rintro e w2 ⟨rfl, hC, hO⟩
  have HC := hide hC
  have HO := hide hO
  clear hC hO
  generalize hk : crashCode D fs = k at *
  have HK := hide hk
  clear hk
  go_wp2_with fail
  go_ret
  exact ⟨ret_int (unhide HK).symm, fun e => unhide HC (by rw [← unhide HK]; exact e), unhide HO⟩
set_option maxHeartbeats 2000000 in
theorem implCrashDevice_any (a1 a2 a3 : Option Addr) (c1 c2 c3 : Nat) (D : Dev) (af : Option Addr) (cf : Nat) (fs : List Int) (w : World) (h : DevAt w a1 a2 a3 D) (hI : IntsAt w af fs) (n1 : D.words.length ≤ 1048576) (n2 : D.flights.length ≤ 1048576) (n3 : D.over.length ≤ 1048576) (n4 : fs.length ≤ 1048576) :
    Calls Try.prog 13 #[.agg #[.slice a1 D.words.length c1, .slice a2 D.flights.length c2, .slice a3 D.over.length c3], .slice af fs.length cf] w fun e w' => ResIs e w.heap.size w' (chgCode D (crashCode D fs)) (chgDev D (crashCode D fs) (crashDev D fs)) ∧ Below w.heap.size w w' := by
  have hmf : ∀ (fn : Fn) (first cap : Array Value) (w : World), (Instr.makeFunc fn first cap).run Try.prog w = .ok (.func fn first cap) w := fun _ _ _ _ => rfl
  have H := hide h
  have HI := hide hI
  clear h hI
  go_enter Try.func13, Try.ntmps13
  go_wp2_with fail
  obtain ⟨W, hW, z1, hb, hx, hp, hy⟩ := boxes3 w [.slice a1 D.words.length c1, .slice a2 D.flights.length c2, .slice a3 D.over.length c3] [.slice af fs.length cf] [.int .i64 0, .slice none 0 0, .slice none 0 0, .slice none 0 0] 27 24 31
  rw [← hW]
  clear hW
  refine (changed_crash a1 a2 a3 c1 c2 c3 D (crashDev D fs) (crashCode D fs) _ _ ((unhide H).below (unhide hb)) n1 n2 n3 (by show [].length ≤ _; simp) (by show [].length ≤ _; simp) (fun hg w2 hb2 m wv fo oo fm om hM hz => crashFn_any m wv fo oo fm om D af cf fs W.heap.size _ w2 hM hg hz ((unhide HI).below (below_step (unhide hb) hb2 (by omega))) (fun hne x hx => by rcases unhide HI with e | ⟨b, o, e, l, _⟩; (exact absurd e hne); rw [e] at hx; injection hx with hx; subst hx; show b < _; omega) (by omega) (by omega) (by omega) (((unhide hp).below hb2).cell 0))).mono ?_
  rintro e w2 ⟨⟨v1, v2, v3, rfl, hOD⟩, hb2⟩
  obtain ⟨s1, d1, s2, d2, s3, d3, e1, e2, e3, -⟩ := hOD.form
  subst e1 e2 e3
  have z2 : W.heap.size ≤ w2.heap.size := hb2.size
  have B2 := hide (below_step (unhide hb) hb2 (by omega))
  have Y2 := hide ((unhide hy).below hb2)
  have OD := hide hOD
  have y0 := (unhide Y2).cell 0
  have y1 := (unhide Y2).cell 1
  have y2 := (unhide Y2).cell 2
  have y3 := (unhide Y2).cell 3
  have f0 := (unhide Y2).frozen 0
  have f1 := (unhide Y2).frozen 1
  have f2 := (unhide Y2).frozen 2
  have f3 := (unhide Y2).frozen 3
  simp at y0 y1 y2 y3
  clear hb2 hOD hb hx hp hy
  go_wp2_with fail
  clear y0 y1 y2 y3 f0 f1 f2 f3
  generalize hU : (((w2.setCell _ _).setCell _ _).setCell _ _).setCell _ _ = U
  obtain ⟨XU, OU⟩ := store4' (unhide Y2) hU
  have t0 := (unhide XU).cell 0
  have t1 := (unhide XU).cell 1
  have t2 := (unhide XU).cell 2
  have t3 := (unhide XU).cell 3
  simp at t0 t1 t2 t3
  have OD4 := (unhide OD).out (unhide OU) (fun q hq e => by have := ((unhide OD).lt hq).1; omega)
  have OD5 := OD4.base (base' := w.heap.size) (by omega)
  refine bodyPost_ret (by simp [results, Try.results13, go_sem, t0, t1, t2, t3]) rfl ⟨⟨_, _, _, rfl, OD5⟩, (unhide OU).below (unhide B2) (Nat.le_refl _) (fun q hq e => by omega)⟩
end Go.Proofs.Ytdnfadbkpajloaa
/-
  What crashes and evictions leave (no Go in sight).
-/
namespace Go.Proofs.Ytdnfadbkpajloaa
open Go.RowKit

theorem crash_zero (l : List (Int × Int)) : ∀ (ws : List Int) (n : Nat), crashAll ws (l.zip (List.replicate n 0)) = ws := by
  induction l with
  | nil => intro ws n; rfl
  | cons c l ih =>
    intro ws n
    cases n with
    | zero => rfl
    | succ n =>
      rw [List.replicate_succ, List.zip_cons_cons, crashAll, List.foldl_cons, ← crashAll, if_neg (show ¬ (0 : Int) = 1 by decide)]
      exact ih ws n
theorem crash_ones (l : List (Int × Int)) : ∀ (ws : List Int) (n : Nat), l.length ≤ n → crashAll ws (l.zip (List.replicate n 1)) = keepAll ws l := by
  induction l with
  | nil => intro ws n _; rfl
  | cons c l ih =>
    intro ws n hn
    cases n with
    | zero => simp at hn
    | succ n =>
      rw [List.replicate_succ, List.zip_cons_cons, crashAll, List.foldl_cons, ← crashAll, if_pos rfl, ih _ n (by simpa using hn)]
      rfl
theorem keepAll_append (l m : List (Int × Int)) (ws : List Int) : keepAll ws (l ++ m) = keepAll (keepAll ws l) m := by
  simp [keepAll, List.foldl_append]
theorem crash_any_word (l : List ((Int × Int) × Int)) : ∀ (ws : List Int) (k : Nat), k < ws.length → (∀ p ∈ l, 0 ≤ p.1.1) →
    (crashAll ws l).getD k 0 = ws.getD k 0 ∨ ∃ p ∈ l, p.1.1 = (k : Int) ∧ (crashAll ws l).getD k 0 = p.1.2 := by
  induction l with
  | nil => intro ws k _ _; exact .inl rfl
  | cons p l ih =>
    intro ws k hk hp
    have hp' : ∀ q ∈ l, 0 ≤ q.1.1 := fun q hq => hp q (List.mem_cons_of_mem _ hq)
    rw [crashAll, List.foldl_cons, ← crashAll]
    by_cases h1 : p.2 = 1
    · rw [if_pos h1]
      rcases ih (keepW ws p.1) k (by simpa [keepW] using hk) hp' with h | ⟨q, hq, e1, e2⟩
      · by_cases hkk : p.1.1.toNat = k
        · refine .inr ⟨p, List.mem_cons_self, ?_, ?_⟩
          · have := hp p List.mem_cons_self
            omega
          · rw [h]
            simp [keepW, hkk, hk]
        · left
          rw [h]
          simp [keepW, hkk]
      · exact .inr ⟨q, List.mem_cons_of_mem _ hq, e1, e2⟩
    · rw [if_neg h1]
      rcases ih ws k hk hp' with h | ⟨q, hq, e1, e2⟩
      · exact .inl h
      · exact .inr ⟨q, List.mem_cons_of_mem _ hq, e1, e2⟩
theorem look_of_mem {l : List (Int × Int)} : ∀ {c : Int × Int}, (keys l).Nodup → c ∈ l → look l c.1 = some c.2 := by
  induction l with
  | nil => intro c _ h; cases h
  | cons d l ih =>
    intro c hu hc
    have hu' : d.1 ∉ keys l ∧ (keys l).Nodup := by simpa [keys] using hu
    rcases List.mem_cons.1 hc with rfl | hc
    · simp [look]
    · have hne : ¬ d.1 = c.1 := fun e => hu'.1 (by rw [e]; exact List.mem_map.2 ⟨c, hc, rfl⟩)
      rw [look, if_neg hne]
      exact ih hu'.2 hc
theorem mem_of_look {l : List (Int × Int)} {k v : Int} (h : look l k = some v) : (k, v) ∈ l := by
  induction l with
  | nil => simp [look] at h
  | cons d l ih =>
    rw [look] at h
    by_cases hd : d.1 = k
    · rw [if_pos hd] at h
      injection h with h
      subst hd h
      exact List.mem_cons_self
    · rw [if_neg hd] at h
      exact List.mem_cons_of_mem _ (ih h)
theorem getD_get {l : List Int} {k : Nat} (h : k < l.length) : l.getD k 0 = l[k] := by simp [List.getD_eq_getElem?_getD, h]
/-- Of each word a crash leaves what was kept, what was stored, or what was flushed. -/
theorem crash_word {D : Dev} (hg : Good D) (fs : List Int) {k : Nat} (hk : k < D.words.length) (hk2 : k < (crashDev D fs).words.length) :
    (crashDev D fs).words[k] = D.words[k] ∨ (crashDev D fs).words[k] = load D k ∨ ∃ j, ∃ h : j < D.flights.length, D.flights[j].1 = (k : Int) ∧ D.flights[j].2 = (crashDev D fs).words[k] := by
  have hc := cells_in hg.flights
  have ho := cells_in hg.over
  have := crash_any_word ((D.flights ++ D.over).zip fs) D.words k hk (fun p hp => by
    have := (List.of_mem_zip hp).1
    rcases List.mem_append.1 this with h | h
    · exact (hc _ h).1
    · exact (ho _ h).1)
  rw [← getD_get hk2, ← getD_get hk]
  rcases this with h | ⟨p, hp, e1, e2⟩
  · exact .inl h
  · have hm := (List.of_mem_zip hp).1
    rcases List.mem_append.1 hm with h | h
    · obtain ⟨j, hj, ej⟩ := List.getElem_of_mem h
      exact .inr (.inr ⟨j, hj, by rw [ej]; exact e1, by rw [ej]; exact e2.symm⟩)
    · right; left
      show (crashAll D.words ((D.flights ++ D.over).zip fs)).getD k 0 = _
      rw [e2]
      unfold load
      rw [← e1, look_of_mem hg.uo h]
theorem crash_all {D : Dev} (hg : Good D) {n k : Nat} (hn : D.flights.length + D.over.length ≤ n) (hk : k < D.words.length) (hk2 : k < (crashDev D (List.replicate n 1)).words.length) : (crashDev D (List.replicate n 1)).words[k] = load D k := by
  rw [← getD_get hk2]
  show (crashAll D.words ((D.flights ++ D.over).zip (List.replicate n 1))).getD k 0 = _
  rw [crash_ones _ _ n (by rw [List.length_append]; exact hn), keepAll_append, keep_get D.over _ _ (fun c hc => by rw [keepAll_len]; exact cells_in hg.over c hc) hg.uo (by rw [keepAll_len]; exact hk), keep_get D.flights _ _ (cells_in hg.flights) hg.uf hk]
  unfold load
  rw [Int.toNat_natCast]
  cases look D.over k <;> cases look D.flights k <;> rfl
theorem crash_none (D : Dev) (n : Nat) : (crashDev D (List.replicate n 0)).words = D.words := crash_zero _ _ _
theorem allWords_crash {n : Nat} (l : List ((Int × Int) × Int)) : ∀ ws : List Int, allWords ws = true → (∀ p ∈ l, cellOk n p.1 = true) → allWords (crashAll ws l) = true := by
  induction l with
  | nil => intro ws h _; exact h
  | cons p l ih =>
    intro ws h hp
    have hp' : ∀ q ∈ l, cellOk n q.1 = true := fun q hq => hp q (List.mem_cons_of_mem _ hq)
    rw [crashAll, List.foldl_cons, ← crashAll]
    by_cases h1 : p.2 = 1
    · rw [if_pos h1]
      exact ih _ (allWords_keep h (hp p List.mem_cons_self)) hp'
    · rw [if_neg h1]
      exact ih _ h hp'
theorem Good.crash {D : Dev} (hg : Good D) (fs : List Int) : Good (crashDev D fs) := by
  have hl : (crashDev D fs).words.length = D.words.length := crashAll_len _ _
  refine ⟨by rw [hl]; exact hg.size, ?_, rfl, rfl, List.nodup_nil, List.nodup_nil⟩
  refine allWords_crash (n := D.words.length) _ _ hg.words (fun p hp => ?_)
  have := (List.of_mem_zip hp).1
  rcases List.mem_append.1 this with h | h
  · exact List.all_eq_true.1 hg.flights _ h
  · exact List.all_eq_true.1 hg.over _ h
theorem crashCode_rep {D : Dev} {n : Nat} {f : Int} (hf : fateOk f = true) (hn : n = D.flights.length + D.over.length) : crashCode D (List.replicate n f) = 0 := by
  unfold crashCode
  rw [if_pos (by rw [List.length_replicate]; exact hn), if_pos]
  unfold allFates
  rw [List.all_eq_true]
  intro x hx
  rw [List.eq_of_mem_replicate hx]
  exact hf
theorem crashCode_len {D : Dev} {fs : List Int} (h : crashCode D fs = 0) : fs.length = D.flights.length + D.over.length := by
  unfold crashCode at h
  by_cases hl : fs.length = D.flights.length + D.over.length
  · exact hl
  · rw [if_neg hl] at h
    exact absurd h (by decide)
theorem load_ok {D : Dev} (hg : Good D) {k : Nat} (hk : k < D.words.length) : wordOk (load D k) = true := by
  unfold load
  cases ho : look D.over k with
  | some v =>
    have := List.all_eq_true.1 hg.over _ (mem_of_look ho)
    simp [cellOk] at this
    exact this.2
  | none =>
    cases hf : look D.flights k with
    | some v =>
      have := List.all_eq_true.1 hg.flights _ (mem_of_look hf)
      simp [cellOk] at this
      exact this.2
    | none =>
      show wordOk (D.words.getD (k : Int).toNat 0) = true
      rw [Int.toNat_natCast, getD_get hk]
      exact List.all_eq_true.1 hg.words _ (List.getElem_mem hk)
theorem load_evict {D : Dev} {k : Nat} (hk : k < D.words.length) : load (evictDev D k) k = load D k := by
  have e : ∀ l : List (Int × Int), look (without l k) k = none := fun l => by rw [look_without, if_pos rfl]
  have h : load (evictDev D k) k = (evictDev D k).words.getD (k : Int).toNat 0 := by
    unfold load
    rw [show (evictDev D k).over = without D.over k from rfl, show (evictDev D k).flights = without D.flights k from rfl, e, e]
  rw [h]
  simp [evictDev, hk]
theorem evict_again {D : Dev} {k : Nat} (hk : k < D.words.length) : evictCode (evictDev D k) k = 4 := by
  have e : ∀ l : List (Int × Int), look (without l k) k = none := fun l => by rw [look_without, if_pos rfl]
  have hl : (evictDev D k).words.length = D.words.length := by simp [evictDev]
  unfold evictCode
  rw [hl, if_pos (by simp [atOk, inB]; omega), show (evictDev D k).over = without D.over k from rfl, show (evictDev D k).flights = without D.flights k from rfl, e, e]
  rfl
theorem Good.evict {D : Dev} (hg : Good D) {k : Nat} (hk : k < D.words.length) : Good (evictDev D k) := by
  have hl : (evictDev D k).words.length = D.words.length := by simp [evictDev]
  refine ⟨by rw [hl]; exact hg.size, ?_, ?_, ?_, nodup_filter hg.uf, nodup_filter hg.uo⟩
  · show allWords (D.words.set (k : Int).toNat (load D k)) = true
    unfold allWords
    rw [List.all_eq_true]
    intro x hx
    rcases List.mem_or_eq_of_mem_set hx with h | h
    · exact List.all_eq_true.1 hg.words _ h
    · rw [h]
      exact load_ok hg hk
  · rw [hl]; exact allCells_filter hg.flights
  · rw [hl]; exact allCells_filter hg.over
theorem evictCode_at {D : Dev} {a : Int} (h : evictCode D a = 0) : ∃ k : Nat, a = (k : Int) ∧ k < D.words.length := by
  unfold evictCode at h
  by_cases ha : atOk D.words.length a = true
  · simp [atOk, inB] at ha
    exact ⟨a.toNat, by omega, by omega⟩
  · rw [if_neg ha] at h
    exact absurd h (by decide)
theorem evict_few {D : Dev} (a : Int) (h2 : D.flights.length ≤ 1048576) (h3 : D.over.length ≤ 1048576) : (evictDev D a).flights.length ≤ 1048576 ∧ (evictDev D a).over.length ≤ 1048576 := by
  have e1 := without_len D.flights a
  have e2 := without_len D.over a
  exact ⟨Nat.le_trans e1 h2, Nat.le_trans e2 h3⟩
end Go.Proofs.Ytdnfadbkpajloaa
/-
  A crash, as the specification does it.
-/
namespace Go.Proofs.Ytdnfadbkpajloaa
open Go.RowKit
set_option linter.unusedVariables false

theorem SMem.crashed {w w' : World} {base d : Nat} {t : TypeId} {v1 v2 v3 : Value} {D : Dev} {ws : List Int} (h : SMem w base d t v1 v2 v3 D) (hx : Box w' d [v1, .slice none 0 0, .slice none 0 0] t) (hw : w'.ownsRow base 2 1 v1 ws.length (nums ws)) :
    SMem w' base d t v1 (.slice none 0 0) (.slice none 0 0) ⟨ws, [], []⟩ := by
  refine ⟨hx, ⟨hw, .inl ⟨rfl, none, rfl, .inl rfl⟩, .inl ⟨rfl, none, rfl, .inl rfl⟩, fun hl => absurd rfl hl, fun hl => absurd rfl hl, fun hl => absurd rfl hl⟩, ?_⟩
  rintro q (h1 | ⟨hl, h1⟩ | ⟨hl, h1⟩) e
  · exact h.nd q (.inl h1) e
  · exact absurd rfl hl
  · exact absurd rfl hl

set_option maxRecDepth 20000 in
set_option maxHeartbeats 4000000 in
theorem l2Crash_any (d : Nat) (t : TypeId) (base : Nat) (v1 v2 v3 : Value) (D : Dev) (af : Option Addr) (cf : Nat) (fs : List Int) (w : World) (h : SMem w base d t v1 v2 v3 D) (hg : Good D) (hI : IntsAt w af fs) (hfz : fs ≠ [] → ∀ x, af = some x → x.block < base) (hlen : fs.length = D.flights.length + D.over.length) (n2 : D.flights.length ≤ 1048576) (n3 : D.over.length ≤ 1048576) :
    Calls Try.prog 79 #[.pointer (some ⟨d, 0, none⟩), .slice af fs.length cf] w fun e w' => e = .returned (.tuple #[]) ∧ ∃ u1 u2 u3, SMem w' base d t u1 u2 u3 (crashDev D fs) ∧ Out (fun q => q = d ∨ SB v1 v2 v3 D q) w w' := by
  obtain ⟨s1, d1, s2, d2, s3, d3, e1, e2, e3, hDA⟩ := h.dev.form
  subst e1 e2 e3
  obtain ⟨gw, ow, rfl, -⟩ := hDA.r1.at (k := 0) (by have := hg.small; omega)
  have eow : ow = 0 := by
    rcases h.dev.o1.2 with ⟨e, _⟩ | ⟨g, cap, cur, e, _⟩
    · cases e
    · injection e with e; injection e with e; injection e
  subst eow
  have hgd : gw ≠ d := h.nd gw (.inl rfl)
  have hgb := h.dev.o1.lt gw rfl
  have hdl := h.box.lt
  have H := hide h
  have HG := hide hg
  have HI := hide hI
  have HFZ := hide hfz
  have HLEN := hide hlen
  have R2 := hide hDA.r2
  have R3 := hide hDA.r3
  have hn4 : fs.length ≤ 2200000 := by omega
  clear h hg hI hfz hlen hDA
  go_enter Try.func79, Try.ntmps79
  go_wp2_with fail
  refine (l2Cells_any d t _ s2 s3 d2 d3 D.flights D.over _ (unhide H).box (unhide R2) (unhide R3) n2 n3).mono ?_
  rintro e w1 ⟨⟨v, rfl, hO⟩, hb⟩
  obtain ⟨CL, hCL⟩ : ∃ CL, CL = D.flights ++ D.over := ⟨_, rfl⟩
  rw [← List.length_append, ← hCL] at hO
  have HLENC : Hid (fs.length = CL.length) := by rw [Hid, hCL, List.length_append]; exact unhide HLEN
  have HAL : Hid (allCells D.words.length CL = true) := by rw [Hid, hCL, allCells_append, (unhide HG).flights, (unhide HG).over]; rfl
  have HDV : Hid (crashDev D fs = ⟨crashAll D.words (CL.zip fs), [], []⟩) := by rw [Hid, hCL]; rfl
  clear hCL HLEN
  obtain ⟨a5, c5, ev, -⟩ := pairsAt_own hO
  subst ev
  have z1 : w.heap.size ≤ w1.heap.size := hb.size
  have B5 := hide hb
  have L5 := hide hO
  have HLB := hide (fun q hq => (hO.lt q hq).1)
  have HI5 := hide ((unhide HI).below hb)
  clear hb hO
  go_wp2_with fail
  go_loopw [5] (fun i wr => ∃ k : Nat, k ≤ CL.length ∧ i = .int .i64 k ∧ Hid (wr.ownsRow base 2 1 (.slice (some ⟨gw, 0, none⟩) D.words.length d1) D.words.length (nums (crashAll D.words ((CL.zip fs).take k)))) ∧ Hid (Out (fun q => q = gw) w1 wr)) (fun i _ => CL.length - (intOf i).toNat)
  case atStart => exact ⟨0, Nat.zero_le _, rfl, by have := own_below (unhide H).dev.o1 (unhide B5); simpa [Hid, crashAll] using this, Out.refl _ _⟩
  case round =>
    obtain ⟨k, hk, rfl, HO, HU⟩ := hrel
    have zr : w1.heap.size ≤ wr.heap.size := (unhide HU).size
    have XM := hide (((unhide H).box.below (unhide B5)).out (unhide HU) (fun e => hgd e.symm))
    have q0 := (unhide XM).cell 0
    simp at q0
    by_cases hlt : k < CL.length
    · have hlf : k < fs.length := by have := unhide HLENC; omega
      obtain ⟨b, o, rfl, lb, hc⟩ := (pairsAt_slice ((unhide HU).own (unhide L5) (fun q hq e => by have := unhide HLB q hq; omega))).at hlt
      have hfne : fs ≠ [] := by intro e; rw [e] at hlf; simp at hlf
      obtain ⟨bf, of, rfl, lbf, hcf⟩ := (unhide HI5).at hlf
      have hbz := unhide HFZ hfne _ rfl
      have hfk := ((unhide HU).cell (b := bf) lbf (by have : bf < base := hbz; omega) (of + k)).trans (hcf k hlf)
      have hca := (hc k hlt).1
      have hcb := (hc k hlt).2
      have hat := cellOk_at (unhide HAL) hlt
      have hKT := crashAll_take hlt hlf D.words
      clear hc hcf hbz hfne
      have k0 : (0 : Int) ≤ (k : Int) := by omega
      have k1 : (k : Int) < CL.length := by omega
      have k2 : (k : Int) < fs.length := by omega
      generalize hA : CL[k].1 = A at *
      generalize hV : CL[k].2 = V at *
      generalize hFF : fs[k] = F at *
      clear hA hV hFF
      by_cases hF1 : F = 1
      · rw [if_pos hF1] at hKT
        have HKT := hide hKT
        have heb : (F == 1) = true := by simpa using hF1
        clear hKT hF1
        have hln : A.toNat < (nums (crashAll D.words ((CL.zip fs).take k))).length := by rw [nums_length, crashAll_len]; omega
        obtain ⟨ov, hcw⟩ : ∃ ov, wr.cell? ⟨gw, A.toNat, none⟩ = some ov := ⟨_, by rw [(unhide HO).cellAt A.toNat (by have := (unhide HO).1; omega), List.getElem?_eq_getElem hln]⟩
        have hfw := (unhide HO).frozenAt A.toNat
        have O3 := hide ((unhide HO).stored A.toNat (.int .i64 V)).1
        rw [nums_set, ← unhide HKT] at O3
        have U3 := hide ((unhide HU).setCell (p := ⟨gw, A.toNat, none⟩) (.inl rfl) (.int .i64 V))
        clear XM HKT HO HU hln
        have hl0 : 0 ≤ A := hat.1
        have hl1 : A < D.words.length := hat.2
        clear hat
        go_wp2_with fail
        go_region
        all_goals
          go_wp2_with fail
          go_roundw
          case rel => exact ⟨k + 1, by omega, by go_num, O3, outDrew (unhide U3)⟩
          case measure => simp [intOf]; omega
      · rw [if_neg hF1] at hKT
        have HKT := hide hKT
        have heb : (F == 1) = false := by simpa using hF1
        clear hKT hF1 XM
        go_wp2_with fail
        go_roundw
        case rel => exact ⟨k + 1, by omega, by go_num, by rw [unhide HKT]; exact HO, HU⟩
        case measure => simp [intOf]; omega
    · have hke : k = CL.length := by omega
      subst hke
      have HTK : Hid ((CL.zip fs).take CL.length = CL.zip fs) := by rw [Hid, List.take_of_length_le]; rw [List.length_zip]; omega
      rw [unhide HTK] at HO
      clear HTK
      have q1 := (unhide XM).cell 1
      have q2 := (unhide XM).cell 2
      have f1 := (unhide XM).frozen 1
      have f2 := (unhide XM).frozen 2
      simp at q1 q2
      go_wp2_with fail
      clear q0 q1 q2 f1 f2
      generalize hU1 : wr.setCell _ _ = V1
      generalize hU2 : V1.setCell _ _ = V2
      have X4 := ((unhide XM).set' hU1).set' hU2
      have OU : Out (fun q => q = d) wr V2 := out_set' (out_set' (Out.refl _ _) hU1 (.inl rfl)) hU2 (.inl rfl)
      have O4 := OU.own (unhide HO) (fun q hq e => hgd (by simp [Value.ownBlock] at hq; omega))
      have OA : Out (fun q => q = d ∨ SB (.slice (some ⟨gw, 0, none⟩) D.words.length d1) (.slice s2 D.flights.length d2) (.slice s3 D.over.length d3) D q) w V2 := ((Out.ofBelow (unhide B5)).trans (unhide HU) (fun q _ e => .inr (.inl (by rw [e]; rfl)))).trans OU (fun q _ e => .inl e)
      have R := (unhide H).crashed X4 (ws := crashAll D.words (CL.zip fs)) (by rw [crashAll_len]; exact O4)
      go_end0
      exact ⟨rfl, _, _, _, by rw [unhide HDV]; exact R, OA⟩
set_option maxHeartbeats 4000000 in
theorem specCrashDevice_any (a1 a2 a3 : Option Addr) (c1 c2 c3 : Nat) (D : Dev) (af : Option Addr) (cf : Nat) (fs : List Int) (w : World) (h : DevAt w a1 a2 a3 D) (n1 : D.words.length ≤ 1048576) (n2 : D.flights.length ≤ 1048576) (n3 : D.over.length ≤ 1048576) (hI : IntsAt w af fs) (n4 : fs.length ≤ 1048576) :
    Calls Try.prog 16 #[.agg #[.slice a1 D.words.length c1, .slice a2 D.flights.length c2, .slice a3 D.over.length c3], .slice af fs.length cf] w fun e w' => ResRd e w.heap.size w' (chgCode D (crashCode D fs)) (chgDev D (crashCode D fs) (crashDev D fs)) ∧ Below w.heap.size w w' := by
  have H := hide h
  have HI := hide hI
  clear h hI
  go_enter Try.func16, Try.ntmps16
  go_wp2_with fail
  obtain ⟨W, hW, z1, hb, hx, hy⟩ := boxes2 w [.slice a1 D.words.length c1, .slice a2 D.flights.length c2, .slice a3 D.over.length c3] [.int .i64 0, .slice none 0 0, .slice none 0 0, .slice none 0 0] 27 31
  rw [← hW]
  clear hW
  refine (specDeviceFault_any a1 a2 a3 c1 c2 c3 D _ ((unhide H).below (unhide hb)) n1 n2 n3).mono ?_
  rintro e w2 ⟨rfl, hb2⟩
  have z2 : W.heap.size ≤ w2.heap.size := hb2.size
  have B2 := hide (below_step (unhide hb) hb2 (by omega))
  have H2 := hide ((unhide H).below (unhide B2))
  have X2 := hide ((unhide hx).below hb2)
  have Y2 := hide ((unhide hy).below hb2)
  have y0 := (unhide Y2).cell 0
  have y1 := (unhide Y2).cell 1
  have y2 := (unhide Y2).cell 2
  have y3 := (unhide Y2).cell 3
  have f0 := (unhide Y2).frozen 0
  have f1 := (unhide Y2).frozen 1
  have f2 := (unhide Y2).frozen 2
  have f3 := (unhide Y2).frozen 3
  simp at y0 y1 y2 y3
  have x0 := (unhide X2).cell 0
  have x1 := (unhide X2).cell 1
  have x2 := (unhide X2).cell 2
  simp at x0 x1 x2
  clear hb2 hb hx hy H
  by_cases hf : devFault D = 0
  case neg =>
    have hfb : (devFault D != 0) = true := by simpa using hf
    have HC : Hid (chgCode D (crashCode D fs) = devFault D ∧ chgDev D (crashCode D fs) (crashDev D fs) = none') := by simp [Hid, chgCode, chgDev, hf]
    clear hf
    go_wp2_with fail
    clear y0 y1 y2 y3 f0 f1 f2 f3
    generalize hU : (((w2.setCell _ _).setCell _ _).setCell _ _).setCell _ _ = U
    obtain ⟨XU, OU⟩ := store4' (unhide Y2) hU
    have t0 := (unhide XU).cell 0
    have t1 := (unhide XU).cell 1
    have t2 := (unhide XU).cell 2
    have t3 := (unhide XU).cell 3
    simp at t0 t1 t2 t3
    refine bodyPost_ret (v := .agg #[.int .i64 (devFault D), .slice none 0 0, .slice none 0 0, .slice none 0 0]) (by simp [results, Try.results16, go_sem, t0, t1, t2, t3]) rfl ⟨⟨none, 0, none, 0, none, 0, by rw [(unhide HC).1, (unhide HC).2]; rfl, by rw [(unhide HC).2]; exact rNone _ _ _⟩, (unhide OU).below (unhide B2) (Nat.le_refl _) (fun q hq e => by omega)⟩
  have HF := hide hf
  have HG := hide (good_of hf)
  rw [hf]
  clear hf
  have HI2 := hide ((unhide HI).below (unhide B2))
  by_cases hlen : fs.length = D.flights.length + D.over.length
  case neg =>
    have hne : ((fs.length : Int) != (D.flights.length : Int) + D.over.length) = true := by simp; omega
    have HC : Hid (chgCode D (crashCode D fs) = 2 ∧ chgDev D (crashCode D fs) (crashDev D fs) = none') := by simp [Hid, chgCode, chgDev, crashCode, unhide HF, hlen]
    clear hlen
    go_wp2_with fail
    clear y0 y1 y2 y3 f0 f1 f2 f3
    generalize hU : (((w2.setCell _ _).setCell _ _).setCell _ _).setCell _ _ = U
    obtain ⟨XU, OU⟩ := store4' (unhide Y2) hU
    have t0 := (unhide XU).cell 0
    have t1 := (unhide XU).cell 1
    have t2 := (unhide XU).cell 2
    have t3 := (unhide XU).cell 3
    simp at t0 t1 t2 t3
    refine bodyPost_ret (v := .agg #[.int .i64 2, .slice none 0 0, .slice none 0 0, .slice none 0 0]) (by simp [results, Try.results16, go_sem, t0, t1, t2, t3]) rfl ⟨⟨none, 0, none, 0, none, 0, by rw [(unhide HC).1, (unhide HC).2]; rfl, by rw [(unhide HC).2]; exact rNone _ _ _⟩, (unhide OU).below (unhide B2) (Nat.le_refl _) (fun q hq e => by omega)⟩
  have hne : ((fs.length : Int) != (D.flights.length : Int) + D.over.length) = false := by simp; omega
  have HLEN := hide hlen
  clear hlen
  go_wp2_with fail
  clear hne
  go_loop [6] (fun i => ∃ k : Nat, k ≤ fs.length ∧ i = .int .i64 k ∧ Hid (∀ j (hj : j < fs.length), j < k → fateOk fs[j] = true)) (fun i => fs.length - (intOf i).toNat)
  case atStart => exact ⟨0, Nat.zero_le _, rfl, fun j _ hj => absurd hj (Nat.not_lt_zero j)⟩
  case round =>
    obtain ⟨k, hk, rfl, HX⟩ := hrel
    by_cases hlt : k < fs.length
    · obtain ⟨b, o, rfl, -, hc⟩ := (unhide HI2).at hlt
      have hck := hc k hlt
      have k0 : (0 : Int) ≤ (k : Int) := by omega
      have k1 : (k : Int) < fs.length := by omega
      clear hc
      cases hq : fateOk fs[k]
      · have HC : Hid (chgCode D (crashCode D fs) = 3 ∧ chgDev D (crashCode D fs) (crashDev D fs) = none') := by
          have := allFates_false hlt hq
          simp [Hid, chgCode, chgDev, crashCode, unhide HF, unhide HLEN, this]
        have HQ : Hid (inB fs[k] 0 1 = false) := hq
        clear hq
        go_wp2_with fail
        refine (l1In_any _ 0 1 _).mono ?_
        rintro e w3 ⟨rfl, rfl⟩
        rw [unhide HQ]
        go_wp2_with fail
        clear y0 y1 y2 y3 f0 f1 f2 f3
        generalize hU : (((w3.setCell _ _).setCell _ _).setCell _ _).setCell _ _ = U
        obtain ⟨XU, OU⟩ := store4' (unhide Y2) hU
        have t0 := (unhide XU).cell 0
        have t1 := (unhide XU).cell 1
        have t2 := (unhide XU).cell 2
        have t3 := (unhide XU).cell 3
        simp at t0 t1 t2 t3
        refine bodyPost_ret (v := .agg #[.int .i64 3, .slice none 0 0, .slice none 0 0, .slice none 0 0]) (by simp [results, Try.results16, go_sem, t0, t1, t2, t3]) rfl ⟨⟨none, 0, none, 0, none, 0, by rw [(unhide HC).1, (unhide HC).2]; rfl, by rw [(unhide HC).2]; exact rNone _ _ _⟩, (unhide OU).below (unhide B2) (Nat.le_refl _) (fun q hq e => by omega)⟩
      · have HX2 : Hid (∀ j (hj : j < fs.length), j < k + 1 → fateOk fs[j] = true) := by
          intro j hj hj1
          by_cases e : j = k
          · subst e; exact hq
          · exact unhide HX j hj (by omega)
        have HQ : Hid (inB fs[k] 0 1 = true) := hq
        clear hq
        go_wp2_with fail
        refine (l1In_any _ 0 1 _).mono ?_
        rintro e w3 ⟨rfl, rfl⟩
        rw [unhide HQ]
        go_wp2_with fail
        go_round
        case rel => exact ⟨k + 1, by omega, by go_num, HX2⟩
        case measure => simp [intOf]; omega
    · have HC : Hid (chgCode D (crashCode D fs) = 0 ∧ chgDev D (crashCode D fs) (crashDev D fs) = (crashDev D fs)) := by
        have := allFates_true (fun j hj => unhide HX j hj (by omega))
        simp [Hid, chgCode, chgDev, crashCode, unhide HF, unhide HLEN, this]
      have k1 : ¬ (k : Int) < fs.length := by omega
      clear HX
      go_wp2_with fail
      clear y0 y1 y2 y3 f0 f1 f2 f3 x0 x1 x2
      refine (l2Copy_any w.heap.size _ a1 a2 a3 c1 c2 c3 D _ (unhide X2) (unhide H2) (by have := (unhide HG).small; omega) n1 n2 n3).mono ?_
      rintro e w4 ⟨⟨v1, v2, v3, rfl, hS⟩, hb4⟩
      obtain ⟨s1, d1, s2, d2, s3, d3, e1, e2, e3, -⟩ := hS.form
      subst e1 e2 e3
      have z4 : w2.heap.size ≤ w4.heap.size := hb4.size
      have B4 := hide (below_step (unhide B2) hb4 (by omega))
      have Y4 := hide ((unhide Y2).below hb4)
      have S4 := hide hS
      have HS := hide (fun q hq => SDev.lt (q := q) hS hq)
      clear hb4 hS X2 H2 Y2 B2
      go_wp2_with fail
      obtain ⟨U, hW, z5, hb, hx⟩ := boxes1 w4 [.slice s1 D.words.length d1, .slice s2 D.flights.length d2, .slice s3 D.over.length d3] 27
      rw [← hW]
      clear hW
      have B5 := hide (below_step (unhide B4) (unhide hb) (by omega))
      have Y5 := hide ((unhide Y4).below (unhide hb))
      have S5 := hide ((unhide S4).below (unhide hb))
      have M5 : Hid (SMem U w2.heap.size w4.heap.size 27 (.slice s1 D.words.length d1) (.slice s2 D.flights.length d2) (.slice s3 D.over.length d3) D) := ⟨unhide hx, unhide S5, fun q hq e => by have := unhide HS q hq; omega⟩
      clear hb hx B4 Y4 S4 S5
      have HIU := hide ((unhide HI).below (unhide B5))
      refine (l2Crash_any w4.heap.size _ _ _ _ _ D af cf fs _ (unhide M5) (unhide HG) (unhide HIU) (fun hne x hx => by rcases unhide HI with e | ⟨b, o, e, l, _⟩; (exact absurd e hne); rw [e] at hx; injection hx with hx; subst hx; show b < _; omega) (unhide HLEN) n2 n3).mono ?_
      rintro e w6 ⟨rfl, u1, u2, u3, hM, hO⟩
      obtain ⟨p1, q1, p2, q2, p3, q3, e1, e2, e3, hR⟩ := hM.dev.toR
      subst e1 e2 e3
      have z6 : U.heap.size ≤ w6.heap.size := hO.size
      have B6 := hide (hO.below (unhide B5) (Nat.le_refl _) (fun q hq e => by rcases e with e | e; (omega); have := unhide HS q e; omega))
      have Y6 := hide ((unhide Y5).out hO (fun e => by rcases e with e | e; (omega); have := unhide HS _ e; omega))
      have c0 := hM.box.cell 0
      have c1 := hM.box.cell 1
      have c2 := hM.box.cell 2
      simp at c0 c1 c2
      have HR := hide hR
      clear hR hM hO M5 B5 Y5
      have y0 := (unhide Y6).cell 0
      have y1 := (unhide Y6).cell 1
      have y2 := (unhide Y6).cell 2
      have y3 := (unhide Y6).cell 3
      have f0 := (unhide Y6).frozen 0
      have f1 := (unhide Y6).frozen 1
      have f2 := (unhide Y6).frozen 2
      have f3 := (unhide Y6).frozen 3
      simp at y0 y1 y2 y3
      go_wp2_with fail
      clear y0 y1 y2 y3 f0 f1 f2 f3
      generalize hU : (((w6.setCell _ _).setCell _ _).setCell _ _).setCell _ _ = V
      obtain ⟨XV, OV⟩ := store4' (unhide Y6) hU
      have t0 := (unhide XV).cell 0
      have t1 := (unhide XV).cell 1
      have t2 := (unhide XV).cell 2
      have t3 := (unhide XV).cell 3
      simp at t0 t1 t2 t3
      have zV : w6.heap.size ≤ V.heap.size := (unhide OV).size
      have R7 := ((unhide HR).out (unhide OV) (fun q h1 h2 e => by omega)).wide (lo' := w.heap.size) (hi' := V.heap.size) (by omega) zV
      refine bodyPost_ret (v := .agg #[.int .i64 0, .slice p1 (crashDev D fs).words.length q1, .slice p2 (crashDev D fs).flights.length q2, .slice p3 (crashDev D fs).over.length q3]) (by simp [results, Try.results16, go_sem, t0, t1, t2, t3]) rfl ⟨⟨_, _, _, _, _, _, by rw [(unhide HC).1, (unhide HC).2], by rw [(unhide HC).2]; exact R7⟩, (unhide OV).below (unhide B6) (Nat.le_refl _) (fun q hq e => by omega)⟩

theorem crashDev_len (D : Dev) (fs : List Int) (k1 : D.words.length ≤ 1048576) : (chgDev D (crashCode D fs) (crashDev D fs)).words.length ≤ 1048576 ∧ (chgDev D (crashCode D fs) (crashDev D fs)).flights.length ≤ 1048576 ∧ (chgDev D (crashCode D fs) (crashDev D fs)).over.length ≤ 1048576 := by
  refine chgDev_len fun hg => ⟨?_, ?_, ?_⟩
  · show (crashAll D.words _).length ≤ _; rw [crashAll_len]; exact k1
  · show [].length ≤ _; simp
  · show [].length ≤ _; simp
end Go.Proofs.Ytdnfadbkpajloaa
/-
  Contracts of the device's calls where nothing is wrong, as the laws over code want them.
-/
namespace Go.Proofs.Ytdnfadbkpajloaa
open Go.RowKit
set_option linter.unusedVariables false

theorem chg_ok {D : Dev} {c : Int} (h : chgCode D c = 0) : Good D ∧ c = 0 := by
  unfold chgCode at h
  by_cases hd : devFault D = 0
  · rw [if_pos hd] at h
    exact ⟨good_of hd, h⟩
  · rw [if_neg hd] at h
    exact absurd h hd
theorem chgDev_ok {D D' : Dev} {c : Int} (h : chgCode D c = 0) : chgDev D c D' = D' := by
  obtain ⟨hg, hc⟩ := chg_ok h
  unfold chgDev
  rw [if_pos ⟨devFault_good hg, hc⟩]
theorem chgCode_good {D : Dev} {c : Int} (h : Good D) : chgCode D c = c := by
  unfold chgCode
  rw [if_pos (devFault_good h)]
theorem atOk_lt {n k : Nat} (h : k < n) : atOk n (k : Int) = true := by
  simp [atOk, inB]
  omega
theorem load_is {D : Dev} {k : Nat} {x : Int} (hg : Good D) (hk : k < D.words.length) (hx : load D k = x) : loadCode D k = 0 ∧ loadVal D k = x := by
  unfold loadCode loadVal
  rw [if_pos (devFault_good hg), if_pos (devFault_good hg), if_pos (atOk_lt hk), if_pos (atOk_lt hk)]
  exact ⟨rfl, hx⟩
theorem resIs_at {e : Ending} {base : Nat} {w : World} {code : Int} {D : Dev} (h : ResIs e base w code D) :
    ∃ a1 c1 a2 c2 a3 c3, e = .returned (.agg #[.int .i64 code, .slice a1 D.words.length c1, .slice a2 D.flights.length c2, .slice a3 D.over.length c3]) ∧ DevAt w a1 a2 a3 D := by
  obtain ⟨v1, v2, v3, rfl, ho⟩ := h
  obtain ⟨a1, c1, a2, c2, a3, c3, rfl, rfl, rfl, hr, -⟩ := ho.form
  exact ⟨_, _, _, _, _, _, rfl, hr⟩
/-- A device that can be read, with lists of a bearable length. -/
structure DevRd (w : World) (a1 a2 a3 : Option Addr) (D : Dev) : Prop where
  r : DevAt w a1 a2 a3 D
  n1 : D.words.length ≤ 1048576
  n2 : D.flights.length ≤ 1048576
  n3 : D.over.length ≤ 1048576
theorem DevRd.below {w w' : World} {a1 a2 a3 : Option Addr} {D : Dev} (h : DevRd w a1 a2 a3 D) (hb : Below w.heap.size w w') : DevRd w' a1 a2 a3 D := ⟨h.r.below hb, h.n1, h.n2, h.n3⟩

theorem implLoad_is (a1 a2 a3 : Option Addr) (c1 c2 c3 p q r : Nat) (D : Dev) (k : Nat) (x : Int) (w : World) (h : DevRd w a1 a2 a3 D) (hp : p = D.words.length) (hq : q = D.flights.length) (hr : r = D.over.length) (hg : Good D) (hk : k < D.words.length) (hx : load D k = x) :
    Calls Try.prog 18 #[.agg #[.slice a1 p c1, .slice a2 q c2, .slice a3 r c3], .int .i64 k] w fun e w' => e = .returned (.agg #[.int .i64 0, .int .i64 x]) ∧ Below w.heap.size w w' := by
  subst hp hq hr
  have := implLoadWord_any a1 a2 a3 c1 c2 c3 D k w h.r h.n1 h.n2 h.n3
  obtain ⟨e1, e2⟩ := load_is hg hk hx
  rw [e1, e2] at this
  exact this
/-- A device without fault whose word k is loaded as x. -/
def LoadRd (w : World) (a1 a2 a3 : Option Addr) (p q r k : Nat) (x : Int) : Prop := ∃ D, DevRd w a1 a2 a3 D ∧ p = D.words.length ∧ q = D.flights.length ∧ r = D.over.length ∧ Good D ∧ k < D.words.length ∧ load D k = x
theorem LoadRd.below {w w' : World} {a1 a2 a3 : Option Addr} {p q r k : Nat} {x : Int} (h : LoadRd w a1 a2 a3 p q r k x) (hb : Below w.heap.size w w') : LoadRd w' a1 a2 a3 p q r k x := by
  obtain ⟨D, h, hh⟩ := h
  exact ⟨D, h.below hb, hh⟩
theorem implLoad_rd (a1 a2 a3 : Option Addr) (c1 c2 c3 p q r : Nat) (k : Nat) (x : Int) (w : World) (h : LoadRd w a1 a2 a3 p q r k x) :
    Calls Try.prog 18 #[.agg #[.slice a1 p c1, .slice a2 q c2, .slice a3 r c3], .int .i64 k] w fun e w' => e = .returned (.agg #[.int .i64 0, .int .i64 x]) ∧ Below w.heap.size w w' := by
  obtain ⟨D, h, hp, hq, hr, hg, hk, hx⟩ := h
  exact implLoad_is a1 a2 a3 c1 c2 c3 p q r D k x w h hp hq hr hg hk hx
theorem specLoad_is (a1 a2 a3 : Option Addr) (c1 c2 c3 p q r : Nat) (D : Dev) (k : Nat) (x : Int) (w : World) (h : DevRd w a1 a2 a3 D) (hp : p = D.words.length) (hq : q = D.flights.length) (hr : r = D.over.length) (hg : Good D) (hk : k < D.words.length) (hx : load D k = x) :
    Calls Try.prog 19 #[.agg #[.slice a1 p c1, .slice a2 q c2, .slice a3 r c3], .int .i64 k] w fun e w' => e = .returned (.agg #[.int .i64 0, .int .i64 x]) ∧ Below w.heap.size w w' := by
  subst hp hq hr
  have := specLoadWord_any a1 a2 a3 c1 c2 c3 D k w h.r h.n1 h.n2 h.n3
  obtain ⟨e1, e2⟩ := load_is hg hk hx
  rw [e1, e2] at this
  exact this
theorem implFault_good (a1 a2 a3 : Option Addr) (c1 c2 c3 p q r : Nat) (D : Dev) (w : World) (h : DevRd w a1 a2 a3 D) (hp : p = D.words.length) (hq : q = D.flights.length) (hr : r = D.over.length) (hg : Good D) :
    Calls Try.prog 22 #[.agg #[.slice a1 p c1, .slice a2 q c2, .slice a3 r c3]] w fun e w' => e = .returned (.int .i64 0) ∧ Below w.heap.size w w' := by
  subst hp hq hr
  have := implDeviceFault_any a1 a2 a3 c1 c2 c3 D w h.r h.n1 h.n2 h.n3
  rw [devFault_good hg] at this
  exact this
theorem neq_int2 (k u : Int) (w : World) : (binOp .neq 37 (.agg #[.int .i64 k, .int .i64 u]) (.agg #[.int .i64 k, .int .i64 u])).run Try.prog w = .ok (.bool false) w := by
  have hS : Try.prog.underlying 37 = some (.struct (Try.prog.fieldsOf 37)) := by kernel_rfl
  have hp : Try.prog.stoodInHeld 37 = false := by kernel_rfl
  have u3 := Try.underlying2
  have a3 := Try.isAgg2
  have z3 := Try.sizeOf2
  rw [run_neq_struct, show (10000 : Nat) = 9999 + 1 from rfl, run_equalIn_agg w 9999 37 _ _ hS hp]
  simp only [Program.fieldsOf, Try.underlying37]
  go_simp
theorem flush_few {D : Dev} (h1 : D.words.length ≤ 100) (h2 : D.flights.length ≤ 100) (h3 : D.over.length ≤ 100) (line : Int) : (flushDev D line).words.length ≤ 1048576 ∧ (flushDev D line).flights.length ≤ 1048576 ∧ (flushDev D line).over.length ≤ 1048576 := by
  have := flushF_len D.flights D.over line
  have := flushO_len D.over line
  refine ⟨?_, ?_, ?_⟩ <;> simp only [flushDev] <;> omega
end Go.Proofs.Ytdnfadbkpajloaa
/-
  laws.lwNums: two lists of the same numbers.
-/
namespace Go.Proofs.Ytdnfadbkpajloaa
open Go.RowKit
set_option maxHeartbeats 1000000 in
theorem lwNums_same (a b : Option Addr) (c d : Nat) (l : List Int) (w : World) (h : IntsAt w a l) (h2 : IntsAt w b l) (hn : l.length ≤ 1048576) :
    Calls Try.prog 21 #[.slice a l.length c, .slice b l.length d] w fun e w' => e = .returned (.bool true) ∧ Below w.heap.size w w' := by
  have hne := int_neq_self (l.length : Int)
  go_enter Try.func21, Try.ntmps21
  go_wp2
  go_loopw [5] (fun i wr => ∃ (k n : Nat), k ≤ l.length ∧ i = .int .i64 k ∧ wr = w.drewN n) (fun i _ => l.length - (intOf i).toNat)
  case atStart => exact ⟨0, 0, Nat.zero_le _, rfl, rfl⟩
  case round =>
    obtain ⟨k, n, hk, rfl, rfl⟩ := hrel
    by_cases hlt : k < l.length
    · obtain ⟨b1, o1, rfl, _, hc1⟩ := h.at hlt
      obtain ⟨b2, o2, rfl, _, hc2⟩ := h2.at hlt
      have hk1 := hc1 k hlt
      have hk2 := hc2 k hlt
      have hlt' : (k : Int) < l.length := by omega
      have hq := int_neq_self l[k]
      clear hc1 hc2 h h2
      go_wp2
      go_quiet (fail)
      go_wp2
      exact ⟨⟨k + 1, _, by omega, by go_num, rfl⟩, by simp [intOf]; omega⟩
    · clear h h2
      go_wp2
      go_ret
      exact ⟨rfl, below_drewN (Below.refl _ _) _⟩
end Go.Proofs.Ytdnfadbkpajloaa
/-
  laws.lwFates: as many ones as are wanted.
-/
namespace Go.Proofs.Ytdnfadbkpajloaa
open Go.RowKit
set_option linter.unusedVariables false

set_option maxRecDepth 20000 in
set_option maxHeartbeats 2000000 in
theorem lwFates_ones (b c n : Nat) (w : World) (h : IntsAt w (some ⟨b, 0, none⟩) [1]) (hn : n ≤ 1048576) :
    Calls Try.prog 20 #[.slice (some ⟨b, 0, none⟩) 1 c, .int .i64 n] w fun r w' => (∃ g, r = .returned (.slice (some ⟨g, 0, none⟩) n n) ∧ IntsAt w' (some ⟨g, 0, none⟩) (List.replicate n 1)) ∧ Below w.heap.size w w' := by
  obtain ⟨i0, hi, hz0, hz1, hz2⟩ := info_parts infoInt64
  obtain ⟨b', o', e, hbl, hc⟩ := h.at (k := 0) (by simp)
  cases e
  have hc0 := hc 0 (by simp)
  simp at hc0
  clear hc h
  go_enter Try.func20, Try.ntmps20
  go_wp2_with (at_make; refine wpList_make_full _ rfl _ _ 24 rfl w.heap.size 2 i0 (.int .i64 0) 1 Try.underlying24 hi hz0 hz1 .i64 .i64 _ _ n rfl rfl rfl rfl (by rw [hz2]; omega) (by unfold maxLen; omega) (Nat.le_refl _) ?_; intro w1 hown hgrow)
  have hxs : (madeCells (Value.int .i64 0).cells (n * 1)).toList.length = n := by
    have := hown.1
    omega
  generalize (madeCells (Value.int .i64 0).cells (n * 1)).toList = xs0 at *
  have hbel : Below w.heap.size w w1 := (Below.refl _ _).grown hgrow (Nat.le_refl _) (fun k hk => by cases hk)
  clear hgrow
  go_loopw [6] (fun i wr => ∃ (k : Nat) (xs : List Value), k ≤ n ∧ i = .int .i64 k ∧ xs.length = n ∧ wr.ownsRow w.heap.size 2 1 (.slice (some ⟨w.heap.size, 0, none⟩) n n) n xs ∧ Below w.heap.size w wr ∧ Hid (∀ j, j < k → xs[j]? = some (.int .i64 1))) (fun i _ => n - (intOf i).toNat)
  case atStart => exact ⟨0, xs0, Nat.zero_le _, rfl, hxs, hown, hbel, fun j hj => absurd hj (Nat.not_lt_zero j)⟩
  case round =>
    obtain ⟨k, xs, hk, rfl, hxl, how, hbw, HX⟩ := hrel
    clear hbel hown hxs
    by_cases hlt : k < n
    · have hlt' : (k : Int) < n := by omega
      have hck : wr.cell? ⟨b, 0, none⟩ = some (.int .i64 1) := by
        rw [hbw.cell (p := ⟨b, 0, none⟩) hbl]
        exact hc0
      have hfz := how.frozenAt k
      have hkc := how.cellAt k (by omega)
      rw [List.getElem?_eq_getElem (by omega)] at hkc
      obtain ⟨hst, hgr⟩ := how.stored k (.int .i64 1)
      have hbw2 := hbw.setCell (p := ⟨w.heap.size, k, none⟩) (Nat.le_refl _) (.int .i64 1)
      have HS := hide hst
      have HB2 := hide hbw2
      have HX2 : Hid (∀ j, j < k + 1 → (xs.set k (.int .i64 1))[j]? = some (.int .i64 1)) := by
        intro j hj1
        rw [List.getElem?_set]
        by_cases e : k = j
        · subst e
          simp [hxl, hlt]
        · rw [if_neg e]
          exact unhide HX j (by omega)
      have ht : (k : Int).tmod 1 = 0 := by simp
      have ht2 : (k : Int) % 1 = 0 := by omega
      clear hst hgr hbw2 how hbw
      go_wp2
      go_roundw
      case rel => exact ⟨k + 1, xs.set k (.int .i64 1), by omega, by go_num, by simpa using hxl, unhide HS, unhide HB2, HX2⟩
      case measure => simp [intOf]; omega
    · have hlt' : ¬ (k : Int) < n := by omega
      have HS := hide how
      have HB := hide hbw
      have hxe : xs = nums (List.replicate n 1) := by
        apply List.ext_getElem?
        intro j
        by_cases hj : j < n
        · rw [unhide HX j (by omega), nums_at (by simpa using hj)]
          simp
        · rw [List.getElem?_eq_none (by omega), List.getElem?_eq_none (by rw [nums_length, List.length_replicate]; omega)]
      have HXE := hide hxe
      clear how hbw hxe
      go_wp2
      go_ret
      exact ⟨⟨w.heap.size, rfl, intsAt_own1 (by rw [← unhide HXE]; exact unhide HS)⟩, unhide HB⟩
end Go.Proofs.Ytdnfadbkpajloaa
/-
  A row of bytes that came in is a code.
-/
namespace Go.Proofs.Ytdnfadbkpajloaa
open Go.RowKit

theorem codeAt_row {w : World} {a : Option Addr} {len cap : Nat} {zs : List Int}
    (h : (a = none ∧ len = 0 ∧ cap = 0 ∧ zs = []) ∨ ∃ x, a = some x ∧ len ≤ cap ∧ cap ≤ maxLen ∧ zs.length = cap ∧ (∀ i, i < zs.length → w.cell? (x.add i) = some (.int .u8 (zs.getD i 0))) ∧ ∀ n ∈ zs, (Lit.int .u8 n).wf = true) : CodeAt w a len := by
  rcases h with ⟨rfl, rfl, rfl, rfl⟩ | ⟨x, rfl, hl, hm, hz, hc, hw⟩
  · exact .inl rfl
  · by_cases h0 : len = 0
    · exact .inl h0
    · right
      have c0 := hc 0 (by omega)
      obtain ⟨b, off, spot⟩ := x
      have hspot : spot = none := by simpa [Addr.add] using World.cell?_spot c0
      subst hspot
      have hlt : b < w.heap.size := by
        have c0' : w.cell? ⟨b, off, none⟩ = some (.int .u8 (zs.getD 0 0)) := by simpa [Addr.add] using c0
        unfold World.cell? at c0'
        by_cases hb : b < w.heap.size
        · exact hb
        · rw [Array.getElem?_eq_none (by show w.heap.size ≤ b; omega)] at c0'
          simp at c0'
      refine ⟨b, off, rfl, hlt, fun i hi => ⟨zs.getD i 0, ?_⟩⟩
      have hi' : i < zs.length := by omega
      have := hc i hi'
      rw [Go.WideShapes.add_plain] at this
      have hb := hw (zs.getD i 0) (by simp [List.getD_eq_getElem?_getD, List.getElem?_eq_getElem hi'])
      have hb2 : 0 ≤ zs.getD i 0 ∧ zs.getD i 0 ≤ 255 := by simpa [Lit.wf, IntKind.min, IntKind.max, IntKind.signed, IntKind.bits] using hb
      exact ⟨hb2.1, hb2.2, this⟩
end Go.Proofs.Ytdnfadbkpajloaa
