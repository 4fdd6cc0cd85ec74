/-
  Several texts in one: LiveSpecF, LiveOwn, LiveRes, LiveSpecG, NewWalk, ConcatV, LinesWalk, LiveImpl, LiveGet, LiveCount, VersFacts.
-/
import Derived.Test.YtiopofemelninaaGreatLiveAllA
import Derived.Test.YtiopofemelninaaGreatLiveAllD
import Derived.Test.YtiopofemelninaaGreatLiveAllB
import Derived.Test.YtiopofemelninaaGreatLiveAllE
import Derived.Test.YtiopofemelninaaGreatTakeWalk
import Derived.Deep.RegionWith
import Derived.Deep.CutRange
import Derived.Lib.AppendZeros
/-
  What spec.LiveOf answers.
-/
namespace Go.Proofs.YtiopofemelninaaGreat
open Go.RowKit
set_option linter.unusedVariables false

def liveNo (c : Int) : Value := .agg #[.int .i64 c, .int .i64 0, .slice none 0 0, .slice none 0 0, .slice none 0 0]
/-- What the specification's LiveOf answers: a code; or rows of versions whose numbers can be read. -/
def SLive (w : World) (base : Nat) (ws : List Int) (e : Ending) : Prop :=
  (imgCode ws ≠ 0 ∧ e = .returned (liveNo (imgCode ws))) ∨
  (imgCode ws = 0 ∧ ∃ L : List VerA, L.map VerA.ver = imgVers ws ∧ LiveIs w base (clockVal ws) L e ∧ ∀ x ∈ L, w.ownsRow base 2 1 x.nv x.x.b.nl.length (nums x.x.b.nl))
set_option maxRecDepth 20000 in
set_option maxHeartbeats 4000000 in
theorem specLiveOf_any (a : Option Addr) (c : Nat) (ws : List Int) (w : World) (h : IntsAt w a ws) (hcl : ws.length ≤ c) (hcm : c ≤ 10000000) (hn : ws.length ≤ 1048576) :
    Calls Tryz.prog 10 #[.slice a ws.length c] w fun e w' => SLive w' w.heap.size ws e ∧ Below w.heap.size w w' := by
  have H := hide h
  clear h
  obtain ⟨W, hW, z1, hb, hx⟩ := boxes1 w [.int .i64 0, .int .i64 0, .slice none 0 0, .slice none 0 0, .slice none 0 0] 28
  go_enter Tryz.func10, Tryz.ntmps10
  go_wp2_with fail
  rw [← hW]
  clear hW
  refine (specClockOf_any a c ws _ ((unhide H).below (unhide hb)) hn).mono ?_
  rintro e w2 ⟨rfl, hb2⟩
  have z2 := hb2.size
  obtain ⟨W2, hW2, z3, hb3, hx3⟩ := boxes1 w2 [.int .i64 (clockCode ws), .int .i64 (clockVal ws)] 37
  have B3 := hide (below_step (below_step (unhide hb) hb2 (by omega)) (unhide hb3) (by omega))
  have X3 := hide (((unhide hx).below hb2).below (unhide hb3))
  have v0 := (unhide hx3).cell 0
  have v1 := (unhide hx3).cell 1
  simp only [List.getElem?_cons_zero, List.getElem?_cons_succ] at v0 v1
  by_cases hc : clockCode ws = 0
  case neg =>
    have hcb : (clockCode ws != 0) = true := by simpa using hc
    have HC : Hid (imgCode ws = clockCode ws ∧ imgCode ws ≠ 0) := by simp [Hid, imgCode, hc]
    clear hc hb2 hb3 hx3 hb hx
    generalize clockCode ws = cd at *
    go_upto_region 2 with fail
    rw [← hW2]
    clear hW2
    go_wp2_with (refine wpList_store_part rfl 28 (.tmp 2) (.tmp 13) rfl w.heap.size 0 _ rfl rfl 28 _ (unhide X3) (by kernel_rfl) (by simp) (by simp [Value.oneCell']) ?_; intro wZ XZ OZ)
    have XR : Hid (Box wZ w.heap.size [.int .i64 cd, .int .i64 0, .slice none 0 0, .slice none 0 0, .slice none 0 0] 28) := XZ
    have BR : Hid (Below w.heap.size w wZ) := (unhide OZ).below (unhide B3) (Nat.le_refl _) (fun q hq e => by omega)
    refine bodyPost_ret (results_cell_row Tryz.results10 _ wZ w.heap.size 28 _ (0, 0) _ rfl (unhide XR) Tryz.underlying28 rfl (by kernel_rfl)) rfl ⟨.inl ⟨(unhide HC).2, by rw [(unhide HC).1]; rfl⟩, unhide BR⟩
  obtain ⟨hv1, hv2, hsz⟩ := clockVal_bounds hc
  have hal := clock_words hc
  have HC : Hid (imgCode ws = (imgRun (clockVal ws) (ws.length / 8 - 1) 1 (ws.drop 8)).1 ∧ imgVers ws = (imgRun (clockVal ws) (ws.length / 8 - 1) 1 (ws.drop 8)).2.1) := by simp [Hid, imgCode, imgVers, hc]
  rw [hc] at v0 hW2 ⊢
  have I3 := hide ((unhide H).below (unhide B3))
  clear hc hb2 hb3 hx3 hb hx
  go_upto_region 2 with fail
  rw [← hW2]
  clear hW2
  go_wp2_with fail
  refine (l4Versions_any a c ws (clockVal ws) _ (unhide I3) hcl hcm hsz hal hv1 hv2).mono ?_
  rintro e w4 ⟨⟨v, L, rfl, hV, hM⟩, hb4⟩
  obtain ⟨va, vc, ev⟩ := hV.form
  subst ev
  rw [← (unhide HC).1]
  have hM2 : L.map VerA.ver = imgVers ws := hM.trans (unhide HC).2.symm
  have B4 := hide (below_step (unhide B3) hb4 (by omega))
  have X4 := hide ((unhide X3).below hb4)
  have V4 := hide hV
  have HM := hide hM2
  have z4 := hb4.size
  have v14 : w4.cell? ⟨w2.heap.size, 1, none⟩ = some (.int .i64 (clockVal ws)) := (hb4.cell (p := ⟨w2.heap.size, 1, none⟩) (by show w2.heap.size < _; omega)).trans v1
  clear hb4 hV X3 B3 I3 hM hM2 HC v0 v1
  by_cases hic : imgCode ws = 0
  case neg =>
    have hcb : (imgCode ws != 0) = true := by simpa using hic
    have HI := hide hic
    clear hic
    generalize hcd : imgCode ws = cd at *
    have HCD := hide hcd
    clear hcd
    go_wp2_with (refine wpList_store_part rfl 28 (.tmp 2) (.tmp 24) rfl w.heap.size 0 _ rfl rfl 28 _ (unhide X4) (by kernel_rfl) (by simp) (by simp [Value.oneCell']) ?_; intro wZ XZ OZ)
    have XR : Hid (Box wZ w.heap.size [.int .i64 cd, .int .i64 0, .slice none 0 0, .slice none 0 0, .slice none 0 0] 28) := XZ
    have BR : Hid (Below w.heap.size w wZ) := (unhide OZ).below (unhide B4) (Nat.le_refl _) (fun q hq e => by omega)
    refine bodyPost_ret (results_cell_row Tryz.results10 _ wZ w.heap.size 28 _ (0, 0) _ rfl (unhide XR) Tryz.underlying28 rfl (by kernel_rfl)) rfl ⟨.inl ⟨by rw [unhide HCD]; exact unhide HI, by rw [unhide HCD]; rfl⟩, unhide BR⟩
  have hgood : ∀ x ∈ L, GoodB (clockVal ws) x.x.b := fun x hx => imgVers_good x.ver (by rw [← unhide HM]; exact List.mem_map_of_mem hx)
  have hLl : L.length ≤ 1000 := by
    have h1 := congrArg List.length (unhide HM)
    rw [List.length_map] at h1
    have h2 : (imgVers ws).length ≤ ws.length := imgVers_len ws
    have h3 : ws.length ≤ 328 := by simp [sizeOk] at hsz; omega
    omega
  have HG := hide hgood
  have HIC := hide hic
  rw [hic]
  clear hic hgood
  have HV := hide ((unhide V4).vers)
  go_wp2_with fail
  refine (l4Live_any va vc L (clockVal ws) _ (unhide HV) hLl ⟨hv1, hv2⟩ (fun x hx => ⟨⟨by have := (unhide HG x hx).u; omega, (unhide HG x hx).u.2⟩, (unhide HG x hx).i⟩)).mono ?_
  rintro e w5 ⟨hL, hb5⟩
  have B5 := hide (below_step (unhide B4) hb5 (by omega))
  have X5 := hide ((unhide X4).below hb5)
  have V5 := hide ((unhide V4).below hb5)
  have z5 := hb5.size
  clear hb5 B4 X4 V4 HV v14
  rcases hL with ⟨hlc, rfl⟩ | ⟨hlc, na, nc, da, dc, ra, rc, rfl, oN, oD, oZ⟩
  · have HLC := hide hlc
    clear hlc
    generalize hcd : liveCode (clockVal ws) L = cd at *
    have HCD := hide hcd
    clear hcd
    go_wp2_with (refine wpList_store_part rfl 28 (.tmp 2) (.tmp 28) rfl w.heap.size 0 _ rfl rfl 28 _ (unhide X5) (by kernel_rfl) (by simp) (by simp [Value.oneCell']) ?_; intro wZ XZ OZ)
    have XR : Hid (Box wZ w.heap.size [.int .i64 cd, .int .i64 0, .slice none 0 0, .slice none 0 0, .slice none 0 0] 28) := XZ
    have BR : Hid (Below w.heap.size w wZ) := (unhide OZ).below (unhide B5) (Nat.le_refl _) (fun q hq e => by omega)
    have VZ := ((unhide V5).out (unhide OZ) (fun q hq e => by have := ((unhide V5).lt hq).1; omega)).base (base' := w.heap.size) (by omega)
    refine bodyPost_ret (results_cell_row Tryz.results10 _ wZ w.heap.size 28 _ (0, 0) _ rfl (unhide XR) Tryz.underlying28 rfl (by kernel_rfl)) rfl ⟨.inr ⟨unhide HIC, L, unhide HM, .inl ⟨by rw [unhide HCD]; exact unhide HLC, by rw [unhide HCD]⟩, VZ.nl⟩, unhide BR⟩
  · have HLC := hide hlc
    have ON := hide oN
    have OD := hide oD
    have OI := hide oZ
    clear hlc oN oD oZ
    go_wp2_with (refine wpList_store_part rfl 28 (.tmp 2) (.tmp 28) rfl w.heap.size 0 _ rfl rfl 28 _ (unhide X5) (by kernel_rfl) (by simp) (by simp [Value.oneCell']) ?_; intro wZ XZ OZ)
    have XR : Hid (Box wZ w.heap.size [.int .i64 0, .int .i64 (clockVal ws), .slice na (liveN (clockVal ws) L).length nc, .slice da (liveD (clockVal ws) L).length dc, .slice ra (liveZ (clockVal ws) L).length rc] 28) := XZ
    have BR : Hid (Below w.heap.size w wZ) := (unhide OZ).below (unhide B5) (Nat.le_refl _) (fun q hq e => by omega)
    have VZ := ((unhide V5).out (unhide OZ) (fun q hq e => by have := ((unhide V5).lt hq).1; omega)).base (base' := w.heap.size) (by omega)
    have oN := own_base (base' := w.heap.size) ((unhide OZ).own (unhide ON) (fun q hq e => by have := ((unhide ON).lt q hq).1; omega)) (fun q hq => by have := ((unhide ON).lt q hq).1; omega)
    have oD := own_base (base' := w.heap.size) ((unhide OZ).own (unhide OD) (fun q hq e => by have := ((unhide OD).lt q hq).1; omega)) (fun q hq => by have := ((unhide OD).lt q hq).1; omega)
    have oZ := own_base (base' := w.heap.size) ((unhide OZ).own (unhide OI) (fun q hq e => by have := ((unhide OI).lt q hq).1; omega)) (fun q hq => by have := ((unhide OI).lt q hq).1; omega)
    refine bodyPost_ret (results_cell_row Tryz.results10 _ wZ w.heap.size 28 _ (0, 0) _ rfl (unhide XR) Tryz.underlying28 rfl (by kernel_rfl)) rfl ⟨.inr ⟨unhide HIC, L, unhide HM, .inr ⟨unhide HLC, na, nc, da, dc, ra, rc, rfl, oN, oD, oZ⟩, VZ.nl⟩, unhide BR⟩
end Go.Proofs.YtiopofemelninaaGreat
/-
  What LiveOf answers hangs on what the versions tell alone; rows of versions picked out of rows of our own.
-/
namespace Go.Proofs.YtiopofemelninaaGreat
open Go.RowKit
set_option linter.unusedVariables false

theorem pw_ne {L : List VerA} (h : L.Pairwise (fun x y => ∀ q, x.nv.ownBlock = some q → y.nv.ownBlock ≠ some q)) {x y : VerA} (hx : x ∈ L) (hy : y ∈ L) (hne : x ≠ y) : ∀ q, x.nv.ownBlock = some q → y.nv.ownBlock ≠ some q := by
  obtain ⟨i, hi, rfl⟩ := List.getElem_of_mem hx
  obtain ⟨j, hj, rfl⟩ := List.getElem_of_mem hy
  have hp := List.pairwise_iff_getElem.1 h
  rcases Nat.lt_trichotomy i j with hij | hij | hij
  · exact hp i j hi hj hij
  · subst hij; exact absurd rfl hne
  · intro q h1 h2
    exact hp j i hj hi hij q h2 h1
theorem vown_pick {w : World} {base hi : Nat} {lv nv : Value} {L N : List VerA} (hV : VOwn w base lv L) (hlt : ∀ q, VB lv L q → q < hi) (hb : base ≤ hi) (hr : w.ownsRow hi 46 11 nv N.length (vflat N)) (hs : ∀ x ∈ N, x ∈ L) (ha : Asc N) : VOwn w base nv N := by
  refine ⟨own_base hr (fun q hq => Nat.le_trans hb (hr.lt q hq).1), fun x hx => hV.nl x (hs x hx), fun x hx q hq e => ?_, ?_⟩
  · have h1 := hlt q (.inr ⟨x, hs x hx, hq⟩)
    have h2 := (hr.lt q e).1
    omega
  · refine List.Pairwise.imp_of_mem (fun {x y} hx hy hlt => ?_) ha
    exact pw_ne hV.pw (hs x hx) (hs y hy) (fun e => by rw [e] at hlt; omega)
/-- The blocks of three rows, all apart. -/
structure Apart3 (nv dv zv : Value) (N D : List VerA) : Prop where
  nd : ∀ q, VB nv N q → ¬ VB dv D q
  nz : ∀ q, zv.ownBlock = some q → ¬ VB nv N q
  dz : ∀ q, zv.ownBlock = some q → ¬ VB dv D q
/-- What LiveOf answers, of versions L; ap: its rows are all apart. -/
def LiveT (ap : Bool) (w : World) (base : Nat) (clock : Int) (L : List VerA) (e : Ending) : Prop :=
  (liveCode clock L ≠ 0 ∧ e = .returned (liveNo (liveCode clock L))) ∨
  (liveCode clock L = 0 ∧ ∃ va vc da dc ra rc, e = .returned (.agg #[.int .i64 0, .int .i64 clock, .slice va (liveN clock L).length vc, .slice da (liveD clock L).length dc, .slice ra (liveZ clock L).length rc]) ∧
    VOwn w base (.slice va (liveN clock L).length vc) (liveN clock L) ∧ VOwn w base (.slice da (liveD clock L).length dc) (liveD clock L) ∧ w.ownsRow base 2 1 (.slice ra (liveZ clock L).length rc) (liveZ clock L).length (nums (liveZ clock L)) ∧
    (ap = true → Apart3 (.slice va (liveN clock L).length vc) (.slice da (liveD clock L).length dc) (.slice ra (liveZ clock L).length rc) (liveN clock L) (liveD clock L)))
def LiveO (ap : Bool) (w : World) (base : Nat) (ws : List Int) (e : Ending) : Prop :=
  (imgCode ws ≠ 0 ∧ e = .returned (liveNo (imgCode ws))) ∨ (imgCode ws = 0 ∧ ∃ L : List VerA, L.map VerA.ver = imgVers ws ∧ LiveT ap w base (clockVal ws) L e)
theorem liveN_asc {clock : Int} {L : List VerA} (hL : ∀ x ∈ L, GoodB clock x.x.b) : Asc (liveN clock L) := List.Pairwise.sublist (l₁ := (newestOf clock L).filter fun x : VerA => x.x.b.k == 1) List.filter_sublist (newest_all hL).asc
theorem liveD_asc {clock : Int} {L : List VerA} (hL : ∀ x ∈ L, GoodB clock x.x.b) : Asc (liveD clock L) := List.Pairwise.sublist (l₁ := (newestOf clock L).filter fun x : VerA => isPiece (blks (liveN clock L)) x.x.b) List.filter_sublist (newest_all hL).asc
theorem liveD_sub {clock : Int} {L : List VerA} {x : VerA} (h : x ∈ liveD clock L) : x ∈ L := live_sub (List.mem_filter.1 h).1
theorem live_ne {clock : Int} {L : List VerA} {x y : VerA} (hx : x ∈ liveN clock L) (hy : y ∈ liveD clock L) : x ≠ y := by
  have h1 : x.x.b.k = 1 := by have := (List.mem_filter.1 hx).2; simpa using this
  have h2 : y.x.b.k = 2 := by
    have := (List.mem_filter.1 hy).2
    unfold isPiece at this
    rw [Bool.and_eq_true] at this
    simpa using this.1
  intro e
  rw [e, h2] at h1
  exact absurd h1 (by decide)
/-- Apart: the rows were made one behind the other, behind the numbers' rows. -/
theorem apart_live {w : World} {base h0 h1 h2 : Nat} {clock : Int} {lv nv dv zv : Value} {L : List VerA} (hV : VOwn w base lv L) (hlt : ∀ q, VB lv L q → q < h0) (hn : ∀ q, nv.ownBlock = some q → h0 ≤ q ∧ q < h1) (hd : ∀ q, dv.ownBlock = some q → h1 ≤ q ∧ q < h2) (hz : ∀ q, zv.ownBlock = some q → h2 ≤ q) (h01 : h0 ≤ h1) (h12 : h1 ≤ h2) :
    Apart3 nv dv zv (liveN clock L) (liveD clock L) where
  nd q hq hq2 := by
    rcases hq with hq | ⟨x, hx, hq⟩
    · have a := hn q hq
      rcases hq2 with hq2 | ⟨y, hy, hq2⟩
      · have := hd q hq2; omega
      · have := hlt q (.inr ⟨y, liveD_sub hy, hq2⟩); omega
    · have a := hlt q (.inr ⟨x, liveN_sub hx, hq⟩)
      rcases hq2 with hq2 | ⟨y, hy, hq2⟩
      · have := hd q hq2; omega
      · exact pw_ne hV.pw (liveN_sub hx) (liveD_sub hy) (live_ne hx hy) q hq hq2
  nz q hq hq2 := by
    have a := hz q hq
    rcases hq2 with hq2 | ⟨x, hx, hq2⟩
    · have := hn q hq2; omega
    · have := hlt q (.inr ⟨x, liveN_sub hx, hq2⟩); omega
  dz q hq hq2 := by
    have a := hz q hq
    rcases hq2 with hq2 | ⟨x, hx, hq2⟩
    · have := hd q hq2; omega
    · have := hlt q (.inr ⟨x, liveD_sub hx, hq2⟩); omega
/-- A version without its place. -/
def strip (x : VerA) : VerA := ⟨x.line, ⟨x.x.b, none, 0⟩⟩
theorem strip_ver (L : List VerA) : L.map strip = (L.map VerA.ver).map fun v => ⟨v.1, ⟨v.2, none, 0⟩⟩ := by rw [List.map_map]; rfl
theorem ver_strip (L : List VerA) : (L.map strip).map VerA.ver = L.map VerA.ver := by rw [List.map_map]; rfl
theorem blks_strip (L : List VerA) : blks (L.map strip) = blks L := by rw [blks, List.map_map]; rfl
theorem lines_strip (L : List VerA) : linesOf (L.map strip) = linesOf L := by rw [linesOf, List.map_map]; rfl
theorem insR_strip (x : VerA) : ∀ out : List VerA, insR (out.map strip) (strip x) = (insR out x).map strip
  | [] => rfl
  | y :: out => by
    have ih := insR_strip x out
    rw [List.map_cons, insR, insR, ih]
    show (if keyV y < keyV x then _ else if keyV y = keyV x then (if y.x.b.e < x.x.b.e then _ else _) else _) = _
    split
    · rfl
    · split
      · split <;> rfl
      · rfl
theorem newest_strip (clock : Int) : ∀ (L out : List VerA), (L.map strip).foldl (newestStep clock) (out.map strip) = (L.foldl (newestStep clock) out).map strip
  | [], _ => rfl
  | x :: L, out => by
    rw [List.map_cons, List.foldl_cons, List.foldl_cons, ← newest_strip clock L]
    congr 1
    unfold newestStep
    show (if x.x.b.e ≤ clock - 2 then insNew (out.map strip) (strip x) else out.map strip) = _
    rw [insNew_eq, insNew_eq, insR_strip]
    split <;> rfl
theorem newestOf_strip (clock : Int) (L : List VerA) : newestOf clock (L.map strip) = (newestOf clock L).map strip := newest_strip clock L []
theorem liveN_strip (clock : Int) (L : List VerA) : liveN clock (L.map strip) = (liveN clock L).map strip := by
  rw [liveN, newestOf_strip, nodesOf, List.filter_map]; rfl
theorem liveD_strip (clock : Int) (L : List VerA) : liveD clock (L.map strip) = (liveD clock L).map strip := by
  rw [liveD, liveN_strip, newestOf_strip, datasOf, blks_strip, List.filter_map]; rfl
theorem liveZ_strip (clock : Int) (L : List VerA) : liveZ clock (L.map strip) = liveZ clock L := by
  rw [liveZ, liveN_strip, liveD_strip, deadOf, lines_strip, lines_strip, lines_strip]; rfl
theorem liveCode_strip (clock : Int) (L : List VerA) : liveCode clock (L.map strip) = liveCode clock L := by
  show (if sameVers clock (blks (L.map strip)) = true then (6 : Int) else if shapeB (blks (liveN clock (L.map strip))) (blks (liveD clock (L.map strip))) = true then 0 else 8) = if sameVers clock (blks L) = true then 6 else if shapeB (blks (liveN clock L)) (blks (liveD clock L)) = true then 0 else 8
  rw [blks_strip, liveN_strip, liveD_strip, blks_strip, blks_strip]
theorem live_alike {clock : Int} {L M : List VerA} (h : L.map VerA.ver = M.map VerA.ver) : liveCode clock L = liveCode clock M ∧ (liveN clock L).map VerA.ver = (liveN clock M).map VerA.ver ∧ (liveD clock L).map VerA.ver = (liveD clock M).map VerA.ver ∧ liveZ clock L = liveZ clock M := by
  have e : L.map strip = M.map strip := by rw [strip_ver, strip_ver, h]
  refine ⟨?_, ?_, ?_, ?_⟩
  · rw [← liveCode_strip clock L, e, liveCode_strip]
  · rw [← ver_strip, ← liveN_strip, e, liveN_strip, ver_strip]
  · rw [← ver_strip, ← liveD_strip, e, liveD_strip, ver_strip]
  · rw [← liveZ_strip, e, liveZ_strip]
end Go.Proofs.YtiopofemelninaaGreat
/-
  Answers of LiveOf looked at, marked, read back.
-/
namespace Go.Proofs.YtiopofemelninaaGreat
open Go.RowKit
set_option linter.unusedVariables false

/-- Two rows of versions and a row of lines, all of our own. -/
structure LV (w : World) (base : Nat) (nv dv zv : Value) (N D : List VerA) (Z : List Int) : Prop where
  n : VOwn w base nv N
  d : VOwn w base dv D
  z : w.ownsRow base 2 1 zv Z.length (nums Z)
def LB (nv dv zv : Value) (N D : List VerA) (q : Nat) : Prop := VB nv N q ∨ VB dv D q ∨ zv.ownBlock = some q
theorem LV.below {w w' : World} {base : Nat} {nv dv zv : Value} {N D : List VerA} {Z : List Int} (h : LV w base nv dv zv N D Z) (hb : Below w.heap.size w w') : LV w' base nv dv zv N D Z := ⟨h.n.below hb, h.d.below hb, own_below h.z hb⟩
theorem LV.lt {w : World} {base : Nat} {nv dv zv : Value} {N D : List VerA} {Z : List Int} (h : LV w base nv dv zv N D Z) {q : Nat} (hq : LB nv dv zv N D q) : base ≤ q ∧ q < w.heap.size := by
  rcases hq with hq | hq | hq
  · exact h.n.lt hq
  · exact h.d.lt hq
  · exact h.z.lt q hq
theorem LV.out {F : Nat → Prop} {w w' : World} {base : Nat} {nv dv zv : Value} {N D : List VerA} {Z : List Int} (h : LV w base nv dv zv N D Z) (ho : Out F w w') (hF : ∀ q, LB nv dv zv N D q → ¬ F q) : LV w' base nv dv zv N D Z :=
  ⟨h.n.out ho (fun q hq => hF q (.inl hq)), h.d.out ho (fun q hq => hF q (.inr (.inl hq))), ho.own h.z (fun q hq e => hF q (.inr (.inr hq)) e)⟩
theorem vb_marks {v : Value} {q : Nat} : ∀ {L : List VerA} {M : Int}, (∃ x ∈ vMarks M L, x.nv.ownBlock = some q) → ∃ x ∈ L, x.nv.ownBlock = some q
  | [], _, h => by obtain ⟨x, hx, _⟩ := h; cases hx
  | y :: L, M, h => by
    obtain ⟨x, hx, hq⟩ := h
    rw [vMarks] at hx
    rcases List.mem_cons.1 hx with rfl | hx
    · exact ⟨y, by simp, by rw [markVer_nv] at hq; exact hq⟩
    · obtain ⟨z, hz, hzq⟩ := vb_marks (v := v) ⟨x, hx, hq⟩
      exact ⟨z, by simp [hz], hzq⟩
theorem VB.unmark {v : Value} {q : Nat} {L : List VerA} {M : Int} (h : VB v (vMarks M L) q) : VB v L q := by
  rcases h with h | h
  · exact .inl h
  · exact .inr (vb_marks (v := v) h)
def lTo (N D : List VerA) (Z : List Int) : Int := vTo (vTo 1 N) D + Z.length
/-- How many there may be. -/
structure Few (N D : List VerA) (Z : List Int) : Prop where
  n : N.length ≤ 41
  d : D.length ≤ 41
  z : Z.length ≤ 41
  nn : ∀ x ∈ N, x.x.b.nl.length ≤ 4
  dn : ∀ x ∈ D, x.x.b.nl.length ≤ 4
theorem Few.nTo {N D : List VerA} {Z : List Int} (h : Few N D Z) : 1 ≤ vTo 1 N ∧ vTo 1 N ≤ 575 := by
  have h1 := vTo_bounds 1 N 4 h.nn
  have := h.n
  omega
theorem Few.dTo {N D : List VerA} {Z : List Int} (h : Few N D Z) : 1 ≤ vTo (vTo 1 N) D ∧ vTo (vTo 1 N) D ≤ 1149 := by
  have h1 := vTo_bounds (vTo 1 N) D 4 h.dn
  have h2 := h.nTo
  have := h.d
  omega
end Go.Proofs.YtiopofemelninaaGreat
/-
  What spec.LiveOf answers, in rows of our own.
-/
namespace Go.Proofs.YtiopofemelninaaGreat
open Go.RowKit
set_option linter.unusedVariables false

set_option maxRecDepth 20000 in
set_option maxHeartbeats 4000000 in
theorem specLiveO_any (a : Option Addr) (c : Nat) (ws : List Int) (w : World) (h : IntsAt w a ws) (hcl : ws.length ≤ c) (hcm : c ≤ 10000000) (hn : ws.length ≤ 1048576) :
    Calls Tryz.prog 10 #[.slice a ws.length c] w fun e w' => LiveO false w' w.heap.size ws e ∧ Below w.heap.size w w' := by
  have H := hide h
  clear h
  obtain ⟨W, hW, z1, hb, hx⟩ := boxes1 w [.int .i64 0, .int .i64 0, .slice none 0 0, .slice none 0 0, .slice none 0 0] 28
  go_enter Tryz.func10, Tryz.ntmps10
  go_wp2_with fail
  rw [← hW]
  clear hW
  refine (specClockOf_any a c ws _ ((unhide H).below (unhide hb)) hn).mono ?_
  rintro e w2 ⟨rfl, hb2⟩
  have z2 := hb2.size
  obtain ⟨W2, hW2, z3, hb3, hx3⟩ := boxes1 w2 [.int .i64 (clockCode ws), .int .i64 (clockVal ws)] 37
  have B3 := hide (below_step (below_step (unhide hb) hb2 (by omega)) (unhide hb3) (by omega))
  have X3 := hide (((unhide hx).below hb2).below (unhide hb3))
  have v0 := (unhide hx3).cell 0
  have v1 := (unhide hx3).cell 1
  simp only [List.getElem?_cons_zero, List.getElem?_cons_succ] at v0 v1
  by_cases hc : clockCode ws = 0
  case neg =>
    have hcb : (clockCode ws != 0) = true := by simpa using hc
    have HC : Hid (imgCode ws = clockCode ws ∧ imgCode ws ≠ 0) := by simp [Hid, imgCode, hc]
    clear hc hb2 hb3 hx3 hb hx
    generalize clockCode ws = cd at *
    go_upto_region 2 with fail
    rw [← hW2]
    clear hW2
    go_wp2_with (refine wpList_store_part rfl 28 (.tmp 2) (.tmp 13) rfl w.heap.size 0 _ rfl rfl 28 _ (unhide X3) (by kernel_rfl) (by simp) (by simp [Value.oneCell']) ?_; intro wZ XZ OZ)
    have XR : Hid (Box wZ w.heap.size [.int .i64 cd, .int .i64 0, .slice none 0 0, .slice none 0 0, .slice none 0 0] 28) := XZ
    have BR : Hid (Below w.heap.size w wZ) := (unhide OZ).below (unhide B3) (Nat.le_refl _) (fun q hq e => by omega)
    refine bodyPost_ret (results_cell_row Tryz.results10 _ wZ w.heap.size 28 _ (0, 0) _ rfl (unhide XR) Tryz.underlying28 rfl (by kernel_rfl)) rfl ⟨.inl ⟨(unhide HC).2, by rw [(unhide HC).1]; rfl⟩, unhide BR⟩
  obtain ⟨hv1, hv2, hsz⟩ := clockVal_bounds hc
  have hal := clock_words hc
  have HC : Hid (imgCode ws = (imgRun (clockVal ws) (ws.length / 8 - 1) 1 (ws.drop 8)).1 ∧ imgVers ws = (imgRun (clockVal ws) (ws.length / 8 - 1) 1 (ws.drop 8)).2.1) := by simp [Hid, imgCode, imgVers, hc]
  rw [hc] at v0 hW2 ⊢
  have I3 := hide ((unhide H).below (unhide B3))
  clear hc hb2 hb3 hx3 hb hx
  go_upto_region 2 with fail
  rw [← hW2]
  clear hW2
  go_wp2_with fail
  refine (l4Versions_any a c ws (clockVal ws) _ (unhide I3) hcl hcm hsz hal hv1 hv2).mono ?_
  rintro e w4 ⟨⟨v, L, rfl, hV, hM⟩, hb4⟩
  obtain ⟨va, vc, ev⟩ := hV.form
  subst ev
  rw [← (unhide HC).1]
  have hM2 : L.map VerA.ver = imgVers ws := hM.trans (unhide HC).2.symm
  have B4 := hide (below_step (unhide B3) hb4 (by omega))
  have X4 := hide ((unhide X3).below hb4)
  have V4 := hide hV
  have HM := hide hM2
  have z4 := hb4.size
  have v14 : w4.cell? ⟨w2.heap.size, 1, none⟩ = some (.int .i64 (clockVal ws)) := (hb4.cell (p := ⟨w2.heap.size, 1, none⟩) (by show w2.heap.size < _; omega)).trans v1
  clear hb4 hV X3 B3 I3 hM hM2 HC v0 v1
  by_cases hic : imgCode ws = 0
  case neg =>
    have hcb : (imgCode ws != 0) = true := by simpa using hic
    have HI := hide hic
    clear hic
    generalize hcd : imgCode ws = cd at *
    have HCD := hide hcd
    clear hcd
    go_wp2_with (refine wpList_store_part rfl 28 (.tmp 2) (.tmp 24) rfl w.heap.size 0 _ rfl rfl 28 _ (unhide X4) (by kernel_rfl) (by simp) (by simp [Value.oneCell']) ?_; intro wZ XZ OZ)
    have XR : Hid (Box wZ w.heap.size [.int .i64 cd, .int .i64 0, .slice none 0 0, .slice none 0 0, .slice none 0 0] 28) := XZ
    have BR : Hid (Below w.heap.size w wZ) := (unhide OZ).below (unhide B4) (Nat.le_refl _) (fun q hq e => by omega)
    refine bodyPost_ret (results_cell_row Tryz.results10 _ wZ w.heap.size 28 _ (0, 0) _ rfl (unhide XR) Tryz.underlying28 rfl (by kernel_rfl)) rfl ⟨.inl ⟨by rw [unhide HCD]; exact unhide HI, by rw [unhide HCD]; rfl⟩, unhide BR⟩
  have hgood : ∀ x ∈ L, GoodB (clockVal ws) x.x.b := fun x hx => imgVers_good x.ver (by rw [← unhide HM]; exact List.mem_map_of_mem hx)
  have hLl : L.length ≤ 1000 := by
    have h1 := congrArg List.length (unhide HM)
    rw [List.length_map] at h1
    have h2 : (imgVers ws).length ≤ ws.length := imgVers_len ws
    have h3 : ws.length ≤ 328 := by simp [sizeOk] at hsz; omega
    omega
  have HG := hide hgood
  have HIC := hide hic
  rw [hic]
  clear hic hgood
  have HV := hide ((unhide V4).vers)
  go_wp2_with fail
  refine (l4Live_any va vc L (clockVal ws) _ (unhide HV) hLl ⟨hv1, hv2⟩ (fun x hx => ⟨⟨by have := (unhide HG x hx).u; omega, (unhide HG x hx).u.2⟩, (unhide HG x hx).i⟩)).mono ?_
  rintro e w5 ⟨hL, hb5⟩
  have B5 := hide (below_step (unhide B4) hb5 (by omega))
  have X5 := hide ((unhide X4).below hb5)
  have V5 := hide ((unhide V4).below hb5)
  have z5 := hb5.size
  have HLT : Hid (∀ q, VB (.slice va L.length vc) L q → q < w4.heap.size) := fun q hq => ((unhide V4).lt hq).2
  clear hb5 B4 X4 V4 HV v14
  rcases hL with ⟨hlc, rfl⟩ | ⟨hlc, na, nc, da, dc, ra, rc, rfl, oN, oD, oZ⟩
  · have HLC := hide hlc
    clear hlc
    generalize hcd : liveCode (clockVal ws) L = cd at *
    have HCD := hide hcd
    clear hcd
    go_wp2_with (refine wpList_store_part rfl 28 (.tmp 2) (.tmp 28) rfl w.heap.size 0 _ rfl rfl 28 _ (unhide X5) (by kernel_rfl) (by simp) (by simp [Value.oneCell']) ?_; intro wZ XZ OZ)
    have XR : Hid (Box wZ w.heap.size [.int .i64 cd, .int .i64 0, .slice none 0 0, .slice none 0 0, .slice none 0 0] 28) := XZ
    have BR : Hid (Below w.heap.size w wZ) := (unhide OZ).below (unhide B5) (Nat.le_refl _) (fun q hq e => by omega)
    have VZ := ((unhide V5).out (unhide OZ) (fun q hq e => by have := ((unhide V5).lt hq).1; omega)).base (base' := w.heap.size) (by omega)
    refine bodyPost_ret (results_cell_row Tryz.results10 _ wZ w.heap.size 28 _ (0, 0) _ rfl (unhide XR) Tryz.underlying28 rfl (by kernel_rfl)) rfl ⟨.inr ⟨unhide HIC, L, unhide HM, .inl ⟨by rw [unhide HCD]; exact unhide HLC, by rw [unhide HCD]; rfl⟩⟩, unhide BR⟩
  · have HLC := hide hlc
    have ON := hide oN
    have OD := hide oD
    have OI := hide oZ
    clear hlc oN oD oZ
    go_wp2_with (refine wpList_store_part rfl 28 (.tmp 2) (.tmp 28) rfl w.heap.size 0 _ rfl rfl 28 _ (unhide X5) (by kernel_rfl) (by simp) (by simp [Value.oneCell']) ?_; intro wZ XZ OZ)
    have XR : Hid (Box wZ w.heap.size [.int .i64 0, .int .i64 (clockVal ws), .slice na (liveN (clockVal ws) L).length nc, .slice da (liveD (clockVal ws) L).length dc, .slice ra (liveZ (clockVal ws) L).length rc] 28) := XZ
    have BR : Hid (Below w.heap.size w wZ) := (unhide OZ).below (unhide B5) (Nat.le_refl _) (fun q hq e => by omega)
    have VZ := ((unhide V5).out (unhide OZ) (fun q hq e => by have := ((unhide V5).lt hq).1; omega)).base (base' := w.heap.size) (by omega)
    have vN := vown_pick VZ (unhide HLT) (by omega) ((unhide OZ).own (unhide ON) (fun q hq e => by have := ((unhide ON).lt q hq).1; omega)) (fun x hx => liveN_sub hx) (liveN_asc (unhide HG))
    have vD := vown_pick VZ (unhide HLT) (by omega) ((unhide OZ).own (unhide OD) (fun q hq e => by have := ((unhide OD).lt q hq).1; omega)) (fun x hx => liveD_sub hx) (liveD_asc (unhide HG))
    have oZ := own_base (base' := w.heap.size) ((unhide OZ).own (unhide OI) (fun q hq e => by have := ((unhide OI).lt q hq).1; omega)) (fun q hq => by have := ((unhide OI).lt q hq).1; omega)
    refine bodyPost_ret (results_cell_row Tryz.results10 _ wZ w.heap.size 28 _ (0, 0) _ rfl (unhide XR) Tryz.underlying28 rfl (by kernel_rfl)) rfl ⟨.inr ⟨unhide HIC, L, unhide HM, .inr ⟨unhide HLC, na, nc, da, dc, ra, rc, rfl, vN, vD, oZ, fun h => absurd h (by decide)⟩⟩, unhide BR⟩
end Go.Proofs.YtiopofemelninaaGreat
/-
  What (*image).newest answers.
-/
namespace Go.Proofs.YtiopofemelninaaGreat
open Go.RowKit
set_option linter.unusedVariables false

set_option maxHeartbeats 1000000 in
theorem thingOf_any (k u i e : Int) (w : World) :
    Calls Tryz.prog 53 #[.agg #[.int .i64 k, .int .i64 u, .int .i64 i, .int .i64 e]] w fun r w' => r = .returned (thingV (decide (k = 2)) u i) ∧ Below w.heap.size w w' := by
  have HD : Hid (decide (k = 2) = (k == 2)) := by cases h : (k == 2) <;> simp_all [Hid]
  go_enter Tryz.func53, Tryz.ntmps53
  go_wp2_with fail
  refine bodyPost_ret (v := thingV (k == 2) u i) (by simp [results, Tryz.results53, go_sem, thingV]) rfl ⟨by rw [unhide HD], ?_⟩
  exact ((Below.refl _ _).alloc (Nat.le_refl _) _).alloc (by simp) _
theorem zero_ver (w : World) : (zeroValue 46).run Tryz.prog w = .ok (verV verZ) w := by kernel_rfl
theorem zero_i64 (w : World) : (zeroValue 2).run Tryz.prog w = .ok (.int .i64 0) w := by kernel_rfl
theorem fldVer (ln k u i e nu : Int) (nd : Bool) (np : Int) (nn : ByteArray) (ns : Int) (v : Value) (w : World) : (Instr.field 46 (.agg #[.int .i64 ln, .int .i64 k, .int .i64 u, .int .i64 i, .int .i64 e, .int .i64 nu, .bool nd, .int .i64 np, .string nn, .int .i64 ns, v]) 1).run Tryz.prog w = .ok (.agg #[.int .i64 k, .int .i64 u, .int .i64 i, .int .i64 e, .int .i64 nu, .bool nd, .int .i64 np, .string nn, .int .i64 ns, v]) w := by kernel_rfl
theorem fldBlk (k u i e nu : Int) (nd : Bool) (np : Int) (nn : ByteArray) (ns : Int) (v : Value) (w : World) : (Instr.field 44 (.agg #[.int .i64 k, .int .i64 u, .int .i64 i, .int .i64 e, .int .i64 nu, .bool nd, .int .i64 np, .string nn, .int .i64 ns, v]) 0).run Tryz.prog w = .ok (.agg #[.int .i64 k, .int .i64 u, .int .i64 i, .int .i64 e]) w := by kernel_rfl
theorem fldHead (k u i e : Int) (w : World) : (Instr.field 40 (.agg #[.int .i64 k, .int .i64 u, .int .i64 i, .int .i64 e]) 3).run Tryz.prog w = .ok (.int .i64 e) w := by kernel_rfl
/-- What newest answers. -/
def NewIs (w : World) (base : Nat) (clock : Int) (L : List VerA) (e : Ending) : Prop :=
  (e = .returned (.tuple #[.map none, .int .i64 6]) ∧ ∃ i, ∃ h : i < L.length, toldB clock (L.take i) L[i] = true) ∨
  ((∃ b, e = .returned (.tuple #[.map (some b), .int .i64 0]) ∧ base ≤ b ∧ KMap 95 w b ((newM clock L).map entV)) ∧ ∀ i (h : i < L.length), toldB clock (L.take i) L[i] = false)
set_option maxRecDepth 20000 in
set_option maxHeartbeats 4000000 in
theorem newest_any (p : Nat) (clock : Int) (va : Option Addr) (vc : Nat) (fv : Value) (L : List VerA) (w : World) (h : ImgAt w p clock va vc fv L) (hn : L.length ≤ 1000) (hc : 0 ≤ clock ∧ clock ≤ 9999) (hg : ∀ x ∈ L, GoodB clock x.x.b) :
    Calls Tryz.prog 27 #[.pointer (some ⟨p, 0, none⟩)] w fun e w' => NewIs w' w.heap.size clock L e ∧ Below w.heap.size w w' := by
  have H := hide h
  have HG := hide hg
  have c1 := h.box.cell 1
  simp at c1
  have lp := h.box.lt
  clear h hg
  have hmm := @run_makeMap Tryz.prog
  go_enter Tryz.func27, Tryz.ntmps27
  go_wp2_with fail
  obtain ⟨W0, hW0⟩ : ∃ W0, (w.alloc (.map #[] 0)).alloc (.map #[] 0) = W0 := ⟨_, rfl⟩
  have hB0 : Below w.heap.size w W0 := by rw [← hW0]; exact ((Below.refl _ w).alloc (Nat.le_refl _) _).alloc (by simp) _
  have mA : KMap 98 W0 w.heap.size [] := by rw [← hW0]; exact ((KMap.made _ w).alloc _)
  have mN : KMap 95 W0 (w.heap.size + 1) [] := by
    have := KMap.made 95 (w.alloc (.map #[] 0))
    rwa [World.size_alloc, hW0] at this
  have HB0 := hide hB0
  have MA := hide mA
  have MN := hide mN
  rw [hW0]
  clear hW0 c1 hB0 mA mN
  go_loopw [19] (fun i wr => ∃ k : Nat, k ≤ L.length ∧ i = .int .i64 k ∧ Hid (Below w.heap.size w wr) ∧ Hid (KMap 98 wr w.heap.size (allM clock (L.take k))) ∧ Hid (KMap 95 wr (w.heap.size + 1) ((newM clock (L.take k)).map entV)) ∧ Hid (∀ i (h : i < L.length), i < k → toldB clock (L.take i) L[i] = false)) (fun i _ => L.length - (intOf i).toNat)
  case atStart => exact ⟨0, Nat.zero_le _, rfl, unhide HB0, unhide MA, unhide MN, fun i _ h => absurd h (Nat.not_lt_zero _)⟩
  case round =>
    obtain ⟨k, hk, rfl, HB, MA, MN, HT⟩ := hrel
    have hwz := (unhide HB).size
    by_cases hlt : k < L.length
    · obtain ⟨g, o, eg, hgl, hcell⟩ := ((unhide H).vers.below (unhide HB)).at hlt
      subst eg
      have k0 : (0 : Int) ≤ (k : Int) := by omega
      have k1 : (k : Int) < L.length := by omega
      have gd := (unhide HG) L[k] (List.getElem_mem hlt)
      have HCE := hide (hcell k hlt)
      have lA := (unhide MA).lt
      have lN := (unhide MN).lt
      clear hcell
      generalize hX : L[k] = X at *
      obtain ⟨ln, ⟨B, na, nc⟩⟩ := X
      have HX := hide hX
      clear hX
      go_wp2_with (first | (refine wpList_load_mid rfl 46 (.tmp 21) rfl g (o + k * 11) rfl [.int .i64 ln, .int .i64 B.k, .int .i64 B.u, .int .i64 B.i, .int .i64 B.e, .int .i64 B.nu, .bool B.nd, .int .i64 B.np, .string B.nn, .int .i64 B.ns, .slice na B.nl.length nc] _ (fun j v hv => unhide HCE j v hv) Tryz.underlying46 rfl (by kernel_rfl) ?_))
      obtain ⟨W, hW, z1, hb, hx, hxh⟩ : ∃ W, W = (wr.alloc (.cells #[.int .i64 ln, .int .i64 B.k, .int .i64 B.u, .int .i64 B.i, .int .i64 B.e, .int .i64 B.nu, .bool B.nd, .int .i64 B.np, .string B.nn, .int .i64 B.ns, .slice na B.nl.length nc] 46)).alloc (.cells #[.int .i64 B.k, .int .i64 B.u, .int .i64 B.i, .int .i64 B.e] 40) ∧ W.heap.size = wr.heap.size + 2 ∧ Below wr.heap.size wr W ∧ Hid (Box W wr.heap.size [.int .i64 ln, .int .i64 B.k, .int .i64 B.u, .int .i64 B.i, .int .i64 B.e, .int .i64 B.nu, .bool B.nd, .int .i64 B.np, .string B.nn, .int .i64 B.ns, .slice na B.nl.length nc] 46) ∧ Hid (Box W (wr.heap.size + 1) [.int .i64 B.k, .int .i64 B.u, .int .i64 B.i, .int .i64 B.e] 40) := by
        refine ⟨_, rfl, by simp, ((Below.refl _ _).alloc (Nat.le_refl _) _).alloc (by simp) _, (box_new wr _ _).alloc _, ?_⟩
        have := box_new (wr.alloc (.cells #[.int .i64 ln, .int .i64 B.k, .int .i64 B.u, .int .i64 B.i, .int .i64 B.e, .int .i64 B.nu, .bool B.nd, .int .i64 B.np, .string B.nn, .int .i64 B.ns, .slice na B.nl.length nc] 46)) [.int .i64 B.k, .int .i64 B.u, .int .i64 B.i, .int .i64 B.e] 40
        rwa [World.size_alloc] at this
      rw [← hW]
      clear hW
      refine (isSure_any p clock _ _ _ _ W ((((unhide H).below (unhide HB)).below hb).box.cell 0) hc.1 (by omega)).mono ?_
      rintro r w1 ⟨rfl, hb1⟩
      have z2 := hb1.size
      have HB1 := hide (below_step (unhide HB) (below_step hb hb1 (by omega)) (by omega))
      have HBr := hide (below_step hb hb1 (by omega))
      have X1 := hide ((unhide hx).below hb1)
      have Y1 := hide ((unhide hxh).below hb1)
      have MA1 := hide (((unhide MA).below hb).below hb1)
      have MN1 := hide (((unhide MN).below hb).below hb1)
      clear hx hxh hb hb1 MA MN HB H HCE
      have HSU : Hid ((decide (B.e ≤ clock - 2) = true) ∨ (decide (B.e ≤ clock - 2) = false)) := by cases decide (B.e ≤ clock - 2) <;> simp [Hid]
      rcases unhide HSU with hs | hs
      case inr =>
        have HS : Hid (¬ B.e ≤ clock - 2) := of_decide_eq_false hs
        rw [hs]
        clear hs
        go_wp2_with fail
        refine ⟨⟨k + 1, by omega, by go_num, unhide HB1, ?_, ?_, ?_⟩, by simp [intOf]; omega⟩
        · rw [allM_succ hlt, unhide HX, allStep, if_neg (Int.not_le.2 (unhide HS))]; exact unhide MA1
        · rw [newM_succ hlt, unhide HX, newStep, if_neg (Int.not_le.2 (unhide HS))]; exact unhide MN1
        · intro i h hi
          by_cases h2 : i < k
          · exact unhide HT i h h2
          · have h3 : i = k := by omega
            subst h3
            rw [unhide HX, toldB, decide_eq_false (Int.not_le.2 (unhide HS))]; rfl
      have HS := hide (of_decide_eq_true hs)
      rw [hs]
      clear hs
      go_upto_region 8 with fail
      go_cut [9] from 20 to 60 (fun s9 wx => ∃ bx, s9 = .pointer (some ⟨bx, 0, none⟩) ∧ Hid (Box wx bx [.bool (decide (B.k = 2)), .int .i64 B.u, .int .i64 B.i, .int .i64 B.e] 98) ∧ Hid (Below w1.heap.size w1 wx) ∧ w1.heap.size ≤ bx ∧ bx < wx.heap.size)
      case first =>
        have y0 := (unhide Y1).cell 0
        have y1 := (unhide Y1).cell 1
        have y2 := (unhide Y1).cell 2
        have y3 := (unhide Y1).cell 3
        simp at y0 y1 y2 y3
        have ly : wr.heap.size + 1 < w1.heap.size := by omega
        have BZ : Hid (Box (w1.alloc (.cells #[.bool false, .int .i64 0, .int .i64 0, .int .i64 0] 98)).drew w1.heap.size [.bool false, .int .i64 0, .int .i64 0, .int .i64 0] 98) := hide (box_new w1 [.bool false, .int .i64 0, .int .i64 0, .int .i64 0] _).drew
        have HSZ : Hid ((w1.alloc (.cells #[.bool false, .int .i64 0, .int .i64 0, .int .i64 0] 98)).drew.heap.size = w1.heap.size + 1) := hide (by show (w1.alloc (.cells #[.bool false, .int .i64 0, .int .i64 0, .int .i64 0] 98)).heap.size = _; simp)
        have BZW : Hid (Below w1.heap.size w1 (w1.alloc (.cells #[.bool false, .int .i64 0, .int .i64 0, .int .i64 0] 98)).drew) := hide ((Below.refl _ _).alloc (Nat.le_refl _) _).drew
        have CK : Hid (Calls Tryz.prog 53 #[.agg #[.int .i64 B.k, .int .i64 B.u, .int .i64 B.i, .int .i64 B.e]] w1.drew fun r w' => r = .returned (.agg #[.bool (decide (B.k = 2)), .int .i64 B.u, .int .i64 B.i]) ∧ Below w1.drew.heap.size w1.drew w') := thingOf_any _ _ _ _ _
        have CL : Hid (Calls Tryz.prog 53 #[.agg #[.int .i64 B.k, .int .i64 B.u, .int .i64 B.i, .int .i64 B.e]] (w1.alloc (.cells #[.bool false, .int .i64 0, .int .i64 0, .int .i64 0] 98)).drew fun r w' => r = .returned (.agg #[.bool (decide (B.k = 2)), .int .i64 B.u, .int .i64 B.i]) ∧ Below (w1.alloc (.cells #[.bool false, .int .i64 0, .int .i64 0, .int .i64 0] 98)).drew.heap.size (w1.alloc (.cells #[.bool false, .int .i64 0, .int .i64 0, .int .i64 0] 98)).drew w') := thingOf_any _ _ _ _ _
        go_region_with (first
          | (go_at_call 53; (with_reducible refine (unhide CK).mono ?_); rintro r w5 ⟨rfl, hb5⟩; have B5 := hide (below_step (Below.refl w1.heap.size w1).drew hb5 (Nat.le_refl _)); have z5 : w1.heap.size ≤ w5.heap.size := hb5.size; have q3 := ((unhide Y1).below (unhide B5)).cell 3; simp only [List.getElem?_cons_zero, List.getElem?_cons_succ] at q3; have lq : wr.heap.size + 1 < w5.heap.size := (by omega); clear hb5)
          | (go_at_call 53; (with_reducible refine (unhide CL).mono ?_); rintro r w5 ⟨rfl, hb5⟩; have B5 := hide (below_step (unhide BZW) hb5 (by rw [unhide HSZ]; omega)); have X5 := hide ((unhide BZ).below hb5); have z5 : w1.heap.size < w5.heap.size := (by have h5 := hb5.size; rw [unhide HSZ] at h5; omega); have x0 := (unhide X5).cell 0; have x1 := (unhide X5).cell 1; have x2 := (unhide X5).cell 2; have x3 := (unhide X5).cell 3; have y0 := (unhide X5).frozen 0; have y1 := (unhide X5).frozen 1; have y2 := (unhide X5).frozen 2; have y3 := (unhide X5).frozen 3; have q3 := ((unhide Y1).below (unhide B5)).cell 3; simp only [List.getElem?_cons_zero, List.getElem?_cons_succ] at x0 x1 x2 x3 q3; have lq : wr.heap.size + 1 < w5.heap.size := (by omega); clear hb5))
        all_goals go_wp2_with fail
        all_goals go_meet
        all_goals first
          | (have _t := X5; refine ⟨w1.heap.size, rfl, ?_⟩; generalize hU : (((w5.setCell _ _).setCell _ _).setCell _ _).setCell _ _ = U; obtain ⟨XU, OU⟩ := store4' (unhide X5) hU; exact ⟨XU, hide ((unhide OU).below (unhide B5) (Nat.le_refl _) (fun q hq e => by omega)), Nat.le_refl _, by have := (unhide OU).size; omega⟩)
          | exact ⟨w5.heap.size, rfl, hide (box_new w5 [.bool (decide (B.k = 2)), .int .i64 B.u, .int .i64 B.i, .int .i64 B.e] _), hide ((unhide B5).alloc z5 _), z5, by simp⟩
      case rest =>
      obtain ⟨bx, rfl, XM, HBc, hbx, hbz⟩ := hcut
      have zc := (unhide HBc).size
      have HB2 := hide (below_step (unhide HB1) (unhide HBc) (by omega))
      have X2 := hide ((unhide X1).below (unhide HBc))
      have Y2 := hide ((unhide Y1).below (unhide HBc))
      have MA2 := hide ((unhide MA1).below (unhide HBc))
      have MN2 := hide ((unhide MN1).below (unhide HBc))
      clear X1 Y1 MA1 MN1 HBc HB1 HBr
      have wu : (Lit.int .i64 B.u).wf = true := wf64 (by have := gd.u; omega)
      have wi : (Lit.int .i64 B.i).wf = true := wf64 (by have := gd.i; omega)
      have we : (Lit.int .i64 B.e).wf = true := wf64 (by have := gd.e; omega)
      have hl := KMap.look_ok (unhide MA2) lawMoment (allM_keysL _ _) Tryz.underlying92 (zero_i64 _) (keyMoment (decide (B.k = 2)) wu wi we)
      have m0 := (unhide XM).cell 0
      have m1 := (unhide XM).cell 1
      have m2 := (unhide XM).cell 2
      have m3 := (unhide XM).cell 3
      simp only [List.getElem?_cons_zero, List.getElem?_cons_succ] at m0 m1 m2 m3
      simp only [momentV] at hl
      have HTO : Hid (toldB clock (L.take k) L[k] = (lookL (allM clock (L.take k)) (momentL (decide (B.k = 2)) B.u B.i B.e)).isSome) := by
        rw [Hid, unhide HX, toldB, decide_eq_true (unhide HS), Bool.true_and]; rfl
      generalize hO : lookL (allM clock (L.take k)) (momentL (decide (B.k = 2)) B.u B.i B.e) = O at hl HTO
      clear hO
      cases O with
      | some v0 =>
        simp only [Option.getD_some, Option.isSome_some] at hl HTO
        go_wp2_with fail
        go_ret2
        exact ⟨.inl ⟨rfl, k, hlt, unhide HTO⟩, unhide HB2⟩
      | none =>
      simp only [Option.getD_none, Option.isSome_none] at hl HTO
      obtain ⟨w3, hput, hM3, hg3⟩ := KMap.put (unhide MA2) lawMoment Tryz.underlying92 (keyMoment (decide (B.k = 2)) wu wi we) (.int .i64 ln) (by have := allM_small clock (L.take k); rw [List.length_take] at this; unfold maxLen; omega)
      simp only [momentV] at hput
      have l0 := (unhide X2).cell 0
      simp only [List.getElem?_cons_zero] at l0
      go_upto_region 13 with fail
      have hne1 : ∀ q, q ≠ w.heap.size → some q ≠ some w.heap.size := fun q h1 e => h1 (by injection e)
      have z3 := hg3.size
      have HB3 : Hid (Below w.heap.size w w3) := (unhide HB2).grown hg3 (by omega) (fun j e => by injection e; omega)
      have Y3 := hide ((unhide Y2).grown hg3 (fun e => by injection e; omega))
      have XM3 := hide ((unhide XM).grown hg3 (fun e => by injection e; omega))
      have X3 := hide ((unhide X2).grown hg3 (fun e => by injection e; omega))
      have MN3 := hide ((unhide MN2).stay (hg3.block _ (unhide MN2).lt (hne1 _ (by omega))))
      have MA3 := hide hM3
      clear X2 Y2 MA2 MN2 XM HB2 hput hl m0 m1 m2 m3 l0 hg3 hM3
      have hl := fun n => KMap.look_in ((unhide MN3).below (below_drewN (Below.refl _ _) n)) lawThing (newM_keysV _ _).ent Tryz.underlying64 (zero_ver _) (keyThing (decide (B.k = 2)) wu wi)
      simp only [look_zero] at hl
      have HNS : Hid (newM clock (L.take (k + 1)) = if ((lookV (newM clock (L.take k)) (thingL (decide (B.k = 2)) B.u B.i)).getD verZ).x.b.e < B.e then (thingL (decide (B.k = 2)) B.u B.i, L[k]) :: newM clock (L.take k) else newM clock (L.take k)) := by
        rw [Hid, newM_succ hlt, newStep, unhide HX, if_pos (unhide HS)]; rfl
      have HAS : Hid (allM clock (L.take (k + 1)) = (momentL (decide (B.k = 2)) B.u B.i B.e, .int .i64 ln) :: allM clock (L.take k)) := by
        rw [Hid, allM_succ hlt, allStep, unhide HX, if_pos (unhide HS)]; rfl
      have HTN : Hid (∀ i (h : i < L.length), i < k + 1 → toldB clock (L.take i) L[i] = false) := fun i h hi => by
        by_cases h2 : i < k
        · exact unhide HT i h h2
        · have h3 : i = k := by omega
          subst h3
          exact unhide HTO
      generalize hO : (lookV (newM clock (L.take k)) (thingL (decide (B.k = 2)) B.u B.i)).getD verZ = O at hl HNS
      clear hO
      obtain ⟨oln, ⟨O, oa, oc⟩⟩ := O
      simp only [verV, VerA.cells, BlkA.cells, thingV] at hl HNS
      have m0 := (unhide XM3).cell 0
      have m1 := (unhide XM3).cell 1
      have m2 := (unhide XM3).cell 2
      have y3 := (unhide Y3).cell 3
      simp only [List.getElem?_cons_zero, List.getElem?_cons_succ] at m0 m1 m2 y3
      have f1 := fun w' => fldVer oln O.k O.u O.i O.e O.nu O.nd O.np O.nn O.ns (.slice oa O.nl.length oc) w'
      have f2 := fun w' => fldBlk O.k O.u O.i O.e O.nu O.nd O.np O.nn O.ns (.slice oa O.nl.length oc) w'
      have f3 := fun w' => fldHead O.k O.u O.i O.e w'
      go_quiet (fail)
      have HBN := hide (below_drewN (unhide HB3) nq)
      have MA4 := hide ((unhide MA3).below (below_drewN (Below.refl _ _) nq))
      have MN4 := hide ((unhide MN3).below (below_drewN (Below.refl _ _) nq))
      by_cases hcmp : O.e < B.e
      case neg =>
        have HN1 : Hid (newM clock (L.take (k + 1)) = newM clock (L.take k)) := by rw [Hid, unhide HNS, if_neg hcmp]
        have HCM := hide hcmp
        clear hl f1 f2 f3 m0 m1 m2 y3
        go_wp2_with fail
        refine ⟨⟨k + 1, by omega, by go_num, unhide HBN, ?_, ?_, unhide HTN⟩, by simp [intOf]; omega⟩
        · rw [unhide HAS]; exact unhide MA4
        · rw [unhide HN1]; exact unhide MN4
      have HN1 : Hid (newM clock (L.take (k + 1)) = (thingL (decide (B.k = 2)) B.u B.i, L[k]) :: newM clock (L.take k)) := by rw [Hid, unhide HNS, if_pos hcmp]
      obtain ⟨w4, hput, hM4, hg4⟩ := KMap.put (unhide MN4) lawThing Tryz.underlying64 (keyThing (decide (B.k = 2)) wu wi) (verV L[k]) (by have := newM_small clock (L.take k); rw [List.length_take] at this; rw [List.length_map]; unfold maxLen; omega)
      rw [unhide HX] at hput hM4
      simp only [verV, VerA.cells, BlkA.cells, thingV] at hput
      have x0 := (unhide X3).cell 0
      have x1 := (unhide X3).cell 1
      have x2 := (unhide X3).cell 2
      have x3 := (unhide X3).cell 3
      have x4 := (unhide X3).cell 4
      have x5 := (unhide X3).cell 5
      have x6 := (unhide X3).cell 6
      have x7 := (unhide X3).cell 7
      have x8 := (unhide X3).cell 8
      have x9 := (unhide X3).cell 9
      have x10 := (unhide X3).cell 10
      simp only [List.getElem?_cons_zero, List.getElem?_cons_succ] at x0 x1 x2 x3 x4 x5 x6 x7 x8 x9 x10
      have HB4 : Hid (Below w.heap.size w w4) := (unhide HBN).grown hg4 (by have := (unhide HBN).size; omega) (fun j e => by injection e; omega)
      have MA5 := hide ((unhide MA4).stay (hg4.block _ (unhide MA4).lt (fun e => by injection e; omega)))
      have MN5 := hide hM4
      clear hl f1 f2 f3 y3 hg4 hM4 MA4 MN4 MA3 MN3
      go_wp2_with fail
      refine ⟨⟨k + 1, by omega, by go_num, unhide HB4, ?_, ?_, unhide HTN⟩, by simp [intOf]; omega⟩
      · rw [unhide HAS]; exact unhide MA5
      · rw [unhide HN1, unhide HX]; exact unhide MN5
    · have hke : k = L.length := by omega
      have k1 : ¬ (k : Int) < L.length := by omega
      have HMN : Hid (KMap 95 wr (w.heap.size + 1) ((newM clock L).map entV)) := by
        have := unhide MN
        rw [List.take_of_length_le (by omega)] at this
        exact this
      have HTT : Hid (∀ i (h : i < L.length), toldB clock (L.take i) L[i] = false) := fun i h => unhide HT i h (by omega)
      clear MA MN HT hke
      go_wp2_with fail
      go_ret2
      exact ⟨.inr ⟨⟨w.heap.size + 1, rfl, by omega, unhide HMN⟩, unhide HTT⟩, unhide HB⟩
end Go.Proofs.YtiopofemelninaaGreat
/-
  Two rows of versions put together by slices.Concat.
-/
namespace Go.Proofs.YtiopofemelninaaGreat
open Go.RowKit
set_option linter.unusedVariables false

theorem wpList_append_runV {P : Program} {w w' : World} {ops : Array Oper} {rest : List Oper} {o : Oper} {a : Act} {Q : Exit → Act → World → Prop} (hgd : o.guard = none) (s x : Operand) (t t2 : TypeId)
    (ho : o.op = .call { callee := .builtin .append, args := #[s, x], argTypes := #[t, t2] }) (v xv v' : Value) (hs : a.eval s = v) (hx : a.eval x = xv) (hr : (Builtin.append_ #[t, t2] o.type #[v, xv]).run P w = .ok v' w') (h : wpList P ops Q rest (a.put o.dst v') w') :
    wpList P ops Q (o :: rest) a w := by
  refine wpList_plain hgd fun K hK => ?_
  unfold Oper.wp execOp
  simp only [ho, resolve, invoke, builtin, Sem.run_bind, Sem.run_pure, Result.andThen_ok, List.map_toArray, List.map_cons, List.map_nil, hs, hx, hr]
  exact hK _ _ h
set_option maxRecDepth 100000 in
set_option maxHeartbeats 1000000 in
theorem growV_any (n : Nat) (w : World) (hn : n ≤ 20000000) :
    Calls Tryz.prog 59 #[.slice none 0 0, .int .i64 n] w fun e w' => (∃ v, e = .returned v ∧ w'.ownsRow w.heap.size 46 11 v 0 []) ∧ Below w.heap.size w w' := by
  obtain ⟨i0, hi, hz0, hz1, hz2⟩ := info_parts infoVer
  by_cases h0 : n = 0
  · subst h0
    go_enter Tryz.func59, Tryz.ntmps59
    go_wp2
    go_ret
    exact ⟨⟨_, rfl, World.ownsRow_nil _ _ _ _⟩, Below.refl _ _⟩
  · have happ := fun ty => Lib.run_append_nil_zeros (P := Tryz.prog) w 26 3 ty 46 i0 _ .i64 .i64 Tryz.underlying26 Tryz.underlying3 hi hz0 n (by omega) (by rw [hz1]; decide) (by omega) (by rw [hz2]; omega)
    have hcap := grownCap_ge w n 0 46
    have hmax := grownCap_le_maxLen w n 0 46 (by unfold maxLen; omega)
    generalize hG : grownCap w n 0 46 = cap at *
    have n0 : ¬ (n : Int) < 0 := by omega
    have n1 : (0 : Int) < n := by omega
    clear hG hi
    obtain ⟨cur, hcur, hsz⟩ : ∃ cur : Array Value, cur = Builtin.zeroCells (Value.agg #[.int .i64 0, .int .i64 0, .int .i64 0, .int .i64 0, .int .i64 0, .int .i64 0, .bool false, .int .i64 0, .string ⟨#[]⟩, .int .i64 0, .slice none 0 0]).cells n ++ Builtin.zeroCells (Value.agg #[.int .i64 0, .int .i64 0, .int .i64 0, .int .i64 0, .int .i64 0, .int .i64 0, .bool false, .int .i64 0, .string ⟨#[]⟩, .int .i64 0, .slice none 0 0]).cells (cap - n) ∧ cur.size = cap * 11 := ⟨_, rfl, by rw [Array.size_append, size_zeroCells, size_zeroCells]; show n * 11 + (cap - n) * 11 = _; omega⟩
    rw [← hcur] at happ
    clear hcur
    have HB : Hid (Below w.heap.size w (w.drew.alloc (.cells cur 46))) := ((Below.refl _ w).drew).alloc (Nat.le_refl _) _
    have HO : Hid ((w.drew.alloc (.cells cur 46)).ownsRow w.heap.size 46 11 (.slice (some ⟨w.heap.size, 0, none⟩) 0 cap) 0 []) :=
      ⟨rfl, .inr ⟨w.heap.size, cap, cur, rfl, Nat.le_refl _, heap_alloc_new w.drew _, Nat.zero_le _, hmax, hsz, by simp⟩⟩
    clear hsz hmax
    go_enter Tryz.func59, Tryz.ntmps59
    go_wp2_with (at_builtin; refine wpList_append_runV rfl _ _ 26 3 rfl (.slice none 0 0) (.int .i64 n) _ rfl rfl (happ _) ?_)
    go_ret
    exact ⟨⟨_, rfl, unhide HO⟩, unhide HB⟩
set_option maxRecDepth 100000 in
set_option maxHeartbeats 2000000 in
theorem concatV_any (b : Nat) (a1 a2 : Option Addr) (c1 c2 : Nat) (l m : List VerA) (w : World) (q0 : w.cell? ⟨b, 0, none⟩ = some (.slice a1 l.length c1)) (q1 : w.cell? ⟨b, 1, none⟩ = some (.slice a2 m.length c2)) (h1 : RowAt w a1 (vflat l)) (h2 : RowAt w a2 (vflat m)) (n1 : l.length ≤ 1100000) (n2 : m.length ≤ 1100000) :
    Calls Tryz.prog 35 #[.slice (some ⟨b, 0, none⟩) 2 2] w fun e w' => (∃ a c, e = .returned (.slice a (l ++ m).length c) ∧ w'.ownsRow w.heap.size 46 11 (.slice a (l ++ m).length c) (l ++ m).length (vflat (l ++ m))) ∧ Below w.heap.size w w' := by
  obtain ⟨i0, hi, hz0, hz1, hz2⟩ := info_parts infoVer
  have hbl : b < w.heap.size := World.block_lt_of_cell? w _ q0
  have H1 := hide h1
  have H2 := hide h2
  clear h1 h2
  obtain ⟨N, hN⟩ : ∃ N : Nat, N = l.length + m.length := ⟨_, rfl⟩
  have HN := hide hN
  have hNb : N ≤ 2200000 := by omega
  clear hN
  go_enter Tryz.func35, Tryz.ntmps35
  go_wp2_with fail
  go_loop [3, 11] (fun s i => ∃ k : Nat, i = .int .i64 k ∧ ((k = 0 ∧ s = .int .i64 0) ∨ (k = 1 ∧ s = .int .i64 l.length) ∨ (k = 2 ∧ s = .int .i64 N))) (fun _ i => 2 - (intOf i).toNat)
  case atStart => exact ⟨0, rfl, .inl ⟨rfl, rfl⟩⟩
  case round =>
    obtain ⟨k, rfl, hk⟩ := hrel
    rcases hk with ⟨rfl, rfl⟩ | ⟨rfl, rfl⟩ | ⟨rfl, rfl⟩
    · have k1 : ¬ (l.length : Int) < 0 := by omega
      go_wp2_with fail
      go_round
      case rel => exact ⟨1, by go_num, .inr (.inl ⟨rfl, by go_num⟩)⟩
      case measure => simp [intOf]
    · have k1 : ¬ (l.length : Int) + m.length < 0 := by omega
      go_wp2_with fail
      go_round
      case rel => exact ⟨2, by go_num, .inr (.inr ⟨rfl, by have := unhide HN; go_num⟩)⟩
      case measure => simp [intOf]
    · go_wp2_with fail
      refine (growV_any N _ (by omega)).mono ?_
      rintro e w1 ⟨⟨v0, rfl, hO⟩, hb⟩
      have HB := hide hb
      have HO := hide hO
      clear hb hO
      go_wp2_with fail
      go_loopw [6, 27] (fun v i wr => ∃ k : Nat, i = .int .i64 k ∧ Hid (Below w.heap.size w wr) ∧ ((k = 0 ∧ Hid (wr.ownsRow w.heap.size 46 11 v 0 [])) ∨ (k = 1 ∧ Hid (wr.ownsRow w.heap.size 46 11 v l.length (vflat l))) ∨ (k = 2 ∧ ∃ a c, v = .slice a (l ++ m).length c ∧ Hid (wr.ownsRow w.heap.size 46 11 (.slice a (l ++ m).length c) (l ++ m).length (vflat (l ++ m)))))) (fun _ i _ => 2 - (intOf i).toNat)
      case atStart => exact ⟨0, rfl, HB, .inl ⟨rfl, HO⟩⟩
      case round =>
        obtain ⟨k, rfl, HBr, hk⟩ := hrel
        have zr := (unhide HBr).size
        have r0 := ((bcell (unhide HBr)).1 b 0 hbl).trans q0
        have r1 := ((bcell (unhide HBr)).1 b 1 hbl).trans q1
        have P1 := hide ((unhide H1).below (unhide HBr))
        have P2 := hide ((unhide H2).below (unhide HBr))
        rcases hk with ⟨rfl, HR⟩ | ⟨rfl, HR⟩ | ⟨rfl, a, c, rfl, HR⟩
        · go_wp2_with (at_builtin; refine wpList_append_xs _ rfl _ _ 26 rfl w.heap.size 46 i0 _ 11 112 Tryz.underlying26 hi hz0 hz1 hz2 rfl (by decide) (by decide) _ 0 [] rfl (unhide HR) a1 l.length c1 (vflat l) rfl (vflat_len l) (unhide P1) (vflat_one l) (by omega) zr ?_; intro v' w3 hown hgrow hloc; have HR3 := hide hown; have HB3 := hide ((unhide HBr).grown hgrow zr (fun q hq => ((unhide HR).lt q hq).1)); clear hown hgrow)
          go_roundw
          case rel => exact ⟨1, by go_num, HB3, .inr (.inl ⟨rfl, hide (by simpa using unhide HR3)⟩)⟩
          case measure => simp [intOf]
        · go_wp2_with (at_builtin; refine wpList_append_xs _ rfl _ _ 26 rfl w.heap.size 46 i0 _ 11 112 Tryz.underlying26 hi hz0 hz1 hz2 rfl (by decide) (by decide) _ l.length (vflat l) rfl (unhide HR) a2 m.length c2 (vflat m) rfl (vflat_len m) (unhide P2) (vflat_one m) (by omega) zr ?_; intro v' w3 hown hgrow hloc; have HR3 : Hid (w3.ownsRow w.heap.size 46 11 v' (l ++ m).length (vflat (l ++ m))) := (by rw [List.length_append, vflat_append]; exact hown); have HB3 := hide ((unhide HBr).grown hgrow zr (fun q hq => ((unhide HR).lt q hq).1)); clear hown hgrow)
          go_roundw
          case rel =>
            obtain ⟨a, c, e, -⟩ := rowAt_own (unhide HR3)
            exact ⟨2, by go_num, HB3, .inr (.inr ⟨rfl, a, c, e, by rw [← e]; exact HR3⟩)⟩
          case measure => simp [intOf]
        · go_wp2_with fail
          go_ret
          exact ⟨⟨a, c, rfl, unhide HR⟩, unhide HBr⟩
end Go.Proofs.YtiopofemelninaaGreat
/-
  What linesBut answers.
-/
namespace Go.Proofs.YtiopofemelninaaGreat
open Go.RowKit
set_option linter.unusedVariables false

def butOf (live L : List VerA) : List Int := (linesOf L).filter fun l => !decide (l ∈ linesOf live)
theorem butOf_dead (N D L : List VerA) : butOf (N ++ D) L = deadOf N D L := by simp [butOf, deadOf, linesOf]
theorem but_succ {live L : List VerA} {i : Nat} (hi : i < L.length) : butOf live (L.take (i + 1)) = butOf live (L.take i) ++ (if (!decide (L[i].line ∈ linesOf live)) = true then [L[i].line] else []) := by
  have hm : linesOf (L.take (i + 1)) = linesOf (L.take i) ++ [L[i].line] := by rw [List.take_succ_eq_append_getElem hi, linesOf, List.map_append]; rfl
  rw [butOf, hm, List.filter_append, butOf]
  congr 1
  generalize linesOf live = K
  cases h : decide (L[i].line ∈ K) <;> simp [h]
theorem but_len (live L : List VerA) : (butOf live L).length ≤ L.length := Nat.le_trans (List.length_filter_le _ _) (by simp [linesOf])
set_option maxHeartbeats 1000000 in
theorem isHere_any (x : VerA) (bx : Nat) (line : Int) (w : World) (h : w.cell? ⟨bx, 0, none⟩ = some (.int .i64 line)) :
    Calls Tryz.prog 57 #[verV x, .pointer (some ⟨bx, 0, none⟩)] w fun e w' => e = .returned (.bool (x.line == line)) ∧ Below w.heap.size w w' := by
  have hlt : bx < w.heap.size := World.block_lt_of_cell? w _ h
  obtain ⟨ln, ⟨B, na, nc⟩⟩ := x
  simp only [verV, VerA.cells, BlkA.cells]
  go_enter Tryz.func57, Tryz.ntmps57
  go_wp2_with fail
  go_ret
  exact ⟨rfl, (Below.refl _ _).alloc (Nat.le_refl _) _⟩
set_option maxRecDepth 20000 in
set_option maxHeartbeats 2000000 in
theorem indexFunc_any (a : Option Addr) (c : Nat) (L : List VerA) (bx : Nat) (line : Int) (w : World) (h : VersAt w a L) (hn : L.length ≤ 1048576) (hb : w.cell? ⟨bx, 0, none⟩ = some (.int .i64 line)) :
    Calls Tryz.prog 87 #[.slice a L.length c, .func (.func 57) #[] #[.pointer (some ⟨bx, 0, none⟩)]] w fun e w' => (∃ r : Int, e = .returned (.int .i64 r) ∧ (0 ≤ r ↔ line ∈ linesOf L)) ∧ Below w.heap.size w w' := by
  have hlt : bx < w.heap.size := World.block_lt_of_cell? w _ hb
  have H := hide h
  have HBX := hide hb
  clear h hb
  go_enter Tryz.func87, Tryz.ntmps87
  go_wp2_with fail
  go_loopw [8] (fun i wr => ∃ k : Nat, k ≤ L.length ∧ i = .int .i64 k ∧ Hid (Below w.heap.size w wr) ∧ Hid (∀ x ∈ L.take k, x.line ≠ line)) (fun i _ => L.length - (intOf i).toNat)
  case atStart => exact ⟨0, Nat.zero_le _, rfl, Below.refl _ _, fun x hx => by simp at hx⟩
  case round =>
    obtain ⟨k, hk, rfl, HB, HN⟩ := hrel
    have hwz := (unhide HB).size
    by_cases hkl : k < L.length
    · obtain ⟨g, o, eg, hgl, hcell⟩ := ((unhide H).below (unhide HB)).at hkl
      subst eg
      have k0 : (0 : Int) ≤ (k : Int) := by omega
      have k1 : (k : Int) < L.length := by omega
      have HCE := hide (hcell k hkl)
      have HTK := hide (List.take_succ_eq_append_getElem hkl)
      have HMM := hide (List.getElem_mem hkl)
      clear hcell
      generalize hX : L[k] = X at *
      clear hX
      obtain ⟨ln, ⟨B, na, nc⟩⟩ := X
      go_wp2_with (first | (refine wpList_load_mid rfl 46 (.tmp 14) rfl g (o + k * 11) rfl [.int .i64 ln, .int .i64 B.k, .int .i64 B.u, .int .i64 B.i, .int .i64 B.e, .int .i64 B.nu, .bool B.nd, .int .i64 B.np, .string B.nn, .int .i64 B.ns, .slice na B.nl.length nc] _ (fun j v hv => unhide HCE j v hv) Tryz.underlying46 rfl (by kernel_rfl) ?_))
      refine (isHere_any ⟨ln, ⟨B, na, nc⟩⟩ bx line _ (((unhide HB).cell (p := ⟨bx, 0, none⟩) hlt).trans (unhide HBX))).mono ?_
      rintro e w1 ⟨rfl, hb1⟩
      have HB1 := hide (below_step (unhide HB) hb1 hwz)
      clear hb1 HB
      by_cases heq : ln = line
      · have heqb : (ln == line) = true := by simpa using heq
        have HM : Hid (line ∈ linesOf L) := by
          rw [Hid, ← heq]
          exact List.mem_map.2 ⟨_, unhide HMM, rfl⟩
        clear heq
        go_wp2_with fail
        go_ret
        exact ⟨⟨k, rfl, ⟨fun _ => unhide HM, fun _ => by omega⟩⟩, unhide HB1⟩
      · have heqb : (ln == line) = false := by simpa using heq
        have HN2 : Hid (∀ x ∈ L.take (k + 1), x.line ≠ line) := by
          intro x hx
          rw [unhide HTK] at hx
          rcases List.mem_append.1 hx with hx | hx
          · exact unhide HN x hx
          · rcases List.mem_singleton.1 hx with rfl
            exact heq
        clear heq
        go_wp2_with fail
        exact ⟨⟨k + 1, by omega, by go_num, unhide HB1, unhide HN2⟩, by simp [intOf]; omega⟩
    · have k1 : ¬ (k : Int) < L.length := by omega
      have HM : Hid (line ∉ linesOf L) := by
        intro hm
        obtain ⟨x, hx, e⟩ := List.mem_map.1 hm
        exact unhide HN x (by rw [List.take_of_length_le (by omega)]; exact hx) e
      go_wp2_with fail
      go_ret
      exact ⟨⟨-1, rfl, ⟨fun h => absurd h (by decide), fun h => absurd h (unhide HM)⟩⟩, unhide HB⟩
set_option maxHeartbeats 2000000 in
theorem containsFunc_any (a : Option Addr) (c : Nat) (L : List VerA) (bx : Nat) (line : Int) (w : World) (h : VersAt w a L) (hn : L.length ≤ 1048576) (hb : w.cell? ⟨bx, 0, none⟩ = some (.int .i64 line)) :
    Calls Tryz.prog 58 #[.slice a L.length c, .func (.func 57) #[] #[.pointer (some ⟨bx, 0, none⟩)]] w fun e w' => e = .returned (.bool (decide (line ∈ linesOf L))) ∧ Below w.heap.size w w' := by
  have hcon := indexFunc_any a c L bx line w h hn hb
  clear h hb
  go_enter Tryz.func58, Tryz.ntmps58
  go_wp2_with fail
  refine hcon.mono ?_
  rintro e w1 ⟨⟨r, rfl, hr⟩, hb1⟩
  have HB := hide hb1
  have HR : Hid (decide (0 ≤ r) = decide (line ∈ linesOf L)) := decide_eq_decide.2 hr
  clear hb1 hcon hr
  go_wp2_with fail
  go_ret
  exact ⟨by rw [← unhide HR]; rfl, unhide HB⟩
set_option maxRecDepth 20000 in
set_option maxHeartbeats 2000000 in
theorem linesBut_any (p : Nat) (clock : Int) (va : Option Addr) (vc : Nat) (fv : Value) (L : List VerA) (a : Option Addr) (c : Nat) (live : List VerA) (w : World) (h : ImgAt w p clock va vc fv L) (h2 : VersAt w a live) (hn : L.length ≤ 1000) (hm : live.length ≤ 1048576) :
    Calls Tryz.prog 34 #[.pointer (some ⟨p, 0, none⟩), .slice a live.length c] w fun e w' => (∃ (ra : Option Addr) (rc : Nat), e = .returned (.slice ra (butOf live L).length rc) ∧ w'.ownsRow w.heap.size 2 1 (.slice ra (butOf live L).length rc) (butOf live L).length (nums (butOf live L))) ∧ Below w.heap.size w w' := by
  obtain ⟨i0, hii, hz0, hz1, hz2⟩ := info_parts infoInt64
  have H := hide h
  have H2 := hide h2
  have c1 := h.box.cell 1
  simp at c1
  have lp := h.box.lt
  clear h h2
  go_enter Tryz.func34, Tryz.ntmps34
  go_wp2_with fail
  clear c1
  go_loopw [5, 14] (fun v5 i wr => ∃ k : Nat, k ≤ L.length ∧ i = .int .i64 k ∧ Hid (Below w.heap.size w wr) ∧ ∃ (ra : Option Addr) (rc : Nat), v5 = .slice ra (butOf live (L.take k)).length rc ∧ Hid (wr.ownsRow w.heap.size 2 1 (.slice ra (butOf live (L.take k)).length rc) (butOf live (L.take k)).length (nums (butOf live (L.take k))))) (fun _ i _ => L.length - (intOf i).toNat)
  case atStart => exact ⟨0, Nat.zero_le _, rfl, Below.refl _ _, none, 0, rfl, World.ownsRow_nil _ _ _ _⟩
  case round =>
    obtain ⟨k, hk, rfl, HB, ra, rc, rfl, HO⟩ := hrel
    have hwz := (unhide HB).size
    by_cases hkl : k < L.length
    · obtain ⟨g, o, eg, hgl, hcell⟩ := ((unhide H).vers.below (unhide HB)).at hkl
      subst eg
      have k0 : (0 : Int) ≤ (k : Int) := by omega
      have k1 : (k : Int) < L.length := by omega
      have HCE := hide (hcell k hkl)
      have HS := hide (but_succ (live := live) hkl)
      have hbl := but_len live (L.take k)
      rw [List.length_take] at hbl
      clear hcell
      generalize hX : L[k] = X at *
      obtain ⟨ln, ⟨B, na, nc⟩⟩ := X
      clear hX
      generalize hK : butOf live (L.take k) = K at *
      clear hK
      have HA := hide ((unhide HB).alloc hwz (.cells #[.int .i64 ln, .int .i64 B.k, .int .i64 B.u, .int .i64 B.i, .int .i64 B.e, .int .i64 B.nu, .bool B.nd, .int .i64 B.np, .string B.nn, .int .i64 B.ns, .slice na B.nl.length nc] 46))
      have HXB := hide (box_new wr [.int .i64 ln, .int .i64 B.k, .int .i64 B.u, .int .i64 B.i, .int .i64 B.e, .int .i64 B.nu, .bool B.nd, .int .i64 B.np, .string B.nn, .int .i64 B.ns, .slice na B.nl.length nc] 46)
      have HOA := hide (own_below (unhide HO) ((Below.refl _ wr).alloc (Nat.le_refl _) (.cells #[.int .i64 ln, .int .i64 B.k, .int .i64 B.u, .int .i64 B.i, .int .i64 B.e, .int .i64 B.nu, .bool B.nd, .int .i64 B.np, .string B.nn, .int .i64 B.ns, .slice na B.nl.length nc] 46)))
      clear HO
      go_wp2_with (first | (refine wpList_load_mid rfl 46 (.tmp 16) rfl g (o + k * 11) rfl [.int .i64 ln, .int .i64 B.k, .int .i64 B.u, .int .i64 B.i, .int .i64 B.e, .int .i64 B.nu, .bool B.nd, .int .i64 B.np, .string B.nn, .int .i64 B.ns, .slice na B.nl.length nc] _ (fun j v hv => unhide HCE j v hv) Tryz.underlying46 rfl (by kernel_rfl) ?_))
      refine (containsFunc_any a c live wr.heap.size ln _ ((unhide H2).below (unhide HA)) hm ((unhide HXB).cell 0)).mono ?_
      rintro e w1 ⟨rfl, hb1⟩
      have hsz : (wr.alloc (.cells #[.int .i64 ln, .int .i64 B.k, .int .i64 B.u, .int .i64 B.i, .int .i64 B.e, .int .i64 B.nu, .bool B.nd, .int .i64 B.np, .string B.nn, .int .i64 B.ns, .slice na B.nl.length nc] 46)).heap.size = wr.heap.size + 1 := by simp
      have z1 := hb1.size
      rw [hsz] at z1
      have HB1 := hide (below_step (unhide HA) hb1 (unhide HA).size)
      have HX1 := hide ((unhide HXB).below hb1)
      have HO1 := hide (own_below (unhide HOA) hb1)
      clear hb1 HA HXB HOA HCE hsz
      have x0 := (unhide HX1).cell 0
      simp only [List.getElem?_cons_zero] at x0
      cases hd : decide (ln ∈ linesOf live)
      · have HS2 : Hid (butOf live (L.take (k + 1)) = K ++ [ln]) := by rw [Hid, unhide HS]; simp [hd]
        clear hd
        have HA1 := hide ((unhide HB1).alloc (unhide HB1).size (.cells #[.int .i64 ln] 2))
        have HOA := hide (own_below (unhide HO1) ((Below.refl _ w1).alloc (Nat.le_refl _) (.cells #[.int .i64 ln] 2)))
        have RA := hide (rowAt_fresh w1 [.int .i64 ln] 2)
        have hz1' : w.heap.size ≤ (w1.alloc (.cells #[.int .i64 ln] 2)).heap.size := (unhide HA1).size
        have HZ := hide hz1'
        clear hz1' HO1 HB1 HS
        go_wp2_with (at_builtin; refine wpList_append_xs _ rfl _ _ 24 rfl w.heap.size 2 i0 _ 1 8 Tryz.underlying24 hii hz0 hz1 hz2 rfl (by decide) (by decide) (.slice ra K.length rc) K.length (nums K) rfl (unhide HOA) _ 1 1 (nums [ln]) rfl rfl (unhide RA) (by simp [nums, Value.oneCell']) (by omega) (unhide HZ) ?_; intro v' w6 hown hgrow hloc; obtain ⟨a3, c3, e3, -⟩ := rowAt_own hown; subst e3; have HOW := hide hown; have HGR := hide hgrow; clear hown hgrow hloc)
        have HB6 : Hid (Below w.heap.size w w6) := (unhide HA1).grown (unhide HGR) (unhide HZ) (fun q hq => ((unhide HOA).lt q hq).1)
        have hl6 : (butOf live (L.take (k + 1))).length = K.length + 1 := by rw [unhide HS2]; simp
        refine ⟨⟨k + 1, by omega, by go_num, unhide HB6, a3, c3, by rw [hl6], ?_⟩, by simp [intOf]; omega⟩
        show w6.ownsRow _ _ _ _ _ _
        rw [hl6, unhide HS2, nums_append]
        exact unhide HOW
      · have HS2 : Hid (butOf live (L.take (k + 1)) = K) := by rw [Hid, unhide HS]; simp [hd]
        clear hd
        go_wp2_with fail
        exact ⟨⟨k + 1, by omega, by go_num, unhide HB1, ra, rc, by rw [unhide HS2], by rw [unhide HS2]; exact unhide HO1⟩, by simp [intOf]; omega⟩
    · have hke : k = L.length := by omega
      have k1 : ¬ (k : Int) < L.length := by omega
      have HT : Hid (butOf live (L.take k) = butOf live L) := by rw [Hid, List.take_of_length_le (by omega)]
      clear hke
      rw [unhide HT] at HO ⊢
      go_wp2_with fail
      go_ret
      exact ⟨⟨ra, rc, rfl, unhide HO⟩, unhide HB⟩
end Go.Proofs.YtiopofemelninaaGreat
/-
  What impl.LiveOf answers.
-/
namespace Go.Proofs.YtiopofemelninaaGreat
open Go.RowKit
set_option linter.unusedVariables false

set_option maxRecDepth 20000 in
set_option maxHeartbeats 4000000 in
theorem implLiveOf_any (a : Option Addr) (c : Nat) (ws : List Int) (w : World) (h : IntsAt w a ws) (hcl : ws.length ≤ c) (hcm : c ≤ 10000000) (hn : ws.length ≤ 1048576) :
    Calls Tryz.prog 7 #[.slice a ws.length c] w fun e w' => LiveO true w' w.heap.size ws e ∧ Below w.heap.size w w' := by
  have H := hide h
  clear h
  go_enter Tryz.func7, Tryz.ntmps7
  go_wp2_with fail
  obtain ⟨W, hW, z1, hb, hx⟩ := boxes1 w [.int .i64 0, .int .i64 0, .slice none 0 0, .slice none 0 0, .slice none 0 0] 28
  rw [← hW]
  clear hW
  refine (implImageOf_any a c ws _ ((unhide H).below (unhide hb)) hcl hcm (by omega)).mono ?_
  rintro e w2 ⟨⟨v, fv, L, rfl, hV, hF, hsep, hM⟩, hb2⟩
  have z2 := hb2.size
  obtain ⟨va, vc, ev⟩ := hV.form
  obtain ⟨fa, fc, ef, -⟩ := rowAt_own hF
  subst ev ef
  have hz0 : w.heap.size < w2.heap.size := by omega
  obtain ⟨W3, hW3, z3, hb3, hx3⟩ := boxes1 w2 [.int .i64 (imgClk ws), .slice va L.length vc, .slice fa (imgFree ws).length fc] 61
  have B3 := hide (below_step (below_step (unhide hb) hb2 (by omega)) (unhide hb3) (by omega))
  have X3 := hide (((unhide hx).below hb2).below (unhide hb3))
  have V3 := hide (hV.below (unhide hb3))
  have HM := hide hM
  have I3 : Hid (ImgAt W3 w2.heap.size (imgClk ws) va vc (.slice fa (imgFree ws).length fc) L) := ⟨unhide hx3, hV.vers.below (unhide hb3)⟩
  clear hb2 hb3 hx hx3 hV hF hsep hM
  by_cases hic : imgCode ws = 0
  case neg =>
    have hcb : (imgCode ws != 0) = true := by simpa using hic
    have HI := hide hic
    clear hic
    generalize hcd : imgCode ws = cd at *
    have HCD := hide hcd
    clear hcd
    go_upto_region 2 with fail
    rw [← hW3]
    clear hW3
    go_wp2_with (refine wpList_store_part rfl 28 (.tmp 2) (.tmp 18) rfl w.heap.size 0 _ rfl rfl 28 _ (unhide X3) (by kernel_rfl) (by simp) (by simp [Value.oneCell']) ?_; intro wZ XZ OZ)
    have XR : Hid (Box wZ w.heap.size [.int .i64 cd, .int .i64 0, .slice none 0 0, .slice none 0 0, .slice none 0 0] 28) := XZ
    have BR : Hid (Below w.heap.size w wZ) := (unhide OZ).below (unhide B3) (Nat.le_refl _) (fun q hq e => by omega)
    refine bodyPost_ret (results_cell_row Tryz.results7 _ wZ w.heap.size 28 _ (0, 0) _ rfl (unhide XR) Tryz.underlying28 rfl (by kernel_rfl)) rfl ⟨.inl ⟨by rw [unhide HCD]; exact unhide HI, by rw [unhide HCD]; rfl⟩, unhide BR⟩
  have hgood : ∀ x ∈ L, GoodB (clockVal ws) x.x.b := fun x hx => imgVers_good x.ver (by rw [← unhide HM]; exact List.mem_map_of_mem hx)
  have hname : ∀ x ∈ L, x.x.b.nn.size ≤ maxLen := fun x hx => imgVers_name x.ver (by rw [← unhide HM]; exact List.mem_map_of_mem hx)
  have hck : clockCode ws = 0 := by
    by_cases h0 : clockCode ws = 0
    · exact h0
    · rw [imgCode, if_neg h0] at hic; exact absurd hic h0
  obtain ⟨hv1, hv2, hsz⟩ := clockVal_bounds hck
  have hLl : L.length ≤ 1000 := by
    have h1 := congrArg List.length (unhide HM)
    rw [List.length_map] at h1
    have h2 : (imgVers ws).length ≤ ws.length := imgVers_len ws
    have h3 : ws.length ≤ 328 := by simp [sizeOk] at hsz; omega
    omega
  have hclk : imgClk ws = clockVal ws := if_pos hic
  have HG := hide hgood
  have HNM := hide hname
  have HIC := hide hic
  rw [hic]
  rw [hclk] at I3 hW3 ⊢
  clear hgood hname hic hck hclk hsz
  generalize hclv : clockVal ws = clk at *
  have HCLV := hide hclv
  clear hclv
  go_upto_region 2 with fail
  rw [← hW3]
  clear hW3
  go_wp2_with fail
  refine (newest_any w2.heap.size clk va vc _ L _ (unhide I3) hLl ⟨by omega, by omega⟩ (unhide HG)).mono ?_
  rintro e w4 ⟨hN, hb4⟩
  have z4 := hb4.size
  have B4 := hide (below_step (unhide B3) hb4 (by omega))
  have X4 := hide ((unhide X3).below hb4)
  have I4 := hide ((unhide I3).below hb4)
  have V4 := hide ((unhide V3).below hb4)
  have HLT : Hid (∀ q, VB (.slice va L.length vc) L q → q < w4.heap.size) := fun q hq => ((unhide V4).lt hq).2
  clear hb4 B3 X3 I3 V3
  rcases hN with ⟨rfl, hdup⟩ | ⟨⟨bm, rfl, hbm, hKM⟩, hnd⟩
  · have HLC : Hid (liveCode clk L = 6) := live_dup (unhide HG) hdup
    clear hdup
    go_wp2_with (refine wpList_store_part rfl 28 (.tmp 2) (.tmp 26) rfl w.heap.size 0 _ rfl rfl 28 _ (unhide X4) (by kernel_rfl) (by simp) (by simp [Value.oneCell']) ?_; intro wZ XZ OZ)
    have XR : Hid (Box wZ w.heap.size [.int .i64 6, .int .i64 0, .slice none 0 0, .slice none 0 0, .slice none 0 0] 28) := XZ
    have BR : Hid (Below w.heap.size w wZ) := (unhide OZ).below (unhide B4) (Nat.le_refl _) (fun q hq e => by omega)
    have VZ := ((unhide V4).out (unhide OZ) (fun q hq e => by have := ((unhide V4).lt hq).1; omega)).base (base' := w.heap.size) (by omega)
    refine bodyPost_ret (results_cell_row Tryz.results7 _ wZ w.heap.size 28 _ (0, 0) _ rfl (unhide XR) Tryz.underlying28 rfl (by kernel_rfl)) rfl ⟨.inr ⟨unhide HIC, L, unhide HM, .inl ?_⟩, unhide BR⟩
    rw [unhide HCLV, unhide HLC]
    exact ⟨by decide, rfl⟩
  have HND := hide hnd
  have M4 := hide hKM
  have hml := newM_small clk L
  clear hKM hnd
  go_wp2_with fail
  refine (nodesAmong_any bm (newM clk L) _ (unhide M4) (newM_keysV _ _) (by omega)).mono ?_
  rintro e w5 ⟨⟨na, nc, N, rfl, hON, hPN⟩, hb5⟩
  have hNe := nodes_is (unhide HG) hPN
  clear hPN
  subst hNe
  have hNl := liveN_len (clock := clk) (L := L)
  have z5 := hb5.size
  have B5 := hide (below_step (unhide B4) hb5 (by omega))
  have X5 := hide ((unhide X4).below hb5)
  have I5 := hide ((unhide I4).below hb5)
  have V5 := hide ((unhide V4).below hb5)
  have M5 := hide ((unhide M4).below hb5)
  have ON5 := hide hON
  have HNB := hide (fun q hq => (unhide ON5).lt q hq)
  have HGN := hide (live_good (unhide HG))
  clear hb5 B4 X4 I4 V4 M4 hON
  go_wp2_with fail
  refine (nodesByUid_any na nc (liveN clk L) _ (own_versAt rfl (unhide ON5)) (by omega) (fun x hx => ((unhide HGN).nums x hx).1)).mono ?_
  rintro e w6 ⟨⟨bt, rfl, hbt, hT⟩, hb6⟩
  have z6 := hb6.size
  have B6 := hide (below_step (unhide B5) hb6 (by omega))
  have X6 := hide ((unhide X5).below hb6)
  have I6 := hide ((unhide I5).below hb6)
  have V6 := hide ((unhide V5).below hb6)
  have M6 := hide ((unhide M5).below hb6)
  have ON6 := hide (own_below (unhide ON5) hb6)
  have T6 := hide hT
  clear hb6 B5 X5 I5 V5 M5 ON5 hT
  go_wp2_with fail
  refine (datasAmong_any bm (newM clk L) bt (treeM (liveN clk L)) _ (unhide M6) (newM_keysV _ _) (by omega) (unhide T6) (treeM_keys _) (fun p hp => ?_)).mono ?_
  · have := (unhide HG p.2 (newM_of hp)).u
    omega
  rintro e w7 ⟨⟨da, dc, D, rfl, hOD, hPD⟩, hb7⟩
  have hDe := datas_is (unhide HG) hPD
  clear hPD
  subst hDe
  have hDl := liveD_len (clock := clk) (L := L)
  have z7 := hb7.size
  have B7 := hide (below_step (unhide B6) hb7 (by omega))
  have X7 := hide ((unhide X6).below hb7)
  have I7 := hide ((unhide I6).below hb7)
  have V7 := hide ((unhide V6).below hb7)
  have ON7 := hide (own_below (unhide ON6) hb7)
  have OD7 := hide hOD
  have HDB := hide (fun q hq => (unhide OD7).lt q hq)
  have T7 := hide ((unhide T6).below hb7)
  clear hb7 B6 X6 I6 V6 M6 ON6 hOD T6
  go_wp2_with fail
  refine (isRooted_any bt (treeM (liveN clk L)) _ (unhide T7) (treeM_keys _) (fun p hp => ?_)).mono ?_
  · obtain ⟨x, hx, rfl⟩ := treeM_mem hp
    exact ((unhide HGN).nums x hx).2.1
  rintro e w8 ⟨⟨r, rfl, hr⟩, hb8⟩
  have z8 := hb8.size
  have B8 := hide (below_step (unhide B7) hb8 (by omega))
  have X8 := hide ((unhide X7).below hb8)
  have I8 := hide ((unhide I7).below hb8)
  have V8 := hide ((unhide V7).below hb8)
  have ON8 := hide (own_below (unhide ON7) hb8)
  have OD8 := hide (own_below (unhide OD7) hb8)
  have HLC := hide (live_code (unhide HG) (unhide HNM) (unhide HND) hr)
  clear hb8 B7 X7 I7 V7 ON7 OD7 T7 hr
  cases r
  case false =>
    have HL8 : Hid (liveCode clk L = 8) := unhide HLC
    go_wp2_with (refine wpList_store_part rfl 28 (.tmp 2) (.tmp 48) rfl w.heap.size 0 _ rfl rfl 28 _ (unhide X8) (by kernel_rfl) (by simp) (by simp [Value.oneCell']) ?_; intro wZ XZ OZ)
    have XR : Hid (Box wZ w.heap.size [.int .i64 8, .int .i64 0, .slice none 0 0, .slice none 0 0, .slice none 0 0] 28) := XZ
    have BR : Hid (Below w.heap.size w wZ) := (unhide OZ).below (unhide B8) (Nat.le_refl _) (fun q hq e => by omega)
    have VZ := ((unhide V8).out (unhide OZ) (fun q hq e => by have := ((unhide V8).lt hq).1; omega)).base (base' := w.heap.size) (by omega)
    refine bodyPost_ret (results_cell_row Tryz.results7 _ wZ w.heap.size 28 _ (0, 0) _ rfl (unhide XR) Tryz.underlying28 rfl (by kernel_rfl)) rfl ⟨.inr ⟨unhide HIC, L, unhide HM, .inl ?_⟩, unhide BR⟩
    rw [unhide HCLV, unhide HL8]
    exact ⟨by decide, rfl⟩
  go_wp2_with fail
  refine (isNamedApart_any na nc (liveN clk L) _ (own_versAt rfl (unhide ON8)) (by omega) (fun x hx => ⟨((unhide HGN).nums x hx).2.1, unhide HNM x (liveN_sub hx)⟩)).mono ?_
  rintro e w9 ⟨rfl, hb9⟩
  have z9 := hb9.size
  have B9 := hide (below_step (unhide B8) hb9 (by omega))
  have X9 := hide ((unhide X8).below hb9)
  have I9 := hide ((unhide I8).below hb9)
  have V9 := hide ((unhide V8).below hb9)
  have ON9 := hide (own_below (unhide ON8) hb9)
  have OD9 := hide (own_below (unhide OD8) hb9)
  clear hb9 B8 X8 I8 V8 ON8 OD8
  generalize hq2 : ((sizeL (placeM (liveN clk L)) : Int) == ((liveN clk L).length : Int)) = q2 at HLC ⊢
  clear hq2
  cases q2
  case false =>
    have HL8 : Hid (liveCode clk L = 8) := unhide HLC
    go_wp2_with (refine wpList_store_part rfl 28 (.tmp 2) (.tmp 48) rfl w.heap.size 0 _ rfl rfl 28 _ (unhide X9) (by kernel_rfl) (by simp) (by simp [Value.oneCell']) ?_; intro wZ XZ OZ)
    have XR : Hid (Box wZ w.heap.size [.int .i64 8, .int .i64 0, .slice none 0 0, .slice none 0 0, .slice none 0 0] 28) := XZ
    have BR : Hid (Below w.heap.size w wZ) := (unhide OZ).below (unhide B9) (Nat.le_refl _) (fun q hq e => by omega)
    have VZ := ((unhide V9).out (unhide OZ) (fun q hq e => by have := ((unhide V9).lt hq).1; omega)).base (base' := w.heap.size) (by omega)
    refine bodyPost_ret (results_cell_row Tryz.results7 _ wZ w.heap.size 28 _ (0, 0) _ rfl (unhide XR) Tryz.underlying28 rfl (by kernel_rfl)) rfl ⟨.inr ⟨unhide HIC, L, unhide HM, .inl ?_⟩, unhide BR⟩
    rw [unhide HCLV, unhide HL8]
    exact ⟨by decide, rfl⟩
  go_wp2_with fail
  refine (isWhole_any na da nc dc _ (liveN clk L) _ (own_versAt rfl (unhide ON9)) (by omega) (fun x hx => ((unhide HGN).nums x hx).2.2.1)).mono ?_
  rintro e w10 ⟨rfl, hb10⟩
  have z10 := hb10.size
  have B10 := hide (below_step (unhide B9) hb10 (by omega))
  have X10 := hide ((unhide X9).below hb10)
  have I10 := hide ((unhide I9).below hb10)
  have V10 := hide ((unhide V9).below hb10)
  have ON10 := hide (own_below (unhide ON9) hb10)
  have OD10 := hide (own_below (unhide OD9) hb10)
  clear hb10 B9 X9 I9 V9 ON9 OD9
  generalize hq3 : (sumS (liveN clk L) == ((liveD clk L).length : Int)) = q3 at HLC ⊢
  clear hq3
  cases q3
  case false =>
    have HL8 : Hid (liveCode clk L = 8) := unhide HLC
    go_wp2_with (refine wpList_store_part rfl 28 (.tmp 2) (.tmp 48) rfl w.heap.size 0 _ rfl rfl 28 _ (unhide X10) (by kernel_rfl) (by simp) (by simp [Value.oneCell']) ?_; intro wZ XZ OZ)
    have XR : Hid (Box wZ w.heap.size [.int .i64 8, .int .i64 0, .slice none 0 0, .slice none 0 0, .slice none 0 0] 28) := XZ
    have BR : Hid (Below w.heap.size w wZ) := (unhide OZ).below (unhide B10) (Nat.le_refl _) (fun q hq e => by omega)
    have VZ := ((unhide V10).out (unhide OZ) (fun q hq e => by have := ((unhide V10).lt hq).1; omega)).base (base' := w.heap.size) (by omega)
    refine bodyPost_ret (results_cell_row Tryz.results7 _ wZ w.heap.size 28 _ (0, 0) _ rfl (unhide XR) Tryz.underlying28 rfl (by kernel_rfl)) rfl ⟨.inr ⟨unhide HIC, L, unhide HM, .inl ?_⟩, unhide BR⟩
    rw [unhide HCLV, unhide HL8]
    exact ⟨by decide, rfl⟩
  have HL0 : Hid (liveCode clk L = 0) := unhide HLC
  clear HLC
  have bC := box_new w10 [.slice na (liveN clk L).length nc, .slice da (liveD clk L).length dc] 26
  have hA := (Below.refl w10.heap.size w10).alloc (Nat.le_refl _) (.cells #[.slice na (liveN clk L).length nc, .slice da (liveD clk L).length dc] 26)
  have hAz : (w10.alloc (.cells #[.slice na (liveN clk L).length nc, .slice da (liveD clk L).length dc] 26)).heap.size = w10.heap.size + 1 := by simp
  have HA := hide hA
  have HAZ := hide hAz
  have BC := hide bC
  clear hA hAz bC
  obtain ⟨na', nc', en, rN, -⟩ := rowAt_own (own_below (unhide ON10) (unhide HA))
  obtain ⟨da', dc', ed, rD, -⟩ := rowAt_own (own_below (unhide OD10) (unhide HA))
  cases en
  cases ed
  have RN := hide rN
  have RD := hide rD
  clear rN rD
  go_wp2_with fail
  refine (concatV_any w10.heap.size na da nc dc (liveN clk L) (liveD clk L) _ ((unhide BC).cell 0) ((unhide BC).cell 1) (unhide RN) (unhide RD) (by omega) (by omega)).mono ?_
  rintro e w11 ⟨⟨ca, cc, rfl, hOC⟩, hb11⟩
  have hcl : (liveN clk L ++ liveD clk L).length ≤ 2000 := by rw [List.length_append]; omega
  generalize hLV : liveN clk L ++ liveD clk L = LV at hOC hcl ⊢
  have HLV := hide hLV
  clear hLV
  have z11 := hb11.size
  rw [unhide HAZ] at z11
  have hb11' := below_step (unhide HA) hb11 (by rw [unhide HAZ]; omega)
  have hOC' := own_versAt rfl hOC
  have HOC := hide hOC'
  clear hb11 BC HA RN RD hOC hOC'
  have B11 := hide (below_step (unhide B10) hb11' (by omega))
  have X11 := hide ((unhide X10).below hb11')
  have I11 := hide ((unhide I10).below hb11')
  have V11 := hide ((unhide V10).below hb11')
  have ON11 := hide (own_below (unhide ON10) hb11')
  have OD11 := hide (own_below (unhide OD10) hb11')
  clear hb11' B10 X10 I10 V10 ON10 OD10
  go_wp2_with fail
  refine (linesBut_any w2.heap.size clk va vc _ L ca cc LV _ (unhide I11) (unhide HOC) hLl (by omega)).mono ?_
  rintro e w12 ⟨⟨ra, rc, rfl, hOZ⟩, hb12⟩
  have hbz : butOf LV L = liveZ clk L := by rw [← unhide HLV]; exact butOf_dead _ _ _
  rw [hbz] at hOZ ⊢
  have z12 := hb12.size
  have B12 := hide (below_step (unhide B11) hb12 (by omega))
  have X12 := hide ((unhide X11).below hb12)
  have I12 := hide ((unhide I11).below hb12)
  have V12 := hide ((unhide V11).below hb12)
  have ON12 := hide (own_below (unhide ON11) hb12)
  have OD12 := hide (own_below (unhide OD11) hb12)
  have OZ12 := hide hOZ
  have HZB := hide (fun q hq => (unhide OZ12).lt q hq)
  have c0 := (unhide I12).box.cell 0
  simp only [List.getElem?_cons_zero] at c0
  clear hb12 B11 X11 I11 V11 ON11 OD11 hOZ hbz
  go_wp2_with (refine wpList_store_part rfl 28 (.tmp 2) (.tmp 59) rfl w.heap.size 0 _ rfl rfl 28 _ (unhide X12) (by kernel_rfl) (by simp) (by simp [Value.oneCell']) ?_; intro wZ XZ OZ)
  have XR : Hid (Box wZ w.heap.size [.int .i64 0, .int .i64 clk, .slice na (liveN clk L).length nc, .slice da (liveD clk L).length dc, .slice ra (liveZ clk L).length rc] 28) := XZ
  have BR : Hid (Below w.heap.size w wZ) := (unhide OZ).below (unhide B12) (Nat.le_refl _) (fun q hq e => by omega)
  have VZ := ((unhide V12).out (unhide OZ) (fun q hq e => by have := ((unhide V12).lt hq).1; omega)).base (base' := w.heap.size) (by omega)
  have vN := vown_pick VZ (unhide HLT) (by omega) ((unhide OZ).own (unhide ON12) (fun q hq e => by have := ((unhide ON12).lt q hq).1; omega)) (fun x hx => liveN_sub hx) (liveN_asc (unhide HG))
  have vD := vown_pick VZ (unhide HLT) (by omega) (own_base (base' := w4.heap.size) ((unhide OZ).own (unhide OD12) (fun q hq e => by have := ((unhide OD12).lt q hq).1; omega)) (fun q hq => by have := ((unhide OD12).lt q hq).1; omega)) (fun x hx => liveD_sub hx) (liveD_asc (unhide HG))
  have hap := apart_live (h0 := w4.heap.size) (h1 := w6.heap.size) (h2 := w11.heap.size) VZ (unhide HLT) (fun q hq => by have := unhide HNB q hq; omega) (fun q hq => by have := unhide HDB q hq; omega) (fun q hq => (unhide HZB q hq).1) (by omega) (by omega) (clock := clk)
  have oZ := own_base (base' := w.heap.size) ((unhide OZ).own (unhide OZ12) (fun q hq e => by have := ((unhide OZ12).lt q hq).1; omega)) (fun q hq => by have := ((unhide OZ12).lt q hq).1; omega)
  refine bodyPost_ret (results_cell_row Tryz.results7 _ wZ w.heap.size 28 _ (0, 0) _ rfl (unhide XR) Tryz.underlying28 rfl (by kernel_rfl)) rfl ⟨.inr ⟨unhide HIC, L, unhide HM, ?_⟩, unhide BR⟩
  rw [unhide HCLV]
  exact .inr ⟨unhide HL0, na, nc, da, dc, ra, rc, rfl, vN, vD, oZ, fun _ => hap⟩
end Go.Proofs.YtiopofemelninaaGreat
/-
  What both LiveOf answer, told by what hangs on the words alone.
-/
namespace Go.Proofs.YtiopofemelninaaGreat
open Go.RowKit
set_option linter.unusedVariables false

def Lw (ws : List Int) : List VerA := (imgVers ws).map fun v => ⟨v.1, ⟨v.2, none, 0⟩⟩
def liveCd (ws : List Int) : Int := if imgCode ws = 0 then liveCode (clockVal ws) (Lw ws) else imgCode ws
def liveCk (ws : List Int) : Int := if liveCd ws = 0 then clockVal ws else 0
def liveNv (ws : List Int) : List Ver := if liveCd ws = 0 then (liveN (clockVal ws) (Lw ws)).map VerA.ver else []
def liveDv (ws : List Int) : List Ver := if liveCd ws = 0 then (liveD (clockVal ws) (Lw ws)).map VerA.ver else []
def liveZv (ws : List Int) : List Int := if liveCd ws = 0 then liveZ (clockVal ws) (Lw ws) else []
/-- An answer of LiveOf, all its rows of our own. -/
def LiveA (ap : Bool) (w : World) (base : Nat) (cd ck : Int) (Z : List Int) (NV DV : List Ver) (e : Ending) : Prop :=
  ∃ (na : Option Addr) (nc : Nat) (da : Option Addr) (dc : Nat) (ra : Option Addr) (rc : Nat) (N D : List VerA), e = .returned (.agg #[.int .i64 cd, .int .i64 ck, .slice na N.length nc, .slice da D.length dc, .slice ra Z.length rc]) ∧
    LV w base (.slice na N.length nc) (.slice da D.length dc) (.slice ra Z.length rc) N D Z ∧ Few N D Z ∧ (ap = true → Apart3 (.slice na N.length nc) (.slice da D.length dc) (.slice ra Z.length rc) N D) ∧ N.map VerA.ver = NV ∧ D.map VerA.ver = DV
theorem nil_vb (q : Nat) : ¬ VB (.slice none 0 0) [] q := by
  intro h
  rcases h with h | ⟨x, hx, _⟩
  · cases h
  · cases hx
theorem live_none (ap : Bool) (w : World) (base : Nat) (c : Int) : LiveA ap w base c 0 [] [] [] (.returned (liveNo c)) :=
  ⟨none, 0, none, 0, none, 0, [], [], rfl, ⟨vown_nil _ _, vown_nil _ _, World.ownsRow_nil _ _ _ _⟩, ⟨Nat.zero_le _, Nat.zero_le _, Nat.zero_le _, fun x hx => (by cases hx), fun x hx => (by cases hx)⟩, fun _ => ⟨fun q h => absurd h (nil_vb q), fun q h => (by cases h), fun q h => (by cases h)⟩, rfl, rfl⟩
theorem live_get {ap : Bool} {w : World} {base : Nat} {ws : List Int} {e : Ending} (h : LiveO ap w base ws e) : LiveA ap w base (liveCd ws) (liveCk ws) (liveZv ws) (liveNv ws) (liveDv ws) e := by
  rcases h with ⟨hc, rfl⟩ | ⟨hc, L, hM, hT⟩
  · have e1 : liveCd ws = imgCode ws := if_neg hc
    have hne : ¬ liveCd ws = 0 := by rw [e1]; exact hc
    rw [liveCk, liveZv, liveNv, liveDv, if_neg hne, if_neg hne, if_neg hne, if_neg hne, e1]
    exact live_none _ _ _ _
  · have eL : L.map strip = Lw ws := by rw [strip_ver, hM]; rfl
    have e1 : liveCd ws = liveCode (clockVal ws) L := by rw [liveCd, if_pos hc, ← eL, liveCode_strip]
    have hsm := imgVers_small ws
    have hl : L.length ≤ 41 := by
      have := congrArg List.length hM
      rw [List.length_map] at this
      omega
    have hnl : ∀ x ∈ L, x.x.b.nl.length ≤ 4 := fun x hx => hsm.2 x.ver (by rw [← hM]; exact List.mem_map_of_mem hx)
    rcases hT with ⟨hne, rfl⟩ | ⟨h0, va, vc, da, dc, ra, rc, rfl, hN, hD, hZ, hA⟩
    · have hne2 : ¬ liveCd ws = 0 := by rw [e1]; exact hne
      rw [liveCk, liveZv, liveNv, liveDv, if_neg hne2, if_neg hne2, if_neg hne2, if_neg hne2, e1]
      exact live_none _ _ _ _
    · have h02 : liveCd ws = 0 := by rw [e1]; exact h0
      have eN : (liveN (clockVal ws) (Lw ws)).map VerA.ver = (liveN (clockVal ws) L).map VerA.ver := by rw [← eL, liveN_strip, ver_strip]
      have eD : (liveD (clockVal ws) (Lw ws)).map VerA.ver = (liveD (clockVal ws) L).map VerA.ver := by rw [← eL, liveD_strip, ver_strip]
      have eZ : liveZ (clockVal ws) (Lw ws) = liveZ (clockVal ws) L := by rw [← eL, liveZ_strip]
      rw [liveCk, liveZv, liveNv, liveDv, if_pos h02, if_pos h02, if_pos h02, if_pos h02, h02, eN, eD, eZ]
      refine ⟨va, vc, da, dc, ra, rc, _, _, rfl, ⟨hN, hD, hZ⟩, ⟨Nat.le_trans liveN_len hl, Nat.le_trans liveD_len hl, ?_, fun x hx => hnl x (liveN_sub hx), fun x hx => hnl x (liveD_sub hx)⟩, hA, rfl, rfl⟩
      refine Nat.le_trans (List.length_filter_le _ _) ?_
      rw [linesOf, List.length_map]
      exact hl
end Go.Proofs.YtiopofemelninaaGreat
/-
  How many versions, free lines, dead lines there are; where a version that lives stands (no Go in sight): for FnVersions.
-/
namespace Go.Proofs.YtiopofemelninaaGreat
open Go.RowKit
set_option linter.unusedVariables false

theorem step_count (clock line : Int) (l : List Int) : (stepVers clock line l).length + (stepFree line l).length = 1 := by
  unfold stepVers stepFree
  split
  · rfl
  · split <;> rfl
theorem run_count (clock : Int) : ∀ (n : Nat) (line : Int) (ws : List Int), (imgRun clock n line ws).1 = 0 → (imgRun clock n line ws).2.1.length + (imgRun clock n line ws).2.2.length = n
  | 0, _, _, _ => rfl
  | n + 1, line, ws, h => by
    unfold imgRun at h ⊢
    split at h
    · rename_i h0
      rw [if_pos h0]
      split at h
      · rename_i h1
        rw [if_pos h1]
        have ih := run_count clock n (line + 1) (ws.drop 8) h1
        have hs := step_count clock line (ws.take 8)
        simp only [List.length_append]
        omega
      · rename_i h1
        exact absurd h h1
    · rename_i h0
      exact absurd h h0
theorem step_line {clock line : Int} {l : List Int} : ∀ v ∈ stepVers clock line l, v.1 = line ∧ l.getD 0 0 ≠ 0 := by
  intro v hv
  unfold stepVers at hv
  split at hv
  · cases hv
  · rename_i h0
    have hne : l.getD 0 0 ≠ 0 := fun e => h0 (by rw [e]; rfl)
    split at hv
    · rcases List.mem_singleton.1 hv with rfl
      exact ⟨rfl, hne⟩
    · rcases List.mem_singleton.1 hv with rfl
      exact ⟨rfl, hne⟩
theorem run_line (clock : Int) : ∀ (n : Nat) (line : Int) (ws : List Int), ∀ v ∈ (imgRun clock n line ws).2.1, line ≤ v.1 ∧ v.1 < line + n ∧ ws.getD ((v.1 - line).toNat * 8) 0 ≠ 0
  | 0, _, _, v, hv => by cases hv
  | n + 1, line, ws, v, hv => by
    unfold imgRun at hv
    split at hv
    · split at hv
      · rcases List.mem_append.1 hv with hv | hv
        · obtain ⟨h1, h2⟩ := step_line v hv
          refine ⟨by omega, by omega, ?_⟩
          rw [h1, Int.sub_self]
          show ws.getD (0 * 8) 0 ≠ 0
          rw [Nat.zero_mul]
          intro e
          refine h2 ?_
          cases ws with
          | nil => rfl
          | cons x ws => simpa using e
        · obtain ⟨h1, h2, h3⟩ := run_line clock n (line + 1) (ws.drop 8) v hv
          refine ⟨by omega, by omega, ?_⟩
          have e : (v.1 - line).toNat * 8 = 8 + (v.1 - (line + 1)).toNat * 8 := by omega
          rw [e]
          rw [List.getD_eq_getElem?_getD, List.getElem?_drop, ← List.getD_eq_getElem?_getD] at h3
          exact h3
      · cases hv
    · cases hv
theorem step_len1 (clock line : Int) (l : List Int) : (stepVers clock line l).Pairwise (fun a b => a.1 < b.1) := by
  unfold stepVers
  split
  · exact List.Pairwise.nil
  · split <;> exact List.pairwise_singleton _ _
theorem run_rise (clock : Int) : ∀ (n : Nat) (line : Int) (ws : List Int), (imgRun clock n line ws).2.1.Pairwise (fun a b => a.1 < b.1)
  | 0, _, _ => List.Pairwise.nil
  | n + 1, line, ws => by
    unfold imgRun
    split
    · split
      · refine List.pairwise_append.2 ⟨step_len1 _ _ _, run_rise clock n _ _, fun a ha b hb => ?_⟩
        have h1 := (step_line a ha).1
        have h2 := (run_line clock n (line + 1) (ws.drop 8) b hb).1
        omega
      · exact List.Pairwise.nil
    · exact List.Pairwise.nil
theorem vers_rise {ws : List Int} {L : List VerA} (h : L.map VerA.ver = imgVers ws) : L.Pairwise (fun x y => x.line < y.line) := by
  have hp : (imgVers ws).Pairwise (fun a b => a.1 < b.1) := by
    unfold imgVers
    split
    · exact run_rise _ _ _ _
    · exact List.Pairwise.nil
  rw [← h, List.pairwise_map] at hp
  exact hp
theorem line_inj {L : List VerA} (h : L.Pairwise (fun x y => x.line < y.line)) {x y : VerA} (hx : x ∈ L) (hy : y ∈ L) (e : x.line = y.line) : x = y := by
  obtain ⟨i, hi, rfl⟩ := List.getElem_of_mem hx
  obtain ⟨j, hj, rfl⟩ := List.getElem_of_mem hy
  have hp := List.pairwise_iff_getElem.1 h
  rcases Nat.lt_trichotomy i j with hij | hij | hij
  · have := hp i j hi hj hij; omega
  · subst hij; rfl
  · have := hp j i hj hi hij; omega
theorem asc_nodup {N : List VerA} (h : Asc N) : N.Nodup := List.Pairwise.imp (fun {x y} hlt e => by rw [e] at hlt; omega) h
theorem live_count {clock : Int} {ws : List Int} {L : List VerA} (hM : L.map VerA.ver = imgVers ws) (hL : ∀ x ∈ L, GoodB clock x.x.b) : (liveN clock L).length + (liveD clock L).length + (liveZ clock L).length = L.length := by
  have hr := vers_rise hM
  have hnd : L.Nodup := List.Pairwise.imp (fun {x y} hlt e => by rw [e] at hlt; omega) hr
  have hnn : (liveN clock L ++ liveD clock L).Nodup := List.nodup_append.2 ⟨asc_nodup (liveN_asc hL), asc_nodup (liveD_asc hL), fun x hx y hy => live_ne hx hy⟩
  have hperm : (L.filter fun x => decide (x.line ∈ linesOf (liveN clock L ++ liveD clock L))).Perm (liveN clock L ++ liveD clock L) := by
    refine (List.perm_ext_iff_of_nodup (hnd.sublist List.filter_sublist) hnn).2 (fun x => ?_)
    rw [List.mem_filter, decide_eq_true_iff]
    have hsub : ∀ y ∈ liveN clock L ++ liveD clock L, y ∈ L := fun y hy => by
      rcases List.mem_append.1 hy with hy | hy
      · exact liveN_sub hy
      · exact liveD_sub hy
    constructor
    · rintro ⟨hx, hl⟩
      obtain ⟨y, hy, e⟩ := List.mem_map.1 hl
      rw [← line_inj hr (hsub y hy) hx e]
      exact hy
    · intro hx
      exact ⟨hsub x hx, List.mem_map.2 ⟨x, hx, rfl⟩⟩
  have h1 := hperm.length_eq
  rw [List.length_append] at h1
  have h2 : (liveZ clock L).length = (L.filter fun x => !decide (x.line ∈ linesOf (liveN clock L ++ liveD clock L))).length := by
    show ((L.map VerA.line).filter (fun l => !decide (l ∈ linesOf (liveN clock L) ++ linesOf (liveD clock L)))).length = _
    rw [List.filter_map, List.length_map]
    congr 2
    funext x
    simp [linesOf]
  have h3 : L.length = (L.filter fun x => decide (x.line ∈ linesOf (liveN clock L ++ liveD clock L))).length + (L.filter fun x => !decide (x.line ∈ linesOf (liveN clock L ++ liveD clock L))).length := by
    rw [← List.countP_eq_length_filter, ← List.countP_eq_length_filter]
    have := List.length_eq_countP_add_countP (fun x : VerA => decide (x.line ∈ linesOf (liveN clock L ++ liveD clock L))) (l := L)
    simpa using this
  omega
end Go.Proofs.YtiopofemelninaaGreat
/-
  What FnVersions asks of an answer of LiveOf (no Go in sight but its form).
-/
namespace Go.Proofs.YtiopofemelninaaGreat
open Go.RowKit
set_option linter.unusedVariables false

structure VFacts (ws : List Int) (N D : List VerA) : Prop where
  code : imgCode ws = 0
  clk : liveCk ws = clockVal ws
  cnt : N.length + D.length + (liveZv ws).length = (imgVers ws).length
  each : ∀ x ∈ N ++ D, x.x.b.e ≤ clockVal ws - 2 ∧ 1 ≤ x.line ∧ x.line < (ws.length : Int) / 8 ∧ ws.getD (x.line.toNat * 8) 0 ≠ 0
theorem vers_place {ws : List Int} {v : Ver} (h : v ∈ imgVers ws) : 1 ≤ v.1 ∧ v.1 < (ws.length : Int) / 8 ∧ ws.getD (v.1.toNat * 8) 0 ≠ 0 := by
  unfold imgVers at h
  split at h
  · obtain ⟨h1, h2, h3⟩ := run_line _ _ _ _ v h
    rw [List.getD_eq_getElem?_getD, List.getElem?_drop, ← List.getD_eq_getElem?_getD] at h3
    refine ⟨h1, by omega, ?_⟩
    rw [show v.1.toNat * 8 = 8 + (v.1 - 1).toNat * 8 by omega]
    exact h3
  · cases h
theorem live_more {ap : Bool} {w : World} {base : Nat} {ws : List Int} {e : Ending} (h : LiveO ap w base ws e) :
    ∃ (na : Option Addr) (nc : Nat) (da : Option Addr) (dc : Nat) (ra : Option Addr) (rc : Nat) (N D : List VerA), e = .returned (.agg #[.int .i64 (liveCd ws), .int .i64 (liveCk ws), .slice na N.length nc, .slice da D.length dc, .slice ra (liveZv ws).length rc]) ∧
      LV w base (.slice na N.length nc) (.slice da D.length dc) (.slice ra (liveZv ws).length rc) N D (liveZv ws) ∧ Few N D (liveZv ws) ∧ N.length = (liveNv ws).length ∧ (liveCd ws = 0 → VFacts ws N D) := by
  have hA := live_get h
  rcases h with ⟨hc, rfl⟩ | ⟨hc, L, hM, hT⟩
  · obtain ⟨na, nc, da, dc, ra, rc, N, D, h1, h2, h3, _, h5, _⟩ := hA
    have e1 : liveCd ws = imgCode ws := if_neg hc
    exact ⟨na, nc, da, dc, ra, rc, N, D, h1, h2, h3, by rw [← h5]; simp, fun h0 => absurd h0 (by rw [e1]; exact hc)⟩
  · have eL : L.map strip = Lw ws := by rw [strip_ver, hM]; rfl
    have e1 : liveCd ws = liveCode (clockVal ws) L := by rw [liveCd, if_pos hc, ← eL, liveCode_strip]
    rcases hT with ⟨hne, rfl⟩ | ⟨h0, va, vc, da, dc, ra, rc, rfl, hN, hD, hZ, _⟩
    · obtain ⟨na, nc, da, dc, ra, rc, N, D, h1, h2, h3, _, h5, _⟩ := hA
      exact ⟨na, nc, da, dc, ra, rc, N, D, h1, h2, h3, by rw [← h5]; simp, fun h0 => absurd h0 (by rw [e1]; exact hne)⟩
    · have h02 : liveCd ws = 0 := by rw [e1]; exact h0
      have hG : ∀ x ∈ L, GoodB (clockVal ws) x.x.b := fun x hx => imgVers_good x.ver (by rw [← hM]; exact List.mem_map_of_mem hx)
      have eZ : liveZv ws = liveZ (clockVal ws) L := by rw [liveZv, if_pos h02, ← eL, liveZ_strip]
      have eN : (liveNv ws).length = (liveN (clockVal ws) L).length := by rw [liveNv, if_pos h02, ← eL, liveN_strip, ver_strip, List.length_map]
      have eC : liveCk ws = clockVal ws := if_pos h02
      have hlen : L.length = (imgVers ws).length := by rw [← hM, List.length_map]
      obtain ⟨na', nc', da', dc', ra', rc', N', D', _, _, hF, _, h5, h6⟩ := hA
      have hn5 : (liveN (clockVal ws) L).length ≤ 41 := by
        have := congrArg List.length h5
        rw [List.length_map] at this
        have := hF.n
        omega
      have hsm := imgVers_small ws
      have hnl : ∀ x ∈ L, x.x.b.nl.length ≤ 4 := fun x hx => hsm.2 x.ver (by rw [← hM]; exact List.mem_map_of_mem hx)
      have hZ41 := hF.z
      rw [eZ] at hZ41
      rw [eC, h02, eZ, eN]
      refine ⟨va, vc, da, dc, ra, rc, _, _, rfl, ⟨hN, hD, hZ⟩, ⟨hn5, Nat.le_trans liveD_len (by omega), hZ41, fun x hx => hnl x (liveN_sub hx), fun x hx => hnl x (liveD_sub hx)⟩, rfl, fun _ => ⟨hc, eC, ?_, fun x hx => ?_⟩⟩
      · rw [eZ, ← hlen]
        exact live_count hM hG
      · have hx2 : x ∈ newestOf (clockVal ws) L := by
          rcases List.mem_append.1 hx with hx | hx
          · exact (List.mem_filter.1 hx).1
          · exact (List.mem_filter.1 hx).1
        have hm := newest_mem (clock := clockVal ws) (L := L) (i := L.length) (Nat.le_refl _) (y := x) (by rw [List.take_length]; exact hx2)
        rw [List.take_length] at hm
        exact ⟨hm.2, vers_place (v := x.ver) (by rw [← hM]; exact List.mem_map_of_mem hm.1)⟩
end Go.Proofs.YtiopofemelninaaGreat
