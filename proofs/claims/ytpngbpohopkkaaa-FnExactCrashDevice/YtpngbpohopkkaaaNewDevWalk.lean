/-
  What spec.NewDevice and impl.NewDevice answer.
-/
import Derived.Test.YtpngbpohopkkaaaOwnDev
import Derived.Test.YtpngbpohopkkaaaInWalk
import Derived.Test.YtpngbpohopkkaaaDevTo
namespace Go.Proofs.Ytpngbpohopkkaaa
open Go.RowKit

/-- An answer: a code, and a device that is nobody else's. -/
def ResIs (e : Ending) (base : Nat) (w' : World) (code : Int) (D : Dev) : Prop := ∃ v1 v2 v3, e = .returned (.agg #[.int .i64 code, v1, v2, v3]) ∧ OwnDev w' base v1 v2 v3 D

def newCode (n : Int) : Int := if inB n 2 41 = true then 0 else 2
def newDev (n : Int) : Dev := if inB n 2 41 = true then ⟨List.replicate (n * 8).toNat 0, [], []⟩ else none'

theorem made_zero (n : Nat) : (madeCells (Value.int .i64 0).cells (n * 1)).toList = nums (List.replicate n 0) := by
  simp [madeCells, nums, Value.cells]
  apply List.ext_getElem
  · simp
  · intro i h1 h2
    simp [Nat.mod_one]

theorem ownNone (w : World) (base : Nat) : OwnDev w base (.slice none 0 0) (.slice none 0 0) (.slice none 0 0) none' :=
  ⟨World.ownsRow_nil _ _ _ _, World.ownsRow_nil _ _ _ _, World.ownsRow_nil _ _ _ _, by simp [Value.ownBlock], by simp [Value.ownBlock], by simp [Value.ownBlock]⟩

theorem newDev_no {n : Int} (h : inB n 2 41 = false) : newCode n = 2 ∧ newDev n = none' := by simp [newCode, newDev, h]
theorem newDev_yes {n : Int} (h : inB n 2 41 = true) : newCode n = 0 ∧ newDev n = ⟨List.replicate (n * 8).toNat 0, [], []⟩ := by simp [newCode, newDev, h]

/-- Behind a make, the answer's box is as it was. -/
theorem new_after {w w1 : World} {v0 v1 v2 v3 : Value} {t : TypeId} (hg : (w.alloc (.cells #[v0, v1, v2, v3] t)).grownBy w1 none) :
    w1.cell? ⟨w.heap.size, 0, none⟩ = some v0 ∧ w1.cell? ⟨w.heap.size, 1, none⟩ = some v1 ∧ w1.cell? ⟨w.heap.size, 2, none⟩ = some v2 ∧ w1.cell? ⟨w.heap.size, 3, none⟩ = some v3 ∧
    w1.frozen? ⟨w.heap.size, 0, none⟩ = false ∧ w1.frozen? ⟨w.heap.size, 1, none⟩ = false ∧ w1.frozen? ⟨w.heap.size, 2, none⟩ = false ∧ w1.frozen? ⟨w.heap.size, 3, none⟩ = false ∧
    Hid (Below w.heap.size w w1) ∧ Hid (Box w1 w.heap.size [v0, v1, v2, v3] t) ∧ w.heap.size < w1.heap.size := by
  have hx : Box w1 w.heap.size [v0, v1, v2, v3] t := (box_new w [v0, v1, v2, v3] t).keep (hg.block _ (by simp) (by simp))
  have hb : Below w.heap.size w w1 := ((Below.refl _ _).alloc (Nat.le_refl _) _).grown hg (by simp) (fun k hk => by cases hk)
  exact ⟨hx.cell 0, hx.cell 1, hx.cell 2, hx.cell 3, hx.frozen 0, hx.frozen 1, hx.frozen 2, hx.frozen 3, hb, hx, hx.lt⟩

theorem new_after3 {w w1 : World} {v0 v1 v2 : Value} {t : TypeId} (hg : (w.alloc (.cells #[v0, v1, v2] t)).grownBy w1 none) :
    w1.cell? ⟨w.heap.size, 0, none⟩ = some v0 ∧ w1.cell? ⟨w.heap.size, 1, none⟩ = some v1 ∧ w1.cell? ⟨w.heap.size, 2, none⟩ = some v2 ∧
    w1.frozen? ⟨w.heap.size, 0, none⟩ = false ∧ w1.frozen? ⟨w.heap.size, 1, none⟩ = false ∧ w1.frozen? ⟨w.heap.size, 2, none⟩ = false ∧
    Hid (Below w.heap.size w w1) ∧ Hid (Box w1 w.heap.size [v0, v1, v2] t) ∧ w.heap.size < w1.heap.size := by
  have hx : Box w1 w.heap.size [v0, v1, v2] t := (box_new w [v0, v1, v2] t).keep (hg.block _ (by simp) (by simp))
  have hb : Below w.heap.size w w1 := ((Below.refl _ _).alloc (Nat.le_refl _) _).grown hg (by simp) (fun k hk => by cases hk)
  exact ⟨hx.cell 0, hx.cell 1, hx.cell 2, hx.frozen 0, hx.frozen 1, hx.frozen 2, hb, hx, hx.lt⟩

set_option maxHeartbeats 1000000 in
theorem implNewDevice_any (n : Int) (w : World) :
    Calls Try.prog 19 #[.int .i64 n] w fun e w' => ResIs e w.heap.size w' (newCode n) (newDev n) ∧ Below w.heap.size w w' := by
  obtain ⟨i0, hi, hz0, hz1, hz2⟩ := info_parts infoInt64
  cases hin : inB n 2 41
  · obtain ⟨e1, e2⟩ := newDev_no hin
    have HE1 := hide e1
    have HE2 := hide e2
    clear e1 e2
    go_enter Try.func19, Try.ntmps19
    go_wp2_with fail
    refine (isWithin_any n 2 41 _).mono ?_
    rintro e w1 ⟨rfl, rfl⟩
    rw [hin]
    go_wp2_with fail
    refine bodyPost_ret (v := .agg #[.int .i64 2, .slice none 0 0, .slice none 0 0, .slice none 0 0]) (by simp [results, Try.results19, go_sem]) rfl ⟨⟨_, _, _, by rw [unhide HE1], by rw [unhide HE2]; exact ownNone _ _⟩, ?_⟩
    repeat (first | exact Below.refl _ _ | (with_reducible refine Below.alloc ?_ ?_ _; rotate_left; first | omega | (simp <;> omega)) | (with_reducible refine Below.setCell ?_ ?_ _; rotate_left; first | omega | (simp <;> omega)))
  · obtain ⟨e1, e2⟩ := newDev_yes hin
    have HE1 := hide e1
    have HE2 := hide e2
    have hb := inB_true.1 hin
    obtain ⟨k, rfl⟩ : ∃ k : Nat, n = k := ⟨n.toNat, by omega⟩
    have HKT : Hid (((k : Int) * 8).toNat = k * 8) := by show _ = _; omega
    have hk2 : k ≤ 41 := by omega
    clear e1 e2 hb
    go_enter Try.func19, Try.ntmps19
    go_wp2_with fail
    refine (isWithin_any k 2 41 _).mono ?_
    rintro e w1 ⟨rfl, rfl⟩
    rw [hin]
    clear hin
    go_wp2_with (at_make; refine wpList_make_full _ rfl _ _ 22 rfl w.heap.size 2 i0 (.int .i64 0) 1 Try.underlying22 hi hz0 hz1 .i64 .i64 _ _ (k * 8) rfl rfl (by omega) (by omega) (by rw [hz2]; omega) (by unfold maxLen; omega) (by simp) ?_; intro w1 hown hgrow; obtain ⟨q0, q1, q2, q3, f0, f1, f2, f3, HB, HX, hz⟩ := new_after hgrow; have HOW := hide hown; clear hown hgrow)
    clear q0 q1 q2 q3 f0 f1 f2 f3
    rw [World.size_alloc] at HOW
    generalize hU : (((w1.setCell _ _).setCell _ _).setCell _ _).setCell _ _ = U
    obtain ⟨X, O⟩ := store4' (unhide HX) hU
    have O4 := (unhide O).own (unhide HOW) (by simp [Value.ownBlock])
    have B4 := (unhide O).below (unhide HB) (Nat.le_refl _) (fun q hq h => by omega)
    have X4 := unhide X
    clear hU X O HX HOW HB
    have t0 := X4.cell 0
    have t1 := X4.cell 1
    have t2 := X4.cell 2
    have t3 := X4.cell 3
    simp at t0 t1 t2 t3
    refine bodyPost_ret (v := .agg #[.int .i64 0, .slice (some ⟨w.heap.size + 1, 0, none⟩) (k * 8) (k * 8), .slice none 0 0, .slice none 0 0]) (by simp [results, Try.results19, go_sem, t0, t1, t2, t3]) rfl ⟨⟨_, _, _, by rw [unhide HE1], ?_⟩, B4⟩
    rw [unhide HE2, unhide HKT]
    rw [made_zero] at O4
    exact ⟨by simpa using O4, World.ownsRow_nil _ _ _ _, World.ownsRow_nil _ _ _ _, by simp [Value.ownBlock], by simp [Value.ownBlock], by simp [Value.ownBlock]⟩

set_option maxHeartbeats 1000000 in
theorem l2New_any (k : Nat) (w : World) (hk : k ≤ 41) :
    Calls Try.prog 58 #[.int .i64 k] w fun e w' => (∃ v1 v2 v3, e = .returned (.agg #[v1, v2, v3]) ∧ OwnDev w' w.heap.size v1 v2 v3 ⟨List.replicate (k * 8) 0, [], []⟩) ∧ Below w.heap.size w w' := by
  obtain ⟨i0, hi, hz0, hz1, hz2⟩ := info_parts infoInt64
  go_enter Try.func58, Try.ntmps58
  go_wp2_with (at_make; refine wpList_make_full _ rfl _ _ 22 rfl w.heap.size 2 i0 (.int .i64 0) 1 Try.underlying22 hi hz0 hz1 .i64 .i64 _ _ (k * 8) rfl rfl (by omega) (by omega) (by rw [hz2]; omega) (by unfold maxLen; omega) (by simp) ?_; intro w1 hown hgrow; obtain ⟨q0, q1, q2, f0, f1, f2, HB, HX, hz⟩ := new_after3 hgrow; have HOW := hide hown; clear hown hgrow)
  clear q0 q1 q2 f0 f1 f2
  rw [World.size_alloc] at HOW
  generalize hU : ((w1.setCell _ _).setCell _ _).setCell _ _ = U
  obtain ⟨X, O⟩ := store3' (unhide HX) hU
  have O4 := (unhide O).own (unhide HOW) (by simp [Value.ownBlock])
  have B4 := (unhide O).below (unhide HB) (Nat.le_refl _) (fun q hq h => by omega)
  have X4 := unhide X
  clear hU X O HX HOW HB
  have t0 := X4.cell 0
  have t1 := X4.cell 1
  have t2 := X4.cell 2
  simp at t0 t1 t2
  refine bodyPost_ret (v := .agg #[.slice (some ⟨w.heap.size + 1, 0, none⟩) (k * 8) (k * 8), .slice none 0 0, .slice none 0 0]) (by simp [results, Try.results58, go_sem, t0, t1, t2]) rfl ⟨⟨_, _, _, rfl, ?_⟩, B4⟩
  rw [made_zero] at O4
  exact ⟨by simpa using O4, World.ownsRow_nil _ _ _ _, World.ownsRow_nil _ _ _ _, by simp [Value.ownBlock], by simp [Value.ownBlock], by simp [Value.ownBlock]⟩
set_option maxHeartbeats 1000000 in
theorem specNewDevice_any (n : Int) (w : World) :
    Calls Try.prog 18 #[.int .i64 n] w fun e w' => ResIs e w.heap.size w' (newCode n) (newDev n) ∧ Below w.heap.size w w' := by
  cases hin : inB n 2 41
  · obtain ⟨e1, e2⟩ := newDev_no hin
    have HE1 := hide e1
    have HE2 := hide e2
    clear e1 e2
    go_enter Try.func18, Try.ntmps18
    go_wp2_with fail
    refine (l1In_any n 2 41 _).mono ?_
    rintro e w1 ⟨rfl, rfl⟩
    rw [hin]
    go_wp2_with fail
    refine bodyPost_ret (v := .agg #[.int .i64 2, .slice none 0 0, .slice none 0 0, .slice none 0 0]) (by simp [results, Try.results18, go_sem]) rfl ⟨⟨_, _, _, by rw [unhide HE1], by rw [unhide HE2]; exact ownNone _ _⟩, ?_⟩
    repeat (first | exact Below.refl _ _ | (with_reducible refine Below.alloc ?_ ?_ _; rotate_left; first | omega | (simp <;> omega)) | (with_reducible refine Below.setCell ?_ ?_ _; rotate_left; first | omega | (simp <;> omega)))
  · obtain ⟨e1, e2⟩ := newDev_yes hin
    have HE1 := hide e1
    have HE2 := hide e2
    have hb := inB_true.1 hin
    obtain ⟨k, rfl⟩ : ∃ k : Nat, n = k := ⟨n.toNat, by omega⟩
    have HKT : Hid (((k : Int) * 8).toNat = k * 8) := by show _ = _; omega
    have hk2 : k ≤ 41 := by omega
    clear e1 e2 hb
    go_enter Try.func18, Try.ntmps18
    go_wp2_with fail
    refine (l1In_any k 2 41 _).mono ?_
    rintro e w1 ⟨rfl, rfl⟩
    rw [hin]
    clear hin
    go_wp2_with fail
    obtain ⟨W, hW, z1, b, x⟩ := boxes1 w [.int .i64 0, .slice none 0 0, .slice none 0 0, .slice none 0 0] 35
    rw [← hW]
    clear hW
    refine (l2New_any k _ hk2).mono ?_
    rintro e w2 ⟨⟨v1, v2, v3, rfl, hO⟩, hb2⟩
    have z2 : W.heap.size ≤ w2.heap.size := hb2.size
    have B2 := hide (below_step (unhide b) hb2 (by omega))
    have X2 := hide ((unhide x).below hb2)
    have O2 := hide hO
    obtain ⟨a1, c1, a2, c2, a3, c3, e1, e2, e3, -⟩ := hO.form
    subst e1 e2 e3
    have q0 := (unhide X2).cell 0
    have q1 := (unhide X2).cell 1
    have q2 := (unhide X2).cell 2
    have q3 := (unhide X2).cell 3
    have f0 := (unhide X2).frozen 0
    have f1 := (unhide X2).frozen 1
    have f2 := (unhide X2).frozen 2
    have f3 := (unhide X2).frozen 3
    simp at q0 q1 q2 q3
    clear hb2 hO b x
    go_wp2_with fail
    clear q0 q1 q2 q3 f0 f1 f2 f3
    generalize hU : (((w2.setCell _ _).setCell _ _).setCell _ _).setCell _ _ = U
    obtain ⟨X, O⟩ := store4' (unhide X2) hU
    have O4 := (unhide O2).out (unhide O) (fun q hq h => by have := ((unhide O2).lt hq).1; omega)
    have B4 := (unhide O).below (unhide B2) (Nat.le_refl _) (fun q hq h => by omega)
    have X4 := unhide X
    have O5 : OwnDev U w.heap.size _ _ _ _ := ⟨own_base O4.o1 (fun q hq => by have := (O4.lt (.inl hq)).1; omega), own_base O4.o2 (fun q hq => by have := (O4.lt (.inr (.inl hq))).1; omega), own_base O4.o3 (fun q hq => by have := (O4.lt (.inr (.inr hq))).1; omega), O4.n12, O4.n13, O4.n23⟩
    clear hU X O O4
    have t0 := X4.cell 0
    have t1 := X4.cell 1
    have t2 := X4.cell 2
    have t3 := X4.cell 3
    simp at t0 t1 t2 t3
    refine bodyPost_ret (v := .agg #[.int .i64 0, .slice a1 (List.replicate (k * 8) (0 : Int)).length c1, .slice a2 0 c2, .slice a3 0 c3]) (by simp [results, Try.results18, go_sem, t0, t1, t2, t3]) rfl ⟨⟨_, _, _, by rw [unhide HE1], ?_⟩, B4⟩
    rw [unhide HE2, unhide HKT]
    exact O5
end Go.Proofs.Ytpngbpohopkkaaa
