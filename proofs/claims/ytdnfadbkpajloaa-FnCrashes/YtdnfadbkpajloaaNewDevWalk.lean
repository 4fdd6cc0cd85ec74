/-
  What spec.NewDevice and impl.NewDevice answer.
-/
import Derived.Test.YtdnfadbkpajloaaOwnDev
import Derived.Test.YtdnfadbkpajloaaInWalk
import Derived.Test.YtdnfadbkpajloaaDevTo
namespace Go.Proofs.Ytdnfadbkpajloaa
open Go.RowKit

/-- An answer: a code, and a device that is nobody else's. -/
def ResIs (e : Ending) (base : Nat) (w' : World) (code : Int) (D : Dev) : Prop := ∃ v1 v2 v3, e = .returned (.agg #[.int .i64 code, v1, v2, v3]) ∧ OwnDev w' base v1 v2 v3 D

def newCode (n : Int) : Int := if inB n 2 41 = true then 0 else 2
def newDev (n : Int) : Dev := if inB n 2 41 = true then ⟨List.replicate (n * 8).toNat 0, [], []⟩ else none'

theorem made_zero (n : Nat) : (madeCells (Value.int .i64 0).cells (n * 1)).toList = nums (List.replicate n 0) := by
  simp [madeCells, nums, Value.cells]
  apply List.ext_getElem
  · simp
  · intro i h1 h2
    simp [Nat.mod_one]

theorem ownNone (w : World) (base : Nat) : OwnDev w base (.slice none 0 0) (.slice none 0 0) (.slice none 0 0) none' :=
  ⟨World.ownsRow_nil _ _ _ _, World.ownsRow_nil _ _ _ _, World.ownsRow_nil _ _ _ _, by simp [Value.ownBlock], by simp [Value.ownBlock], by simp [Value.ownBlock]⟩

theorem newDev_no {n : Int} (h : inB n 2 41 = false) : newCode n = 2 ∧ newDev n = none' := by simp [newCode, newDev, h]
theorem newDev_yes {n : Int} (h : inB n 2 41 = true) : newCode n = 0 ∧ newDev n = ⟨List.replicate (n * 8).toNat 0, [], []⟩ := by simp [newCode, newDev, h]

/-- Behind a make, the answer's box is as it was. -/
theorem new_after {w w1 : World} {v0 v1 v2 v3 : Value} {t : TypeId} (hg : (w.alloc (.cells #[v0, v1, v2, v3] t)).grownBy w1 none) :
    w1.cell? ⟨w.heap.size, 0, none⟩ = some v0 ∧ w1.cell? ⟨w.heap.size, 1, none⟩ = some v1 ∧ w1.cell? ⟨w.heap.size, 2, none⟩ = some v2 ∧ w1.cell? ⟨w.heap.size, 3, none⟩ = some v3 ∧
    w1.frozen? ⟨w.heap.size, 0, none⟩ = false ∧ w1.frozen? ⟨w.heap.size, 1, none⟩ = false ∧ w1.frozen? ⟨w.heap.size, 2, none⟩ = false ∧ w1.frozen? ⟨w.heap.size, 3, none⟩ = false ∧
    Hid (Below w.heap.size w w1) ∧ Hid (Box w1 w.heap.size [v0, v1, v2, v3] t) ∧ w.heap.size < w1.heap.size := by
  have hx : Box w1 w.heap.size [v0, v1, v2, v3] t := (box_new w [v0, v1, v2, v3] t).keep (hg.block _ (by simp) (by simp))
  have hb : Below w.heap.size w w1 := ((Below.refl _ _).alloc (Nat.le_refl _) _).grown hg (by simp) (fun k hk => by cases hk)
  exact ⟨hx.cell 0, hx.cell 1, hx.cell 2, hx.cell 3, hx.frozen 0, hx.frozen 1, hx.frozen 2, hx.frozen 3, hb, hx, hx.lt⟩

theorem new_after3 {w w1 : World} {v0 v1 v2 : Value} {t : TypeId} (hg : (w.alloc (.cells #[v0, v1, v2] t)).grownBy w1 none) :
    w1.cell? ⟨w.heap.size, 0, none⟩ = some v0 ∧ w1.cell? ⟨w.heap.size, 1, none⟩ = some v1 ∧ w1.cell? ⟨w.heap.size, 2, none⟩ = some v2 ∧
    w1.frozen? ⟨w.heap.size, 0, none⟩ = false ∧ w1.frozen? ⟨w.heap.size, 1, none⟩ = false ∧ w1.frozen? ⟨w.heap.size, 2, none⟩ = false ∧
    Hid (Below w.heap.size w w1) ∧ Hid (Box w1 w.heap.size [v0, v1, v2] t) ∧ w.heap.size < w1.heap.size := by
  have hx : Box w1 w.heap.size [v0, v1, v2] t := (box_new w [v0, v1, v2] t).keep (hg.block _ (by simp) (by simp))
  have hb : Below w.heap.size w w1 := ((Below.refl _ _).alloc (Nat.le_refl _) _).grown hg (by simp) (fun k hk => by cases hk)
  exact ⟨hx.cell 0, hx.cell 1, hx.cell 2, hx.frozen 0, hx.frozen 1, hx.frozen 2, hb, hx, hx.lt⟩


set_option maxHeartbeats 1000000 in
theorem l2New_any (k : Nat) (w : World) (hk : k ≤ 41) :
    Calls Try.prog 190 #[.int .i64 k] w fun e w' => (∃ v1 v2 v3, e = .returned (.agg #[v1, v2, v3]) ∧ OwnDev w' w.heap.size v1 v2 v3 ⟨List.replicate (k * 8) 0, [], []⟩) ∧ Below w.heap.size w w' := by
  obtain ⟨i0, hi, hz0, hz1, hz2⟩ := info_parts infoInt64
  go_enter Try.func190, Try.ntmps190
  go_wp2_with (at_make; refine wpList_make_full _ rfl _ _ 24 rfl w.heap.size 2 i0 (.int .i64 0) 1 Try.underlying24 hi hz0 hz1 .i64 .i64 _ _ (k * 8) rfl rfl (by omega) (by omega) (by rw [hz2]; omega) (by unfold maxLen; omega) (by simp) ?_; intro w1 hown hgrow; obtain ⟨q0, q1, q2, f0, f1, f2, HB, HX, hz⟩ := new_after3 hgrow; have HOW := hide hown; clear hown hgrow)
  clear q0 q1 q2 f0 f1 f2
  rw [World.size_alloc] at HOW
  generalize hU : ((w1.setCell _ _).setCell _ _).setCell _ _ = U
  obtain ⟨X, O⟩ := store3' (unhide HX) hU
  have O4 := (unhide O).own (unhide HOW) (by simp [Value.ownBlock])
  have B4 := (unhide O).below (unhide HB) (Nat.le_refl _) (fun q hq h => by omega)
  have X4 := unhide X
  clear hU X O HX HOW HB
  have t0 := X4.cell 0
  have t1 := X4.cell 1
  have t2 := X4.cell 2
  simp at t0 t1 t2
  refine bodyPost_ret (v := .agg #[.slice (some ⟨w.heap.size + 1, 0, none⟩) (k * 8) (k * 8), .slice none 0 0, .slice none 0 0]) (by simp [results, Try.results190, go_sem, t0, t1, t2]) rfl ⟨⟨_, _, _, rfl, ?_⟩, B4⟩
  rw [made_zero] at O4
  exact ⟨by simpa using O4, World.ownsRow_nil _ _ _ _, World.ownsRow_nil _ _ _ _, by simp [Value.ownBlock], by simp [Value.ownBlock], by simp [Value.ownBlock]⟩
end Go.Proofs.Ytdnfadbkpajloaa
