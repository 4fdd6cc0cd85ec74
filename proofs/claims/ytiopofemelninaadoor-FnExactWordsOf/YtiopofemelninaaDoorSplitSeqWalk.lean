/-
  What strings.SplitSeq hands back, at the byte 32: its rounds.
-/
import Derived.Test.YtiopofemelninaaDoorCutMath32
import Derived.Test.YtiopofemelninaaDoorRowMath
import Derived.Test.YtiopofemelninaaDoorShelfW
import Derived.RangeFuncNested
import Derived.RangeFuncBound
import Derived.RangeFuncCalls
import Derived.RangeFuncLeaves
import Derived.Shelf.Abstract
import Derived.WalkKit
import Derived.OwnWalkIn
import Derived.TacticsInMore
import Derived.LoopNIn
import Derived.LoopIn
namespace Go.Proofs.YtiopofemelninaaDoor
open Go.RowKit Go.Shelf
attribute [local go_sem] Oper.semAt_some
set_option linter.unusedVariables false

/-- A piece of a line. -/
abbrev BS := { x : ByteArray // x.size ≤ 3000 }
/-- What a round keeps: what lay below n₀, but for one block. -/
def KpW (bm n₀ : Nat) (W W' : World) : Prop := ∀ q, q < n₀ → q ≠ bm → W'.heap[q]? = W.heap[q]?
theorem KpW.refl {bm n₀ : Nat} (W : World) : KpW bm n₀ W W := fun _ _ _ => rfl
theorem KpW.trans {bm n₀ : Nat} {A B C : World} (h : KpW bm n₀ A B) (k : KpW bm n₀ B C) : KpW bm n₀ A C := fun q hq hn => (k q hq hn).trans (h q hq hn)
theorem KpW.box {bm n₀ : Nat} {A B : World} (h : KpW bm n₀ A B) {b : Nat} {cs : List Value} {t : TypeId} (hx : Box A b cs t) (hb : b < n₀) (hn : b ≠ bm) : Box B b cs t := (h b hb hn).trans hx
theorem ext_data (s : ByteArray) (f k : Nat) : (s.extract f k).data.toList = (s.data.toList.take k).drop f := by
  simp [ByteArray.extract, ByteArray.copySlice, List.drop_take]
theorem size_toList (s : ByteArray) : s.data.toList.length = s.size := by rw [Array.length_toList]; rfl

set_option maxRecDepth 100000 in
set_option maxHeartbeats 4000000 in
theorem split1_in (n : Nat) (hn : 1 ≤ n) (l pb sb vb n₀ bm : Nat) (hpb : pb < n₀) (hsb : sb < n₀) (hvb : vb < n₀) (np : pb ≠ bm) (ns : sb ≠ bm) (nv : vb ≠ bm) (sp : sb ≠ pb) (sv : sb ≠ vb) (s : BS) (J : List BS → World → Prop)
    (hJs : ∀ pre W r v, J pre W → Box W sb [.string r] 9 → J pre (W.setCell ⟨sb, 0, none⟩ (.string v)))
    (hY : ∀ pre x W, J pre W → pre.length < 3001 → YieldAt Fence.wide (n - 1) Tryd.prog l #[.string x.1] W fun e W' => e = .returned (.bool true) ∧ J (pre ++ [x]) W' ∧ KpW bm n₀ W W')
    (W : World) (hP : Box W pb [.string ⟨#[32]⟩] 9) (hS : Box W sb [.string s.1] 9) (hV : Box W vb [.int .i64 0] 3) (h0 : J [] W) :
    CallsIn Fence.wide n Tryd.prog 64 #[.func (.yield l) #[] #[], .pointer (some ⟨pb, 0, none⟩), .pointer (some ⟨sb, 0, none⟩), .pointer (some ⟨vb, 0, none⟩)] W fun e W' => (∃ v, e = .returned v) ∧ ∃ ys : List BS, ys.map (fun y => y.1.data.toList) = Cut32.cutL s.1.data.toList ∧ J ys W' := by
  refine callsIn_of_wp Tryd.func64 rfl trivial ?_ rfl
  simp only [Tryd.ntmps64, List.size_toArray, List.length_cons, List.length_nil, Nat.reduceAdd, Nat.reduceSub, Array.replicate_succ, Array.replicate_zero, List.push_toArray, List.append_toArray, List.nil_append, List.cons_append]
  have p0 := hP.cell 0
  simp only [List.getElem?_cons_zero] at p0
  gi_wp2
  clear p0
  gi_loopw [7, 8] (fun i7 i8 wr => ∃ (pre : List BS) (r : ByteArray), Hid (Box wr pb [.string ⟨#[32]⟩] 9) ∧ Hid (Box wr sb [.string r] 9) ∧ Hid (Box wr vb [.int .i64 0] 3) ∧ J pre wr ∧ Hid (pre.map (fun y => y.1.data.toList) ++ Cut32.cutL r.data.toList = Cut32.cutL s.1.data.toList) ∧ pre.length + r.size ≤ 3000)
    (fun _ _ wr => match wr.cell? ⟨sb, 0, none⟩ with | some (.string r) => r.size | _ => 0)
  case atStart => exact ⟨[], s.1, hP, hS, hV, h0, by simp [Hid], by have := s.2; simp; omega⟩
  case round =>
    obtain ⟨pre, r, HP, HS, HV, hJ, HC, hlen⟩ := hrel
    have p0 := (unhide HP).cell 0
    have s0 := (unhide HS).cell 0
    have v0 := (unhide HV).cell 0
    simp only [List.getElem?_cons_zero] at p0 s0 v0
    have hI := fun w => Tryd.strings_Index_one r 32 w
    by_cases hm : (32 : UInt8) ∈ r.data.toList
    case neg =>
      have hidx : Lib.indexByte r.data.toList 32 = -1 := Cut32.indexByte_none _ _ hm
      have HE : Hid ((pre ++ [(⟨r, by omega⟩ : BS)]).map (fun y => y.1.data.toList) = Cut32.cutL s.1.data.toList) := by
        rw [Hid, List.map_append, ← unhide HC, Cut32.cutL_none _ hm]
        rfl
      obtain ⟨fn, tmps, assign, body, hy, hR⟩ := hY pre ⟨r, by omega⟩ wr hJ (by omega)
      clear hm HC
      gi_wp2
      refine ⟨trivial, (callsIn_wide.2 (hI _)).mono ?_⟩
      rintro e w' ⟨rfl, rfl⟩
      rw [hidx]
      gi_wp2
      refine hR.mono ?_
      rintro e W3 ⟨rfl, hJ3, hk3⟩
      clear hR hy
      gi_wp2
      go_end0
      exact ⟨⟨_, rfl⟩, _, unhide HE, hJ3⟩
    obtain ⟨p, q, hpq, hp⟩ := List.eq_append_cons_of_mem hm
    have hidx : Lib.indexByte r.data.toList 32 = p.length := by rw [hpq]; exact Cut32.indexByte_hit p q 32 hp
    have hsz : p.length + 1 + q.length = r.size := by rw [← size_toList, hpq]; simp; omega
    have hx : (r.extract 0 p.length).data.toList = p := by rw [ext_data, hpq]; simp
    have hr' : (r.extract (p.length + 1) r.size).data.toList = q := by
      rw [ext_data, List.take_of_length_le (by rw [size_toList]; exact Nat.le_refl _), hpq, List.drop_append]
      simp
    have hxs : (r.extract 0 p.length).size = p.length := by rw [← size_toList, hx]
    have hrs : (r.extract (p.length + 1) r.size).size = q.length := by rw [← size_toList, hr']
    have HE : Hid ((pre ++ [(⟨r.extract 0 p.length, by omega⟩ : BS)]).map (fun y => y.1.data.toList) ++ Cut32.cutL (r.extract (p.length + 1) r.size).data.toList = Cut32.cutL s.1.data.toList) := by
      rw [Hid, List.map_append, hr', ← unhide HC, hpq, Cut32.cutL_hit p q hp, List.append_assoc]
      congr 1
      show [(r.extract 0 p.length).data.toList] ++ Cut32.cutL q = p :: Cut32.cutL q
      rw [hx]
      rfl
    obtain ⟨fn, tmps, assign, body, hy, hR⟩ := hY pre ⟨r.extract 0 p.length, by omega⟩ wr hJ (by omega)
    have k0 : (0 : Int) ≤ (p.length : Int) := by omega
    have k1 : (p.length : Int) ≤ (r.size : Int) := by omega
    have k2 : (p.length : Int) + 1 ≤ (r.size : Int) := by omega
    clear hm HC hpq hp hx hr'
    gi_wp2
    refine ⟨trivial, (callsIn_wide.2 (hI _)).mono ?_⟩
    rintro e w' ⟨rfl, rfl⟩
    rw [hidx]
    gi_wp2
    refine hR.mono ?_
    rintro e W3 ⟨rfl, hJ3, hk3⟩
    have P3 := hide (hk3.box (unhide HP) hpb np)
    have S3 := hide (hk3.box (unhide HS) hsb ns)
    have V3 := hide (hk3.box (unhide HV) hvb nv)
    have J4 := hide (hJs _ _ _ (r.extract (p.length + 1) r.size) hJ3 (unhide S3))
    have S4 : Hid (Box (W3.setCell ⟨sb, 0, none⟩ (.string (r.extract (p.length + 1) r.size))) sb [.string (r.extract (p.length + 1) r.size)] 9) := (unhide S3).set 0 _
    have P4 := hide ((unhide P3).set_other (p := ⟨sb, 0, none⟩) (Ne.symm sp) (.string (r.extract (p.length + 1) r.size)))
    have V4 := hide ((unhide V3).set_other (p := ⟨sb, 0, none⟩) (Ne.symm sv) (.string (r.extract (p.length + 1) r.size)))
    clear hR hy hk3 hJ3 p0 s0 v0 hidx
    have p3 := (unhide P3).cell 0
    have s3 := (unhide S3).cell 0
    have f3 := (unhide S3).frozen 0
    simp only [List.getElem?_cons_zero] at p3 s3
    gi_wp2
    go_roundw
    case rel => exact ⟨_, _, P4, S4, V4, unhide J4, HE, by rw [List.length_append, List.length_singleton, hrs]; omega⟩
    case measure =>
      have s4 := (unhide S4).cell 0
      have s5 := (unhide HS).cell 0
      simp only [List.getElem?_cons_zero] at s4 s5
      rw [s4, s5]
      show (r.extract (p.length + 1) r.size).size < r.size
      omega
end Go.Proofs.YtiopofemelninaaDoor
