/-
  The laws' draws, told by 'Out': nothing but the source's block has turned.
-/
import Derived.Test.YtaadbgebcknfkaaPickWalk
import Derived.Test.YtaadbgebcknfkaaRowMath
import Derived.Test.YtaadbgebcknfkaaNameMath
namespace Go.Proofs.Ytaadbgebcknfkaa
open Go.RowKit

theorem Only.out {s : Nat} {w w' : World} (h : Only s w w') : Out (fun q => q = s) w w' := ⟨h.os, h.tape, h.output, by rw [h.size]; exact Nat.le_refl _, fun q _ hq => h.block q hq⟩
theorem srcBox {w : World} {t : TypeId} {s : Nat} {a : Option Addr} {n c p : Nat} (h : SrcAt w t s a n c p) (W : World) (hb : ∀ k, k ≤ s → W.heap[k]? = w.heap[k]?) : SrcAt W t s a n c p := h.keep hb
theorem SrcAt.outOther {w w' : World} {t : TypeId} {s r : Nat} {a : Option Addr} {n c p : Nat} (h : SrcAt w t s a n c p) (ho : Out (fun q => q = r) w w') (hr : s < r) : SrcAt w' t s a n c p :=
  h.keep fun k hk => ho.block k (by have := h.lt; omega) (by show ¬ k = r; omega)

theorem next_out (s : Nat) (a : Option Addr) (n c p : Nat) (m : Int) (w : World) (h : SrcAt w 132 s a n c p) (hp : p ≤ 1000000) (hm1 : 1 ≤ m) (hm2 : m ≤ 1000000000000) :
    Calls Try.prog 34 #[.pointer (some ⟨s, 0, none⟩), .int .i64 m] w fun e w' => (∃ v : Int, e = .returned (.int .i64 v) ∧ 0 ≤ v ∧ v < m) ∧ SrcAt w' 132 s a n c (p + 1) ∧ Out (fun q => q = s) w w' :=
  (l1Next_src s a n c p m w h hp hm1 hm2).mono fun _ _ ⟨h1, h2, h3⟩ => ⟨h1, h2, h3.out⟩
theorem chance_out (s : Nat) (a : Option Addr) (n c p : Nat) (m : Int) (w : World) (h : SrcAt w 132 s a n c p) (hp : p ≤ 1000000) (hm1 : 1 ≤ m) (hm2 : m ≤ 1000000000000) :
    Calls Try.prog 43 #[.pointer (some ⟨s, 0, none⟩), .int .i64 m] w fun e w' => (∃ b : Bool, e = .returned (.bool b)) ∧ SrcAt w' 132 s a n c (p + 1) ∧ Out (fun q => q = s) w w' :=
  (l1Chance_any s a n c p m w h hp hm1 hm2).mono fun _ _ ⟨h1, h2, h3⟩ => ⟨h1, h2, h3.out⟩
theorem out_new (s : Nat) (w : World) (o : Obj) : Out (fun q => q = s) w (w.alloc o) := (Out.refl _ _).alloc o
theorem pick_new (s : Nat) (a : Option Addr) (n c p : Nat) (P : Int → Prop) (cs : Array Value) (t : TypeId) (m : Nat) (w : World) (h : SrcAt w 132 s a n c p) (hp : p ≤ 1000000) (hm : cs.size = m) (h1 : 1 ≤ m) (h2 : m ≤ 1000) (hP : ∀ x, x ∈ cs.toList → ∃ v : Int, P v ∧ x = .int .i64 v) :
    Calls Try.prog 32 #[.pointer (some ⟨s, 0, none⟩), .slice (some ⟨w.heap.size, 0, none⟩) m m] (w.alloc (.cells cs t)) fun e w' => (∃ v : Int, P v ∧ e = .returned (.int .i64 v)) ∧ SrcAt w' 132 s a n c (p + 1) ∧ Out (fun q => q = s) w w' := by
  have hs := h.lt
  refine (l1Pick_any s a n c p P w.heap.size m m _ (h.alloc _) hp h1 h2 (offer_new w cs t w.heap.size m _ rfl hm hP) (by omega)).mono ?_
  rintro e w' ⟨g1, g2, g3⟩
  exact ⟨g1, g2, (out_new s w _).trans g3.out (fun _ _ e => e)⟩
theorem say_new (s : Nat) (a : Option Addr) (n c p : Nat) (P : ByteArray → Prop) (cs : Array Value) (t : TypeId) (m : Nat) (w : World) (h : SrcAt w 132 s a n c p) (hp : p ≤ 1000000) (hm : cs.size = m) (h1 : 1 ≤ m) (h2 : m ≤ 1000) (hP : ∀ x, x ∈ cs.toList → ∃ v : ByteArray, P v ∧ x = .string v) :
    Calls Try.prog 109 #[.pointer (some ⟨s, 0, none⟩), .slice (some ⟨w.heap.size, 0, none⟩) m m] (w.alloc (.cells cs t)) fun e w' => (∃ v : ByteArray, P v ∧ e = .returned (.string v)) ∧ SrcAt w' 132 s a n c (p + 1) ∧ Out (fun q => q = s) w w' := by
  have hs := h.lt
  refine (l1Say_any s a n c p P w.heap.size m m _ (h.alloc _) hp h1 h2 (offer_new w cs t w.heap.size m _ rfl hm hP) (by omega)).mono ?_
  rintro e w' ⟨g1, g2, g3⟩
  exact ⟨g1, g2, (out_new s w _).trans g3.out (fun _ _ e => e)⟩
set_option maxHeartbeats 1000000 in
theorem name_out (s : Nat) (a : Option Addr) (n c p : Nat) (w : World) (h : SrcAt w 132 s a n c p) (hp : p ≤ 1000) :
    Calls Try.prog 78 #[.pointer (some ⟨s, 0, none⟩)] w fun e w' => (∃ v : ByteArray, isNameL v.data.toList = true ∧ e = .returned (.string v)) ∧ SrcAt w' 132 s a n c (p + 1) ∧ Out (fun q => q = s) w w' := by
  have H := hide h
  clear h
  go_enter Try.func78, Try.ntmps78
  go_wp2_with fail
  refine (say_new s a n c p (fun v => isNameL v.data.toList = true) _ _ 6 w (unhide H) (by omega) rfl (by omega) (by omega) (by simp <;> decide)).mono ?_
  rintro r w2 ⟨⟨v, hv, rfl⟩, hs2, ho2⟩
  have P2 := hide ho2
  have H2 := hide hs2
  have HV := hide hv
  clear hs2 ho2 hv
  go_wp2_with fail
  go_ret
  exact ⟨⟨_, unhide HV, rfl⟩, unhide H2, unhide P2⟩
theorem later_any (a : Option Addr) (n c : Nat) (w : World) :
    Calls Try.prog 44 #[.slice a n c, .int .i64 2] w fun e w' => e = .returned (.pointer (some ⟨w.heap.size, 0, none⟩)) ∧ w' = w.alloc (.cells #[.slice a n c, .int .i64 19] 132) := by
  go_enter Try.func44, Try.ntmps44
  go_wp2
  go_ret
  exact ⟨rfl, rfl⟩
end Go.Proofs.Ytaadbgebcknfkaa
