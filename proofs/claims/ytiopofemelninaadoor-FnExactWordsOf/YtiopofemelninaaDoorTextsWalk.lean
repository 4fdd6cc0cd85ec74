/-
  What the laws' own helpers on an answer with words tell: it is marked, its marks are read back, and it equals one with the same words.
-/
import Derived.Test.YtiopofemelninaaDoorMarkWalk
import Derived.Test.YtiopofemelninaaDoorStrsWalk
import Derived.Test.YtiopofemelninaaDoorPathNamesMath
namespace Go.Proofs.YtiopofemelninaaDoor
open Go.RowKit

theorem strsAt_marks {w : World} {base : Nat} {e : TypeId} {a : Option Addr} {n c : Nat} {m : Int} (h : w.ownsRow base e 1 (.slice a n c) n ((marks m n).map Value.string)) : StrsAt w a (marks m n) := by
  have h2 : w.ownsRow base e 1 (.slice a n c) (marks m n).length ((marks m n).map Value.string) := by rw [marks_length]; exact h
  obtain ⟨a', c', e1, h3, -, -⟩ := strsAt_own h2
  rw [marks_length] at e1
  cases e1
  exact h3

set_option maxHeartbeats 1000000 in
theorem markTextsResult_any (x : Int) (a : Option Addr) (n c base : Nat) (xs : List Value) (m : Int) (w : World) (how : w.ownsRow base 9 1 (.slice a n c) n xs) (hn : n ≤ 1048577) (h0 : 1 ≤ m) (h1 : m ≤ 10000000) (hbs : base ≤ w.heap.size) :
    Calls Tryd.prog 9 #[.agg #[.int .i64 x, .slice a n c], .int .i64 m] w fun e w' => e = .returned (.int .i64 (m + n)) ∧ w'.ownsRow base 9 1 (.slice a n c) n ((marks m n).map Value.string) ∧ Below base w w' ∧ Besides a w w' := by
  have HO := hide how
  clear how
  go_enter Tryd.func9, Tryd.ntmps9
  go_wp2_with fail
  refine (markStringS_any (.slice a n c) n base xs m _ (ownsRow_stay (unhide HO) (fun k hk => Below.heap_alloc _ _ k hk)) hn h0 h1 (by simp; omega)).mono ?_
  rintro e w2 ⟨rfl, ho, hb, he⟩
  have HO2 := hide ho
  have G := hide (((Below.refl base w).alloc hbs _).trans hb)
  have HE : Hid (Besides a w w2) := Besides.trans (Besides.ofBelow ((Below.refl _ _).alloc (Nat.le_refl _) _)) (by simp) (he _ _ _ rfl)
  clear ho hb he
  go_wp2_with fail
  go_ret
  exact ⟨rfl, unhide HO2, unhide G, unhide HE⟩

set_option maxHeartbeats 1000000 in
theorem heldTextsResult_any (x : Int) (a : Option Addr) (n c : Nat) (m : Int) (w : World) (h : StrsAt w a (marks m n)) (hn : n ≤ 1048577) (h0 : 1 ≤ m) (h1 : m ≤ 10000000) :
    Calls Tryd.prog 10 #[.agg #[.int .i64 x, .slice a n c], .int .i64 m] w fun e w' => e = .returned (.int .i64 (m + n)) ∧ Below w.heap.size w w' := by
  have H := hide h
  have hq : ¬ m + (n : Int) < 0 := by omega
  clear h
  go_enter Tryd.func10, Tryd.ntmps10
  go_wp2_with fail
  refine (heldStringS_any a c n m _ ((unhide H).below ((Below.refl _ _).alloc (Nat.le_refl _) _)) hn h0 h1).mono ?_
  rintro e w2 ⟨rfl, hb⟩
  have G := hide (below_step ((Below.refl _ w).alloc (Nat.le_refl _) _) hb (by simp))
  clear hb
  go_wp2_with fail
  go_ret
  exact ⟨rfl, unhide G⟩

set_option maxHeartbeats 1000000 in
theorem eqTextsResult_same (x : Int) (a b : Option Addr) (c d : Nat) (l : List ByteArray) (w : World) (h : StrsAt w a l) (h2 : StrsAt w b l) (hn : l.length ≤ 1048576) :
    Calls Tryd.prog 8 #[.agg #[.int .i64 x, .slice a l.length c], .agg #[.int .i64 x, .slice b l.length d]] w fun e w' => e = .returned (.bool true) ∧ Below w.heap.size w w' := by
  have hne := int_neq_self x
  have H := hide h
  have H2 := hide h2
  clear h h2
  go_enter Tryd.func8, Tryd.ntmps8
  go_wp2_with fail
  have hbb : ∀ o1 o2, Below w.heap.size w ((w.alloc o1).alloc o2) := fun o1 o2 => ((Below.refl _ _).alloc (Nat.le_refl _) _).alloc (by simp) _
  refine (eqStringS_same a b c d l _ ((unhide H).below (hbb _ _)) ((unhide H2).below (hbb _ _)) hn).mono ?_
  rintro e w2 ⟨rfl, hb⟩
  have G := hide (below_step (hbb _ _) hb (by simp; omega))
  clear hb hbb
  go_wp2_with fail
  go_ret
  exact ⟨rfl, unhide G⟩
end Go.Proofs.YtiopofemelninaaDoor
