/-
  States in memory.
-/
import Derived.Test.YtaadbgebcknfkaaOwnDev
import Derived.Test.YtaadbgebcknfkaaBoolMath
import Derived.Test.YtaadbgebcknfkaaItemMath
import Derived.Test.YtaadbgebcknfkaaNoteMath
import Derived.Test.YtaadbgebcknfkaaEqB
import Derived.Test.YtaadbgebcknfkaaSameDevWalk
namespace Go.Proofs.Ytaadbgebcknfkaa
open Go.RowKit
set_option linter.unusedVariables false

structure StaA where
  up : Bool
  now : Int
  su : Int
  D : Dev
  a1 : Option Addr
  a2 : Option Addr
  a3 : Option Addr
  c1 : Nat
  c2 : Nat
  c3 : Nat
  LI : List ItmA
  aI : Option Addr
  cI : Nat
  fr : Int
  bl : List Bool
  aB : Option Addr
  cB : Nat
  cl : List Int
  aC : Option Addr
  cC : Nat
  LN : List NteA
  aN : Option Addr
  cN : Nat
def StaA.cells (x : StaA) : List Value := [.bool x.up, .int .i64 x.now, .int .i64 x.su, .slice x.a1 x.D.words.length x.c1, .slice x.a2 x.D.flights.length x.c2, .slice x.a3 x.D.over.length x.c3, .slice x.aI x.LI.length x.cI, .int .i64 x.fr, .slice x.aB x.bl.length x.cB, .slice x.aC x.cl.length x.cC, .slice x.aN x.LN.length x.cN]
structure StaA.side (w : World) (x : StaA) : Prop where
  dev : DevAt w x.a1 x.a2 x.a3 x.D
  its : ItmsAt w x.aI x.LI
  bs : BoolsAt w x.aB x.bl
  cs : IntsAt w x.aC x.cl
  ns : NtesAt w x.aN x.LN
structure StaA.sideR (w : World) (x : StaA) : Prop where
  dev : DevAt w x.a1 x.a2 x.a3 x.D
  its : ItmsR w x.aI x.LI
  bs : BoolsAt w x.aB x.bl
  cs : IntsAt w x.aC x.cl
  ns : NtesR w x.aN x.LN
structure StaA.lens (n : Nat) (x : StaA) : Prop where
  l1 : x.D.words.length ≤ n
  l2 : x.D.flights.length ≤ n
  l3 : x.D.over.length ≤ n
  lI : x.LI.length ≤ n
  lB : x.bl.length ≤ n
  lC : x.cl.length ≤ n
  lN : x.LN.length ≤ n
structure StaA.inner (x : StaA) : Prop where
  iI : ∀ y ∈ x.LI, y.b.l.length ≤ 1048576
  iN : ∀ y ∈ x.LN, y.small
structure StaA.like (x y : StaA) : Prop where
  up : x.up = y.up
  now : x.now = y.now
  su : x.su = y.su
  D : x.D = y.D
  LI : x.LI.map ItmA.b = y.LI.map ItmA.b
  fr : x.fr = y.fr
  bl : x.bl = y.bl
  cl : x.cl = y.cl
  LN : x.LN.map NteA.b = y.LN.map NteA.b
theorem StaA.side.below {w w' : World} {x : StaA} (h : x.side w) (hb : Below w.heap.size w w') : x.side w' := ⟨h.dev.below hb, h.its.below hb, h.bs.below hb, h.cs.below hb, h.ns.below hb⟩
theorem StaA.sideR.below {w w' : World} {x : StaA} (h : x.sideR w) (hb : Below w.heap.size w w') : x.sideR w' := ⟨h.dev.below hb, h.its.below hb, h.bs.below hb, h.cs.below hb, h.ns.below hb⟩
theorem StaA.sideR.toSide {w : World} {x : StaA} (h : x.sideR w) (hi : x.inner) : x.side w := ⟨h.dev, h.its.toAt hi.iI, h.bs, h.cs, h.ns.toAt hi.iN⟩
theorem StaA.lens.like {n : Nat} {x y : StaA} (h : x.lens n) (k : y.like x) : y.lens n := by
  have e1 := congrArg List.length k.LI
  have e2 := congrArg List.length k.LN
  simp only [List.length_map] at e1 e2
  exact ⟨by rw [k.D]; exact h.l1, by rw [k.D]; exact h.l2, by rw [k.D]; exact h.l3, by rw [e1]; exact h.lI, by rw [k.bl]; exact h.lB, by rw [k.cl]; exact h.lC, by rw [e2]; exact h.lN⟩
def sameSta (x y : StaA) : Bool := (x.up == y.up) && ((x.now == y.now) && ((x.su == y.su) && ((x.fr == y.fr) && (sameDev x.D y.D && (sameItms x.LI y.LI && (decide (x.bl = y.bl) && (decide (x.cl = y.cl) && sameNtes x.LN y.LN)))))))
theorem sameSta_like {x y x' y' : StaA} (h : x'.like x) (k : y'.like y) : sameSta x' y' = sameSta x y := by
  unfold sameSta
  rw [h.up, k.up, h.now, k.now, h.su, k.su, h.fr, k.fr, h.D, k.D, sameItms_map h.LI k.LI, h.bl, k.bl, h.cl, k.cl, sameNtes_map h.LN k.LN]
theorem ItmsAt.outP {F : Nat → Prop} {w w' : World} {a : Option Addr} {L : List ItmA} (h : ItmsAt w a L) (ho : Out F w w') (ha : ∀ ad, a = some ad → ¬ F ad.block) (hi : ∀ x ∈ L, ∀ ad, x.a = some ad → ¬ F ad.block) : ItmsAt w' a L := by
  rcases h with rfl | ⟨b, o, rfl, hlt, hc⟩
  · exact .inl rfl
  · exact .inr ⟨b, o, rfl, Nat.lt_of_lt_of_le hlt ho.size, fun i hl => ⟨fun j v hv => (ho.cell hlt (ha _ rfl) _).trans ((hc i hl).1 j v hv), ho.ints (hc i hl).2.1 (hi _ (List.getElem_mem hl)), (hc i hl).2.2⟩⟩
theorem NtesIn.outP {S : NteA → Prop} {F : Nat → Prop} {w w' : World} {a : Option Addr} {L : List NteA} (h : NtesIn S w a L) (ho : Out F w w') (ha : ∀ ad, a = some ad → ¬ F ad.block) (hi : ∀ x ∈ L, (∀ ad, x.a1 = some ad → ¬ F ad.block) ∧ (∀ ad, x.a2 = some ad → ¬ F ad.block) ∧ (∀ ad, x.a3 = some ad → ¬ F ad.block)) : NtesIn S w' a L := by
  rcases h with rfl | ⟨b, o, rfl, hlt, hc⟩
  · exact .inl rfl
  · exact .inr ⟨b, o, rfl, Nat.lt_of_lt_of_le hlt ho.size, fun i hl => ⟨fun j v hv => (ho.cell hlt (ha _ rfl) _).trans ((hc i hl).1 j v hv), ⟨ho.ints (hc i hl).2.1.1 (hi _ (List.getElem_mem hl)).1, ho.ints (hc i hl).2.1.2.1 (hi _ (List.getElem_mem hl)).2.1, ho.strs (hc i hl).2.1.2.2 (hi _ (List.getElem_mem hl)).2.2⟩, (hc i hl).2.2⟩⟩
end Go.Proofs.Ytaadbgebcknfkaa
