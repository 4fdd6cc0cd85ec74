/-
  What the laws' own looks at words in an answer tell.
-/
import Derived.Test.YtiopofemelninaaDoorDevEq
import Derived.Test.YtiopofemelninaaDoorDevMark
import Derived.Test.YtiopofemelninaaDoorDevTo
namespace Go.Proofs.YtiopofemelninaaDoor
open Go.RowKit

theorem toInt64S_ex (a : Option Addr) (c : Nat) (l : List Int) (w : World) (h : IntsAt w a l) (hn : l.length ≤ 1048576) :
    Calls Tryd.prog 32 #[.slice a l.length c] w fun e w' => (∃ g, e = .returned (.slice (some ⟨g, 0, none⟩) l.length l.length) ∧ w'.ownsRow w.heap.size 2 1 (.slice (some ⟨g, 0, none⟩) l.length l.length) l.length (nums l)) ∧ Below w.heap.size w w' :=
  (toInt64S_any a c l w h hn).mono fun _ _ ⟨h1, h2, h3⟩ => ⟨⟨_, h1, h2⟩, h3⟩
end Go.Proofs.YtiopofemelninaaDoor
