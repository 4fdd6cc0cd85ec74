/-
  What spec.l5Form answers of an op.
-/
import Derived.Test.YtcmekhpphgkglaaDoorOpSpecA
import Derived.Test.YtcmekhpphgkglaaDoorOpSpecB
import Derived.Test.YtcmekhpphgkglaaDoorOpSpecC
import Derived.Test.YtcmekhpphgkglaaDoorOpSpecD
namespace Go.Proofs.YtcmekhpphgkglaaDoor
open Go.RowKit
set_option linter.unusedVariables false

theorem l5Form_any (k : Int) (p t : ByteArray) (d : Bool) (i : Int) (nl : List Int) (b : Nat) (a : Option Addr) (c : Nat) (ty : TypeId) (w : World) (hx : Box w b [.int .i64 k, .string p, .string t, .bool d, .int .i64 i, .slice a nl.length c] ty) :
    Calls Tryd.prog 63 #[.pointer (some ⟨b, 0, none⟩)] w fun e w' => e = .returned (.bool (opForm k p t d i nl)) ∧ w' = w := by
  cases hin : inB k 1 8
  · exact l5Form_0 k p t d i nl b a c ty w hx hin
  rcases kinds hin with rfl | rfl | rfl | rfl | rfl | rfl | rfl | rfl
  · exact l5Form_1 p t d i nl b a c ty w hx
  · exact l5Form_2 p t d i nl b a c ty w hx
  · exact l5Form_3 p t d i nl b a c ty w hx
  · exact l5Form_4 p t d i nl b a c ty w hx
  · exact l5Form_5 p t d i nl b a c ty w hx
  · exact l5Form_6 p t d i nl b a c ty w hx
  · exact l5Form_7 p t d i nl b a c ty w hx
  · exact l5Form_8 p t d i nl b a c ty w hx
end Go.Proofs.YtcmekhpphgkglaaDoor
