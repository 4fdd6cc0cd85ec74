/-
  What impl.DeviceFault answers.
-/
import Derived.Test.YtdnfadbkpajloaaOpenedWalk
namespace Go.Proofs.Ytdnfadbkpajloaa
open Go.RowKit
set_option maxHeartbeats 1000000 in
theorem implDeviceFault_any (a1 a2 a3 : Option Addr) (c1 c2 c3 : Nat) (D : Dev) (w : World) (h : DevAt w a1 a2 a3 D) (n1 : D.words.length ≤ 1048576) (n2 : D.flights.length ≤ 1048576) (n3 : D.over.length ≤ 1048576) :
    Calls Try.prog 22 #[.agg #[.slice a1 D.words.length c1, .slice a2 D.flights.length c2, .slice a3 D.over.length c3]] w fun e w' => e = .returned (.int .i64 (devFault D)) ∧ Below w.heap.size w w' := by
  have H := hide h
  clear h
  go_enter Try.func22, Try.ntmps22
  go_wp2_with fail
  obtain ⟨W, hW, z1, hb, hx⟩ := boxes1 w [.slice a1 D.words.length c1, .slice a2 D.flights.length c2, .slice a3 D.over.length c3] 27
  rw [← hW]
  clear hW
  refine (openedDevice_any a1 a2 a3 c1 c2 c3 D _ ((unhide H).below (unhide hb)) n1 n2 n3).mono ?_
  rintro e w2 ⟨hor, hb2⟩
  have B2 := hide (below_step (unhide hb) hb2 (by omega))
  clear hb2
  rcases hor with ⟨hg, m, wv, fo, oo, fm, om, rfl, -, -⟩ | ⟨hf, rfl⟩
  · have HV := hide (devFault_good hg)
    clear hg
    go_wp2_with fail
    go_ret
    exact ⟨ret_int (unhide HV).symm, unhide B2⟩
  · clear hf
    generalize hk : devFault D = k at *
    have HK := hide hk
    clear hk
    go_wp2_with fail
    go_ret
    exact ⟨ret_int (unhide HK).symm, unhide B2⟩
end Go.Proofs.Ytdnfadbkpajloaa
