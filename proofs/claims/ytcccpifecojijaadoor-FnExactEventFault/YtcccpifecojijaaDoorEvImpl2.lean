/-
  What impl.neededOfEvent and impl.EventFault answer.
-/
import Derived.Test.YtcccpifecojijaaDoorEvImpl
import Derived.Deep.CutRange
namespace Go.Proofs.YtcccpifecojijaaDoor
open Go.RowKit
set_option linter.unusedVariables false

set_option maxRecDepth 20000 in
set_option maxHeartbeats 4000000 in
theorem neededEv1 (wo at_ : Int) (fl : List Int) (ok : Int) (op ot : ByteArray) (od : Bool) (oi : Int) (on : List Int) (af a1 : Option Addr) (cf c1 : Nat) (w : World) (hf : IntsAt w af fl) (h : IntsAt w a1 on) :
    Calls Tryd.prog 48 #[.agg #[.int .i64 1, .int .i64 wo, .int .i64 at_, .slice af fl.length cf, .int .i64 ok, .string op, .string ot, .bool od, .int .i64 oi, .slice a1 on.length c1]] w fun r w' => (∃ b e b2 e2, r = .returned (.agg #[.int .i64 1, .int .i64 (nW 1 wo), .int .i64 (nA 1 at_), .slice b (nF 1 fl).length e, .int .i64 (zI 1 ok), .string (zS 1 op), .string (zS 1 ot), .bool (zB 1 od), .int .i64 (zI 1 oi), .slice b2 (zL 1 on).length e2]) ∧ IntsAt w' b (nF 1 fl) ∧ IntsAt w' b2 (zL 1 on)) ∧ Below w.heap.size w w' := by
  obtain ⟨W, hW, hWz, HB0, HP0, HX0, HY0⟩ := boxes3 w [.int .i64 1, .int .i64 wo, .int .i64 at_, .slice af fl.length cf, .int .i64 ok, .string op, .string ot, .bool od, .int .i64 oi, .slice a1 on.length c1] [.int .i64 0, .int .i64 0, .int .i64 0, .slice none 0 0, .int .i64 0, .string ⟨#[]⟩, .string ⟨#[]⟩, .bool false, .int .i64 0, .slice none 0 0] [.int .i64 1, .int .i64 wo, .int .i64 0, .slice none 0 0, .int .i64 ok, .string op, .string ot, .bool od, .int .i64 oi, .slice a1 on.length c1] 44 44 44
  have H0 := hide h
  have F0 := hide hf
  clear h hf
  go_enter Tryd.func48, Tryd.ntmps48
  go_upto_region 12 with fail
  rw [← hW]
  clear hW
  go_wp2_with (first
    | (refine wpList_load_part rfl 44 (.tmp 3) rfl (w.heap.size + 1 + 1) 0 rfl 44 _ [.int .i64 1, .int .i64 wo, .int .i64 0, .slice none 0 0, .int .i64 ok, .string op, .string ot, .bool od, .int .i64 oi, .slice a1 on.length c1] (unhide HY0) rfl _ Tryd.underlying44 rfl (by kernel_rfl) ?_)
    | (refine wpList_store_part rfl 44 (.tmp 2) (.tmp 32) rfl (w.heap.size + 1) 0 _ rfl rfl 44 _ (unhide HX0) (by kernel_rfl) (by simp) (by simp [Value.oneCell']) ?_; intro wZ XZ OZ))
  have XR : Hid (Box wZ (w.heap.size + 1) [.int .i64 1, .int .i64 wo, .int .i64 0, .slice none 0 0, .int .i64 ok, .string op, .string ot, .bool od, .int .i64 oi, .slice a1 on.length c1] 44) := XZ
  have BR : Hid (Below w.heap.size w wZ) := (unhide OZ).below (unhide HB0) (Nat.le_refl _) (fun q hq e => by omega)
  refine bodyPost_ret (results_cell_row Tryd.results48 _ wZ (w.heap.size + 1) 44 _ (0, 0) _ rfl (unhide XR) Tryd.underlying44 rfl (by kernel_rfl)) rfl ⟨⟨none, 0, a1, ⟨c1, rfl⟩, .inl rfl, (unhide H0).below (unhide BR)⟩, unhide BR⟩
set_option maxRecDepth 20000 in
set_option maxHeartbeats 4000000 in
theorem neededEv2 (wo at_ : Int) (fl : List Int) (ok : Int) (op ot : ByteArray) (od : Bool) (oi : Int) (on : List Int) (af a1 : Option Addr) (cf c1 : Nat) (w : World) (hf : IntsAt w af fl) (h : IntsAt w a1 on) :
    Calls Tryd.prog 48 #[.agg #[.int .i64 2, .int .i64 wo, .int .i64 at_, .slice af fl.length cf, .int .i64 ok, .string op, .string ot, .bool od, .int .i64 oi, .slice a1 on.length c1]] w fun r w' => (∃ b e b2 e2, r = .returned (.agg #[.int .i64 2, .int .i64 (nW 2 wo), .int .i64 (nA 2 at_), .slice b (nF 2 fl).length e, .int .i64 (zI 2 ok), .string (zS 2 op), .string (zS 2 ot), .bool (zB 2 od), .int .i64 (zI 2 oi), .slice b2 (zL 2 on).length e2]) ∧ IntsAt w' b (nF 2 fl) ∧ IntsAt w' b2 (zL 2 on)) ∧ Below w.heap.size w w' := by
  obtain ⟨W, hW, hWz, HB0, HP0, HX0, HY0⟩ := boxes3 w [.int .i64 2, .int .i64 wo, .int .i64 at_, .slice af fl.length cf, .int .i64 ok, .string op, .string ot, .bool od, .int .i64 oi, .slice a1 on.length c1] [.int .i64 0, .int .i64 0, .int .i64 0, .slice none 0 0, .int .i64 0, .string ⟨#[]⟩, .string ⟨#[]⟩, .bool false, .int .i64 0, .slice none 0 0] [.int .i64 2, .int .i64 wo, .int .i64 0, .slice none 0 0, .int .i64 0, .string ⟨#[]⟩, .string ⟨#[]⟩, .bool false, .int .i64 0, .slice none 0 0] 44 44 44
  have H0 := hide h
  have F0 := hide hf
  clear h hf
  go_enter Tryd.func48, Tryd.ntmps48
  go_upto_region 12 with fail
  rw [← hW]
  clear hW
  go_wp2_with (first
    | (refine wpList_load_part rfl 44 (.tmp 3) rfl (w.heap.size + 1 + 1) 0 rfl 44 _ [.int .i64 2, .int .i64 wo, .int .i64 0, .slice none 0 0, .int .i64 0, .string ⟨#[]⟩, .string ⟨#[]⟩, .bool false, .int .i64 0, .slice none 0 0] (unhide HY0) rfl _ Tryd.underlying44 rfl (by kernel_rfl) ?_)
    | (refine wpList_store_part rfl 44 (.tmp 2) (.tmp 32) rfl (w.heap.size + 1) 0 _ rfl rfl 44 _ (unhide HX0) (by kernel_rfl) (by simp) (by simp [Value.oneCell']) ?_; intro wZ XZ OZ))
  have XR : Hid (Box wZ (w.heap.size + 1) [.int .i64 2, .int .i64 wo, .int .i64 0, .slice none 0 0, .int .i64 0, .string ⟨#[]⟩, .string ⟨#[]⟩, .bool false, .int .i64 0, .slice none 0 0] 44) := XZ
  have BR : Hid (Below w.heap.size w wZ) := (unhide OZ).below (unhide HB0) (Nat.le_refl _) (fun q hq e => by omega)
  refine bodyPost_ret (results_cell_row Tryd.results48 _ wZ (w.heap.size + 1) 44 _ (0, 0) _ rfl (unhide XR) Tryd.underlying44 rfl (by kernel_rfl)) rfl ⟨⟨none, 0, none, ⟨0, rfl⟩, .inl rfl, .inl rfl⟩, unhide BR⟩
set_option maxRecDepth 20000 in
set_option maxHeartbeats 4000000 in
theorem neededEv3 (wo at_ : Int) (fl : List Int) (ok : Int) (op ot : ByteArray) (od : Bool) (oi : Int) (on : List Int) (af a1 : Option Addr) (cf c1 : Nat) (w : World) (hf : IntsAt w af fl) (h : IntsAt w a1 on) :
    Calls Tryd.prog 48 #[.agg #[.int .i64 3, .int .i64 wo, .int .i64 at_, .slice af fl.length cf, .int .i64 ok, .string op, .string ot, .bool od, .int .i64 oi, .slice a1 on.length c1]] w fun r w' => (∃ b e b2 e2, r = .returned (.agg #[.int .i64 3, .int .i64 (nW 3 wo), .int .i64 (nA 3 at_), .slice b (nF 3 fl).length e, .int .i64 (zI 3 ok), .string (zS 3 op), .string (zS 3 ot), .bool (zB 3 od), .int .i64 (zI 3 oi), .slice b2 (zL 3 on).length e2]) ∧ IntsAt w' b (nF 3 fl) ∧ IntsAt w' b2 (zL 3 on)) ∧ Below w.heap.size w w' := by
  obtain ⟨W, hW, hWz, HB0, HP0, HX0, HY0⟩ := boxes3 w [.int .i64 3, .int .i64 wo, .int .i64 at_, .slice af fl.length cf, .int .i64 ok, .string op, .string ot, .bool od, .int .i64 oi, .slice a1 on.length c1] [.int .i64 0, .int .i64 0, .int .i64 0, .slice none 0 0, .int .i64 0, .string ⟨#[]⟩, .string ⟨#[]⟩, .bool false, .int .i64 0, .slice none 0 0] [.int .i64 3, .int .i64 0, .int .i64 0, .slice none 0 0, .int .i64 0, .string ⟨#[]⟩, .string ⟨#[]⟩, .bool false, .int .i64 0, .slice none 0 0] 44 44 44
  have H0 := hide h
  have F0 := hide hf
  clear h hf
  go_enter Tryd.func48, Tryd.ntmps48
  go_upto_region 12 with fail
  rw [← hW]
  clear hW
  go_wp2_with (first
    | (refine wpList_load_part rfl 44 (.tmp 3) rfl (w.heap.size + 1 + 1) 0 rfl 44 _ [.int .i64 3, .int .i64 0, .int .i64 0, .slice none 0 0, .int .i64 0, .string ⟨#[]⟩, .string ⟨#[]⟩, .bool false, .int .i64 0, .slice none 0 0] (unhide HY0) rfl _ Tryd.underlying44 rfl (by kernel_rfl) ?_)
    | (refine wpList_store_part rfl 44 (.tmp 2) (.tmp 32) rfl (w.heap.size + 1) 0 _ rfl rfl 44 _ (unhide HX0) (by kernel_rfl) (by simp) (by simp [Value.oneCell']) ?_; intro wZ XZ OZ))
  have XR : Hid (Box wZ (w.heap.size + 1) [.int .i64 3, .int .i64 0, .int .i64 0, .slice none 0 0, .int .i64 0, .string ⟨#[]⟩, .string ⟨#[]⟩, .bool false, .int .i64 0, .slice none 0 0] 44) := XZ
  have BR : Hid (Below w.heap.size w wZ) := (unhide OZ).below (unhide HB0) (Nat.le_refl _) (fun q hq e => by omega)
  refine bodyPost_ret (results_cell_row Tryd.results48 _ wZ (w.heap.size + 1) 44 _ (0, 0) _ rfl (unhide XR) Tryd.underlying44 rfl (by kernel_rfl)) rfl ⟨⟨none, 0, none, ⟨0, rfl⟩, .inl rfl, .inl rfl⟩, unhide BR⟩
set_option maxRecDepth 20000 in
set_option maxHeartbeats 4000000 in
theorem neededEv4 (wo at_ : Int) (fl : List Int) (ok : Int) (op ot : ByteArray) (od : Bool) (oi : Int) (on : List Int) (af a1 : Option Addr) (cf c1 : Nat) (w : World) (hf : IntsAt w af fl) (h : IntsAt w a1 on) :
    Calls Tryd.prog 48 #[.agg #[.int .i64 4, .int .i64 wo, .int .i64 at_, .slice af fl.length cf, .int .i64 ok, .string op, .string ot, .bool od, .int .i64 oi, .slice a1 on.length c1]] w fun r w' => (∃ b e b2 e2, r = .returned (.agg #[.int .i64 4, .int .i64 (nW 4 wo), .int .i64 (nA 4 at_), .slice b (nF 4 fl).length e, .int .i64 (zI 4 ok), .string (zS 4 op), .string (zS 4 ot), .bool (zB 4 od), .int .i64 (zI 4 oi), .slice b2 (zL 4 on).length e2]) ∧ IntsAt w' b (nF 4 fl) ∧ IntsAt w' b2 (zL 4 on)) ∧ Below w.heap.size w w' := by
  obtain ⟨W, hW, hWz, HB0, HP0, HX0, HY0⟩ := boxes3 w [.int .i64 4, .int .i64 wo, .int .i64 at_, .slice af fl.length cf, .int .i64 ok, .string op, .string ot, .bool od, .int .i64 oi, .slice a1 on.length c1] [.int .i64 0, .int .i64 0, .int .i64 0, .slice none 0 0, .int .i64 0, .string ⟨#[]⟩, .string ⟨#[]⟩, .bool false, .int .i64 0, .slice none 0 0] [.int .i64 4, .int .i64 0, .int .i64 at_, .slice none 0 0, .int .i64 0, .string ⟨#[]⟩, .string ⟨#[]⟩, .bool false, .int .i64 0, .slice none 0 0] 44 44 44
  have H0 := hide h
  have F0 := hide hf
  clear h hf
  go_enter Tryd.func48, Tryd.ntmps48
  go_upto_region 12 with fail
  rw [← hW]
  clear hW
  go_wp2_with (first
    | (refine wpList_load_part rfl 44 (.tmp 3) rfl (w.heap.size + 1 + 1) 0 rfl 44 _ [.int .i64 4, .int .i64 0, .int .i64 at_, .slice none 0 0, .int .i64 0, .string ⟨#[]⟩, .string ⟨#[]⟩, .bool false, .int .i64 0, .slice none 0 0] (unhide HY0) rfl _ Tryd.underlying44 rfl (by kernel_rfl) ?_)
    | (refine wpList_store_part rfl 44 (.tmp 2) (.tmp 32) rfl (w.heap.size + 1) 0 _ rfl rfl 44 _ (unhide HX0) (by kernel_rfl) (by simp) (by simp [Value.oneCell']) ?_; intro wZ XZ OZ))
  have XR : Hid (Box wZ (w.heap.size + 1) [.int .i64 4, .int .i64 0, .int .i64 at_, .slice none 0 0, .int .i64 0, .string ⟨#[]⟩, .string ⟨#[]⟩, .bool false, .int .i64 0, .slice none 0 0] 44) := XZ
  have BR : Hid (Below w.heap.size w wZ) := (unhide OZ).below (unhide HB0) (Nat.le_refl _) (fun q hq e => by omega)
  refine bodyPost_ret (results_cell_row Tryd.results48 _ wZ (w.heap.size + 1) 44 _ (0, 0) _ rfl (unhide XR) Tryd.underlying44 rfl (by kernel_rfl)) rfl ⟨⟨none, 0, none, ⟨0, rfl⟩, .inl rfl, .inl rfl⟩, unhide BR⟩
set_option maxRecDepth 20000 in
set_option maxHeartbeats 4000000 in
theorem neededEv5 (wo at_ : Int) (fl : List Int) (ok : Int) (op ot : ByteArray) (od : Bool) (oi : Int) (on : List Int) (af a1 : Option Addr) (cf c1 : Nat) (w : World) (hf : IntsAt w af fl) (h : IntsAt w a1 on) :
    Calls Tryd.prog 48 #[.agg #[.int .i64 5, .int .i64 wo, .int .i64 at_, .slice af fl.length cf, .int .i64 ok, .string op, .string ot, .bool od, .int .i64 oi, .slice a1 on.length c1]] w fun r w' => (∃ b e b2 e2, r = .returned (.agg #[.int .i64 5, .int .i64 (nW 5 wo), .int .i64 (nA 5 at_), .slice b (nF 5 fl).length e, .int .i64 (zI 5 ok), .string (zS 5 op), .string (zS 5 ot), .bool (zB 5 od), .int .i64 (zI 5 oi), .slice b2 (zL 5 on).length e2]) ∧ IntsAt w' b (nF 5 fl) ∧ IntsAt w' b2 (zL 5 on)) ∧ Below w.heap.size w w' := by
  obtain ⟨W, hW, hWz, HB0, HP0, HX0, HY0⟩ := boxes3 w [.int .i64 5, .int .i64 wo, .int .i64 at_, .slice af fl.length cf, .int .i64 ok, .string op, .string ot, .bool od, .int .i64 oi, .slice a1 on.length c1] [.int .i64 0, .int .i64 0, .int .i64 0, .slice none 0 0, .int .i64 0, .string ⟨#[]⟩, .string ⟨#[]⟩, .bool false, .int .i64 0, .slice none 0 0] [.int .i64 5, .int .i64 0, .int .i64 0, .slice af fl.length cf, .int .i64 0, .string ⟨#[]⟩, .string ⟨#[]⟩, .bool false, .int .i64 0, .slice none 0 0] 44 44 44
  have H0 := hide h
  have F0 := hide hf
  clear h hf
  go_enter Tryd.func48, Tryd.ntmps48
  go_upto_region 12 with fail
  rw [← hW]
  clear hW
  go_wp2_with (first
    | (refine wpList_load_part rfl 44 (.tmp 3) rfl (w.heap.size + 1 + 1) 0 rfl 44 _ [.int .i64 5, .int .i64 0, .int .i64 0, .slice af fl.length cf, .int .i64 0, .string ⟨#[]⟩, .string ⟨#[]⟩, .bool false, .int .i64 0, .slice none 0 0] (unhide HY0) rfl _ Tryd.underlying44 rfl (by kernel_rfl) ?_)
    | (refine wpList_store_part rfl 44 (.tmp 2) (.tmp 32) rfl (w.heap.size + 1) 0 _ rfl rfl 44 _ (unhide HX0) (by kernel_rfl) (by simp) (by simp [Value.oneCell']) ?_; intro wZ XZ OZ))
  have XR : Hid (Box wZ (w.heap.size + 1) [.int .i64 5, .int .i64 0, .int .i64 0, .slice af fl.length cf, .int .i64 0, .string ⟨#[]⟩, .string ⟨#[]⟩, .bool false, .int .i64 0, .slice none 0 0] 44) := XZ
  have BR : Hid (Below w.heap.size w wZ) := (unhide OZ).below (unhide HB0) (Nat.le_refl _) (fun q hq e => by omega)
  refine bodyPost_ret (results_cell_row Tryd.results48 _ wZ (w.heap.size + 1) 44 _ (0, 0) _ rfl (unhide XR) Tryd.underlying44 rfl (by kernel_rfl)) rfl ⟨⟨af, cf, none, ⟨0, rfl⟩, (unhide F0).below (unhide BR), .inl rfl⟩, unhide BR⟩
set_option maxRecDepth 20000 in
set_option maxHeartbeats 4000000 in
theorem neededEv6 (wo at_ : Int) (fl : List Int) (ok : Int) (op ot : ByteArray) (od : Bool) (oi : Int) (on : List Int) (af a1 : Option Addr) (cf c1 : Nat) (w : World) (hf : IntsAt w af fl) (h : IntsAt w a1 on) :
    Calls Tryd.prog 48 #[.agg #[.int .i64 6, .int .i64 wo, .int .i64 at_, .slice af fl.length cf, .int .i64 ok, .string op, .string ot, .bool od, .int .i64 oi, .slice a1 on.length c1]] w fun r w' => (∃ b e b2 e2, r = .returned (.agg #[.int .i64 6, .int .i64 (nW 6 wo), .int .i64 (nA 6 at_), .slice b (nF 6 fl).length e, .int .i64 (zI 6 ok), .string (zS 6 op), .string (zS 6 ot), .bool (zB 6 od), .int .i64 (zI 6 oi), .slice b2 (zL 6 on).length e2]) ∧ IntsAt w' b (nF 6 fl) ∧ IntsAt w' b2 (zL 6 on)) ∧ Below w.heap.size w w' := by
  obtain ⟨W, hW, hWz, HB0, HP0, HX0, HY0⟩ := boxes3 w [.int .i64 6, .int .i64 wo, .int .i64 at_, .slice af fl.length cf, .int .i64 ok, .string op, .string ot, .bool od, .int .i64 oi, .slice a1 on.length c1] [.int .i64 0, .int .i64 0, .int .i64 0, .slice none 0 0, .int .i64 0, .string ⟨#[]⟩, .string ⟨#[]⟩, .bool false, .int .i64 0, .slice none 0 0] [.int .i64 6, .int .i64 0, .int .i64 0, .slice none 0 0, .int .i64 0, .string ⟨#[]⟩, .string ⟨#[]⟩, .bool false, .int .i64 0, .slice none 0 0] 44 44 44
  have H0 := hide h
  have F0 := hide hf
  clear h hf
  go_enter Tryd.func48, Tryd.ntmps48
  go_upto_region 12 with fail
  rw [← hW]
  clear hW
  go_wp2_with (first
    | (refine wpList_load_part rfl 44 (.tmp 3) rfl (w.heap.size + 1 + 1) 0 rfl 44 _ [.int .i64 6, .int .i64 0, .int .i64 0, .slice none 0 0, .int .i64 0, .string ⟨#[]⟩, .string ⟨#[]⟩, .bool false, .int .i64 0, .slice none 0 0] (unhide HY0) rfl _ Tryd.underlying44 rfl (by kernel_rfl) ?_)
    | (refine wpList_store_part rfl 44 (.tmp 2) (.tmp 32) rfl (w.heap.size + 1) 0 _ rfl rfl 44 _ (unhide HX0) (by kernel_rfl) (by simp) (by simp [Value.oneCell']) ?_; intro wZ XZ OZ))
  have XR : Hid (Box wZ (w.heap.size + 1) [.int .i64 6, .int .i64 0, .int .i64 0, .slice none 0 0, .int .i64 0, .string ⟨#[]⟩, .string ⟨#[]⟩, .bool false, .int .i64 0, .slice none 0 0] 44) := XZ
  have BR : Hid (Below w.heap.size w wZ) := (unhide OZ).below (unhide HB0) (Nat.le_refl _) (fun q hq e => by omega)
  refine bodyPost_ret (results_cell_row Tryd.results48 _ wZ (w.heap.size + 1) 44 _ (0, 0) _ rfl (unhide XR) Tryd.underlying44 rfl (by kernel_rfl)) rfl ⟨⟨none, 0, none, ⟨0, rfl⟩, .inl rfl, .inl rfl⟩, unhide BR⟩
theorem neededOfEvent_any (k wo at_ : Int) (fl : List Int) (ok : Int) (op ot : ByteArray) (od : Bool) (oi : Int) (on : List Int) (af a1 : Option Addr) (cf c1 : Nat) (w : World) (hf : IntsAt w af fl) (h : IntsAt w a1 on) (hk : inB k 1 6 = true) :
    Calls Tryd.prog 48 #[.agg #[.int .i64 k, .int .i64 wo, .int .i64 at_, .slice af fl.length cf, .int .i64 ok, .string op, .string ot, .bool od, .int .i64 oi, .slice a1 on.length c1]] w fun r w' => (∃ b e b2 e2, r = .returned (.agg #[.int .i64 k, .int .i64 (nW k wo), .int .i64 (nA k at_), .slice b (nF k fl).length e, .int .i64 (zI k ok), .string (zS k op), .string (zS k ot), .bool (zB k od), .int .i64 (zI k oi), .slice b2 (zL k on).length e2]) ∧ IntsAt w' b (nF k fl) ∧ IntsAt w' b2 (zL k on)) ∧ Below w.heap.size w w' := by
  rcases evKinds hk with rfl | rfl | rfl | rfl | rfl | rfl
  · exact neededEv1 wo at_ fl ok op ot od oi on af a1 cf c1 w hf h
  · exact neededEv2 wo at_ fl ok op ot od oi on af a1 cf c1 w hf h
  · exact neededEv3 wo at_ fl ok op ot od oi on af a1 cf c1 w hf h
  · exact neededEv4 wo at_ fl ok op ot od oi on af a1 cf c1 w hf h
  · exact neededEv5 wo at_ fl ok op ot od oi on af a1 cf c1 w hf h
  · exact neededEv6 wo at_ fl ok op ot od oi on af a1 cf c1 w hf h
theorem keepC10 {W0 w' w1 : World} {b0 b1 b2 b3 b4 b5 b6 b7 b8 b9 o0 o1 o2 o3 o4 o5 o6 o7 o8 o9 : Nat} {v0 v1 v2 v3 v4 v5 v6 v7 v8 v9 : Value} (h0 : b0 < W0.heap.size) (h1 : b1 < W0.heap.size) (h2 : b2 < W0.heap.size) (h3 : b3 < W0.heap.size) (h4 : b4 < W0.heap.size) (h5 : b5 < W0.heap.size) (h6 : b6 < W0.heap.size) (h7 : b7 < W0.heap.size) (h8 : b8 < W0.heap.size) (h9 : b9 < W0.heap.size) (hS : Below W0.heap.size W0 w' ∧ w'.cell? ⟨b0, o0, none⟩ = some v0 ∧ w'.cell? ⟨b1, o1, none⟩ = some v1 ∧ w'.cell? ⟨b2, o2, none⟩ = some v2 ∧ w'.cell? ⟨b3, o3, none⟩ = some v3 ∧ w'.cell? ⟨b4, o4, none⟩ = some v4 ∧ w'.cell? ⟨b5, o5, none⟩ = some v5 ∧ w'.cell? ⟨b6, o6, none⟩ = some v6 ∧ w'.cell? ⟨b7, o7, none⟩ = some v7 ∧ w'.cell? ⟨b8, o8, none⟩ = some v8 ∧ w'.cell? ⟨b9, o9, none⟩ = some v9) (hb : Below w'.heap.size w' w1) : Below W0.heap.size W0 w1 ∧ w1.cell? ⟨b0, o0, none⟩ = some v0 ∧ w1.cell? ⟨b1, o1, none⟩ = some v1 ∧ w1.cell? ⟨b2, o2, none⟩ = some v2 ∧ w1.cell? ⟨b3, o3, none⟩ = some v3 ∧ w1.cell? ⟨b4, o4, none⟩ = some v4 ∧ w1.cell? ⟨b5, o5, none⟩ = some v5 ∧ w1.cell? ⟨b6, o6, none⟩ = some v6 ∧ w1.cell? ⟨b7, o7, none⟩ = some v7 ∧ w1.cell? ⟨b8, o8, none⟩ = some v8 ∧ w1.cell? ⟨b9, o9, none⟩ = some v9 := by
  obtain ⟨h, d0, d1, d2, d3, d4, d5, d6, d7, d8, d9⟩ := hS
  have hz := h.size
  exact ⟨h.trans (hb.mono hz), ((bcell hb).1 _ _ (by omega)).trans d0, ((bcell hb).1 _ _ (by omega)).trans d1, ((bcell hb).1 _ _ (by omega)).trans d2, ((bcell hb).1 _ _ (by omega)).trans d3, ((bcell hb).1 _ _ (by omega)).trans d4, ((bcell hb).1 _ _ (by omega)).trans d5, ((bcell hb).1 _ _ (by omega)).trans d6, ((bcell hb).1 _ _ (by omega)).trans d7, ((bcell hb).1 _ _ (by omega)).trans d8, ((bcell hb).1 _ _ (by omega)).trans d9⟩
set_option maxRecDepth 20000 in
set_option maxHeartbeats 4000000 in
theorem implEventFault_any (k wo at_ : Int) (fl : List Int) (ok : Int) (op ot : ByteArray) (od : Bool) (oi : Int) (on : List Int) (af a1 : Option Addr) (cf c1 : Nat) (m : Int) (w : World) (hfw : IntsAt w af fl) (h : IntsAt w a1 on) (hm : MaxAt w m) (hn : on.length ≤ 1048576) (hp : op.size ≤ 1048576) (ht : ot.size ≤ 1048576) (hl : fl.length ≤ 1048576) :
    Calls Tryd.prog 22 #[.agg #[.int .i64 k, .int .i64 wo, .int .i64 at_, .slice af fl.length cf, .int .i64 ok, .string op, .string ot, .bool od, .int .i64 oi, .slice a1 on.length c1]] w fun r w' => r = .returned (.int .i64 (evCode k wo at_ fl ok op ot od oi on)) ∧ Below w.heap.size w w' := by
  obtain ⟨W, hW, hWz, HB0, HX0⟩ := boxes1 w [.int .i64 k, .int .i64 wo, .int .i64 at_, .slice af fl.length cf, .int .i64 ok, .string op, .string ot, .bool od, .int .i64 oi, .slice a1 on.length c1] 44
  have H := hide (h.below (unhide HB0))
  have HF := hide (hfw.below (unhide HB0))
  have HM := hide (hm.below (unhide HB0))
  clear h hfw hm
  have q0 := (unhide HX0).cell 0
  have q1 := (unhide HX0).cell 1
  have q2 := (unhide HX0).cell 2
  have q3 := (unhide HX0).cell 3
  have q4 := (unhide HX0).cell 4
  have q5 := (unhide HX0).cell 5
  have q6 := (unhide HX0).cell 6
  have q7 := (unhide HX0).cell 7
  have q8 := (unhide HX0).cell 8
  have q9 := (unhide HX0).cell 9
  simp only [List.getElem?_cons_zero, List.getElem?_cons_succ] at q0 q1 q2 q3 q4 q5 q6 q7 q8 q9
  generalize hbe : w.heap.size = b at *
  have HBE := hide hbe
  clear hbe
  have hbW : b < W.heap.size := by omega
  have hD : (fun w' => Below W.heap.size W w' ∧ w'.cell? ⟨b, 0, none⟩ = some (.int .i64 k) ∧ w'.cell? ⟨b, 1, none⟩ = some (.int .i64 wo) ∧ w'.cell? ⟨b, 2, none⟩ = some (.int .i64 at_) ∧ w'.cell? ⟨b, 3, none⟩ = some (.slice af fl.length cf) ∧ w'.cell? ⟨b, 4, none⟩ = some (.int .i64 ok) ∧ w'.cell? ⟨b, 5, none⟩ = some (.string op) ∧ w'.cell? ⟨b, 6, none⟩ = some (.string ot) ∧ w'.cell? ⟨b, 7, none⟩ = some (.bool od) ∧ w'.cell? ⟨b, 8, none⟩ = some (.int .i64 oi) ∧ w'.cell? ⟨b, 9, none⟩ = some (.slice a1 on.length c1)) W.drew := ⟨(Below.refl _ _).drew, q0, q1, q2, q3, q4, q5, q6, q7, q8, q9⟩
  have HD := hide hD
  clear hD q0 q1 q2 q3 q4 q5 q6 q7 q8 q9
  cases hin : inB k 1 6
  · have HV : Hid (evCode k wo at_ fl ok op ot od oi on = 1) := by rw [Hid, evCode, evForm, hin]; rfl
    go_enter Tryd.func22, Tryd.ntmps22
    go_wp2_with fail
    rw [unhide HBE, ← hW]
    clear hW
    refine wp_region_held_drew (S := (fun w' => Below W.heap.size W w' ∧ w'.cell? ⟨b, 0, none⟩ = some (.int .i64 k) ∧ w'.cell? ⟨b, 1, none⟩ = some (.int .i64 wo) ∧ w'.cell? ⟨b, 2, none⟩ = some (.int .i64 at_) ∧ w'.cell? ⟨b, 3, none⟩ = some (.slice af fl.length cf) ∧ w'.cell? ⟨b, 4, none⟩ = some (.int .i64 ok) ∧ w'.cell? ⟨b, 5, none⟩ = some (.string op) ∧ w'.cell? ⟨b, 6, none⟩ = some (.string ot) ∧ w'.cell? ⟨b, 7, none⟩ = some (.bool od) ∧ w'.cell? ⟨b, 8, none⟩ = some (.int .i64 oi) ∧ w'.cell? ⟨b, 9, none⟩ = some (.slice a1 on.length c1))) (by kernel_rfl) (unhide HD) (fun hHeld => ?_)
    refine wpAnyH_take (i := 0) (oi := { dst := some 3, op := Op.fieldAddr 44 (Operand.tmp 1) 0, type := 0, pos := "l07_world.go:146", after := #[], guard := none }) (v := .pointer (some ⟨b, 0, none⟩)) rfl (by kernel_rfl) (by kernel_rfl) (by kernel_rfl) (fun _ _ _ h => h) (Or.inl ⟨by rfl, ?_⟩) (by assumption) ?_
    · (intro w hSw; (try dsimp only at hSw); go_simp)
    try simp only [Act.put, List.setIfInBounds_toArray, List.set_cons_zero, List.set_cons_succ]
    refine wpAnyH_take (i := 1) (oi := { dst := some 4, op := Op.load 2 (Operand.tmp 3), type := 2, pos := "l07_world.go:146", after := #[{ on := 0, ground := Ground.data }], guard := none }) (v := .int .i64 k) rfl (by kernel_rfl) (by kernel_rfl) (by kernel_rfl) (fun _ _ _ h => h) (Or.inl ⟨by rfl, ?_⟩) (by assumption) ?_
    · (intro w hSw; (try dsimp only at hSw); go_simp)
    try simp only [Act.put, List.setIfInBounds_toArray, List.set_cons_zero, List.set_cons_succ]
    refine wpAnyH_ready (rs := [2]) (by kernel_rfl) (by simp) ?_
    refine AllReadyH.cons (o := { dst := some 5, op := Op.call { callee := Callee.value (Operand.func 39), args := #[Operand.tmp 4, Operand.const (Value.int IntKind.i64 1), Operand.const (Value.int IntKind.i64 6)], argTypes := #[2, 2, 2] }, type := 4, pos := "l07_world.go:146", after := #[{ on := 1, ground := Ground.data }], guard := none }) rfl (fun K hK => ?_) AllReadyH.nil
    go_simp
    refine (isWithinB_any _ _ _ _).mono ?_
    rintro r v1 ⟨rfl, hb5⟩
    rw [hin]
    refine hK.out _ _ (keepC10 hbW hbW hbW hbW hbW hbW hbW hbW hbW hbW hHeld hb5) (fun hHeld1 => ?_)
    clear hb5
    clear hHeld
    clear hK K
    try simp only [Act.put, List.setIfInBounds_toArray, List.set_cons_zero, List.set_cons_succ]
    refine wpAnyH_take (i := 3) (oi := { dst := some 6, op := Op.unOp UnOp.not 4 (Operand.tmp 5), type := 4, pos := "l07_world.go:146", after := #[{ on := 2, ground := Ground.data }], guard := none }) (v := .bool true) rfl (by kernel_rfl) (by kernel_rfl) (by kernel_rfl) (fun _ _ _ h => h) (Or.inl ⟨by rfl, ?_⟩) (by assumption) ?_
    · (intro w hSw; (try dsimp only at hSw); go_simp)
    try simp only [Act.put, List.setIfInBounds_toArray, List.set_cons_zero, List.set_cons_succ]
    refine wpAnyH_take (i := 4) (oi := { dst := some 7, op := Op.move (Operand.tmp 6), type := 4, pos := "l07_world.go:146", after := #[{ on := 3, ground := Ground.data }, { on := 2, ground := Ground.chain }], guard := none }) (v := .bool true) rfl (by kernel_rfl) (by kernel_rfl) (by kernel_rfl) (fun _ _ _ h => h) (Or.inl ⟨by rfl, ?_⟩) (by assumption) ?_
    · (intro w hSw; (try dsimp only at hSw); go_simp)
    try simp only [Act.put, List.setIfInBounds_toArray, List.set_cons_zero, List.set_cons_succ]
    refine wpAnyH_take (i := 5) (oi := { dst := some 8, op := Op.load 44 (Operand.tmp 1), type := 44, pos := "l07_world.go:146", after := #[{ on := 4, ground := Ground.guard }], guard := some (4, false) }) (v := undef) rfl (by kernel_rfl) (by kernel_rfl) (by kernel_rfl) (fun _ _ _ h => h) (Or.inr ⟨by rfl, rfl⟩) (by assumption) ?_
    try simp only [Act.put, List.setIfInBounds_toArray, List.set_cons_zero, List.set_cons_succ]
    refine wpAnyH_take (i := 6) (oi := { dst := some 9, op := Op.load 44 (Operand.tmp 1), type := 44, pos := "l07_world.go:146", after := #[{ on := 4, ground := Ground.guard }], guard := some (4, false) }) (v := undef) rfl (by kernel_rfl) (by kernel_rfl) (by kernel_rfl) (fun _ _ _ h => h) (Or.inr ⟨by rfl, rfl⟩) (by assumption) ?_
    try simp only [Act.put, List.setIfInBounds_toArray, List.set_cons_zero, List.set_cons_succ]
    refine wpAnyH_ready (rs := [7]) (by kernel_rfl) (by simp) ?_
    refine AllReadyH.cons (o := { dst := some 10, op := Op.call { callee := Callee.value (Operand.func 48), args := #[Operand.tmp 9], argTypes := #[44] }, type := 44, pos := "l07_world.go:146", after := #[{ on := 6, ground := Ground.data }, { on := 4, ground := Ground.chain }, { on := 4, ground := Ground.guard }], guard := some (4, false) }) rfl (fun K hK => ?_) AllReadyH.nil
    rw [if_neg (by first | exact Bool.false_ne_true | simp | decide)]
    refine hK.out _ _ (by assumption) (fun hHeld2 => ?_)
    clear hK K
    try simp only [Act.put, List.setIfInBounds_toArray, List.set_cons_zero, List.set_cons_succ]
    refine wpAnyH_ready (rs := [8]) (by kernel_rfl) (by simp) ?_
    refine AllReadyH.cons (o := { dst := some 11, op := Op.call { callee := Callee.value (Operand.func 47), args := #[Operand.tmp 8, Operand.tmp 10], argTypes := #[44, 44] }, type := 4, pos := "l07_world.go:146", after := #[{ on := 5, ground := Ground.data }, { on := 7, ground := Ground.data }, { on := 7, ground := Ground.chain }, { on := 4, ground := Ground.guard }], guard := some (4, false) }) rfl (fun K hK => ?_) AllReadyH.nil
    rw [if_neg (by first | exact Bool.false_ne_true | simp | decide)]
    refine hK.out _ _ (by assumption) (fun hHeld3 => ?_)
    clear hK K
    try simp only [Act.put, List.setIfInBounds_toArray, List.set_cons_zero, List.set_cons_succ]
    refine wpAnyH_take (i := 9) (oi := { dst := some 12, op := Op.unOp UnOp.not 4 (Operand.tmp 11), type := 4, pos := "l07_world.go:146", after := #[{ on := 8, ground := Ground.data }, { on := 4, ground := Ground.guard }], guard := some (4, false) }) (v := undef) rfl (by kernel_rfl) (by kernel_rfl) (by kernel_rfl) (fun _ _ _ h => h) (Or.inr ⟨by rfl, rfl⟩) (by assumption) ?_
    try simp only [Act.put, List.setIfInBounds_toArray, List.set_cons_zero, List.set_cons_succ]
    refine wpAnyH_take (i := 10) (oi := { dst := some 13, op := Op.pick (Operand.tmp 7) (Operand.const (Value.bool true)) (Operand.tmp 12), type := 4, pos := "l07_world.go:146", after := #[{ on := 4, ground := Ground.data }, { on := 9, ground := Ground.data }], guard := none }) (v := .bool true) rfl (by kernel_rfl) (by kernel_rfl) (by kernel_rfl) (fun _ _ _ h => h) (Or.inl ⟨by rfl, ?_⟩) (by assumption) ?_
    · (intro w hSw; (try dsimp only at hSw); go_simp)
    try simp only [Act.put, List.setIfInBounds_toArray, List.set_cons_zero, List.set_cons_succ]
    refine wpAnyH_done (by kernel_rfl) ?_ _
    go_wp2_with fail
    go_ret
    exact ⟨ret_int (unhide HV).symm, below_step (unhide HB0) hHeld3.1 (by omega)⟩
  have FI := hide (ev_form_is k wo at_ fl ok op ot od oi on hin)
  cases hf : evForm k wo at_ fl ok op ot od oi on
  · have HV : Hid (evCode k wo at_ fl ok op ot od oi on = 1) := by rw [Hid, evCode, hf]; rfl
    go_enter Tryd.func22, Tryd.ntmps22
    go_wp2_with fail
    rw [unhide HBE, ← hW]
    clear hW
    go_region_held3 (fun w' => Below W.heap.size W w' ∧ w'.cell? ⟨b, 0, none⟩ = some (.int .i64 k) ∧ w'.cell? ⟨b, 1, none⟩ = some (.int .i64 wo) ∧ w'.cell? ⟨b, 2, none⟩ = some (.int .i64 at_) ∧ w'.cell? ⟨b, 3, none⟩ = some (.slice af fl.length cf) ∧ w'.cell? ⟨b, 4, none⟩ = some (.int .i64 ok) ∧ w'.cell? ⟨b, 5, none⟩ = some (.string op) ∧ w'.cell? ⟨b, 6, none⟩ = some (.string ot) ∧ w'.cell? ⟨b, 7, none⟩ = some (.bool od) ∧ w'.cell? ⟨b, 8, none⟩ = some (.int .i64 oi) ∧ w'.cell? ⟨b, 9, none⟩ = some (.slice a1 on.length c1)) (first | exact unhide HD | assumption | exact keepC10 hbW hbW hbW hbW hbW hbW hbW hbW hbW hbW (by assumption) (by assumption))
      (first
        | (go_at_call 39; refine (isWithin_any _ _ _ _).mono ?_; rintro r w5 ⟨rfl, rfl⟩; rw [hin])
        | (go_at_call 48; refine (neededOfEvent_any k wo at_ fl ok op ot od oi on af a1 cf c1 _ ((unhide HF).below (And.left (by assumption))) ((unhide H).below (And.left (by assumption))) hin).mono ?_; rintro r w5 ⟨⟨nb, ne, nb2, ne2, rfl, hnf, hni⟩, hb5⟩; have NF := hide hnf; have NI := hide hni; clear hnf hni)
        | (go_at_call 47; refine (sameEvent_any k wo (nW k wo) at_ (nA k at_) fl (nF k fl) ok (zI k ok) op (zS k op) ot (zS k ot) od (zB k od) oi (zI k oi) on (zL k on) af nb a1 nb2 cf ne c1 ne2 _ ((unhide HF).below (And.left (by assumption))) (by first | exact unhide NF | exact (unhide NF).below (by assumption)) ((unhide H).below (And.left (by assumption))) (by first | exact unhide NI | exact (unhide NI).below (by assumption)) hn hl).mono ?_; rintro r w5 ⟨rfl, hb5⟩; rw [unhide FI, hf]))
    rename_i hSF
    obtain ⟨s0, c0, c1_, c2, c3, c4, c5, c6, c7, c8, c9⟩ := hSF
    have S0 := hide s0
    have B0 := hide (below_step (unhide HB0) s0 (by omega))
    have zb := s0.size
    have zbb := Nat.lt_of_lt_of_le hbW zb
    clear s0 HD
    go_wp2_with fail
    go_ret
    exact ⟨ret_int (unhide HV).symm, unhide B0⟩
  have HC : Hid (evCode k wo at_ fl ok op ot od oi on = (if inB wo 0 3 = true then (if inB at_ 0 327 = true then (if (40 : Int) < fl.length then 2 else if fatesB fl = true then (if k = 1 then opCode ok op ot od oi on else 0) else 3) else 3) else 3)) := by rw [Hid, evCode, if_pos hf]
  go_enter Tryd.func22, Tryd.ntmps22
  go_wp2_with fail
  rw [unhide HBE, ← hW]
  clear hW
  go_region_held3 (fun w' => Below W.heap.size W w' ∧ w'.cell? ⟨b, 0, none⟩ = some (.int .i64 k) ∧ w'.cell? ⟨b, 1, none⟩ = some (.int .i64 wo) ∧ w'.cell? ⟨b, 2, none⟩ = some (.int .i64 at_) ∧ w'.cell? ⟨b, 3, none⟩ = some (.slice af fl.length cf) ∧ w'.cell? ⟨b, 4, none⟩ = some (.int .i64 ok) ∧ w'.cell? ⟨b, 5, none⟩ = some (.string op) ∧ w'.cell? ⟨b, 6, none⟩ = some (.string ot) ∧ w'.cell? ⟨b, 7, none⟩ = some (.bool od) ∧ w'.cell? ⟨b, 8, none⟩ = some (.int .i64 oi) ∧ w'.cell? ⟨b, 9, none⟩ = some (.slice a1 on.length c1)) (first | exact unhide HD | assumption | exact keepC10 hbW hbW hbW hbW hbW hbW hbW hbW hbW hbW (by assumption) (by assumption))
    (first
      | (go_at_call 39; refine (isWithin_any _ _ _ _).mono ?_; rintro r w5 ⟨rfl, rfl⟩; rw [hin])
      | (go_at_call 48; refine (neededOfEvent_any k wo at_ fl ok op ot od oi on af a1 cf c1 _ ((unhide HF).below (And.left (by assumption))) ((unhide H).below (And.left (by assumption))) hin).mono ?_; rintro r w5 ⟨⟨nb, ne, nb2, ne2, rfl, hnf, hni⟩, hb5⟩; have NF := hide hnf; have NI := hide hni; clear hnf hni)
      | (go_at_call 47; refine (sameEvent_any k wo (nW k wo) at_ (nA k at_) fl (nF k fl) ok (zI k ok) op (zS k op) ot (zS k ot) od (zB k od) oi (zI k oi) on (zL k on) af nb a1 nb2 cf ne c1 ne2 _ ((unhide HF).below (And.left (by assumption))) (by first | exact unhide NF | exact (unhide NF).below (by assumption)) ((unhide H).below (And.left (by assumption))) (by first | exact unhide NI | exact (unhide NI).below (by assumption)) hn hl).mono ?_; rintro r w5 ⟨rfl, hb5⟩; rw [unhide FI, hf]))
  rename_i hSF
  obtain ⟨s0, c0, c1_, c2, c3, c4, c5, c6, c7, c8, c9⟩ := hSF
  have S0 := hide s0
  have B0 := hide (below_step (unhide HB0) s0 (by omega))
  have zb := s0.size
  have zbb := Nat.lt_of_lt_of_le hbW zb
  clear s0 HD
  clear hf FI
  cases hwo : inB wo 0 3
  · have HV : Hid (evCode k wo at_ fl ok op ot od oi on = 3) := by rw [Hid, unhide HC, hwo]; rfl
    clear HC
    go_wp2_with (go_at_call 39; refine (isWithin_any _ _ _ _).mono ?_; rintro r w1 ⟨rfl, rfl⟩; rw [hwo])
    go_ret
    exact ⟨ret_int (unhide HV).symm, unhide B0⟩
  cases hat : inB at_ 0 327
  · have HV : Hid (evCode k wo at_ fl ok op ot od oi on = 3) := by rw [Hid, unhide HC, hwo, hat]; rfl
    clear HC
    go_wp2_with (go_at_call 39; refine (isWithin_any _ _ _ _).mono ?_; rintro r w1 ⟨rfl, rfl⟩; first | rw [hwo] | rw [hat])
    go_ret
    exact ⟨ret_int (unhide HV).symm, unhide B0⟩
  by_cases hlen : (40 : Int) < fl.length
  · have HV : Hid (evCode k wo at_ fl ok op ot od oi on = 2) := by rw [Hid, unhide HC, hwo, hat, if_pos rfl, if_pos rfl, if_pos hlen]
    clear HC
    go_wp2_with (go_at_call 39; refine (isWithin_any _ _ _ _).mono ?_; rintro r w1 ⟨rfl, rfl⟩; first | rw [hwo] | rw [hat])
    go_ret
    exact ⟨ret_int (unhide HV).symm, unhide B0⟩
  have HE : Hid (evCode k wo at_ fl ok op ot od oi on = if fatesB fl = true then (if k = 1 then opCode ok op ot od oi on else 0) else 3) := by rw [Hid, unhide HC, hwo, hat, if_pos rfl, if_pos rfl, if_neg hlen]
  clear HC
  go_wp2_with (go_at_call 39; refine (isWithin_any _ _ _ _).mono ?_; rintro r w1 ⟨rfl, rfl⟩; first | rw [hwo] | rw [hat])
  clear hwo hat
  refine (areFates_any af cf fl _ ((unhide HF).below (unhide S0)) hl).mono ?_
  rintro r w6 ⟨rfl, rfl⟩
  cases hfa : fatesB fl
  · have HV : Hid (evCode k wo at_ fl ok op ot od oi on = 3) := by rw [Hid, unhide HE, hfa]; rfl
    clear HE
    go_wp2_with fail
    go_ret
    exact ⟨ret_int (unhide HV).symm, unhide B0⟩
  have HY : Hid (evCode k wo at_ fl ok op ot od oi on = if k = 1 then opCode ok op ot od oi on else 0) := by rw [Hid, unhide HE, hfa, if_pos rfl]
  clear HE hfa
  by_cases hk : k = 1
  · have HV : Hid (evCode k wo at_ fl ok op ot od oi on = opCode ok op ot od oi on) := by rw [Hid, unhide HY, if_pos hk]
    have hkb : (k == 1) = true := by simpa using hk
    clear HY hk
    go_wp2_with fail
    refine (implOpFault_any ok op ot od oi on a1 c1 m _ ((unhide H).below (unhide S0)) ((unhide HM).below (unhide S0)) hn hp ht).mono ?_
    rintro r w9 ⟨rfl, hb9⟩
    have B9 := hide (below_step (unhide B0) hb9 (by omega))
    clear hb9 B0 S0 H HF HM c0 c1_ c2 c3 c4 c5 c6 c7 c8 c9
    go_wp2_with fail
    go_ret
    exact ⟨ret_int (unhide HV).symm, unhide B9⟩
  · have HV : Hid (evCode k wo at_ fl ok op ot od oi on = 0) := by rw [Hid, unhide HY, if_neg hk]
    have hkb : (k == 1) = false := by simpa using hk
    clear HY hk
    go_wp2_with fail
    go_ret
    exact ⟨ret_int (unhide HV).symm, unhide B0⟩
end Go.Proofs.YtcccpifecojijaaDoor
