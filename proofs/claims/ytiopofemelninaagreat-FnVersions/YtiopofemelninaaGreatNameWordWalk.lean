/-
  What spec.NameWord and impl.NameWord answer: 'nameWordL' of the bytes of a name.
-/
import Derived.Test.YtiopofemelninaaGreatIsNameWalk
namespace Go.Proofs.YtiopofemelninaaGreat
open Go.RowKit

/-- Bytes as digits to the base 27. -/
def nameWordL (l : List UInt8) : Int := l.foldl (fun n b => n * 27 + ((b.toNat : Int) - 97) + 1) 0

theorem nameWordL_snoc (l : List UInt8) (b : UInt8) : nameWordL (l ++ [b]) = nameWordL l * 27 + ((b.toNat : Int) - 97) + 1 := by
  simp [nameWordL, List.foldl_append]

theorem nameWordL_take (l : List UInt8) (k : Nat) (h : k < l.length) : nameWordL (l.take (k + 1)) = nameWordL (l.take k) * 27 + ((l[k].toNat : Int) - 97) + 1 := by
  rw [List.take_succ_eq_append_getElem h, nameWordL_snoc]

/-- What NameWord tells. -/
def nwVal (l : List UInt8) : Value := .agg #[.int .i64 (if isNameL l = true then 0 else 5), .int .i64 (if isNameL l = true then nameWordL l else 0)]

theorem lowB_bounds {b : UInt8} (h : lowB b = true) : 97 ≤ b.toNat ∧ b.toNat ≤ 122 := by
  simpa [lowB] using h

theorem isNameL_at {l : List UInt8} (h : isNameL l = true) {k : Nat} (hk : k < l.length) : lowB l[k] = true := by
  simp only [isNameL, Bool.and_eq_true] at h
  exact List.all_eq_true.1 h.2 _ (List.getElem_mem hk)

theorem isNameL_len {l : List UInt8} (h : isNameL l = true) : 1 ≤ l.length ∧ l.length ≤ 6 := by
  simp only [isNameL, Bool.and_eq_true, decide_eq_true_eq] at h
  exact h.1

theorem nameWordL_bounds (l : List UInt8) (h : isNameL l = true) (k : Nat) (hk : k ≤ l.length) : 0 ≤ nameWordL (l.take k) ∧ nameWordL (l.take k) < 27 ^ k := by
  induction k with
  | zero => simp [nameWordL]
  | succ k ih =>
    have hlt : k < l.length := by omega
    obtain ⟨h1, h2⟩ := ih (by omega)
    obtain ⟨b1, b2⟩ := lowB_bounds (isNameL_at h hlt)
    rw [nameWordL_take l k hlt, Int.pow_succ]
    omega

theorem pow27_le (k : Nat) (h : k ≤ 5) : (27 : Int) ^ k ≤ 14348907 := by
  match k, h with
  | 0, _ => decide
  | 1, _ => decide
  | 2, _ => decide
  | 3, _ => decide
  | 4, _ => decide
  | 5, _ => decide

set_option maxHeartbeats 1000000 in
theorem l1NameWord_any (s : ByteArray) (w : World) (hn : isNameL s.data.toList = true) :
    Calls Tryz.prog 102 #[.string s] w fun e w' => e = .returned (.int .i64 (nameWordL s.data.toList)) ∧ w' = w := by
  have hlen : s.data.toList.length = s.size := len_data s
  have h6 : s.size ≤ 6 := by rw [← hlen]; exact (isNameL_len hn).2
  have HL := hide hlen
  have HN := hide hn
  clear hlen hn
  go_enter Tryz.func102, Tryz.ntmps102
  go_wp2
  go_loop [3, 4] (fun a i => ∃ k : Nat, k ≤ s.size ∧ i = .int .i64 k ∧ a = .int .i64 (nameWordL (s.data.toList.take k))) (fun _ i => s.size - (intOf i).toNat)
  case atStart => exact ⟨0, Nat.zero_le _, rfl, rfl⟩
  case round =>
    obtain ⟨k, hk, rfl, rfl⟩ := hrel
    by_cases hlt : k < s.size
    · have hb := lowB_bounds (isNameL_at (unhide HN) (k := k) (by rw [unhide HL]; exact hlt))
      have hs := nameWordL_take s.data.toList k (by rw [unhide HL]; exact hlt)
      obtain ⟨v0, v1⟩ := nameWordL_bounds s.data.toList (unhide HN) k (by rw [unhide HL]; exact hk)
      have hp := pow27_le k (by omega)
      generalize hv : nameWordL (s.data.toList.take k) = v at *
      have v2 : v ≤ 14348907 := by omega
      have HS : Hid (nameWordL (s.data.toList.take (k + 1)) = v * 27 + ((s[k].toNat : Int) - 97) + 1) := hs
      have c1 : 97 ≤ (s[k].toNat : Int) := by have := hb.1; show (97 : Int) ≤ (s.data.toList[k].toNat : Int); omega
      have c2 : (s[k].toNat : Int) ≤ 122 := by have := hb.2; show (s.data.toList[k].toNat : Int) ≤ 122; omega
      clear hs hb v1 hp hv
      go_wp2
      go_round
      case rel => exact ⟨k + 1, by omega, by go_num, by rw [unhide HS]⟩
      case measure => simp [intOf]; omega
    · have hk' : k = s.size := by omega
      have he : s.data.toList.take k = s.data.toList := List.take_of_length_le (by rw [unhide HL]; omega)
      rw [he]
      clear he hk'
      go_wp2
      go_ret
      exact ⟨rfl, rfl⟩
set_option maxHeartbeats 1000000 in
theorem implNameWord_any (s : ByteArray) (w : World) (hs : s.size ≤ maxLen) :
    Calls Tryz.prog 133 #[.string s] w fun e w' => e = .returned (nwVal s.data.toList) ∧ Below w.heap.size w w' := by
  cases hn : isNameL s.data.toList
  · have hv : nwVal s.data.toList = .agg #[.int .i64 5, .int .i64 0] := by simp [nwVal, hn]
    have HV := hide hv
    clear hv
    go_enter Tryz.func133, Tryz.ntmps133
    go_wp2_with fail
    refine (implIsName_any s _ hs).mono ?_
    rintro e w1 ⟨rfl, hw⟩
    have hb := below_iter hw
    have hz : w.heap.size < w1.heap.size := by have := hb.size; simp at this; omega
    have q1 : ∀ j, w1.cell? ⟨w.heap.size, j, none⟩ = _ := fun j => (bcell hb).1 _ j (by simp)
    have f1 : ∀ j, w1.frozen? ⟨w.heap.size, j, none⟩ = _ := fun j => (bcell hb).2 _ j (by simp)
    have HB := hide hb
    clear hb hw
    go_wp2_with fail
    refine bodyPost_ret (v := .agg #[.int .i64 5, .int .i64 0]) (by simp [results, Tryz.results133, go_sem, q1]) rfl ⟨by rw [unhide HV], ?_⟩
    repeat (first | refine Below.alloc ?_ (by first | omega | (simp <;> omega)) _ | refine Below.setCell ?_ (by first | omega | (simp <;> omega)) _)
    refine below_step ?_ (unhide HB) (by simp)
    repeat (first | exact Below.refl _ _ | refine Below.alloc ?_ (by first | omega | (simp <;> omega)) _ | refine Below.setCell ?_ (by first | omega | (simp <;> omega)) _ | refine Below.drew ?_ | refine below_drewN ?_ _)
  · have hv : nwVal s.data.toList = .agg #[.int .i64 0, .int .i64 (nameWordL s.data.toList)] := by simp [nwVal, hn]
    have HV := hide hv
    have hlen : s.data.toList.length = s.size := len_data s
    have h6 : s.size ≤ 6 := by rw [← hlen]; exact (isNameL_len hn).2
    have HL := hide hlen
    have HN := hide hn
    clear hv hlen
    go_enter Tryz.func133, Tryz.ntmps133
    go_wp2_with fail
    refine (implIsName_any s _ hs).mono ?_
    rintro e w1 ⟨rfl, hw⟩
    have hb := below_iter hw
    have hz : w.heap.size < w1.heap.size := by have := hb.size; simp at this; omega
    have hit : ∀ p, Below w1.heap.size w1 (w1.iter s p) := fun p => (Below.refl _ _).alloc (Nat.le_refl _) _
    have q1 : ∀ p j, (w1.iter s p).cell? ⟨w.heap.size, j, none⟩ = _ := fun p j => ((bcell (hit p)).1 _ j hz).trans ((bcell hb).1 _ j (by simp))
    have f1 : ∀ p j, (w1.iter s p).frozen? ⟨w.heap.size, j, none⟩ = _ := fun p j => ((bcell (hit p)).2 _ j hz).trans ((bcell hb).2 _ j (by simp))
    have HB := hide hb
    have HI := hide hit
    clear hb hw hit
    go_wp2
    clear hn
    go_loopw [3, 5] (fun a _ wr => ∃ k : Nat, k ≤ s.size ∧ wr = w1.iter s k ∧ a = .int .i64 (nameWordL (s.data.toList.take k))) (fun _ _ wr => s.size - wr.iterPos w1.heap.size)
    case atStart => exact ⟨0, Nat.zero_le _, rfl, rfl⟩
    case round =>
      obtain ⟨k, hk, rfl, rfl⟩ := hrel
      by_cases hlt : k < s.size
      · have hnx : ∀ ty, (Instr.next (.pointer (some ⟨w1.heap.size, 0, none⟩)) true ty).run Tryz.prog (w1.iter s k) = _ := fun ty => run_next_any w1 s k ty hlt
        have hlow := isNameL_at (unhide HN) (k := k) (by rw [unhide HL]; exact hlt)
        have hb := lowB_bounds hlow
        have hd : Utf8.decode s k = (s[k].toNat, 1) := decode_ascii s k hlt (by have := hb.2; show s.data.toList[k].toNat < 128; omega)
        have hs := nameWordL_take s.data.toList k (by rw [unhide HL]; exact hlt)
        obtain ⟨v0, v1⟩ := nameWordL_bounds s.data.toList (unhide HN) k (by rw [unhide HL]; exact hk)
        have hp := pow27_le k (by omega)
        generalize hv : nameWordL (s.data.toList.take k) = v at *
        have v2 : v ≤ 14348907 := by omega
        have HS : Hid (nameWordL (s.data.toList.take (k + 1)) = v * 27 + ((s[k].toNat : Int) - 97) + 1) := hs
        have c1 : 97 ≤ (s[k].toNat : Int) := by have := hb.1; show (97 : Int) ≤ (s.data.toList[k].toNat : Int); omega
        have c2 : (s[k].toNat : Int) ≤ 122 := by have := hb.2; show (s.data.toList[k].toNat : Int) ≤ 122; omega
        rw [hd] at hnx
        have HD := hide hd
        clear hs hb v1 hp hv hd hlow
        go_wp2
        go_roundw
        case rel => exact ⟨k + 1, by omega, rfl, by rw [unhide HS]⟩
        case measure => simp; omega
      · have hnx : ∀ ty, (Instr.next (.pointer (some ⟨w1.heap.size, 0, none⟩)) true ty).run Tryz.prog (w1.iter s k) = _ := fun ty => run_next_end w1 s k ty hlt
        have he : s.data.toList.take k = s.data.toList := List.take_of_length_le (by rw [unhide HL]; omega)
        rw [he]
        clear he
        go_wp2
        refine bodyPost_ret (v := .agg #[.int .i64 0, .int .i64 (nameWordL s.data.toList)]) (by simp [results, Tryz.results133, go_sem, q1]) rfl ⟨by rw [unhide HV], ?_⟩
        repeat (refine Below.setCell ?_ (by first | omega | (simp <;> omega)) _)
        refine below_step ?_ (unhide HI k) (by omega)
        refine below_step ?_ (unhide HB) (by simp)
        repeat (first | exact Below.refl _ _ | refine Below.alloc ?_ (by first | omega | (simp <;> omega)) _ | refine Below.setCell ?_ (by first | omega | (simp <;> omega)) _ | refine Below.drew ?_ | refine below_drewN ?_ _)
end Go.Proofs.YtiopofemelninaaGreat
