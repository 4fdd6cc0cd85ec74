/-
  Several texts in one: Draw4Image, Draw4Bent.
-/
import Derived.Test.YtiopofemelninaaGreatDrawAll
import Derived.Test.YtiopofemelninaaGreatLiveAllD
import Derived.Deep.CutRange
import Derived.OwnWalk
import Derived.Laws.IdiomStrings
/-
  The laws' draws of images: l4Image.
-/
namespace Go.Proofs.YtiopofemelninaaGreat
open Go.RowKit
set_option linter.unusedVariables false

/-- A row of n numbers, at a block of its own, the word 1 between 2 and 9. -/
def ImgRow (w : World) (g n : Nat) (v : Int) : Prop := ∃ L : List Int, L.length = n ∧ Box w g (nums L) 2 ∧ L[1]? = some v
theorem ImgRow.keep {w w' : World} {g n : Nat} {v : Int} (h : ImgRow w g n v) (hb : w'.heap[g]? = w.heap[g]?) : ImgRow w' g n v := by
  obtain ⟨L, h1, h2, h3⟩ := h
  exact ⟨L, h1, h2.keep hb, h3⟩
theorem ImgRow.lt {w : World} {g n : Nat} {v : Int} (h : ImgRow w g n v) : g < w.heap.size := by
  obtain ⟨L, h1, h2, h3⟩ := h
  exact h2.lt
theorem ImgRow.below {w w' : World} {g n : Nat} {v : Int} (h : ImgRow w g n v) (hb : Below w.heap.size w w') : ImgRow w' g n v := h.keep (hb.block _ h.lt)
theorem ImgRow.out {F : Nat → Prop} {w w' : World} {g n : Nat} {v : Int} (h : ImgRow w g n v) (ho : Out F w w') (hF : ¬ F g) : ImgRow w' g n v := h.keep (ho.block _ h.lt hF)
theorem ImgRow.cell1 {w : World} {g n : Nat} {v : Int} (h : ImgRow w g n v) : w.cell? ⟨g, 1, none⟩ = some (.int .i64 v) := by
  obtain ⟨L, h1, h2, h3⟩ := h
  rw [h2.cell 1]
  simp [nums, h3]
theorem head3 {u e : Int} (h1 : 1 ≤ u) (h2 : u ≤ 999) (h3 : 1 ≤ e) (h4 : e ≤ 9999) : headOk 3 u 0 e = true := by
  unfold headOk inB
  simp
  omega
theorem head2 {u i e : Int} (h1 : 1 ≤ u) (h2 : u ≤ 999) (h3 : 1 ≤ e) (h4 : e ≤ 9999) (h5 : 0 ≤ i) (h6 : i ≤ 3) : headOk 2 u i e = true := by
  unfold headOk inB
  simp
  omega
theorem head1 {u e : Int} (h1 : 1 ≤ u) (h2 : u ≤ 999) (h3 : 1 ≤ e) (h4 : e ≤ 9999) : headOk 1 u 0 e = true := by
  unfold headOk inB
  simp
  omega
theorem made_zeros (n : Nat) : (madeCells (Value.int .i64 0).cells (n * 1)).toList = nums (List.replicate n 0) := by
  simp [madeCells, nums, Value.cells]
  apply List.ext_getElem
  · simp
  · intro i h1 h2
    simp [Nat.mod_one]
theorem lines4 : ∀ v ∈ [(4 : Int), 8, 12, 16], ∃ ls : Nat, v = ls ∧ 4 ≤ ls ∧ ls ≤ 16 := by
  intro v hv
  simp at hv
  rcases hv with rfl | rfl | rfl | rfl
  · exact ⟨4, rfl, by omega, by omega⟩
  · exact ⟨8, rfl, by omega, by omega⟩
  · exact ⟨12, rfl, by omega, by omega⟩
  · exact ⟨16, rfl, by omega, by omega⟩
theorem set_row {w : World} {g o : Nat} {t : TypeId} {L : List Int} {x : Int} (h : o < L.length) (hb : Hid (Box w g ((nums L).take o ++ [.int .i64 x] ++ (nums L).drop (o + 1)) t)) : Box w g (nums (L.set o x)) t := by
  have e : (nums L).take o ++ [.int .i64 x] ++ (nums L).drop (o + 1) = nums (L.set o x) := by
    rw [← nums_set, List.set_eq_take_append_cons_drop, if_pos (by rw [nums_length]; exact h)]
    simp
  rw [← e]
  exact unhide hb
theorem box_rowImg {w : World} {base g n : Nat} {xs : List Value} {e : TypeId} {s : Nat} (h : w.ownsRow base e s (.slice (some ⟨g, 0, none⟩) n n) n xs) : Box w g xs e ∧ base ≤ g := by
  rcases h.2 with ⟨h1, _⟩ | ⟨g', cap, cur, h1, h2, h3, h4, h5, h6, h7⟩
  · cases h1
  · cases h1
    have hc : cur = xs.toArray := by
      rw [List.take_of_length_le (by rw [Array.length_toList, h6]; exact Nat.le_refl _)] at h7
      rw [← h7]
    rw [hc] at h3
    exact ⟨h3, h2⟩
theorem store5 {w1 : World} {b : Nat} {x0 x1 x2 x3 x4 v0 v1 v2 v3 v4 : Value} {t : TypeId} (hx : Box w1 b [x0, x1, x2, x3, x4] t) : Box (((((w1.setCell ⟨b, 0, none⟩ v0).setCell ⟨b, 1, none⟩ v1).setCell ⟨b, 2, none⟩ v2).setCell ⟨b, 3, none⟩ v3).setCell ⟨b, 4, none⟩ v4) b [v0, v1, v2, v3, v4] t := by
  have := ((((hx.set 0 v0).set 1 v1).set 2 v2).set 3 v3).set 4 v4
  simpa using this
def lineB (k : Nat) : UInt8 := UInt8.ofNat (97 + k)
theorem lineB_toNat {k : Nat} (h : k ≤ 20) : ((lineB k).toNat : Int) = 97 + k := by
  unfold lineB
  rw [UInt8.toNat_ofNat']
  omega
theorem lineName {k : Nat} (h : k ≤ 20) : isNameL (⟨#[lineB k]⟩ : ByteArray).data.toList = true := by
  have : ∀ j : Fin 21, isNameL [lineB j.val] = true := by decide
  exact this ⟨k, by omega⟩
theorem convLine (w : World) (b k : Nat) (hk : k ≤ 20) (hc : w.cell? ⟨b, 0, none⟩ = some (.int .u8 (97 + (k : Int)))) : (convert 22 9 (.slice (some ⟨b, 0, none⟩) 1 1)).run Tryz.prog w = .ok (.string ⟨#[lineB k]⟩) w :=
  run_convert_bytes_back (P := Tryz.prog) w 22 9 5 ⟨b, 0, none⟩ 1 [lineB k] Tryz.underlying22 Tryz.underlying5 Tryz.underlying9 (fun j hj => by
    obtain rfl : j = 0 := by simpa using hj
    simp only [List.getElem_cons_zero]
    rw [lineB_toNat hk]
    exact hc)
theorem sres8 {base : Nat} {w' : World} {r : Ending} {l : List Int} (h : SRes base w' r l) (hl : l.length = 8) : ∃ a c M, r = .returned (.slice a 8 c) ∧ List.length M = 8 ∧ IntsAt w' a M ∧ ∀ ad, a = some ad → base ≤ ad.block := by
  obtain ⟨v, rfl, ho⟩ := h
  obtain ⟨a, c, e1, -, hi, -, -⟩ := intsAt_own ho
  refine ⟨a, c, l, by rw [e1, hl], hl, hi, fun ad e => ?_⟩
  exact (ho.lt ad.block (by rw [e1, e]; rfl)).1
theorem layTo (g ls k : Nat) (v : Int) (a : Option Addr) (c : Nat) (l : List Int) (w : World) (hR : ImgRow w g (ls * 8) v) (h : IntsAt w a l) (hne : ∀ ad, a = some ad → ad.block ≠ g) (hl : l.length = 8) (h1 : 1 ≤ k) (h2 : k < ls) (h3 : ls ≤ 16) :
    Calls Tryz.prog 76 #[.slice (some ⟨g, 0, none⟩) (ls * 8) (ls * 8), .int .i64 k, .slice a 8 c] w fun e w' => e = .returned (.tuple #[]) ∧ ImgRow w' g (ls * 8) v ∧ Out (fun q => q = g) w w' := by
  obtain ⟨L, hL, hB, hv⟩ := hR
  rw [← hL, ← hl]
  exact (l4Lay_any g L k a c l w hB h hne hl (by omega) (by omega)).mono fun e w' ⟨h1, ⟨L', g1, g2, g3⟩, h3⟩ => ⟨h1, ⟨L', by omega, g2, by rw [g3 1 (by omega)]; exact hv⟩, h3⟩
theorem numbersTo (s : Nat) (a : Option Addr) (n c P : Nat) (w : World) (h : SrcTo w s a n c P) (hp : P ≤ 500) :
    Calls Tryz.prog 79 #[.pointer (some ⟨s, 0, none⟩)] w fun r w' => (∃ av cv l, r = .returned (.slice av 4 cv) ∧ IntsAt w' av l ∧ List.length l = 4) ∧ SrcTo w' s a n c (P + 8) ∧ Out (fun q => q = s) w w' := by
  obtain ⟨p, hp', h⟩ := h
  refine (numbers_any s a n c p w h (by omega)).mono ?_
  rintro r w' ⟨⟨v, l, rfl, ho, hl, -⟩, ⟨q, hq, hs⟩, hO⟩
  obtain ⟨a2, c2, e1, -, hi, -, -⟩ := intsAt_own ho
  exact ⟨⟨a2, c2, l, by rw [e1, hl], hi, hl⟩, ⟨q, by omega, hs⟩, hO⟩
def NodeNew (w0 wx : World) (s : Nat) (a : Option Addr) (n c P : Nat) (sl v0 v1 v2 v3 v4 : Value) (t : TypeId) : Prop := ∃ bx, sl = .pointer (some ⟨bx, 0, none⟩) ∧ Box wx bx [v0, v1, v2, v3, v4] t ∧ SrcTo wx s a n c P ∧ Out (fun q => q = s) w0 wx ∧ w0.heap.size ≤ bx
theorem nodeNew_n {w0 wn : World} {s : Nat} {a : Option Addr} {n c P : Nat} {v0 v1 v2 v3 v4 : Value} {t : TypeId} (hs : SrcTo wn s a n c P) (ho : Out (fun q => q = s) w0 wn) : NodeNew w0 (wn.alloc (.cells #[v0, v1, v2, v3, v4] t)) s a n c P (.pointer (some ⟨wn.heap.size, 0, none⟩)) v0 v1 v2 v3 v4 t :=
  ⟨_, rfl, box_new wn [v0, v1, v2, v3, v4] t, hs.below ((Below.refl _ _).alloc (Nat.le_refl _) _), ho.alloc _, ho.size⟩
theorem nodeNew_nb {w0 wn : World} {s : Nat} {a : Option Addr} {n c P : Nat} {v0 v1 v2 v3 v4 b : Value} {t tb : TypeId} (hs : SrcTo wn s a n c P) (ho : Out (fun q => q = s) w0 wn) : NodeNew w0 ((wn.alloc (.cells #[v0, v1, v2, v3, v4] t)).alloc (.cells #[b] tb)) s a n c P (.pointer (some ⟨wn.heap.size, 0, none⟩)) v0 v1 v2 v3 v4 t :=
  ⟨_, rfl, (box_new wn [v0, v1, v2, v3, v4] t).alloc _, hs.below (((Below.refl _ _).alloc (Nat.le_refl _) _).alloc (by simp) _), (ho.alloc _).alloc _, ho.size⟩
theorem nodeNew_bn {w0 wn : World} {s : Nat} {a : Option Addr} {n c P : Nat} {v0 v1 v2 v3 v4 b : Value} {t tb : TypeId} (hs : SrcTo wn s a n c P) (ho : Out (fun q => q = s) w0 wn) : NodeNew w0 ((wn.alloc (.cells #[b] tb)).alloc (.cells #[v0, v1, v2, v3, v4] t)) s a n c P (.pointer (some ⟨wn.heap.size + 1, 0, none⟩)) v0 v1 v2 v3 v4 t :=
  ⟨_, rfl, by
    have h := box_new (wn.alloc (.cells #[b] tb)) [v0, v1, v2, v3, v4] t
    rw [World.size_alloc] at h
    exact h, hs.below (((Below.refl _ _).alloc (Nat.le_refl _) _).alloc (by simp) _), (ho.alloc _).alloc _, by have := ho.size; omega⟩
theorem nodeNew_set {w0 wn : World} {s g : Nat} {a : Option Addr} {n c P : Nat} {x0 x1 x2 x3 x4 v0 v1 v2 v3 v4 : Value} {t : TypeId} (hs : SrcTo wn s a n c P) (ho : Out (fun q => q = s) w0 wn) (hx : Box wn g [x0, x1, x2, x3, x4] t) (h1 : s < g) (h2 : w0.heap.size ≤ g) : NodeNew w0 (((((wn.setCell ⟨g, 0, none⟩ v0).setCell ⟨g, 1, none⟩ v1).setCell ⟨g, 2, none⟩ v2).setCell ⟨g, 3, none⟩ v3).setCell ⟨g, 4, none⟩ v4) s a n c P (.pointer (some ⟨g, 0, none⟩)) v0 v1 v2 v3 v4 t :=
  ⟨g, rfl, store5 hx, hs.above (F := fun q => q = g) ((((((Out.refl (fun q => q = g) wn).setCell (p := ⟨g, 0, none⟩) (.inl rfl) v0).setCell (p := ⟨g, 1, none⟩) (.inl rfl) v1).setCell (p := ⟨g, 2, none⟩) (.inl rfl) v2).setCell (p := ⟨g, 3, none⟩) (.inl rfl) v3).setCell (p := ⟨g, 4, none⟩) (.inl rfl) v4) (fun q e => by omega), ((((ho.setCell (p := ⟨g, 0, none⟩) (.inr h2) v0).setCell (p := ⟨g, 1, none⟩) (.inr h2) v1).setCell (p := ⟨g, 2, none⟩) (.inr h2) v2).setCell (p := ⟨g, 3, none⟩) (.inr h2) v3).setCell (p := ⟨g, 4, none⟩) (.inr h2) v4, h2⟩
theorem nodeNew_setb {w0 wn : World} {s g : Nat} {a : Option Addr} {n c P : Nat} {x0 x1 x2 x3 x4 v0 v1 v2 v3 v4 b : Value} {t tb : TypeId} (hs : SrcTo wn s a n c P) (ho : Out (fun q => q = s) w0 wn) (hx : Box wn g [x0, x1, x2, x3, x4] t) (h1 : s < g) (h2 : w0.heap.size ≤ g) : NodeNew w0 ((((((wn.setCell ⟨g, 0, none⟩ v0).setCell ⟨g, 1, none⟩ v1).setCell ⟨g, 2, none⟩ v2).setCell ⟨g, 3, none⟩ v3).setCell ⟨g, 4, none⟩ v4).alloc (.cells #[b] tb)) s a n c P (.pointer (some ⟨g, 0, none⟩)) v0 v1 v2 v3 v4 t := by
  obtain ⟨bx, e, k1, k2, k3, k4⟩ := nodeNew_set (v0 := v0) (v1 := v1) (v2 := v2) (v3 := v3) (v4 := v4) hs ho hx h1 h2
  exact ⟨bx, e, k1.alloc _, k2.below ((Below.refl _ _).alloc (Nat.le_refl _) _), k3.alloc _, k4⟩
theorem l1Max_any (x y : Int) (w : World) : Calls Tryz.prog 42 #[.int .i64 x, .int .i64 y] w fun e w' => (∃ m : Int, e = .returned (.int .i64 m)) ∧ w' = w := by
  by_cases h : y < x
  · go_enter Tryz.func42, Tryz.ntmps42
    go_wp2
    go_ret
    exact ⟨⟨_, rfl⟩, rfl⟩
  · go_enter Tryz.func42, Tryz.ntmps42
    go_wp2
    go_ret
    exact ⟨⟨_, rfl⟩, rfl⟩
set_option maxRecDepth 20000 in
set_option maxHeartbeats 40000000 in
theorem l4Image_any (s : Nat) (a : Option Addr) (n c : Nat) (w : World) (h : SrcTo w s a n c 0) :
    Calls Tryz.prog 48 #[.pointer (some ⟨s, 0, none⟩)] w fun e w' => (∃ (g ls : Nat), e = .returned (.slice (some ⟨g, 0, none⟩) (ls * 8) (ls * 8)) ∧ 4 ≤ ls ∧ ls ≤ 16 ∧ w.heap.size ≤ g ∧ ∃ v : Int, 2 ≤ v ∧ v ≤ 9 ∧ ImgRow w' g (ls * 8) v) ∧ SrcTo w' s a n c 400 ∧ Out (fun q => q = s) w w' := by
  obtain ⟨i0, hi, hz0, hz1, hz2⟩ := info_parts infoInt64
  have hsl := h.lt
  have H := hide h
  clear h
  go_enter Tryz.func48, Tryz.ntmps48
  go_wp2_with fail
  refine (pickTo s a n c 0 (fun x => ∃ ls : Nat, x = ls ∧ 4 ≤ ls ∧ ls ≤ 16) (nums [4, 8, 12, 16]).toArray 2 4 w (unhide H) (by omega) rfl (by omega) (by omega) (offerI _ _ lines4)).mono ?_
  rintro r w1 ⟨⟨_, ⟨ls, rfl, hl4, hl16⟩, rfl⟩, h1, o1⟩
  have S1 := hide h1
  have O1 := hide o1
  have z1 : w.heap.size ≤ w1.heap.size := o1.size
  clear h1 o1 H
  have hN0 : (0 : Int) < ((ls * 8 : Nat) : Int) := by omega
  have hN1 : (1 : Int) < ((ls * 8 : Nat) : Int) := by omega
  go_wp2_with (first
    | (at_make; refine wpList_make_full _ rfl _ _ 24 rfl w1.heap.size 2 i0 (.int .i64 0) 1 Tryz.underlying24 hi hz0 hz1 .i64 .i64 _ _ (ls * 8) rfl rfl (by omega) (by omega) (by rw [hz2]; omega) (by unfold maxLen; omega) (Nat.le_refl _) ?_; intro w2 hown hgrow; rw [made_zeros] at hown; have X2 := hide (box_rowImg hown).1; have S2 := hide (show SrcTo w2 s a n c 1 from (unhide S1).above (Out.ofGrown hgrow) (fun q e => by cases e)); have O2 : Hid (Out (fun q => q = s) w w2) := (unhide O1).trans (Out.ofGrown hgrow) (fun q _ e => by cases e); have z2 : w1.heap.size < w2.heap.size := (unhide X2).lt; clear hown hgrow S1 O1)
    | (refine wpList_store_cell rfl 2 (.tmp 17) (.const (.int .i64 691691691)) rfl w1.heap.size 0 _ rfl rfl 2 _ (unhide X2) (by kernel_rfl) (by rw [nums_length, List.length_replicate]; omega) rfl rfl ?_; intro w3 X0 O0; have X3 := hide (set_row (by rw [List.length_replicate]; omega) X0); have S3 := hide ((unhide S2).above (unhide O0) (fun q e => by omega)); have O3 : Hid (Out (fun q => q = s) w w3) := (unhide O2).trans (unhide O0) (fun q _ e => by omega); have z3 : w2.heap.size ≤ w3.heap.size := (unhide O0).size; clear X0 O0 X2 S2 O2))
  obtain ⟨L3, hL3, hX3⟩ : ∃ L : List Int, L.length = ls * 8 ∧ Box w3 w1.heap.size (nums L) 2 := ⟨_, by rw [List.length_set, List.length_replicate], unhide X3⟩
  have Y3 := hide hX3
  clear X3 hX3
  have gs : w1.heap.size ≠ s := by omega
  have gw : w.heap.size ≤ w1.heap.size := z1
  generalize w1.heap.size = g at *
  refine (pickTo s a n c 1 (fun x => 2 ≤ x ∧ x ≤ 9) (nums [2, 4, 5, 6, 9]).toArray 2 5 w3 (unhide S3) (by omega) rfl (by omega) (by omega) (offerI _ _ (by intro v hv; simp at hv; omega))).mono ?_
  rintro r w4 ⟨⟨v1, ⟨hv2, hv9⟩, rfl⟩, h4, o4⟩
  have S4 := hide h4
  have Y4 := hide ((unhide Y3).out o4 gs)
  have O4 := hide ((unhide O3).trans o4 (fun q _ e => e))
  have z4 : w3.heap.size ≤ w4.heap.size := o4.size
  clear h4 o4 S3 Y3 O3
  go_wp2_with (refine wpList_store_cell rfl 2 (.tmp 22) (.tmp 21) rfl g 1 (.int .i64 v1) rfl rfl 2 _ (unhide Y4) (by kernel_rfl) (by rw [nums_length]; omega) rfl rfl ?_; intro w5 X0 O0; have R5 : Hid (ImgRow w5 g (ls * 8) v1) := ⟨_, by rw [List.length_set]; exact hL3, set_row (by omega) X0, by rw [List.getElem?_set_self (by omega)]⟩; have S5 := hide ((unhide S4).above (unhide O0) (fun q e => by omega)); have O5 : Hid (Out (fun q => q = s) w w5) := (unhide O4).trans (unhide O0) (fun q _ e => by omega); have z5 : w4.heap.size ≤ w5.heap.size := (unhide O0).size; clear X0 O0 Y4 S4 O4)
  go_loopw [5, 6] (fun u i wr => ∃ (ud ln : Nat), 1 ≤ ln ∧ ln ≤ ls ∧ ud < ln ∧ u = .int .i64 ud ∧ i = .int .i64 ln ∧ w5.heap.size ≤ wr.heap.size ∧ Hid (ImgRow wr g (ls * 8) v1) ∧ Hid (SrcTo wr s a n c (2 + 20 * ln)) ∧ Hid (Out (fun q => q = s) w wr)) (fun _ i _ => ls + 1 - (intOf i).toNat)
  case atStart => exact ⟨0, 1, by omega, by omega, by omega, rfl, rfl, by omega, unhide R5, (unhide S5).more (by omega), unhide O5⟩
  case round =>
    obtain ⟨ud, ln, hn1, hn2, hud, rfl, rfl, zr, R6, S6, O6⟩ := hrel
    clear R5 S5 O5
    have zg : g < wr.heap.size := (unhide R6).lt
    by_cases hlt : ln < ls
    case neg =>
      have hnb : ¬ (ln : Int) < ls := by omega
      go_wp2_with fail
      go_ret
      exact ⟨⟨g, ls, rfl, hl4, hl16, gw, v1, hv2, hv9, unhide R6⟩, (unhide S6).more (by omega), unhide O6⟩
    have hnb : (ln : Int) < ls := by omega
    have c1 := (unhide R6).cell1
    go_wp2_with fail
    clear c1
    refine (nextTo s a n c (2 + 20 * ln) v1 _ (unhide S6) (by omega) (by omega) (by omega)).mono ?_
    rintro r w7 ⟨⟨e, rfl, e0, e1⟩, hs, ho⟩
    have S7 := hide hs
    have R7 := hide ((unhide R6).out ho gs)
    have O7 := hide ((unhide O6).trans ho (fun q _ e => e))
    have z7 := ho.size
    clear hs ho S6 R6 O6
    go_wp2_with fail
    refine (chanceTo s a n c (2 + 20 * ln + 1) 4 _ (unhide S7) (by omega) (by omega) (by omega)).mono ?_
    rintro r w8 ⟨⟨b, rfl⟩, hs, ho⟩
    have S8 := hide hs
    have R8 := hide ((unhide R7).out ho gs)
    have O8 := hide ((unhide O7).trans ho (fun q _ e => e))
    have z8 := ho.size
    clear hs ho S7 R7 O7
    cases b
    case true =>
      go_wp2_with fail
      go_roundw
      case rel => exact ⟨ud, ln + 1, by omega, by omega, by omega, by go_num, by go_num, by omega, unhide R8, (unhide S8).more (by omega), unhide O8⟩
      case measure => simp [intOf]; omega
    go_wp2_with fail
    refine (nextTo s a n c (2 + 20 * ln + 1 + 1) 8 _ (unhide S8) (by omega) (by omega) (by omega)).mono ?_
    rintro r w9 ⟨⟨k, rfl, k0, k1⟩, hs, ho⟩
    have S9 := hide hs
    have R9 := hide ((unhide R8).out ho gs)
    have O9 := hide ((unhide O8).trans ho (fun q _ e => e))
    have z9 := ho.size
    clear hs ho S8 R8 O8
    by_cases hk0 : k = 0
    · subst hk0
      clear k0 k1
      go_wp2_with fail
      refine (nextTo s a n c (2 + 20 * ln + 1 + 1 + 1) ((ud : Int) + 1) _ (unhide S9) (by omega) (by omega) (by omega)).mono ?_
      rintro r w10 ⟨⟨u, rfl, u0, u1⟩, hs, ho⟩
      have S10 := hide hs
      have R10 := hide ((unhide R9).out ho gs)
      have O10 := hide ((unhide O9).trans ho (fun q _ e => e))
      have z10 := ho.size
      clear hs ho S9 R9 O9
      go_wp2_with fail
      refine (l3Gone_any (1 + u) (1 + e) _ (head3 (by omega) (by omega) (by omega) (by omega))).mono ?_
      rintro r w11 ⟨hr, hb⟩
      obtain ⟨ar, cr, M, rfl, hM, hi, har⟩ := sres8 hr (by simp)
      have I11 := hide hi
      have NE : Hid (∀ ad, ar = some ad → ad.block ≠ g) := fun ad h => by have := har ad h; omega
      have S11 := hide ((unhide S10).below hb)
      have R11 := hide ((unhide R10).below hb)
      have O11 : Hid (Out (fun q => q = s) w w11) := (unhide O10).trans (Out.ofBelow (F := fun q => q = s) hb) (fun q _ e => e)
      have z11 := hb.size
      clear hr hi har hb S10 R10 O10
      go_wp2_with fail
      refine (layTo g ls ln v1 _ _ M _ (unhide R11) (unhide I11) (unhide NE) hM (by omega) (by omega) hl16).mono ?_
      rintro r w12 ⟨rfl, hr, ho⟩
      have R12 := hide hr
      have S12 := hide ((unhide S11).above ho (fun q e => by omega))
      have O12 : Hid (Out (fun q => q = s) w w12) := (unhide O11).trans ho (fun q _ e => by omega)
      have z12 := ho.size
      clear hr ho S11 R11 O11 I11 NE
      go_wp2_with fail
      go_roundw
      case rel => exact ⟨ud, ln + 1, by omega, by omega, by omega, by go_num, by go_num, by omega, unhide R12, (unhide S12).more (by omega), unhide O12⟩
      case measure => simp [intOf]; omega
    have hk0b : (k == 0) = false := by simpa using hk0
    by_cases hk1 : k = 1
    · subst hk1
      clear hk0 hk0b k0 k1
      go_wp2_with fail
      refine (nextTo s a n c (2 + 20 * ln + 1 + 1 + 1) ((ud : Int) + 1) _ (unhide S9) (by omega) (by omega) (by omega)).mono ?_
      rintro r w10 ⟨⟨u, rfl, u0, u1⟩, hs, ho⟩
      have S10 := hide hs
      have R10 := hide ((unhide R9).out ho gs)
      have O10 := hide ((unhide O9).trans ho (fun q _ e => e))
      have z10 := ho.size
      clear hs ho S9 R9 O9
      go_wp2_with fail
      refine (nextTo s a n c (2 + 20 * ln + 1 + 1 + 1 + 1) 2 _ (unhide S10) (by omega) (by omega) (by omega)).mono ?_
      rintro r w11 ⟨⟨j, rfl, j0, j1⟩, hs, ho⟩
      have S11 := hide hs
      have R11 := hide ((unhide R10).out ho gs)
      have O11 := hide ((unhide O10).trans ho (fun q _ e => e))
      have z11 := ho.size
      clear hs ho S10 R10 O10
      go_wp2_with fail
      refine (numbersTo s a n c (2 + 20 * ln + 1 + 1 + 1 + 1 + 1) _ (unhide S11) (by omega)).mono ?_
      rintro r w12 ⟨⟨an, cn, nl, rfl, hi, hnl⟩, hs, ho⟩
      have J12 := hide hi
      have S12 := hide hs
      have R12 := hide ((unhide R11).out ho gs)
      have O12 := hide ((unhide O11).trans ho (fun q _ e => e))
      have z12 := ho.size
      clear hi hs ho S11 R11 O11
      go_wp2_with fail
      rw [← hnl]
      refine (l3Data_any (1 + u) j an cn nl (1 + e) _ (unhide J12) (by omega) (head2 (by omega) (by omega) (by omega) (by omega) (by omega) (by omega))).mono ?_
      rintro r w13 ⟨hr, hb⟩
      obtain ⟨ar, cr, M, rfl, hM, hi, har⟩ := sres8 hr (by simp [hnl])
      have I13 := hide hi
      have NE : Hid (∀ ad, ar = some ad → ad.block ≠ g) := fun ad h => by have := har ad h; omega
      have S13 := hide ((unhide S12).below hb)
      have R13 := hide ((unhide R12).below hb)
      have O13 : Hid (Out (fun q => q = s) w w13) := (unhide O12).trans (Out.ofBelow (F := fun q => q = s) hb) (fun q _ e => e)
      have z13 := hb.size
      clear hr hi har hb S12 R12 O12
      go_wp2_with fail
      refine (layTo g ls ln v1 _ _ M _ (unhide R13) (unhide I13) (unhide NE) hM (by omega) (by omega) hl16).mono ?_
      rintro r w14 ⟨rfl, hr, ho⟩
      have R14 := hide hr
      have S14 := hide ((unhide S13).above ho (fun q e => by omega))
      have O14 : Hid (Out (fun q => q = s) w w14) := (unhide O13).trans ho (fun q _ e => by omega)
      have z14 := ho.size
      clear hr ho S13 R13 O13 I13 NE
      go_wp2_with fail
      go_roundw
      case rel => exact ⟨ud, ln + 1, by omega, by omega, by omega, by go_num, by go_num, by omega, unhide R14, (unhide S14).more (by omega), unhide O14⟩
      case measure => simp [intOf]; omega
    have hk1b : (k == 1) = false := by simpa using hk1
    by_cases hk2 : k = 2
    · subst hk2
      clear hk0 hk0b hk1 hk1b k0 k1
      go_upto_region 26 with fail
      go_cut [8] from 23 to 135 (fun s8 wx => ∃ u : Int, 0 ≤ u ∧ u < (ud : Int) + 1 ∧ Hid (NodeNew w9 wx s a n c (2 + 20 * ln + 1 + 1 + 1 + 1) s8 (.int .i64 (1 + u)) (.bool true) (.int .i64 0) (.string ⟨#[lineB ln]⟩) (.int .i64 0) 42))
      case first => as_aux_lemma =>
        have hwu : IntKind.i64.wrap ((ud : Int) + 1) = (ud : Int) + 1 := by rw [IntKind.wrap_i64]; omega
        have hcvt : ∀ (W0 : World) (b : Nat), W0.cell? ⟨b, 0, none⟩ = some (.int .u8 (97 + (ln : Int))) → (convert 22 9 (.slice (some ⟨b, 0, none⟩) 1 1)).run Tryz.prog W0 = .ok (.string ⟨#[lineB ln]⟩) W0 := fun W0 b h => convLine W0 b ln (by omega) h
        have hw8 : IntKind.u8.wrap (ln : Int) = (ln : Int) := by rw [IntKind.wrap_u8]; omega
        have hw9 : IntKind.u8.wrap (97 + (ln : Int)) = 97 + (ln : Int) := by rw [IntKind.wrap_u8]; omega
        have ns0 : w9.heap.size ≠ s := by have := (unhide S9).lt; omega
        have ls9 : s < w9.heap.size := (unhide S9).lt
        have ns1 : w9.heap.size + 1 ≠ s := by have := (unhide S9).lt; omega
        have HCA : Hid (Calls Tryz.prog 49 #[.pointer (some ⟨s, 0, none⟩), .int .i64 ((ud : Int) + 1)] w9.drew fun e w' => (∃ v : Int, e = .returned (.int .i64 v) ∧ 0 ≤ v ∧ v < (ud : Int) + 1) ∧ SrcTo w' s a n c (2 + 20 * ln + 1 + 1 + 1 + 1) ∧ Out (fun q => q = s) w9.drew w') := nextTo s a n c (2 + 20 * ln + 1 + 1 + 1) ((ud : Int) + 1) w9.drew ((unhide S9).below (Below.refl _ _).drew) (by omega) (by omega) (by omega)
        have HCB : Hid (Calls Tryz.prog 49 #[.pointer (some ⟨s, 0, none⟩), .int .i64 ((ud : Int) + 1)] (w9.alloc (.cells #[.int .u8 (97 + (ln : Int))] 5)).drew fun e w' => (∃ v : Int, e = .returned (.int .i64 v) ∧ 0 ≤ v ∧ v < (ud : Int) + 1) ∧ SrcTo w' s a n c (2 + 20 * ln + 1 + 1 + 1 + 1) ∧ Out (fun q => q = s) (w9.alloc (.cells #[.int .u8 (97 + (ln : Int))] 5)).drew w') := nextTo s a n c (2 + 20 * ln + 1 + 1 + 1) ((ud : Int) + 1) (w9.alloc (.cells #[.int .u8 (97 + (ln : Int))] 5)).drew ((unhide S9).below ((Below.refl _ _).alloc (Nat.le_refl _) _).drew) (by omega) (by omega) (by omega)
        have HCN : Hid (Calls Tryz.prog 49 #[.pointer (some ⟨s, 0, none⟩), .int .i64 ((ud : Int) + 1)] (w9.alloc (.cells #[.int .i64 0, .bool false, .int .i64 0, .string ⟨#[]⟩, .int .i64 0] 42)).drew fun e w' => (∃ v : Int, e = .returned (.int .i64 v) ∧ 0 ≤ v ∧ v < (ud : Int) + 1) ∧ SrcTo w' s a n c (2 + 20 * ln + 1 + 1 + 1 + 1) ∧ Out (fun q => q = s) (w9.alloc (.cells #[.int .i64 0, .bool false, .int .i64 0, .string ⟨#[]⟩, .int .i64 0] 42)).drew w') := nextTo s a n c (2 + 20 * ln + 1 + 1 + 1) ((ud : Int) + 1) (w9.alloc (.cells #[.int .i64 0, .bool false, .int .i64 0, .string ⟨#[]⟩, .int .i64 0] 42)).drew ((unhide S9).below ((Below.refl _ _).alloc (Nat.le_refl _) _).drew) (by omega) (by omega) (by omega)
        have HCBN : Hid (Calls Tryz.prog 49 #[.pointer (some ⟨s, 0, none⟩), .int .i64 ((ud : Int) + 1)] ((w9.alloc (.cells #[.int .u8 (97 + (ln : Int))] 5)).alloc (.cells #[.int .i64 0, .bool false, .int .i64 0, .string ⟨#[]⟩, .int .i64 0] 42)).drew fun e w' => (∃ v : Int, e = .returned (.int .i64 v) ∧ 0 ≤ v ∧ v < (ud : Int) + 1) ∧ SrcTo w' s a n c (2 + 20 * ln + 1 + 1 + 1 + 1) ∧ Out (fun q => q = s) ((w9.alloc (.cells #[.int .u8 (97 + (ln : Int))] 5)).alloc (.cells #[.int .i64 0, .bool false, .int .i64 0, .string ⟨#[]⟩, .int .i64 0] 42)).drew w') := nextTo s a n c (2 + 20 * ln + 1 + 1 + 1) ((ud : Int) + 1) ((w9.alloc (.cells #[.int .u8 (97 + (ln : Int))] 5)).alloc (.cells #[.int .i64 0, .bool false, .int .i64 0, .string ⟨#[]⟩, .int .i64 0] 42)).drew ((unhide S9).below (((Below.refl _ _).alloc (Nat.le_refl _) _).alloc (by simp) _).drew) (by omega) (by omega) (by omega)
        have HCNB : Hid (Calls Tryz.prog 49 #[.pointer (some ⟨s, 0, none⟩), .int .i64 ((ud : Int) + 1)] ((w9.alloc (.cells #[.int .i64 0, .bool false, .int .i64 0, .string ⟨#[]⟩, .int .i64 0] 42)).alloc (.cells #[.int .u8 (97 + (ln : Int))] 5)).drew fun e w' => (∃ v : Int, e = .returned (.int .i64 v) ∧ 0 ≤ v ∧ v < (ud : Int) + 1) ∧ SrcTo w' s a n c (2 + 20 * ln + 1 + 1 + 1 + 1) ∧ Out (fun q => q = s) ((w9.alloc (.cells #[.int .i64 0, .bool false, .int .i64 0, .string ⟨#[]⟩, .int .i64 0] 42)).alloc (.cells #[.int .u8 (97 + (ln : Int))] 5)).drew w') := nextTo s a n c (2 + 20 * ln + 1 + 1 + 1) ((ud : Int) + 1) ((w9.alloc (.cells #[.int .i64 0, .bool false, .int .i64 0, .string ⟨#[]⟩, .int .i64 0] 42)).alloc (.cells #[.int .u8 (97 + (ln : Int))] 5)).drew ((unhide S9).below (((Below.refl _ _).alloc (Nat.le_refl _) _).alloc (by simp) _).drew) (by omega) (by omega) (by omega)
        have XBB : Hid (Box (w9.alloc (.cells #[.int .u8 (97 + (ln : Int))] 5)).drew w9.heap.size [.int .u8 (97 + (ln : Int))] 5) := hide (by have h := box_new w9 [.int .u8 (97 + (ln : Int))] 5; first | exact h.drew | (rw [World.size_alloc] at h; exact h.drew))
        have XNN : Hid (Box (w9.alloc (.cells #[.int .i64 0, .bool false, .int .i64 0, .string ⟨#[]⟩, .int .i64 0] 42)).drew w9.heap.size [.int .i64 0, .bool false, .int .i64 0, .string ⟨#[]⟩, .int .i64 0] 42) := hide (by have h := box_new w9 [.int .i64 0, .bool false, .int .i64 0, .string ⟨#[]⟩, .int .i64 0] 42; first | exact h.drew | (rw [World.size_alloc] at h; exact h.drew))
        have XBBN : Hid (Box ((w9.alloc (.cells #[.int .u8 (97 + (ln : Int))] 5)).alloc (.cells #[.int .i64 0, .bool false, .int .i64 0, .string ⟨#[]⟩, .int .i64 0] 42)).drew w9.heap.size [.int .u8 (97 + (ln : Int))] 5) := hide (by have h := (box_new w9 [.int .u8 (97 + (ln : Int))] 5).alloc (.cells #[.int .i64 0, .bool false, .int .i64 0, .string ⟨#[]⟩, .int .i64 0] 42); first | exact h.drew | (rw [World.size_alloc] at h; exact h.drew))
        have XNBN : Hid (Box ((w9.alloc (.cells #[.int .u8 (97 + (ln : Int))] 5)).alloc (.cells #[.int .i64 0, .bool false, .int .i64 0, .string ⟨#[]⟩, .int .i64 0] 42)).drew (w9.heap.size + 1) [.int .i64 0, .bool false, .int .i64 0, .string ⟨#[]⟩, .int .i64 0] 42) := hide (by have h := box_new (w9.alloc (.cells #[.int .u8 (97 + (ln : Int))] 5)) [.int .i64 0, .bool false, .int .i64 0, .string ⟨#[]⟩, .int .i64 0] 42; first | exact h.drew | (rw [World.size_alloc] at h; exact h.drew))
        have XNNB : Hid (Box ((w9.alloc (.cells #[.int .i64 0, .bool false, .int .i64 0, .string ⟨#[]⟩, .int .i64 0] 42)).alloc (.cells #[.int .u8 (97 + (ln : Int))] 5)).drew w9.heap.size [.int .i64 0, .bool false, .int .i64 0, .string ⟨#[]⟩, .int .i64 0] 42) := hide (by have h := (box_new w9 [.int .i64 0, .bool false, .int .i64 0, .string ⟨#[]⟩, .int .i64 0] 42).alloc (.cells #[.int .u8 (97 + (ln : Int))] 5); first | exact h.drew | (rw [World.size_alloc] at h; exact h.drew))
        have XBNB : Hid (Box ((w9.alloc (.cells #[.int .i64 0, .bool false, .int .i64 0, .string ⟨#[]⟩, .int .i64 0] 42)).alloc (.cells #[.int .u8 (97 + (ln : Int))] 5)).drew (w9.heap.size + 1) [.int .u8 (97 + (ln : Int))] 5) := hide (by have h := box_new (w9.alloc (.cells #[.int .i64 0, .bool false, .int .i64 0, .string ⟨#[]⟩, .int .i64 0] 42)) [.int .u8 (97 + (ln : Int))] 5; first | exact h.drew | (rw [World.size_alloc] at h; exact h.drew))
        go_region_with (first
          | (go_at_call 49; (with_reducible refine (unhide HCA).mono ?_); rintro r wn ⟨⟨u, rfl, u0, u1⟩, hs, ho⟩; have hwv : IntKind.i64.wrap (1 + u) = 1 + u := (by rw [IntKind.wrap_i64]; omega); have SN := hide hs; have OW : Hid (Out (fun q => q = s) w9 wn) := (Out.ofBelow (F := fun q => q = s) (Below.refl _ _).drew).trans ho (fun q _ e => e); have zo := ho.size; clear hs ho)
          | (go_at_call 49; (with_reducible refine (unhide HCB).mono ?_); rintro r wn ⟨⟨u, rfl, u0, u1⟩, hs, ho⟩; have hwv : IntKind.i64.wrap (1 + u) = 1 + u := (by rw [IntKind.wrap_i64]; omega); have SN := hide hs; have OW : Hid (Out (fun q => q = s) w9 wn) := (Out.ofBelow (F := fun q => q = s) ((Below.refl _ _).alloc (Nat.le_refl _) _).drew).trans ho (fun q _ e => e); have zo := ho.size; have YB := hide ((unhide XBB).out ho (by omega)); have cb := (unhide YB).cell 0; simp only [List.getElem?_cons_zero] at cb; have lb := (unhide YB).lt; clear hs ho)
          | (go_at_call 49; (with_reducible refine (unhide HCN).mono ?_); rintro r wn ⟨⟨u, rfl, u0, u1⟩, hs, ho⟩; have hwv : IntKind.i64.wrap (1 + u) = 1 + u := (by rw [IntKind.wrap_i64]; omega); have SN := hide hs; have OW : Hid (Out (fun q => q = s) w9 wn) := (Out.ofBelow (F := fun q => q = s) ((Below.refl _ _).alloc (Nat.le_refl _) _).drew).trans ho (fun q _ e => e); have zo := ho.size; have YNN := hide ((unhide XNN).out ho (by omega)); have n0 := (unhide YNN).cell 0; have f0 := (unhide YNN).frozen 0; have n1 := (unhide YNN).cell 1; have f1 := (unhide YNN).frozen 1; have n2 := (unhide YNN).cell 2; have f2 := (unhide YNN).frozen 2; have n3 := (unhide YNN).cell 3; have f3 := (unhide YNN).frozen 3; have n4 := (unhide YNN).cell 4; have f4 := (unhide YNN).frozen 4; simp only [List.getElem?_cons_zero, List.getElem?_cons_succ] at n0 n1 n2 n3 n4; have lN := (unhide YNN).lt; clear hs ho)
          | (go_at_call 49; (with_reducible refine (unhide HCBN).mono ?_); rintro r wn ⟨⟨u, rfl, u0, u1⟩, hs, ho⟩; have hwv : IntKind.i64.wrap (1 + u) = 1 + u := (by rw [IntKind.wrap_i64]; omega); have SN := hide hs; have OW : Hid (Out (fun q => q = s) w9 wn) := (Out.ofBelow (F := fun q => q = s) (((Below.refl _ _).alloc (Nat.le_refl _) _).alloc (by simp) _).drew).trans ho (fun q _ e => e); have zo := ho.size; have YB := hide ((unhide XBBN).out ho (by omega)); have cb := (unhide YB).cell 0; simp only [List.getElem?_cons_zero] at cb; have lb := (unhide YB).lt; have YNBN := hide ((unhide XNBN).out ho (by omega)); have n0 := (unhide YNBN).cell 0; have f0 := (unhide YNBN).frozen 0; have n1 := (unhide YNBN).cell 1; have f1 := (unhide YNBN).frozen 1; have n2 := (unhide YNBN).cell 2; have f2 := (unhide YNBN).frozen 2; have n3 := (unhide YNBN).cell 3; have f3 := (unhide YNBN).frozen 3; have n4 := (unhide YNBN).cell 4; have f4 := (unhide YNBN).frozen 4; simp only [List.getElem?_cons_zero, List.getElem?_cons_succ] at n0 n1 n2 n3 n4; have lN := (unhide YNBN).lt; clear hs ho)
          | (go_at_call 49; (with_reducible refine (unhide HCNB).mono ?_); rintro r wn ⟨⟨u, rfl, u0, u1⟩, hs, ho⟩; have hwv : IntKind.i64.wrap (1 + u) = 1 + u := (by rw [IntKind.wrap_i64]; omega); have SN := hide hs; have OW : Hid (Out (fun q => q = s) w9 wn) := (Out.ofBelow (F := fun q => q = s) (((Below.refl _ _).alloc (Nat.le_refl _) _).alloc (by simp) _).drew).trans ho (fun q _ e => e); have zo := ho.size; have YB := hide ((unhide XBNB).out ho (by omega)); have cb := (unhide YB).cell 0; simp only [List.getElem?_cons_zero] at cb; have lb := (unhide YB).lt; have YNNB := hide ((unhide XNNB).out ho (by omega)); have n0 := (unhide YNNB).cell 0; have f0 := (unhide YNNB).frozen 0; have n1 := (unhide YNNB).cell 1; have f1 := (unhide YNNB).frozen 1; have n2 := (unhide YNNB).cell 2; have f2 := (unhide YNNB).frozen 2; have n3 := (unhide YNNB).cell 3; have f3 := (unhide YNNB).frozen 3; have n4 := (unhide YNNB).cell 4; have f4 := (unhide YNNB).frozen 4; simp only [List.getElem?_cons_zero, List.getElem?_cons_succ] at n0 n1 n2 n3 n4; have lN := (unhide YNNB).lt; clear hs ho))
        all_goals go_wp2_with fail
        all_goals go_meet
        all_goals
          refine ⟨u, u0, u1, hide ?_⟩
          first
            | (have _t := YNBN; with_reducible exact nodeNew_set (unhide SN) (unhide OW) (unhide YNBN) (by omega) (by omega))
            | (have _t := YNNB; with_reducible exact nodeNew_set (unhide SN) (unhide OW) (unhide YNNB) (by omega) (by omega))
            | (have _t := YNN; with_reducible exact nodeNew_setb (unhide SN) (unhide OW) (unhide YNN) (by omega) (by omega))
            | (have _t := YB; with_reducible exact nodeNew_n (unhide SN) (unhide OW))
            | (with_reducible exact nodeNew_bn (unhide SN) (unhide OW))
            | (with_reducible exact nodeNew_nb (unhide SN) (unhide OW))
      case rest =>
        obtain ⟨u, u0, u1, HN⟩ := hcut
        obtain ⟨bx, rfl, hbx, hs, ho, hz⟩ := unhide HN
        have X10 := hide hbx
        have S10 := hide hs
        have R10 := hide ((unhide R9).out ho gs)
        have O10 := hide ((unhide O9).trans ho (fun q _ e => e))
        have zc := hbx.lt
        have zd := ho.size
        have zg9 := (unhide R9).lt
        have zs9 := (unhide S9).lt
        clear hbx hs ho HN R9 S9 O9
        go_wp2_with fail
        refine (l3Node_any bx (1 + u) true 0 ⟨#[lineB ln]⟩ 0 (1 + e) _ _ (unhide X10) (head1 (by omega) (by omega) (by omega) (by omega)) (lineName (by omega))).mono ?_
        rintro r w11 ⟨hr, hb⟩
        obtain ⟨ar, cr, M, rfl, hM, hi, har⟩ := sres8 hr (by simp)
        have I11 := hide hi
        have NE : Hid (∀ ad, ar = some ad → ad.block ≠ g) := fun ad h => by have := har ad h; omega
        have S11 := hide ((unhide S10).below hb)
        have R11 := hide ((unhide R10).below hb)
        have O11 : Hid (Out (fun q => q = s) w w11) := (unhide O10).trans (Out.ofBelow (F := fun q => q = s) hb) (fun q _ e => e)
        have z11 := hb.size
        clear hr hi har hb S10 R10 O10
        go_wp2_with fail
        refine (layTo g ls ln v1 _ _ M _ (unhide R11) (unhide I11) (unhide NE) hM (by omega) (by omega) hl16).mono ?_
        rintro r w12 ⟨rfl, hr, ho⟩
        have R12 := hide hr
        have S12 := hide ((unhide S11).above ho (fun q e => by omega))
        have O12 : Hid (Out (fun q => q = s) w w12) := (unhide O11).trans ho (fun q _ e => by omega)
        have z12 := ho.size
        clear hr ho S11 R11 O11 I11 NE
        go_wp2_with fail
        go_roundw
        case rel =>
          exact ⟨ud, ln + 1, by omega, by omega, by omega, by go_num, by go_num, by omega, unhide R12, (unhide S12).more (by omega), unhide O12⟩
        case measure => simp [intOf]; omega
    have hk2b : (k == 2) = false := by simpa using hk2
    clear hk0 hk1 hk2 k0 k1
    go_upto_region 13 with fail
    go_cut [9] from 23 to 135 (fun s9 wx => ∃ b : Bool, Hid (NodeNew w9 wx s a n c (2 + 20 * ln + 1 + 1 + 1 + 1) s9 (.int .i64 ((ud : Int) + 1)) (.bool b) (.int .i64 0) (.string ⟨#[lineB ln]⟩) (.int .i64 0) 42))
    case first => as_aux_lemma =>
      have hcvt : ∀ (W0 : World) (b : Nat), W0.cell? ⟨b, 0, none⟩ = some (.int .u8 (97 + (ln : Int))) → (convert 22 9 (.slice (some ⟨b, 0, none⟩) 1 1)).run Tryz.prog W0 = .ok (.string ⟨#[lineB ln]⟩) W0 := fun W0 b h => convLine W0 b ln (by omega) h
      have hw8 : IntKind.u8.wrap (ln : Int) = (ln : Int) := by rw [IntKind.wrap_u8]; omega
      have hw9 : IntKind.u8.wrap (97 + (ln : Int)) = 97 + (ln : Int) := by rw [IntKind.wrap_u8]; omega
      have ns0 : w9.heap.size ≠ s := by have := (unhide S9).lt; omega
      have ls9 : s < w9.heap.size := (unhide S9).lt
      have ns1 : w9.heap.size + 1 ≠ s := by have := (unhide S9).lt; omega
      have HCA : Hid (Calls Tryz.prog 75 #[.pointer (some ⟨s, 0, none⟩), .int .i64 2] w9.drew fun e w' => (∃ b : Bool, e = .returned (.bool b)) ∧ SrcTo w' s a n c (2 + 20 * ln + 1 + 1 + 1 + 1) ∧ Out (fun q => q = s) w9.drew w') := chanceTo s a n c (2 + 20 * ln + 1 + 1 + 1) 2 w9.drew ((unhide S9).below (Below.refl _ _).drew) (by omega) (by omega) (by omega)
      have HCB : Hid (Calls Tryz.prog 75 #[.pointer (some ⟨s, 0, none⟩), .int .i64 2] (w9.alloc (.cells #[.int .u8 (97 + (ln : Int))] 5)).drew fun e w' => (∃ b : Bool, e = .returned (.bool b)) ∧ SrcTo w' s a n c (2 + 20 * ln + 1 + 1 + 1 + 1) ∧ Out (fun q => q = s) (w9.alloc (.cells #[.int .u8 (97 + (ln : Int))] 5)).drew w') := chanceTo s a n c (2 + 20 * ln + 1 + 1 + 1) 2 (w9.alloc (.cells #[.int .u8 (97 + (ln : Int))] 5)).drew ((unhide S9).below ((Below.refl _ _).alloc (Nat.le_refl _) _).drew) (by omega) (by omega) (by omega)
      have HCN : Hid (Calls Tryz.prog 75 #[.pointer (some ⟨s, 0, none⟩), .int .i64 2] (w9.alloc (.cells #[.int .i64 0, .bool false, .int .i64 0, .string ⟨#[]⟩, .int .i64 0] 42)).drew fun e w' => (∃ b : Bool, e = .returned (.bool b)) ∧ SrcTo w' s a n c (2 + 20 * ln + 1 + 1 + 1 + 1) ∧ Out (fun q => q = s) (w9.alloc (.cells #[.int .i64 0, .bool false, .int .i64 0, .string ⟨#[]⟩, .int .i64 0] 42)).drew w') := chanceTo s a n c (2 + 20 * ln + 1 + 1 + 1) 2 (w9.alloc (.cells #[.int .i64 0, .bool false, .int .i64 0, .string ⟨#[]⟩, .int .i64 0] 42)).drew ((unhide S9).below ((Below.refl _ _).alloc (Nat.le_refl _) _).drew) (by omega) (by omega) (by omega)
      have HCBN : Hid (Calls Tryz.prog 75 #[.pointer (some ⟨s, 0, none⟩), .int .i64 2] ((w9.alloc (.cells #[.int .u8 (97 + (ln : Int))] 5)).alloc (.cells #[.int .i64 0, .bool false, .int .i64 0, .string ⟨#[]⟩, .int .i64 0] 42)).drew fun e w' => (∃ b : Bool, e = .returned (.bool b)) ∧ SrcTo w' s a n c (2 + 20 * ln + 1 + 1 + 1 + 1) ∧ Out (fun q => q = s) ((w9.alloc (.cells #[.int .u8 (97 + (ln : Int))] 5)).alloc (.cells #[.int .i64 0, .bool false, .int .i64 0, .string ⟨#[]⟩, .int .i64 0] 42)).drew w') := chanceTo s a n c (2 + 20 * ln + 1 + 1 + 1) 2 ((w9.alloc (.cells #[.int .u8 (97 + (ln : Int))] 5)).alloc (.cells #[.int .i64 0, .bool false, .int .i64 0, .string ⟨#[]⟩, .int .i64 0] 42)).drew ((unhide S9).below (((Below.refl _ _).alloc (Nat.le_refl _) _).alloc (by simp) _).drew) (by omega) (by omega) (by omega)
      have HCNB : Hid (Calls Tryz.prog 75 #[.pointer (some ⟨s, 0, none⟩), .int .i64 2] ((w9.alloc (.cells #[.int .i64 0, .bool false, .int .i64 0, .string ⟨#[]⟩, .int .i64 0] 42)).alloc (.cells #[.int .u8 (97 + (ln : Int))] 5)).drew fun e w' => (∃ b : Bool, e = .returned (.bool b)) ∧ SrcTo w' s a n c (2 + 20 * ln + 1 + 1 + 1 + 1) ∧ Out (fun q => q = s) ((w9.alloc (.cells #[.int .i64 0, .bool false, .int .i64 0, .string ⟨#[]⟩, .int .i64 0] 42)).alloc (.cells #[.int .u8 (97 + (ln : Int))] 5)).drew w') := chanceTo s a n c (2 + 20 * ln + 1 + 1 + 1) 2 ((w9.alloc (.cells #[.int .i64 0, .bool false, .int .i64 0, .string ⟨#[]⟩, .int .i64 0] 42)).alloc (.cells #[.int .u8 (97 + (ln : Int))] 5)).drew ((unhide S9).below (((Below.refl _ _).alloc (Nat.le_refl _) _).alloc (by simp) _).drew) (by omega) (by omega) (by omega)
      have XBB : Hid (Box (w9.alloc (.cells #[.int .u8 (97 + (ln : Int))] 5)).drew w9.heap.size [.int .u8 (97 + (ln : Int))] 5) := hide (by have h := box_new w9 [.int .u8 (97 + (ln : Int))] 5; first | exact h.drew | (rw [World.size_alloc] at h; exact h.drew))
      have XNN : Hid (Box (w9.alloc (.cells #[.int .i64 0, .bool false, .int .i64 0, .string ⟨#[]⟩, .int .i64 0] 42)).drew w9.heap.size [.int .i64 0, .bool false, .int .i64 0, .string ⟨#[]⟩, .int .i64 0] 42) := hide (by have h := box_new w9 [.int .i64 0, .bool false, .int .i64 0, .string ⟨#[]⟩, .int .i64 0] 42; first | exact h.drew | (rw [World.size_alloc] at h; exact h.drew))
      have XBBN : Hid (Box ((w9.alloc (.cells #[.int .u8 (97 + (ln : Int))] 5)).alloc (.cells #[.int .i64 0, .bool false, .int .i64 0, .string ⟨#[]⟩, .int .i64 0] 42)).drew w9.heap.size [.int .u8 (97 + (ln : Int))] 5) := hide (by have h := (box_new w9 [.int .u8 (97 + (ln : Int))] 5).alloc (.cells #[.int .i64 0, .bool false, .int .i64 0, .string ⟨#[]⟩, .int .i64 0] 42); first | exact h.drew | (rw [World.size_alloc] at h; exact h.drew))
      have XNBN : Hid (Box ((w9.alloc (.cells #[.int .u8 (97 + (ln : Int))] 5)).alloc (.cells #[.int .i64 0, .bool false, .int .i64 0, .string ⟨#[]⟩, .int .i64 0] 42)).drew (w9.heap.size + 1) [.int .i64 0, .bool false, .int .i64 0, .string ⟨#[]⟩, .int .i64 0] 42) := hide (by have h := box_new (w9.alloc (.cells #[.int .u8 (97 + (ln : Int))] 5)) [.int .i64 0, .bool false, .int .i64 0, .string ⟨#[]⟩, .int .i64 0] 42; first | exact h.drew | (rw [World.size_alloc] at h; exact h.drew))
      have XNNB : Hid (Box ((w9.alloc (.cells #[.int .i64 0, .bool false, .int .i64 0, .string ⟨#[]⟩, .int .i64 0] 42)).alloc (.cells #[.int .u8 (97 + (ln : Int))] 5)).drew w9.heap.size [.int .i64 0, .bool false, .int .i64 0, .string ⟨#[]⟩, .int .i64 0] 42) := hide (by have h := (box_new w9 [.int .i64 0, .bool false, .int .i64 0, .string ⟨#[]⟩, .int .i64 0] 42).alloc (.cells #[.int .u8 (97 + (ln : Int))] 5); first | exact h.drew | (rw [World.size_alloc] at h; exact h.drew))
      have XBNB : Hid (Box ((w9.alloc (.cells #[.int .i64 0, .bool false, .int .i64 0, .string ⟨#[]⟩, .int .i64 0] 42)).alloc (.cells #[.int .u8 (97 + (ln : Int))] 5)).drew (w9.heap.size + 1) [.int .u8 (97 + (ln : Int))] 5) := hide (by have h := box_new (w9.alloc (.cells #[.int .i64 0, .bool false, .int .i64 0, .string ⟨#[]⟩, .int .i64 0] 42)) [.int .u8 (97 + (ln : Int))] 5; first | exact h.drew | (rw [World.size_alloc] at h; exact h.drew))
      go_region_with (first
        | (go_at_call 75; (with_reducible refine (unhide HCA).mono ?_); rintro r wn ⟨⟨b, rfl⟩, hs, ho⟩; have SN := hide hs; have OW : Hid (Out (fun q => q = s) w9 wn) := (Out.ofBelow (F := fun q => q = s) (Below.refl _ _).drew).trans ho (fun q _ e => e); have zo := ho.size; clear hs ho)
        | (go_at_call 75; (with_reducible refine (unhide HCB).mono ?_); rintro r wn ⟨⟨b, rfl⟩, hs, ho⟩; have SN := hide hs; have OW : Hid (Out (fun q => q = s) w9 wn) := (Out.ofBelow (F := fun q => q = s) ((Below.refl _ _).alloc (Nat.le_refl _) _).drew).trans ho (fun q _ e => e); have zo := ho.size; have YB := hide ((unhide XBB).out ho (by omega)); have cb := (unhide YB).cell 0; simp only [List.getElem?_cons_zero] at cb; have lb := (unhide YB).lt; clear hs ho)
        | (go_at_call 75; (with_reducible refine (unhide HCN).mono ?_); rintro r wn ⟨⟨b, rfl⟩, hs, ho⟩; have SN := hide hs; have OW : Hid (Out (fun q => q = s) w9 wn) := (Out.ofBelow (F := fun q => q = s) ((Below.refl _ _).alloc (Nat.le_refl _) _).drew).trans ho (fun q _ e => e); have zo := ho.size; have YNN := hide ((unhide XNN).out ho (by omega)); have n0 := (unhide YNN).cell 0; have f0 := (unhide YNN).frozen 0; have n1 := (unhide YNN).cell 1; have f1 := (unhide YNN).frozen 1; have n2 := (unhide YNN).cell 2; have f2 := (unhide YNN).frozen 2; have n3 := (unhide YNN).cell 3; have f3 := (unhide YNN).frozen 3; have n4 := (unhide YNN).cell 4; have f4 := (unhide YNN).frozen 4; simp only [List.getElem?_cons_zero, List.getElem?_cons_succ] at n0 n1 n2 n3 n4; have lN := (unhide YNN).lt; clear hs ho)
        | (go_at_call 75; (with_reducible refine (unhide HCBN).mono ?_); rintro r wn ⟨⟨b, rfl⟩, hs, ho⟩; have SN := hide hs; have OW : Hid (Out (fun q => q = s) w9 wn) := (Out.ofBelow (F := fun q => q = s) (((Below.refl _ _).alloc (Nat.le_refl _) _).alloc (by simp) _).drew).trans ho (fun q _ e => e); have zo := ho.size; have YB := hide ((unhide XBBN).out ho (by omega)); have cb := (unhide YB).cell 0; simp only [List.getElem?_cons_zero] at cb; have lb := (unhide YB).lt; have YNBN := hide ((unhide XNBN).out ho (by omega)); have n0 := (unhide YNBN).cell 0; have f0 := (unhide YNBN).frozen 0; have n1 := (unhide YNBN).cell 1; have f1 := (unhide YNBN).frozen 1; have n2 := (unhide YNBN).cell 2; have f2 := (unhide YNBN).frozen 2; have n3 := (unhide YNBN).cell 3; have f3 := (unhide YNBN).frozen 3; have n4 := (unhide YNBN).cell 4; have f4 := (unhide YNBN).frozen 4; simp only [List.getElem?_cons_zero, List.getElem?_cons_succ] at n0 n1 n2 n3 n4; have lN := (unhide YNBN).lt; clear hs ho)
        | (go_at_call 75; (with_reducible refine (unhide HCNB).mono ?_); rintro r wn ⟨⟨b, rfl⟩, hs, ho⟩; have SN := hide hs; have OW : Hid (Out (fun q => q = s) w9 wn) := (Out.ofBelow (F := fun q => q = s) (((Below.refl _ _).alloc (Nat.le_refl _) _).alloc (by simp) _).drew).trans ho (fun q _ e => e); have zo := ho.size; have YB := hide ((unhide XBNB).out ho (by omega)); have cb := (unhide YB).cell 0; simp only [List.getElem?_cons_zero] at cb; have lb := (unhide YB).lt; have YNNB := hide ((unhide XNNB).out ho (by omega)); have n0 := (unhide YNNB).cell 0; have f0 := (unhide YNNB).frozen 0; have n1 := (unhide YNNB).cell 1; have f1 := (unhide YNNB).frozen 1; have n2 := (unhide YNNB).cell 2; have f2 := (unhide YNNB).frozen 2; have n3 := (unhide YNNB).cell 3; have f3 := (unhide YNNB).frozen 3; have n4 := (unhide YNNB).cell 4; have f4 := (unhide YNNB).frozen 4; simp only [List.getElem?_cons_zero, List.getElem?_cons_succ] at n0 n1 n2 n3 n4; have lN := (unhide YNNB).lt; clear hs ho))
      all_goals go_wp2_with fail
      all_goals go_meet
      all_goals
        refine ⟨b, hide ?_⟩
        first
          | (have _t := YNBN; with_reducible exact nodeNew_set (unhide SN) (unhide OW) (unhide YNBN) (by omega) (by omega))
          | (have _t := YNNB; with_reducible exact nodeNew_set (unhide SN) (unhide OW) (unhide YNNB) (by omega) (by omega))
          | (have _t := YNN; with_reducible exact nodeNew_setb (unhide SN) (unhide OW) (unhide YNN) (by omega) (by omega))
          | (have _t := YB; with_reducible exact nodeNew_n (unhide SN) (unhide OW))
          | (with_reducible exact nodeNew_bn (unhide SN) (unhide OW))
          | (with_reducible exact nodeNew_nb (unhide SN) (unhide OW))
    case rest =>
      obtain ⟨b, HN⟩ := hcut
      obtain ⟨bx, rfl, hbx, hs, ho, hz⟩ := unhide HN
      have X10 := hide hbx
      have S10 := hide hs
      have R10 := hide ((unhide R9).out ho gs)
      have O10 := hide ((unhide O9).trans ho (fun q _ e => e))
      have zc := hbx.lt
      have zd := ho.size
      have zg9 := (unhide R9).lt
      have zs9 := (unhide S9).lt
      clear hbx hs ho HN R9 S9 O9
      go_upto_region 14 with fail
      have c1 := (unhide X10).cell 1
      simp only [List.getElem?_cons_zero, List.getElem?_cons_succ] at c1
      go_cut [61] from 23 to 135 (fun s61 wx => ∃ b2 : Bool, s61 = .bool b2 ∧ (b2 = true → ln + 1 < ls) ∧ Hid (Box wx bx [.int .i64 ((ud : Int) + 1), .bool b, .int .i64 0, .string ⟨#[lineB ln]⟩, .int .i64 0] 42) ∧ Hid (SrcTo wx s a n c (2 + 20 * ln + 1 + 1 + 1 + 1 + 1)) ∧ Hid (ImgRow wx g (ls * 8) v1) ∧ Hid (Out (fun q => q = s) w wx) ∧ w9.heap.size ≤ wx.heap.size)
      case first => as_aux_lemma =>
        have sb : bx ≠ s := by omega
        cases b
        · by_cases h2 : ln + 1 < ls
          · have h2b : (ln : Int) + 1 < ls := by omega
            go_wp2_with fail
            refine (chanceTo s a n c (2 + 20 * ln + 1 + 1 + 1 + 1) 2 _ (unhide S10) (by omega) (by omega) (by omega)).mono ?_
            rintro r w11 ⟨⟨b2, rfl⟩, hs, ho⟩
            have S11 := hide hs
            have X11 := hide ((unhide X10).out ho sb)
            have R11 := hide ((unhide R10).out ho gs)
            have O11 := hide ((unhide O10).trans ho (fun q _ e => e))
            have z11 := ho.size
            clear hs ho
            cases b2
            · go_wp2_with fail
              go_meet
              exact ⟨false, rfl, (fun e => by cases e), X11, S11, R11, O11, by omega⟩
            · go_wp2_with fail
              go_meet
              exact ⟨true, rfl, fun _ => h2, X11, S11, R11, O11, by omega⟩
          · have h2b : ¬ (ln : Int) + 1 < ls := by omega
            have S11 : Hid (SrcTo wc s a n c (2 + 20 * ln + 1 + 1 + 1 + 1 + 1)) := (unhide S10).more (by omega)
            go_wp2_with fail
            go_meet
            exact ⟨false, rfl, (fun e => by cases e), X10, S11, R10, O10, by omega⟩
        · have S11 : Hid (SrcTo wc s a n c (2 + 20 * ln + 1 + 1 + 1 + 1 + 1)) := (unhide S10).more (by omega)
          go_wp2_with fail
          go_meet
          exact ⟨false, rfl, (fun e => by cases e), X10, S11, R10, O10, by omega⟩
      case rest =>
        obtain ⟨b2, rfl, hb2, X11, S11, R11, O11, z11⟩ := hcut
        clear X10 S10 R10 O10 c1
        have zb := (unhide X11).lt
        have zh := (unhide R11).lt
        cases b2
        · clear hb2
          go_wp2_with fail
          refine (l1Max_any _ 0 _).mono ?_
          rintro r w12 ⟨⟨mx, rfl⟩, rfl⟩
          go_wp2_with fail
          refine (pickTo s a n c (2 + 20 * ln + 1 + 1 + 1 + 1 + 1) (fun x => True) (nums [0, 0, 0, mx]).toArray 2 4 _ (unhide S11) (by omega) rfl (by omega) (by omega) (offerI _ _ (fun _ _ => trivial))).mono ?_
          rintro r w13 ⟨⟨pa, -, rfl⟩, hs, ho⟩
          have S13 := hide hs
          have X13 := hide ((unhide X11).out ho (by omega))
          have R13 := hide ((unhide R11).out ho gs)
          have O13 := hide ((unhide O11).trans ho (fun q _ e => e))
          have z13 := ho.size
          clear hs ho S11 X11 R11 O11
          go_wp2_with (refine wpList_store_cell rfl 2 (.tmp 84) (.tmp 83) rfl bx 2 (.int .i64 pa) rfl rfl 42 _ (unhide X13) (by kernel_rfl) (by simp) rfl rfl ?_; intro w14 X0 O0; have X14 : Hid (Box w14 bx [.int .i64 ((ud : Int) + 1), .bool b, .int .i64 pa, .string ⟨#[lineB ln]⟩, .int .i64 0] 42) := X0; have S14 := hide ((unhide S13).above (unhide O0) (fun q e => by omega)); have R14 := hide ((unhide R13).out (unhide O0) (by omega)); have O14 := hide ((unhide O13).trans (unhide O0) (fun q _ e => by omega)); have z14 := (unhide O0).size; clear X0 O0 X13 S13 R13 O13)
          refine (l3Node_any bx ((ud : Int) + 1) b pa ⟨#[lineB ln]⟩ 0 (1 + e) _ _ (unhide X14) (head1 (by omega) (by omega) (by omega) (by omega)) (lineName (by omega))).mono ?_
          rintro r w15 ⟨hr, hb⟩
          obtain ⟨ar, cr, M, rfl, hM, hi, har⟩ := sres8 hr (by simp)
          have I15 := hide hi
          have NE : Hid (∀ ad, ar = some ad → ad.block ≠ g) := fun ad h => by have := har ad h; omega
          have S15 := hide ((unhide S14).below hb)
          have R15 := hide ((unhide R14).below hb)
          have O15 : Hid (Out (fun q => q = s) w w15) := (unhide O14).trans (Out.ofBelow (F := fun q => q = s) hb) (fun q _ e => e)
          have z15 := hb.size
          clear hr hi har hb S14 R14 O14
          go_wp2_with fail
          refine (layTo g ls ln v1 _ _ M _ (unhide R15) (unhide I15) (unhide NE) hM (by omega) (by omega) hl16).mono ?_
          rintro r w16 ⟨rfl, hr, ho⟩
          have R16 := hide hr
          have S16 := hide ((unhide S15).above ho (fun q e => by omega))
          have O16 : Hid (Out (fun q => q = s) w w16) := (unhide O15).trans ho (fun q _ e => by omega)
          have z16 := ho.size
          clear hr ho S15 R15 O15 I15 NE
          go_wp2_with fail
          go_roundw
          case rel =>
            exact ⟨ud + 1, ln + 1, by omega, by omega, by omega, by go_num, by go_num, by omega, unhide R16, (unhide S16).more (by omega), unhide O16⟩
          case measure => simp [intOf]; omega

        · have h2 := hb2 rfl
          clear hb2
          go_wp2_with (refine wpList_store_cell rfl 2 (.tmp 62) (.const (.int .i64 1)) rfl bx 4 (.int .i64 1) rfl rfl 42 _ (unhide X11) (by kernel_rfl) (by simp) rfl rfl ?_; intro w14 X0 O0; have X14 : Hid (Box w14 bx [.int .i64 ((ud : Int) + 1), .bool b, .int .i64 0, .string ⟨#[lineB ln]⟩, .int .i64 1] 42) := X0; have S14 := hide ((unhide S11).above (unhide O0) (fun q e => by omega)); have R14 := hide ((unhide R11).out (unhide O0) (by omega)); have O14 := hide ((unhide O11).trans (unhide O0) (fun q _ e => by omega)); have z14 := (unhide O0).size; clear X0 O0 X11 S11 R11 O11)
          refine (l3Node_any bx ((ud : Int) + 1) b 0 ⟨#[lineB ln]⟩ 1 (1 + e) _ _ (unhide X14) (head1 (by omega) (by omega) (by omega) (by omega)) (lineName (by omega))).mono ?_
          rintro r w15 ⟨hr, hb⟩
          obtain ⟨ar, cr, M, rfl, hM, hi, har⟩ := sres8 hr (by simp)
          have I15 := hide hi
          have NE : Hid (∀ ad, ar = some ad → ad.block ≠ g) := fun ad h => by have := har ad h; omega
          have S15 := hide ((unhide S14).below hb)
          have R15 := hide ((unhide R14).below hb)
          have O15 : Hid (Out (fun q => q = s) w w15) := (unhide O14).trans (Out.ofBelow (F := fun q => q = s) hb) (fun q _ e => e)
          have z15 := hb.size
          clear hr hi har hb S14 R14 O14
          go_wp2_with fail
          refine (layTo g ls ln v1 _ _ M _ (unhide R15) (unhide I15) (unhide NE) hM (by omega) (by omega) hl16).mono ?_
          rintro r w16 ⟨rfl, hr, ho⟩
          have R16 := hide hr
          have S16 := hide ((unhide S15).above ho (fun q e => by omega))
          have O16 : Hid (Out (fun q => q = s) w w16) := (unhide O15).trans ho (fun q _ e => by omega)
          have z16 := ho.size
          clear hr ho S15 R15 O15 I15 NE
          go_wp2_with fail
          refine (numbersTo s a n c (2 + 20 * ln + 1 + 1 + 1 + 1 + 1) _ (unhide S16) (by omega)).mono ?_
          rintro r w17 ⟨⟨an, cn, nl, rfl, hi, hnl⟩, hs, ho⟩
          have J17 := hide hi
          have S17 := hide hs
          have R17 := hide ((unhide R16).out ho gs)
          have O17 := hide ((unhide O16).trans ho (fun q _ e => e))
          have z17 := ho.size
          clear hi hs ho S16 R16 O16
          go_wp2_with fail
          rw [← hnl]
          refine (l3Data_any ((ud : Int) + 1) 0 an cn nl (1 + e) _ (unhide J17) (by omega) (head2 (by omega) (by omega) (by omega) (by omega) (by omega) (by omega))).mono ?_
          rintro r w18 ⟨hr, hb⟩
          obtain ⟨ar, cr, M, rfl, hM, hi, har⟩ := sres8 hr (by simp [hnl])
          have I18 := hide hi
          have NE : Hid (∀ ad, ar = some ad → ad.block ≠ g) := fun ad h => by have := har ad h; omega
          have S18 := hide ((unhide S17).below hb)
          have R18 := hide ((unhide R17).below hb)
          have O18 : Hid (Out (fun q => q = s) w w18) := (unhide O17).trans (Out.ofBelow (F := fun q => q = s) hb) (fun q _ e => e)
          have z18 := hb.size
          clear hr hi har hb S17 R17 O17
          go_wp2_with fail
          rw [show (ln : Int) + 1 = ((ln + 1 : Nat) : Int) by push_cast; rfl]
          refine (layTo g ls (ln + 1) v1 _ _ M _ (unhide R18) (unhide I18) (unhide NE) hM (by omega) (by omega) hl16).mono ?_
          rintro r w19 ⟨rfl, hr, ho⟩
          have R19 := hide hr
          have S19 := hide ((unhide S18).above ho (fun q e => by omega))
          have O19 : Hid (Out (fun q => q = s) w w19) := (unhide O18).trans ho (fun q _ e => by omega)
          have z19 := ho.size
          clear hr ho S18 R18 O18 I18 NE
          go_wp2_with fail
          go_roundw
          case rel =>
            exact ⟨ud + 1, ln + 1 + 1, by omega, by omega, by omega, by go_num, by go_num, by omega, unhide R19, (unhide S19).more (by omega), unhide O19⟩
          case measure => simp [intOf]; omega
end Go.Proofs.YtiopofemelninaaGreat
/-
  The laws' draws of images that are bent: l4Bent, DrawClockTo.
-/
namespace Go.Proofs.YtiopofemelninaaGreat
open Go.RowKit
set_option linter.unusedVariables false

/-- Words in a block: so many that can be told, the word 1 between 0 and 10000. -/
structure BentAt (w : World) (g : Nat) (l : List Int) : Prop where
  row : ∃ L : List Int, Box w g (nums L) 2 ∧ l = L.take l.length
  one : ∀ x, l[1]? = some x → 0 ≤ x ∧ x ≤ 10000
theorem BentAt.ints {w : World} {g : Nat} {l : List Int} (h : BentAt w g l) : IntsAt w (some ⟨g, 0, none⟩) l := by
  obtain ⟨L, hb, hl⟩ := h.row
  refine .inr ⟨g, 0, rfl, hb.lt, fun i hi => ?_⟩
  have hi2 : i < L.length := by
    have := congrArg List.length hl
    rw [List.length_take] at this
    omega
  rw [Nat.zero_add, hb.cell, nums_at hi2]
  congr 2
  have h3 : l[i]? = (L.take l.length)[i]? := by rw [← hl]
  rw [List.getElem?_eq_getElem hi, List.getElem?_take_of_lt hi, List.getElem?_eq_getElem hi2] at h3
  injection h3 with h3
  exact h3.symm
theorem BentAt.below {w w' : World} {g : Nat} {l : List Int} (h : BentAt w g l) (hb : Below w.heap.size w w') : BentAt w' g l := by
  obtain ⟨⟨L, hx, hl⟩, h1⟩ := h
  exact ⟨⟨L, hx.below hb, hl⟩, h1⟩
theorem BentAt.out {F : Nat → Prop} {w w' : World} {g : Nat} {l : List Int} (h : BentAt w g l) (ho : Out F w w') (hF : ¬ F g) : BentAt w' g l := by
  obtain ⟨⟨L, hx, hl⟩, h1⟩ := h
  exact ⟨⟨L, hx.out ho hF, hl⟩, h1⟩
theorem bent_of {w : World} {g : Nat} {L : List Int} (h : Box w g (nums L) 2) (h1 : ∀ x, L[1]? = some x → 0 ≤ x ∧ x ≤ 10000) (k : Nat) (hk : k ≤ L.length) : ∃ l : List Int, l.length = k ∧ BentAt w g l := by
  have e : (L.take k).length = k := by rw [List.length_take]; omega
  refine ⟨L.take k, e, ⟨L, h, by rw [e]⟩, fun x hx => h1 x ?_⟩
  by_cases hk1 : 1 < k
  · rwa [List.getElem?_take_of_lt hk1] at hx
  · rw [List.getElem?_eq_none (by omega)] at hx; cases hx
theorem bent_set {w : World} {g j : Nat} {x : Int} {L : List Int} (hL : L.length ≤ 200) (hj : j < L.length) (h : Box w g ((nums L).take j ++ [.int .i64 x] ++ (nums L).drop (j + 1)) 2) (h1 : ∀ x, L[1]? = some x → 0 ≤ x ∧ x ≤ 10000) (hx : j = 1 → 0 ≤ x ∧ x ≤ 10000) : ∃ l : List Int, l.length = L.length ∧ BentAt w g l := by
  have hb := set_row hj (hide h)
  have hl : (L.set j x).length = L.length := List.length_set
  obtain ⟨l, e, hb2⟩ := bent_of hb (fun y hy => by
    by_cases e : j = 1
    · subst e
      rw [List.getElem?_set_self hj] at hy
      injection hy with hy
      rw [← hy]
      exact hx rfl
    · rw [List.getElem?_set_ne e] at hy
      exact h1 y hy) L.length (by omega)
  exact ⟨l, e, hb2⟩
set_option maxRecDepth 20000 in
set_option maxHeartbeats 8000000 in
theorem l4Bent_any (s : Nat) (a : Option Addr) (n c : Nat) (w : World) (h : SrcTo w s a n c 0) :
    Calls Tryz.prog 24 #[.pointer (some ⟨s, 0, none⟩)] w fun e w' => (∃ (g m cp : Nat) (l : List Int), e = .returned (.slice (some ⟨g, 0, none⟩) m cp) ∧ List.length l = m ∧ m ≤ cp ∧ cp ≤ 200 ∧ w.heap.size ≤ g ∧ BentAt w' g l) ∧ SrcTo w' s a n c 500 ∧ Out (fun q => q = s) w w' := by
  have hsl := h.lt
  have H := hide h
  clear h
  go_enter Tryz.func24, Tryz.ntmps24
  go_wp2_with fail
  refine (l4Image_any s a n c w (unhide H)).mono ?_
  rintro r w1 ⟨⟨g, ls, rfl, hl4, hl16, hgw, v1, hv2, hv9, hR⟩, hs, ho⟩
  obtain ⟨L, hL, hB, hL1⟩ := hR
  have hone : ∀ x, L[1]? = some x → 0 ≤ x ∧ x ≤ 10000 := fun x hx => by rw [hL1] at hx; injection hx with hx; omega
  have H1 := hide hone
  have X1 := hide hB
  have S1 := hide hs
  have O1 := hide ho
  have z1 := ho.size
  have HL := hide hL
  have gs : g ≠ s := by omega
  have sg : s < g := by omega
  clear hs ho hB hone hL hL1 H
  have hN : ls * 8 ≤ 128 := by omega
  go_wp2_with fail
  refine (nextTo s a n c 400 14 _ (unhide S1) (by omega) (by omega) (by omega)).mono ?_
  rintro r w2 ⟨⟨y, rfl, hy0, hy1⟩, hs, ho⟩
  have S2 := hide hs
  have X2 := hide ((unhide X1).out ho gs)
  have O2 := hide ((unhide O1).trans ho (fun q _ e => e))
  have z2 := ho.size
  clear hs ho S1 X1 O1
  by_cases hy : y = 0
  · subst hy
    clear hy0 hy1
    go_wp2_with fail
    refine (pickTo s a n c (400 + 1) (fun x => True) (nums [0, 691691692, -1]).toArray 2 3 w2 (unhide S2) (by omega) rfl (by omega) (by omega) (offerI _ _ (fun _ _ => trivial))).mono ?_
    rintro r w3 ⟨⟨x, -, rfl⟩, hs, ho⟩
    have S3 := hide hs
    have X3 := hide ((unhide X2).out ho gs)
    have O3 := hide ((unhide O2).trans ho (fun q _ e => e))
    clear hs ho S2 X2 O2
    have hj : (0 : Nat) < L.length := by have := unhide HL; omega
    go_wp2_with (refine wpList_store_cell rfl 2 (.tmp 14) (.tmp 13) rfl g 0 (.int .i64 x) rfl rfl 2 _ (unhide X3) (by kernel_rfl) (by rw [nums_length]; omega) rfl rfl ?_; intro w4 X4 O4)
    go_ret
    obtain ⟨l, hl, hb⟩ := bent_set (by have := unhide HL; omega) hj (unhide X4) (unhide H1) (fun e => by omega)
    exact ⟨⟨g, _, _, l, rfl, by rw [hl, unhide HL], by omega, by omega, hgw, hb⟩, ((unhide S3).above (unhide O4) (fun q e => by omega)).more (by omega), (unhide O3).trans (unhide O4) (fun q hq e => by omega)⟩
  have hyb0 : (y == 0) = false := by simpa using hy
  clear hy
  by_cases hy : y = 1
  · subst hy
    clear hy0 hy1
    go_wp2_with fail
    refine (pickTo s a n c (400 + 1) (fun x => 0 ≤ x ∧ x ≤ 10000) (nums [0, 1, 3, 9999, 10000]).toArray 2 5 w2 (unhide S2) (by omega) rfl (by omega) (by omega) (offerI _ _ (by intro v hv; simp at hv; omega))).mono ?_
    rintro r w3 ⟨⟨x, hx, rfl⟩, hs, ho⟩
    have S3 := hide hs
    have X3 := hide ((unhide X2).out ho gs)
    have O3 := hide ((unhide O2).trans ho (fun q _ e => e))
    clear hs ho S2 X2 O2
    have hj : (1 : Nat) < L.length := by have := unhide HL; omega
    have hN1 : (1 : Int) < ((ls * 8 : Nat) : Int) := by omega
    go_wp2_with (refine wpList_store_cell rfl 2 (.tmp 21) (.tmp 20) rfl g 1 (.int .i64 x) rfl rfl 2 _ (unhide X3) (by kernel_rfl) (by rw [nums_length]; omega) rfl rfl ?_; intro w4 X4 O4)
    go_ret
    obtain ⟨l, hl, hb⟩ := bent_set (by have := unhide HL; omega) hj (unhide X4) (unhide H1) (fun e => hx)
    exact ⟨⟨g, _, _, l, rfl, by rw [hl, unhide HL], by omega, by omega, hgw, hb⟩, ((unhide S3).above (unhide O4) (fun q e => by omega)).more (by omega), (unhide O3).trans (unhide O4) (fun q hq e => by omega)⟩
  have hyb1 : (y == 1) = false := by simpa using hy
  clear hy
  by_cases hy : y = 2
  · subst hy
    clear hy0 hy1 hyb0 hyb1
    have htd : (((ls * 8 : Nat) : Int)).tdiv 8 = (ls : Int) := by rw [Int.tdiv_eq_ediv_of_nonneg (by omega)]; omega
    go_wp2_with fail
    refine (nextTo s a n c (400 + 1) ls _ (unhide S2) (by omega) (by omega) (by omega)).mono ?_
    rintro r w3 ⟨⟨k', rfl, hk0, hk1⟩, hs, ho⟩
    obtain ⟨k, rfl⟩ : ∃ k : Nat, k' = k := ⟨k'.toNat, by omega⟩
    have S3 := hide hs
    have X3 := hide ((unhide X2).out ho gs)
    have O3 := hide ((unhide O2).trans ho (fun q _ e => e))
    have z3 := ho.size
    clear hs ho S2 X2 O2 htd
    go_wp2_with fail
    refine (pickTo s a n c (400 + 1 + 1) (fun x => True) (nums [5, 4, 99, 16033, 1000000000000000]).toArray 2 5 w3 (unhide S3) (by omega) rfl (by omega) (by omega) (offerI _ _ (fun _ _ => trivial))).mono ?_
    rintro r w4 ⟨⟨x, -, rfl⟩, hs, ho⟩
    have S4 := hide hs
    have X4 := hide ((unhide X3).out ho gs)
    have O4 := hide ((unhide O3).trans ho (fun q _ e => e))
    clear hs ho S3 X3 O3
    have hj : 8 * k < L.length := by have := unhide HL; omega
    have hkN : 8 * (k : Int) < ((ls * 8 : Nat) : Int) := by omega
    have hk8 : (0 : Int) ≤ 8 * (k : Int) := by omega
    go_wp2_with (refine wpList_store_cell rfl 2 (.tmp 34) (.tmp 33) rfl g (8 * k) (.int .i64 x) rfl rfl 2 _ (unhide X4) (by kernel_rfl) (by rw [nums_length]; omega) rfl rfl ?_; intro w5 X5 O5)
    go_ret
    obtain ⟨l, hl, hb⟩ := bent_set (by have := unhide HL; omega) hj (unhide X5) (unhide H1) (fun e => by omega)
    exact ⟨⟨g, _, _, l, rfl, by rw [hl, unhide HL], by omega, by omega, hgw, hb⟩, ((unhide S4).above (unhide O5) (fun q e => by omega)).more (by omega), (unhide O4).trans (unhide O5) (fun q hq e => by omega)⟩
  have hyb2 : (y == 2) = false := by simpa using hy
  clear hy
  by_cases hy : y = 3
  · subst hy
    clear hy0 hy1 hyb0 hyb1 hyb2
    go_wp2_with fail
    refine (nextTo s a n c (400 + 1) ((ls * 8 : Nat) : Int) _ (unhide S2) (by omega) (by omega) (by omega)).mono ?_
    rintro r w3 ⟨⟨k', rfl, hk0, hk1⟩, hs, ho⟩
    obtain ⟨k, rfl⟩ : ∃ k : Nat, k' = k := ⟨k'.toNat, by omega⟩
    have S3 := hide hs
    have X3 := hide ((unhide X2).out ho gs)
    have O3 := hide ((unhide O2).trans ho (fun q _ e => e))
    have z3 := ho.size
    clear hs ho S2 X2 O2
    go_wp2_with fail
    refine (pickTo s a n c (400 + 1 + 1) (fun x => 0 ≤ x ∧ x ≤ 10000) (nums [1, 2, 0]).toArray 2 3 w3 (unhide S3) (by omega) rfl (by omega) (by omega) (offerI _ _ (by intro v hv; simp at hv; omega))).mono ?_
    rintro r w4 ⟨⟨x, hx, rfl⟩, hs, ho⟩
    have S4 := hide hs
    have X4 := hide ((unhide X3).out ho gs)
    have O4 := hide ((unhide O3).trans ho (fun q _ e => e))
    clear hs ho S3 X3 O3
    have hj : k < L.length := by have := unhide HL; omega
    go_wp2_with (refine wpList_store_cell rfl 2 (.tmp 45) (.tmp 44) rfl g k (.int .i64 x) rfl rfl 2 _ (unhide X4) (by kernel_rfl) (by rw [nums_length]; omega) rfl rfl ?_; intro w5 X5 O5)
    go_ret
    obtain ⟨l, hl, hb⟩ := bent_set (by have := unhide HL; omega) hj (unhide X5) (unhide H1) (fun e => hx)
    exact ⟨⟨g, _, _, l, rfl, by rw [hl, unhide HL], by omega, by omega, hgw, hb⟩, ((unhide S4).above (unhide O5) (fun q e => by omega)).more (by omega), (unhide O4).trans (unhide O5) (fun q hq e => by omega)⟩
  have hyb3 : (y == 3) = false := by simpa using hy
  clear hy
  by_cases hy : y = 4
  · subst hy
    clear hy0 hy1 hyb0 hyb1 hyb2 hyb3
    have hm : (0 : Int) ≤ ((ls * 8 : Nat) : Int) - 1 ∧ ((ls * 8 : Nat) : Int) - 1 ≤ ((ls * 8 : Nat) : Int) := by omega
    go_wp2_with fail
    go_ret
    obtain ⟨l, hl, hb⟩ := bent_of (unhide X2) (unhide H1) (ls * 8 - 1) (by have := unhide HL; omega)
    exact ⟨⟨g, _, _, l, rfl, by (rw [hl]) <;> omega, by omega, by omega, hgw, hb⟩, (unhide S2).more (by omega), unhide O2⟩
  have hyb4 : (y == 4) = false := by simpa using hy
  clear hy
  by_cases hy : y = 5
  · subst hy
    clear hy0 hy1 hyb0 hyb1 hyb2 hyb3 hyb4
    go_wp2_with fail
    refine (pickTo s a n c (400 + 1) (fun x => 0 ≤ x ∧ x ≤ 2) (nums [0, 1, 2]).toArray 2 3 w2 (unhide S2) (by omega) rfl (by omega) (by omega) (offerI _ _ (by intro v hv; simp at hv; omega))).mono ?_
    rintro r w3 ⟨⟨x', hx, rfl⟩, hs, ho⟩
    obtain ⟨x, rfl⟩ : ∃ x : Nat, x' = x := ⟨x'.toNat, by omega⟩
    have S3 := hide hs
    have X3 := hide ((unhide X2).out ho gs)
    have O3 := hide ((unhide O2).trans ho (fun q _ e => e))
    clear hs ho S2 X2 O2
    have hm : (0 : Int) ≤ 8 * (x : Int) ∧ 8 * (x : Int) ≤ ((ls * 8 : Nat) : Int) := by omega
    go_wp2_with fail
    go_ret
    obtain ⟨l, hl, hb⟩ := bent_of (unhide X3) (unhide H1) (8 * x) (by have := unhide HL; omega)
    exact ⟨⟨g, _, _, l, rfl, by (rw [hl]) <;> omega, by omega, by omega, hgw, hb⟩, (unhide S3).more (by omega), unhide O3⟩
  have hyb5 : (y == 5) = false := by simpa using hy
  clear hy
  go_wp2_with fail
  go_ret
  obtain ⟨l, hl, hb⟩ := bent_of (unhide X2) (unhide H1) (ls * 8) (by have := unhide HL; omega)
  exact ⟨⟨g, _, _, l, rfl, hl, by omega, by omega, hgw, hb⟩, (unhide S2).more (by omega), unhide O2⟩
theorem srcTo_new {w W : World} {a : Option Addr} {n c : Nat} (hW : W = w.alloc (.cells #[.slice a n c, .int .i64 0] 89)) (h : CodeAt w a n) (hn : n ≤ 2000000) : SrcTo W w.heap.size a n c 0 ∧ Below w.heap.size w W :=
  ⟨⟨0, Nat.le_refl _, (source_new hW h hn).1⟩, (source_new hW h hn).2⟩
set_option maxRecDepth 20000 in
set_option maxHeartbeats 4000000 in
theorem drawLive_any (a : Option Addr) (n c : Nat) (w : World) (h : CodeAt w a n) (hn : n ≤ 1048576) :
    Calls Tryz.prog 6 #[.slice a n c] w fun r w' => (∃ (g cp : Nat) (l : List Int), r = .returned (.slice (some ⟨g, 0, none⟩) l.length cp) ∧ l.length ≤ cp ∧ cp ≤ 200 ∧ IntsAt w' (some ⟨g, 0, none⟩) l) ∧ Below w.heap.size w w' := by
  have H := hide h
  clear h
  go_enter Tryz.func6, Tryz.ntmps6
  go_wp2_with fail
  refine (l1Source_any a n c _).mono ?_
  rintro r W1 ⟨rfl, hW1⟩
  obtain ⟨hS, hB⟩ := srcTo_new hW1 (unhide H) (by omega)
  have S1 := hide hS
  have B1 := hide hB
  have z1 := hB.size
  clear hS hB hW1 H
  go_wp2_with fail
  refine (l4Bent_any w.heap.size a n c W1 (unhide S1)).mono ?_
  rintro r w2 ⟨⟨g, m, cp, l, rfl, hl, hmc, hcp, hgw, hb⟩, hs, ho⟩
  have B2 : Hid (Below w.heap.size w w2) := ho.below (unhide B1) (Nat.le_refl _) (fun q hq e => by omega)
  have T2 := hide hb.ints
  subst hl
  clear hs ho hb S1 B1
  go_wp2_with fail
  refine bodyPost_ret (v := .slice (some ⟨g, 0, none⟩) l.length cp) (by simp [results, Tryz.results6, go_sem]) rfl ⟨⟨g, cp, l, rfl, hmc, hcp, unhide T2⟩, unhide B2⟩
end Go.Proofs.YtiopofemelninaaGreat
