/- LAYER 22 (chain): awake, few of the laws; slices.Clone of slices of bytes. -/
import Derived.Test.YtnkpcolkhmphmaaDoorChQ
set_option linter.unusedSimpArgs false
set_option linter.unusedVariables false
namespace Go.Proofs.YtnkpcolkhmphmaaDoor.W
open Go Go.ChangeShapes Go.WideShapes Go.ChangeAt Go.RowKit
open Go.Proofs.YtnkpcolkhmphmaaDoor.P (enc dec shaL shaL_len)

theorem h_tc {P : Program} {ops : Array Oper} {Q : Exit → Act → World → Prop} {S : World → Prop} {a : Act} {w : World} {fuel : Nat} {listed : Array Bool}
    (i j : Nat) {o o' : Oper} (hi : ops[i]? = some o) (hj : ops[j]? = some o') (hr : Region.ready .any ops listed = [i, j])
    (hw : Region.wanted o (yielded ops a.tmps) = true) (f : FuncId) (args : Array Value) (hrun : (execOp a.eval o).run P w = .ok (.enter f args) w)
    (hc : Calls P f args w fun e w' => ∃ v, e = .returned v ∧ S w' ∧ WH P ops Q S fuel (listed.setIfInBounds i true) (a.put o.dst v) w')
    (h : ∀ K : Exit → Act → World → Prop, (∀ a' w', S w' → WH P ops Q S fuel (listed.setIfInBounds j true) a' w' → K .normal a' w') → wpList P ops K [o'] a w) : WH P ops Q S (fuel + 1) listed a w :=
  ⟨fun hQ hs hS => by
    refine wpAnyH_all hr (by simp) fun k hk => ?_
    have hk' : k = i ∨ k = j := by simpa using hk
    rcases hk' with rfl | rfl
    · unfold wpOp
      simp only [hi, hw, if_true]
      refine .inl ?_
      unfold Oper.wp
      rw [hrun, Oper.upon_enter]
      refine hc.mono ?_
      rintro e w' ⟨v, rfl, h1, h2⟩
      exact ⟨h1, h2.out hQ hs h1⟩
    · exact wpOp_of_list hj (h _ fun a' w' h1 h2 => ⟨rfl, h1, h2.out hQ hs h1⟩)⟩
theorem conv_run {P : Program} (w : World) (t e : TypeId) (g n c : Nat) (C : Array Value) (hg : w.heap[g]? = some (.cells C e (0, 0))) (ht : P.underlying t = some (.slice e)) (he : P.underlying e = some (.int .u8)) :
    ∃ w', (convert t t (.slice (some ⟨g, 0, none⟩) n c)).run P w = .ok (.slice (some ⟨g, 0, none⟩) n c) w' ∧ Upd w w' g ∧ w'.heap[g]? = some (.cells C e (C.size, C.size + 1)) := by
  have hsh : w.shape? g = some (e, C.size) := by unfold World.shape?; rw [hg]
  have hz : w.freeze ⟨g, C.size, none⟩ 1 = { w with heap := (w.freeze ⟨g, C.size, none⟩ 1).heap } := by
    unfold World.freeze; rw [if_neg (by decide)]
  refine ⟨w.freeze ⟨g, C.size, none⟩ 1, ?_, ?_, ?_⟩
  · simp [convert, run_underlying ht, run_underlying he, markStringish, hsh]
  · unfold World.freeze
    rw [if_neg (by decide)]
    exact ⟨rfl, rfl, rfl, by simp, fun k hk => by simp [Array.getElem?_modify, hk.symm]⟩
  · unfold World.freeze
    rw [if_neg (by decide)]
    simp [Array.getElem?_modify, hg]
theorem by1_rd {w w' : World} {g : Nat} {v : UInt8} {fz : Nat × Nat} (h : w'.heap[g]? = some (.cells #[B v] 5 fz)) : Rd w' (some ⟨g, 0, none⟩) 1 1 [v] := by
  refine ⟨rfl, Nat.le_refl _, by omega, (fun h => by cases h), .inr ⟨g, 0, rfl, (Array.getElem?_eq_some_iff.1 h).1, fun i hi => ?_⟩⟩
  obtain rfl : i = 0 := by omega
  rw [Nat.zero_add, cell_of_row w' g 0 _ _ _ h]
  rfl
theorem conv_by {w : World} {ops : Array Oper} {rest : List Oper} {o : Oper} {a : Act} {Q : Exit → Act → World → Prop} (hgd : o.guard = none) (x : Operand)
    (ho : o.op = .convert 24 24 x) (g : Nat) (v : UInt8) (h0 : a.eval x = .slice (some ⟨g, 0, none⟩) 1 1) (hr : Row w g 5 [B v])
    (hk : ∀ w', Rd w' (some ⟨g, 0, none⟩) 1 1 [v] → Upd w w' g → wpList Tryd.prog ops Q rest (a.put o.dst (.slice (some ⟨g, 0, none⟩) 1 1)) w') : wpList Tryd.prog ops Q (o :: rest) a w := by
  obtain ⟨w', hrun, hu, hh⟩ := conv_run (P := Tryd.prog) w 24 5 g 1 1 #[B v] hr Tryd.underlying24 Tryd.underlying5
  refine wpList_plain hgd fun K hK => ?_
  unfold Oper.wp
  simp [execOp, ho, h0, hrun, Result.andThen]
  exact hK _ _ (hk w' (by1_rd (w := w) hh) hu)
theorem conv_byg {w : World} {ops : Array Oper} {rest : List Oper} {o : Oper} {a : Act} {Q : Exit → Act → World → Prop} (gk : Nat) (want : Bool) (gt : Tmp) (hgd : o.guard = some (gk, want)) (x : Operand)
    (ho : o.op = .convert 24 24 x) (hdst : (ops[gk]?).bind (·.dst) = some gt) (hv : a.eval (.tmp gt) = .bool want) (g : Nat) (v : UInt8) (h0 : a.eval x = .slice (some ⟨g, 0, none⟩) 1 1) (hr : Row w g 5 [B v])
    (hk : ∀ w', Rd w' (some ⟨g, 0, none⟩) 1 1 [v] → Upd w w' g → wpList Tryd.prog ops Q rest (a.put o.dst (.slice (some ⟨g, 0, none⟩) 1 1)) w') : wpList Tryd.prog ops Q (o :: rest) a w := by
  obtain ⟨w', hrun, hu, hh⟩ := conv_run (P := Tryd.prog) w 24 5 g 1 1 #[B v] hr Tryd.underlying24 Tryd.underlying5
  have hw := lg_wanted gk want gt hgd hdst hv
  refine wpList_step fun K hK => ?_
  simp only [hw, if_true]
  unfold Oper.wp
  simp [execOp, ho, h0, hrun, Result.andThen]
  exact hK _ _ (hk w' (by1_rd (w := w) hh) hu)
set_option maxRecDepth 100000 in
theorem by1 {w : World} {ops : Array Oper} {rest : List Oper} {o : Oper} {a : Act} {Q : Exit → Act → World → Prop} (hgd : o.guard = none) (x : Operand)
    (ho : o.op = .buildSlice 24 1 #[(0, x)]) (v : UInt8) (h0 : a.eval x = B v)
    (hk : ∀ w', Row w' w.heap.size 5 [B v] → Below w.heap.size w w' → w'.heap.size = w.heap.size + 1 → wpList Tryd.prog ops Q rest (a.put o.dst (.slice (some ⟨w.heap.size, 0, none⟩) 1 1)) w') : wpList Tryd.prog ops Q (o :: rest) a w := by
  obtain ⟨i0, hi0, hz0, hz1, hz2⟩ := info_parts infoByte
  refine wpList_buildSlice hgd 24 5 1 _ ho #[B v] i0 _ Tryd.underlying24 hi0 hz0 (by rw [hz1]; decide) (by rw [hz1]; decide) (by rw [hz1]; simp only [List.map_toArray, List.map_cons, List.map_nil, h0, B]; go_simp; first | done | rfl) ?_
  exact hk _ (Row.new _ _ _) ((Below.refl _ _).alloc (Nat.le_refl _) _) (by simp)
set_option maxRecDepth 100000 in
theorem by1g {w : World} {ops : Array Oper} {rest : List Oper} {o : Oper} {a : Act} {Q : Exit → Act → World → Prop} (gk : Nat) (want : Bool) (gt : Tmp) (hgd : o.guard = some (gk, want)) (x : Operand)
    (ho : o.op = .buildSlice 24 1 #[(0, x)]) (hdst : (ops[gk]?).bind (·.dst) = some gt) (hv : a.eval (.tmp gt) = .bool want) (v : UInt8) (h0 : a.eval x = B v)
    (hk : ∀ w', Row w' w.heap.size 5 [B v] → Below w.heap.size w w' → w'.heap.size = w.heap.size + 1 → wpList Tryd.prog ops Q rest (a.put o.dst (.slice (some ⟨w.heap.size, 0, none⟩) 1 1)) w') : wpList Tryd.prog ops Q (o :: rest) a w := by
  obtain ⟨i0, hi0, hz0, hz1, hz2⟩ := info_parts infoByte
  have hw := lg_wanted gk want gt hgd hdst hv
  refine wpList_step fun K hK => ?_
  simp only [hw, if_true]
  refine wp_buildSlice 24 5 1 _ ho #[B v] i0 _ Tryd.underlying24 hi0 hz0 (by rw [hz1]; decide) (by rw [hz1]; decide) (by rw [hz1]; simp only [List.map_toArray, List.map_cons, List.map_nil, h0, B]; go_simp; first | done | rfl) ?_
  exact hK _ _ (hk _ (Row.new _ _ _) ((Below.refl _ _).alloc (Nat.le_refl _) _) (by simp))
set_option maxRecDepth 100000 in
theorem bs1g {w : World} {ops : Array Oper} {rest : List Oper} {o : Oper} {a : Act} {Q : Exit → Act → World → Prop} (gk : Nat) (want : Bool) (gt : Tmp) (hgd : o.guard = some (gk, want)) (x : Operand)
    (ho : o.op = .buildSlice 25 1 #[(0, x)]) (hdst : (ops[gk]?).bind (·.dst) = some gt) (hv : a.eval (.tmp gt) = .bool want) (x0 : BsX) (h0 : a.eval x = .slice x0.a x0.n x0.c) (r0 : Rd w x0.a x0.n x0.c x0.l)
    (hk : ∀ w', Ls bsE w' (some ⟨w.heap.size, 0, none⟩) 1 1 [x0] → Below w.heap.size w w' → w'.heap.size = w.heap.size + 1 → wpList Tryd.prog ops Q rest (a.put o.dst (.slice (some ⟨w.heap.size, 0, none⟩) 1 1)) w') : wpList Tryd.prog ops Q (o :: rest) a w := by
  obtain ⟨i0, hi0, hz0, hz1, hz2⟩ := info_parts infoBssC
  have hw := lg_wanted gk want gt hgd hdst hv
  refine wpList_step fun K hK => ?_
  simp only [hw, if_true]
  refine wp_buildSlice 25 24 1 _ ho #[.slice x0.a x0.n x0.c] i0 _ Tryd.underlying25 hi0 hz0 (by rw [hz1]; decide) (by rw [hz1]; decide) (by rw [hz1]; simp only [List.map_toArray, List.map_cons, List.map_nil, h0]; go_simp; first | done | rfl) ?_
  exact hK _ _ (hk _ (ls_new bsOk w x0 _ rfl r0) ((Below.refl _ _).alloc (Nat.le_refl _) _) (by simp))
theorem chz_fit : chZ.fit := ⟨⟨by decide, by decide⟩, by show (str (List.replicate 32 0)).size ≤ 100000; rw [str_size]; simp⟩
set_option maxRecDepth 100000 in
set_option maxHeartbeats 16000000 in
theorem awake22 (w : World) (hK : Ks w) : Calls Tryd.prog 7 #[] w fun e w' => e = .returned (.bool true) ∧ Below w.heap.size w w' := by
  have HK := Lib.hid hK
  have LZS := Lib.hid ch_size
  have LZ := Lib.hid ch_zero
  obtain ⟨s, hs⟩ : ∃ s, str (shaL (chZ.hd.data.toList ++ (enc chZ.len.toNat ++ [97]))) = s := ⟨_, rfl⟩
  have hlk : chZ.link [97] = ⟨1, s⟩ := by rw [← hs]; rfl
  have hs32 : s.size = 32 := by rw [← hs, str_size, shaL_len]
  have hfit : (⟨1, s⟩ : Ch).fit := by rw [← hlk]; exact link_fit _ _ chz_fit
  have HLK : ∀ (a : Option Addr) (n cp : Nat) (w' : World), Rd w' a n cp [97] → Below w.heap.size w w' → Calls Tryd.prog 8 #[.agg (chC chZ).toArray, .slice a n cp] w' fun e w'' => e = .returned (.agg (chC ⟨1, s⟩).toArray) ∧ Below w'.heap.size w' w'' := fun a n cp w' hr hb => by
    rw [← hlk]; exact chlink chZ a n cp [97] w' (hK.below hb hK.pos) chz_fit hr (by decide)
  have HC1 : ∀ (a : Option Addr) (cp : Nat) (x : BsX) (w' : World), x.l = [97] → Ls bsE w' a 1 cp [x] → Below w.heap.size w w' → Calls Tryd.prog 12 #[.agg (chC chZ).toArray, .slice a 1 cp, .agg (chC ⟨1, s⟩).toArray] w' fun e w'' => e = .returned (.int .i64 0) ∧ Below w'.heap.size w' w'' := fun a cp x w' hx hl hb =>
    chcheck chZ ⟨1, s⟩ a 1 cp [x] w' (hK.below hb hK.pos) chz_fit hfit hl (by decide) (fun y hy => by simp at hy; subst hy; rw [hx]; decide) 0 (.inl ⟨by show chZ.link x.l = _; rw [hx]; exact hlk, rfl⟩)
  have HC2 : ∀ (w' : World), Below w.heap.size w w' → Calls Tryd.prog 12 #[.agg (chC chZ).toArray, .slice none 0 0, .agg (chC ⟨1, s⟩).toArray] w' fun e w'' => e = .returned (.int .i64 23) ∧ Below w'.heap.size w' w'' := fun w' hb =>
    chcheck chZ ⟨1, s⟩ none 0 0 [] w' (hK.below hb hK.pos) chz_fit hfit (Ls.nil _) (by decide) (fun y hy => by cases hy) 23 (.inr ⟨fun h => absurd (congrArg Ch.len h) (by show ¬ ((0 : Int) = 1); decide), rfl⟩)
  have HLK := Lib.hid HLK
  have HC1 := Lib.hid HC1
  have HC2 := Lib.hid HC2
  obtain ⟨Z, hZ⟩ : ∃ Z, (chC chZ).toArray = Z := ⟨_, rfl⟩
  have HST : ∀ w' : World, Calls Tryd.prog 14 #[] w' fun e w'' => e = .returned (.agg Z) ∧ Below w'.heap.size w' w'' := fun w' => by rw [← hZ]; exact chstart w'
  have HST := Lib.hid HST
  rw [hZ] at HLK HC1 HC2
  clear hK hs hlk hfit hZ
  go_enter Tryd.func7, Tryd.ntmps7
  go_wp2_with (first
    | (go_at_call 14; (with_reducible refine (HST.out _).mono ?_); rintro x w1 ⟨rfl, hb⟩; have B1 := Lib.hid hb; clear hb)
    | ((with_reducible refine by1 (o := ⟨some 3, _, _, _, _, _⟩) rfl _ rfl 97 ?_ ?_); (focus (first | (go_simp; done) | (go_simp; rfl))); intro wb hr hb hz; have RB := Lib.hid hr; have BB := Lib.hid (B1.out.trans (hb.mono B1.out.size)); clear hr hb hz)
    | ((with_reducible refine conv_by (o := ⟨some 4, _, _, _, _, _⟩) rfl _ rfl w1.heap.size 97 ?_ RB.out ?_); (focus (first | (go_simp; done) | (go_simp; rfl))); intro wa hr hu; have RA := Lib.hid hr; have BA := Lib.hid (BB.out.trans (hu.below B1.out.size)); clear hr hu)
    | (go_at_call 8; (with_reducible refine (HLK.out _ 1 1 wa RA.out BA.out).mono ?_); rintro x w2 ⟨rfl, hb⟩; have B2 := Lib.hid (BA.out.trans (hb.mono BA.out.size)); clear hb)
    | ((with_reducible refine alloc_row (o := ⟨some 1, _, _, _, _, _⟩) rfl _ rfl _ LZ.out ?_); intro w3 hr hb hz; have R3 := Lib.hid hr; have B3 := Lib.hid (B2.out.trans (hb.mono B2.out.size)); clear hr hb hz)
    | ((with_reducible refine store_row (o := ⟨none, _, _, _, _, _⟩) rfl _ (.tmp 1) _ rfl w2.heap.size (chC ⟨1, s⟩) ?_ ?_ 23 _ R3.out ?_ ?_ ?_ ?_); (focus go_simp); (focus (first | (go_simp; done) | (go_simp; rfl))); (focus (exact LZS.out)); (focus rfl); (focus (exact ch_one _)); intro w4 hr hu; have R4 := Lib.hid hr; have B4 := Lib.hid (B3.out.trans (hu.below B2.out.size)); clear hr hu))
  refine region_h (fun v => Row v w2.heap.size 23 (chC ⟨1, s⟩)) (by kernel_rfl) (by kernel_rfl) (R4.out.drewN 1) ?_
  obtain ⟨d0, hd0⟩ : ∃ wd, w4.drew = wd := ⟨_, rfl⟩
  have J0 : Hid (Below w4.heap.size w4 d0) := Lib.hid (by rw [← hd0]; exact (Below.refl _ _).drew)
  rw [hd0]
  clear hd0
  have R0 := Lib.hid (R4.out.below J0.out R4.out.lt)
  have E0 := Lib.hid (B4.out.trans (J0.out.mono B4.out.size))
  (refine h_read 0 rfl (by kernel_rfl) (by kernel_rfl) (h_free rfl) ?_ ?_ ?_; rotate_left; (focus (intro v hv; go_simp; rfl)); go_simp)
  (refine h_read 1 rfl (by kernel_rfl) (by kernel_rfl) (h_free rfl) ?_ ?_ ?_; rotate_left; (focus (intro v hv; have y0 := hv.c2.1; have y1 := hv.c2.2; go_simp; rfl)); go_simp)
  (refine h_read 2 rfl (by kernel_rfl) (by kernel_rfl) (h_free rfl) ?_ ?_ ?_; rotate_left; (focus (intro v hv; go_simp; rfl)); go_simp)
  (refine h_read 3 rfl (by kernel_rfl) (by kernel_rfl) (h_free rfl) ?_ ?_ ?_; rotate_left; (focus (intro v hv; go_simp; rfl)); go_simp)
  (refine h_read 4 rfl (by kernel_rfl) (by kernel_rfl) ?_ ?_ ?_ ?_; (focus (go_simp; done)); rotate_left; (focus (intro v hv; go_simp; rfl)); go_simp)
  (refine h_read 5 rfl (by kernel_rfl) (by kernel_rfl) ?_ ?_ ?_ ?_; (focus (go_simp; done)); rotate_left; (focus (intro v hv; have y0 := hv.c2.1; have y1 := hv.c2.2; go_simp; rfl)); go_simp)
  (refine h_read 6 rfl (by kernel_rfl) (by kernel_rfl) ?_ ?_ ?_ ?_; (focus (go_simp; done)); rotate_left; (focus (intro v hv; go_simp; rfl)); go_simp)
  (refine h_read 7 rfl (by kernel_rfl) (by kernel_rfl) ?_ ?_ ?_ ?_; (focus (go_simp; done)); rotate_left; (focus (intro v hv; go_simp; rfl)); go_simp)
  (refine h_read 8 rfl (by kernel_rfl) (by kernel_rfl) (h_free rfl) ?_ ?_ ?_; rotate_left; (focus (intro v hv; go_simp; rfl)); go_simp)
  (refine h_read 9 rfl (by kernel_rfl) (by kernel_rfl) (h_free rfl) ?_ ?_ ?_; rotate_left; (focus (intro v hv; go_simp; rfl)); go_simp)
  (refine h_read 14 rfl (by kernel_rfl) (by kernel_rfl) ?_ ?_ ?_ ?_; (focus (go_simp; done)); rotate_left; (focus (intro v hv; refine run_cells 23 (.tmp 1) ?_ w2.heap.size 0 ?_ (chC ⟨1, s⟩) _ (fun j' u' hj => by rw [Nat.zero_add, hv.cellV]; exact hj) Tryd.underlying23 rfl ch_size; (focus rfl); go_simp)); go_simp)
  (refine h_tc 10 11 rfl rfl (by kernel_rfl) ?_ 14 ?_ ?_ ?_ ?_; (focus (go_simp; done)); rotate_left; (focus (go_simp; rfl)))
  · refine (HST.out d0).mono ?_
    rintro x d1 ⟨rfl, hb⟩
    have R1 := Lib.hid (R0.out.below hb R0.out.lt)
    have E1 := Lib.hid (E0.out.trans (hb.mono E0.out.size))
    have SZ1 := Lib.hid hb.size
    clear hb
    refine ⟨_, rfl, R1.out, ?_⟩
    go_simp
    (refine h_list 11 rfl (by kernel_rfl) ?_; intro K hK)
    have LB := Lib.hid (show d0.heap.size ≤ d1.heap.size from SZ1.out)
    refine by1g 9 true 15 rfl _ rfl ?_ ?_ 97 ?_ ?_
    (focus rfl)
    (focus (first | (go_simp; done) | (go_simp; rfl)))
    (focus (first | (go_simp; done) | (go_simp; rfl)))
    intro d2 hr hb hz
    have RB := Lib.hid hr
    have R2 := Lib.hid (R1.out.below hb R1.out.lt)
    have E2 := Lib.hid (E1.out.trans (hb.mono E1.out.size))
    clear hr hb hz
    refine hK _ _ R2.out ?_
    go_simp
    (refine h_list 12 rfl (by kernel_rfl) ?_; intro K hK)
    refine conv_byg 9 true 15 rfl _ rfl ?_ ?_ d1.heap.size 97 ?_ RB.out ?_
    (focus rfl)
    (focus (first | (go_simp; done) | (go_simp; rfl)))
    (focus (first | (go_simp; done) | (go_simp; rfl)))
    intro d3 hr hu
    have RA := Lib.hid hr
    have R3 := Lib.hid (R2.out.upd hu (Nat.ne_of_lt (Nat.lt_of_lt_of_le R0.out.lt (LB.out))))
    have E3 := Lib.hid (E2.out.trans (hu.below (Nat.le_trans E0.out.size LB.out)))
    clear hr hu
    refine hK _ _ R3.out ?_
    go_simp
    (refine h_list 13 rfl (by kernel_rfl) ?_; intro K hK)
    refine bs1g 9 true 15 rfl _ rfl ?_ ?_ ⟨some ⟨d1.heap.size, 0, none⟩, 1, 1, [97]⟩ ?_ RA.out ?_
    (focus rfl)
    (focus (first | (go_simp; done) | (go_simp; rfl)))
    (focus (first | (go_simp; done) | (go_simp; rfl)))
    intro d4 hl hb hz
    have L3 := Lib.hid hl
    have R4 := Lib.hid (R3.out.below hb R3.out.lt)
    have E4 := Lib.hid (E3.out.trans (hb.mono E3.out.size))
    clear hl hb hz
    refine hK _ _ R4.out ?_
    go_simp
    (refine h_call 15 rfl (by kernel_rfl) ?_ 12 ?_ ?_ ?_; (focus (go_simp; done)); rotate_left; (focus (go_simp; rfl)))
    refine (HC1.out _ 1 _ d4 rfl L3.out E4.out).mono ?_
    rintro x d5 ⟨rfl, hb⟩
    have R5 := Lib.hid (R4.out.below hb R4.out.lt)
    have E5 := Lib.hid (E4.out.trans (hb.mono E4.out.size))
    clear hb
    refine ⟨_, rfl, R5.out, ?_⟩
    go_simp
    (refine h_read 16 rfl (by kernel_rfl) (by kernel_rfl) ?_ ?_ ?_ ?_; (focus (go_simp; done)); rotate_left; (focus (intro v hv; go_simp; rfl)); go_simp)
    (refine h_read 17 rfl (by kernel_rfl) (by kernel_rfl) (h_free rfl) ?_ ?_ ?_; rotate_left; (focus (intro v hv; go_simp; rfl)); go_simp)
    (refine h_read 18 rfl (by kernel_rfl) (by kernel_rfl) (h_free rfl) ?_ ?_ ?_; rotate_left; (focus (intro v hv; go_simp; rfl)); go_simp)
    (refine h_read 20 rfl (by kernel_rfl) (by kernel_rfl) ?_ ?_ ?_ ?_; (focus (go_simp; done)); rotate_left; (focus (intro v hv; refine run_cells 23 (.tmp 1) ?_ w2.heap.size 0 ?_ (chC ⟨1, s⟩) _ (fun j' u' hj => by rw [Nat.zero_add, hv.cellV]; exact hj) Tryd.underlying23 rfl ch_size; (focus rfl); go_simp)); go_simp)
    (refine h_call 19 rfl (by kernel_rfl) ?_ 14 ?_ ?_ ?_; (focus (go_simp; done)); rotate_left; (focus (go_simp; rfl)))
    refine (HST.out d5).mono ?_
    rintro x d6 ⟨rfl, hb⟩
    have R6 := Lib.hid (R5.out.below hb R5.out.lt)
    have E6 := Lib.hid (E5.out.trans (hb.mono E5.out.size))
    clear hb
    refine ⟨_, rfl, R6.out, ?_⟩
    go_simp
    (refine h_call 21 rfl (by kernel_rfl) ?_ 12 ?_ ?_ ?_; (focus (go_simp; done)); rotate_left; (focus (go_simp; rfl)))
    refine (HC2.out d6 E6.out).mono ?_
    rintro x d7 ⟨rfl, hb⟩
    have R7 := Lib.hid (R6.out.below hb R6.out.lt)
    have E7 := Lib.hid (E6.out.trans (hb.mono E6.out.size))
    clear hb
    refine ⟨_, rfl, R7.out, ?_⟩
    go_simp
    (refine h_read 22 rfl (by kernel_rfl) (by kernel_rfl) ?_ ?_ ?_ ?_; (focus (go_simp; done)); rotate_left; (focus (intro v hv; go_simp; rfl)); go_simp)
    (refine h_read 23 rfl (by kernel_rfl) (by kernel_rfl) (h_free rfl) ?_ ?_ ?_; rotate_left; (focus (intro v hv; go_simp; rfl)); go_simp)
    (refine h_read 24 rfl (by kernel_rfl) (by kernel_rfl) (h_free rfl) ?_ ?_ ?_; rotate_left; (focus (intro v hv; go_simp; rfl)); go_simp)
    refine h_done (by kernel_rfl) ?_
    go_wp2_with fail
    go_ret
    exact ⟨by first | rfl | exact one (vbool (by simp)), E7.out⟩
  · intro K hK
    have LB := Lib.hid (show d0.heap.size ≤ d0.heap.size from Nat.le_refl _)
    refine by1g 9 true 15 rfl _ rfl ?_ ?_ 97 ?_ ?_
    (focus rfl)
    (focus (first | (go_simp; done) | (go_simp; rfl)))
    (focus (first | (go_simp; done) | (go_simp; rfl)))
    intro d1 hr hb hz
    have RB := Lib.hid hr
    have R1 := Lib.hid (R0.out.below hb R0.out.lt)
    have E1 := Lib.hid (E0.out.trans (hb.mono E0.out.size))
    clear hr hb hz
    refine hK _ _ R1.out ?_
    go_simp
    (refine h_tc 10 12 rfl rfl (by kernel_rfl) ?_ 14 ?_ ?_ ?_ ?_; (focus (go_simp; done)); rotate_left; (focus (go_simp; rfl)))
    · refine (HST.out d1).mono ?_
      rintro x d2 ⟨rfl, hb⟩
      have R2 := Lib.hid (R1.out.below hb R1.out.lt)
      have E2 := Lib.hid (E1.out.trans (hb.mono E1.out.size))
      have RB := Lib.hid (RB.out.below hb RB.out.lt)
      clear hb
      refine ⟨_, rfl, R2.out, ?_⟩
      go_simp
      (refine h_list 12 rfl (by kernel_rfl) ?_; intro K hK)
      refine conv_byg 9 true 15 rfl _ rfl ?_ ?_ d0.heap.size 97 ?_ RB.out ?_
      (focus rfl)
      (focus (first | (go_simp; done) | (go_simp; rfl)))
      (focus (first | (go_simp; done) | (go_simp; rfl)))
      intro d3 hr hu
      have RA := Lib.hid hr
      have R3 := Lib.hid (R2.out.upd hu (Nat.ne_of_lt (Nat.lt_of_lt_of_le R0.out.lt (LB.out))))
      have E3 := Lib.hid (E2.out.trans (hu.below (Nat.le_trans E0.out.size LB.out)))
      clear hr hu
      refine hK _ _ R3.out ?_
      go_simp
      (refine h_list 13 rfl (by kernel_rfl) ?_; intro K hK)
      refine bs1g 9 true 15 rfl _ rfl ?_ ?_ ⟨some ⟨d0.heap.size, 0, none⟩, 1, 1, [97]⟩ ?_ RA.out ?_
      (focus rfl)
      (focus (first | (go_simp; done) | (go_simp; rfl)))
      (focus (first | (go_simp; done) | (go_simp; rfl)))
      intro d4 hl hb hz
      have L3 := Lib.hid hl
      have R4 := Lib.hid (R3.out.below hb R3.out.lt)
      have E4 := Lib.hid (E3.out.trans (hb.mono E3.out.size))
      clear hl hb hz
      refine hK _ _ R4.out ?_
      go_simp
      (refine h_call 15 rfl (by kernel_rfl) ?_ 12 ?_ ?_ ?_; (focus (go_simp; done)); rotate_left; (focus (go_simp; rfl)))
      refine (HC1.out _ 1 _ d4 rfl L3.out E4.out).mono ?_
      rintro x d5 ⟨rfl, hb⟩
      have R5 := Lib.hid (R4.out.below hb R4.out.lt)
      have E5 := Lib.hid (E4.out.trans (hb.mono E4.out.size))
      clear hb
      refine ⟨_, rfl, R5.out, ?_⟩
      go_simp
      (refine h_read 16 rfl (by kernel_rfl) (by kernel_rfl) ?_ ?_ ?_ ?_; (focus (go_simp; done)); rotate_left; (focus (intro v hv; go_simp; rfl)); go_simp)
      (refine h_read 17 rfl (by kernel_rfl) (by kernel_rfl) (h_free rfl) ?_ ?_ ?_; rotate_left; (focus (intro v hv; go_simp; rfl)); go_simp)
      (refine h_read 18 rfl (by kernel_rfl) (by kernel_rfl) (h_free rfl) ?_ ?_ ?_; rotate_left; (focus (intro v hv; go_simp; rfl)); go_simp)
      (refine h_read 20 rfl (by kernel_rfl) (by kernel_rfl) ?_ ?_ ?_ ?_; (focus (go_simp; done)); rotate_left; (focus (intro v hv; refine run_cells 23 (.tmp 1) ?_ w2.heap.size 0 ?_ (chC ⟨1, s⟩) _ (fun j' u' hj => by rw [Nat.zero_add, hv.cellV]; exact hj) Tryd.underlying23 rfl ch_size; (focus rfl); go_simp)); go_simp)
      (refine h_call 19 rfl (by kernel_rfl) ?_ 14 ?_ ?_ ?_; (focus (go_simp; done)); rotate_left; (focus (go_simp; rfl)))
      refine (HST.out d5).mono ?_
      rintro x d6 ⟨rfl, hb⟩
      have R6 := Lib.hid (R5.out.below hb R5.out.lt)
      have E6 := Lib.hid (E5.out.trans (hb.mono E5.out.size))
      clear hb
      refine ⟨_, rfl, R6.out, ?_⟩
      go_simp
      (refine h_call 21 rfl (by kernel_rfl) ?_ 12 ?_ ?_ ?_; (focus (go_simp; done)); rotate_left; (focus (go_simp; rfl)))
      refine (HC2.out d6 E6.out).mono ?_
      rintro x d7 ⟨rfl, hb⟩
      have R7 := Lib.hid (R6.out.below hb R6.out.lt)
      have E7 := Lib.hid (E6.out.trans (hb.mono E6.out.size))
      clear hb
      refine ⟨_, rfl, R7.out, ?_⟩
      go_simp
      (refine h_read 22 rfl (by kernel_rfl) (by kernel_rfl) ?_ ?_ ?_ ?_; (focus (go_simp; done)); rotate_left; (focus (intro v hv; go_simp; rfl)); go_simp)
      (refine h_read 23 rfl (by kernel_rfl) (by kernel_rfl) (h_free rfl) ?_ ?_ ?_; rotate_left; (focus (intro v hv; go_simp; rfl)); go_simp)
      (refine h_read 24 rfl (by kernel_rfl) (by kernel_rfl) (h_free rfl) ?_ ?_ ?_; rotate_left; (focus (intro v hv; go_simp; rfl)); go_simp)
      refine h_done (by kernel_rfl) ?_
      go_wp2_with fail
      go_ret
      exact ⟨by first | rfl | exact one (vbool (by simp)), E7.out⟩
    · intro K hK
      refine conv_byg 9 true 15 rfl _ rfl ?_ ?_ d0.heap.size 97 ?_ RB.out ?_
      (focus rfl)
      (focus (first | (go_simp; done) | (go_simp; rfl)))
      (focus (first | (go_simp; done) | (go_simp; rfl)))
      intro d2 hr hu
      have RA := Lib.hid hr
      have R2 := Lib.hid (R1.out.upd hu (Nat.ne_of_lt (Nat.lt_of_lt_of_le R0.out.lt (LB.out))))
      have E2 := Lib.hid (E1.out.trans (hu.below (Nat.le_trans E0.out.size LB.out)))
      clear hr hu
      refine hK _ _ R2.out ?_
      go_simp
      (refine h_tc 10 13 rfl rfl (by kernel_rfl) ?_ 14 ?_ ?_ ?_ ?_; (focus (go_simp; done)); rotate_left; (focus (go_simp; rfl)))
      · refine (HST.out d2).mono ?_
        rintro x d3 ⟨rfl, hb⟩
        have R3 := Lib.hid (R2.out.below hb R2.out.lt)
        have E3 := Lib.hid (E2.out.trans (hb.mono E2.out.size))
        have RA := Lib.hid (RA.out.mono hb)
        clear hb
        refine ⟨_, rfl, R3.out, ?_⟩
        go_simp
        (refine h_list 13 rfl (by kernel_rfl) ?_; intro K hK)
        refine bs1g 9 true 15 rfl _ rfl ?_ ?_ ⟨some ⟨d0.heap.size, 0, none⟩, 1, 1, [97]⟩ ?_ RA.out ?_
        (focus rfl)
        (focus (first | (go_simp; done) | (go_simp; rfl)))
        (focus (first | (go_simp; done) | (go_simp; rfl)))
        intro d4 hl hb hz
        have L3 := Lib.hid hl
        have R4 := Lib.hid (R3.out.below hb R3.out.lt)
        have E4 := Lib.hid (E3.out.trans (hb.mono E3.out.size))
        clear hl hb hz
        refine hK _ _ R4.out ?_
        go_simp
        (refine h_call 15 rfl (by kernel_rfl) ?_ 12 ?_ ?_ ?_; (focus (go_simp; done)); rotate_left; (focus (go_simp; rfl)))
        refine (HC1.out _ 1 _ d4 rfl L3.out E4.out).mono ?_
        rintro x d5 ⟨rfl, hb⟩
        have R5 := Lib.hid (R4.out.below hb R4.out.lt)
        have E5 := Lib.hid (E4.out.trans (hb.mono E4.out.size))
        clear hb
        refine ⟨_, rfl, R5.out, ?_⟩
        go_simp
        (refine h_read 16 rfl (by kernel_rfl) (by kernel_rfl) ?_ ?_ ?_ ?_; (focus (go_simp; done)); rotate_left; (focus (intro v hv; go_simp; rfl)); go_simp)
        (refine h_read 17 rfl (by kernel_rfl) (by kernel_rfl) (h_free rfl) ?_ ?_ ?_; rotate_left; (focus (intro v hv; go_simp; rfl)); go_simp)
        (refine h_read 18 rfl (by kernel_rfl) (by kernel_rfl) (h_free rfl) ?_ ?_ ?_; rotate_left; (focus (intro v hv; go_simp; rfl)); go_simp)
        (refine h_read 20 rfl (by kernel_rfl) (by kernel_rfl) ?_ ?_ ?_ ?_; (focus (go_simp; done)); rotate_left; (focus (intro v hv; refine run_cells 23 (.tmp 1) ?_ w2.heap.size 0 ?_ (chC ⟨1, s⟩) _ (fun j' u' hj => by rw [Nat.zero_add, hv.cellV]; exact hj) Tryd.underlying23 rfl ch_size; (focus rfl); go_simp)); go_simp)
        (refine h_call 19 rfl (by kernel_rfl) ?_ 14 ?_ ?_ ?_; (focus (go_simp; done)); rotate_left; (focus (go_simp; rfl)))
        refine (HST.out d5).mono ?_
        rintro x d6 ⟨rfl, hb⟩
        have R6 := Lib.hid (R5.out.below hb R5.out.lt)
        have E6 := Lib.hid (E5.out.trans (hb.mono E5.out.size))
        clear hb
        refine ⟨_, rfl, R6.out, ?_⟩
        go_simp
        (refine h_call 21 rfl (by kernel_rfl) ?_ 12 ?_ ?_ ?_; (focus (go_simp; done)); rotate_left; (focus (go_simp; rfl)))
        refine (HC2.out d6 E6.out).mono ?_
        rintro x d7 ⟨rfl, hb⟩
        have R7 := Lib.hid (R6.out.below hb R6.out.lt)
        have E7 := Lib.hid (E6.out.trans (hb.mono E6.out.size))
        clear hb
        refine ⟨_, rfl, R7.out, ?_⟩
        go_simp
        (refine h_read 22 rfl (by kernel_rfl) (by kernel_rfl) ?_ ?_ ?_ ?_; (focus (go_simp; done)); rotate_left; (focus (intro v hv; go_simp; rfl)); go_simp)
        (refine h_read 23 rfl (by kernel_rfl) (by kernel_rfl) (h_free rfl) ?_ ?_ ?_; rotate_left; (focus (intro v hv; go_simp; rfl)); go_simp)
        (refine h_read 24 rfl (by kernel_rfl) (by kernel_rfl) (h_free rfl) ?_ ?_ ?_; rotate_left; (focus (intro v hv; go_simp; rfl)); go_simp)
        refine h_done (by kernel_rfl) ?_
        go_wp2_with fail
        go_ret
        exact ⟨by first | rfl | exact one (vbool (by simp)), E7.out⟩
      · intro K hK
        refine bs1g 9 true 15 rfl _ rfl ?_ ?_ ⟨some ⟨d0.heap.size, 0, none⟩, 1, 1, [97]⟩ ?_ RA.out ?_
        (focus rfl)
        (focus (first | (go_simp; done) | (go_simp; rfl)))
        (focus (first | (go_simp; done) | (go_simp; rfl)))
        intro d3 hl hb hz
        have L3 := Lib.hid hl
        have R3 := Lib.hid (R2.out.below hb R2.out.lt)
        have E3 := Lib.hid (E2.out.trans (hb.mono E2.out.size))
        clear hl hb hz
        refine hK _ _ R3.out ?_
        go_simp
        (refine h_call 10 rfl (by kernel_rfl) ?_ 14 ?_ ?_ ?_; (focus (go_simp; done)); rotate_left; (focus (go_simp; rfl)))
        refine (HST.out d3).mono ?_
        rintro x d4 ⟨rfl, hb⟩
        have R4 := Lib.hid (R3.out.below hb R3.out.lt)
        have E4 := Lib.hid (E3.out.trans (hb.mono E3.out.size))
        have L3 := Lib.hid (L3.out.mono bsOk hb)
        clear hb
        refine ⟨_, rfl, R4.out, ?_⟩
        go_simp
        (refine h_call 15 rfl (by kernel_rfl) ?_ 12 ?_ ?_ ?_; (focus (go_simp; done)); rotate_left; (focus (go_simp; rfl)))
        refine (HC1.out _ 1 _ d4 rfl L3.out E4.out).mono ?_
        rintro x d5 ⟨rfl, hb⟩
        have R5 := Lib.hid (R4.out.below hb R4.out.lt)
        have E5 := Lib.hid (E4.out.trans (hb.mono E4.out.size))
        clear hb
        refine ⟨_, rfl, R5.out, ?_⟩
        go_simp
        (refine h_read 16 rfl (by kernel_rfl) (by kernel_rfl) ?_ ?_ ?_ ?_; (focus (go_simp; done)); rotate_left; (focus (intro v hv; go_simp; rfl)); go_simp)
        (refine h_read 17 rfl (by kernel_rfl) (by kernel_rfl) (h_free rfl) ?_ ?_ ?_; rotate_left; (focus (intro v hv; go_simp; rfl)); go_simp)
        (refine h_read 18 rfl (by kernel_rfl) (by kernel_rfl) (h_free rfl) ?_ ?_ ?_; rotate_left; (focus (intro v hv; go_simp; rfl)); go_simp)
        (refine h_read 20 rfl (by kernel_rfl) (by kernel_rfl) ?_ ?_ ?_ ?_; (focus (go_simp; done)); rotate_left; (focus (intro v hv; refine run_cells 23 (.tmp 1) ?_ w2.heap.size 0 ?_ (chC ⟨1, s⟩) _ (fun j' u' hj => by rw [Nat.zero_add, hv.cellV]; exact hj) Tryd.underlying23 rfl ch_size; (focus rfl); go_simp)); go_simp)
        (refine h_call 19 rfl (by kernel_rfl) ?_ 14 ?_ ?_ ?_; (focus (go_simp; done)); rotate_left; (focus (go_simp; rfl)))
        refine (HST.out d5).mono ?_
        rintro x d6 ⟨rfl, hb⟩
        have R6 := Lib.hid (R5.out.below hb R5.out.lt)
        have E6 := Lib.hid (E5.out.trans (hb.mono E5.out.size))
        clear hb
        refine ⟨_, rfl, R6.out, ?_⟩
        go_simp
        (refine h_call 21 rfl (by kernel_rfl) ?_ 12 ?_ ?_ ?_; (focus (go_simp; done)); rotate_left; (focus (go_simp; rfl)))
        refine (HC2.out d6 E6.out).mono ?_
        rintro x d7 ⟨rfl, hb⟩
        have R7 := Lib.hid (R6.out.below hb R6.out.lt)
        have E7 := Lib.hid (E6.out.trans (hb.mono E6.out.size))
        clear hb
        refine ⟨_, rfl, R7.out, ?_⟩
        go_simp
        (refine h_read 22 rfl (by kernel_rfl) (by kernel_rfl) ?_ ?_ ?_ ?_; (focus (go_simp; done)); rotate_left; (focus (intro v hv; go_simp; rfl)); go_simp)
        (refine h_read 23 rfl (by kernel_rfl) (by kernel_rfl) (h_free rfl) ?_ ?_ ?_; rotate_left; (focus (intro v hv; go_simp; rfl)); go_simp)
        (refine h_read 24 rfl (by kernel_rfl) (by kernel_rfl) (h_free rfl) ?_ ?_ ?_; rotate_left; (focus (intro v hv; go_simp; rfl)); go_simp)
        refine h_done (by kernel_rfl) ?_
        go_wp2_with fail
        go_ret
        exact ⟨by first | rfl | exact one (vbool (by simp)), E7.out⟩
def few22 (L : List BsX) : Bool := decide (L.length ≤ 20) && L.all (fun x => decide (x.n ≤ 300))
theorem few_len {w : World} {a : Option Addr} {n c : Nat} {L : List BsX} (h : Ls bsE w a n c L) (hf : few22 L = true) : n ≤ 20 ∧ ∀ x ∈ L, x.l.length ≤ 300 := by
  unfold few22 at hf
  simp only [Bool.and_eq_true, decide_eq_true_eq, List.all_eq_true] at hf
  refine ⟨by rw [← h.hlen]; exact hf.1, fun x hx => ?_⟩
  have h1 := hf.2 x hx
  have h2 : Rd w x.a x.n x.c x.l := h.hfit x hx
  rw [h2.hlen]; exact h1
set_option maxRecDepth 100000 in
set_option maxHeartbeats 16000000 in
theorem fewc (a : Option Addr) (n c : Nat) (L : List BsX) (w : World) (h : Ls bsE w a n c L) (q : Bool) (hq : few22 L = q) :
    Calls Tryd.prog 6 #[.slice a n c] w fun e w' => e = .returned (.bool q) ∧ w = w' := by
  have H := Lib.hid h
  have HL := Lib.hid h.hlen
  have HQ := Lib.hid hq
  have hm := h.hmax
  have hle := h.hle
  clear h hq
  go_enter Tryd.func6, Tryd.ntmps6
  go_wp2_with fail
  go_loop [7] (fun i => ∃ k : Nat, i = .int .i64 (k : Int) ∧ k ≤ n ∧ k ≤ 20 ∧ Hid (∀ x ∈ L.take k, x.n ≤ 300)) (fun i => n - (intOf i).toNat)
  case atStart => exact ⟨0, rfl, Nat.zero_le _, Nat.zero_le _, Lib.hid (fun x hx => by simp at hx)⟩
  case round =>
    obtain ⟨k, rfl, hk, hk20, HA⟩ := hrel
    by_cases hlt : k < n
    · obtain ⟨b, o, x, rfl, hx, hcell, hfx⟩ := H.out.at bsOk (Below.refl _ _) k hlt
      have hcell0 := hcell 0 _ rfl
      have hrd : Rd w x.a x.n x.c x.l := hfx
      have HX := Lib.hid hx
      obtain ⟨xa, xn, xc, xl⟩ := x
      have hx1 := hrd.hle
      have hx2 := hrd.hmax
      dsimp only at hx1 hx2
      have k0 : w.cell? ⟨b, o + k, none⟩ = some (.slice xa xn xc) := by
        have e : o + k * bsE.k + 0 = o + k := by show o + k * 1 + 0 = o + k; omega
        rw [e] at hcell0; exact hcell0
      have g1 : (0 : Int) ≤ (k : Int) := by omega
      have g2 : (k : Int) < (n : Int) := by omega
      clear hx hcell hfx hcell0 hrd
      by_cases h20 : 20 ≤ k
      · have g3 : (20 : Int) ≤ (k : Int) := by omega
        have HF := Lib.hid (show few22 L = false by unfold few22; rw [decide_eq_false (by rw [HL.out]; omega)]; rfl)
        go_wp2_with fail
        go_ret
        exact ⟨one (vbool (by rw [← HQ.out, HF.out])), rfl⟩
      · have g3 : ¬ (20 : Int) ≤ (k : Int) := by omega
        by_cases h300 : xn ≤ 300
        · have g4 : ¬ (300 : Int) < (xn : Int) := by omega
          have HA2 := Lib.hid (show ∀ x ∈ L.take (k + 1), x.n ≤ 300 from fun y hy => by
            obtain ⟨h1, h2⟩ := List.getElem?_eq_some_iff.1 HX.out
            rw [List.take_succ_eq_append_getElem h1, List.mem_append, List.mem_singleton] at hy
            rcases hy with hy | rfl
            · exact HA.out y hy
            · rw [h2]; exact h300)
          go_wp2_with fail
          go_round
          case rel => exact ⟨k + 1, by go_num, by omega, by omega, HA2⟩
          case measure => simp [intOf]; omega
        · have g4 : (300 : Int) < (xn : Int) := by omega
          have HF := Lib.hid (show few22 L = false by
            cases hc : few22 L with
            | false => rfl
            | true =>
              unfold few22 at hc
              simp only [Bool.and_eq_true, List.all_eq_true] at hc
              exact absurd (of_decide_eq_true (hc.2 _ (List.mem_of_getElem? HX.out))) h300)
          go_wp2_with fail
          go_ret
          exact ⟨one (vbool (by rw [← HQ.out, HF.out])), rfl⟩
    · obtain rfl : n = k := by omega
      have HT := Lib.hid (show few22 L = true by
        have h1 := HA.out
        rw [List.take_of_length_le (by rw [HL.out]; exact Nat.le_refl _)] at h1
        unfold few22
        rw [decide_eq_true (by rw [HL.out]; exact hk20)]
        simpa using h1)
      go_wp2_with fail
      go_ret
      exact ⟨one (vbool (by rw [← HQ.out, HT.out])), rfl⟩
set_option maxRecDepth 100000 in
set_option maxHeartbeats 16000000 in
theorem bsclone (a : Option Addr) (n c : Nat) (L : List BsX) (w : World) (h : Ls bsE w a n c L) (hn : n ≤ 1000) :
    Calls Tryd.prog 16 #[.slice a n c] w fun x w' => ∃ v, x = .returned v ∧ LsO bsE w' w.heap.size v L ∧ Below w.heap.size w w' := by
  have H := Lib.hid h
  have hnil := fun (w : World) (a : Option Addr) (n c : Nat) => Lib.run_eql_slice_nil (P := Tryd.prog) w 25 24 a n c 0 0 Tryd.underlying25
  rcases a with _ | ad
  · have h0 := h.hnil rfl
    have h1 := h.hle
    have h2 := h.hlen
    obtain rfl : n = 0 := by omega
    have : L = [] := List.eq_nil_of_length_eq_zero h2
    subst this h0
    clear h h1 h2
    go_enter Tryd.func16, Tryd.ntmps16
    go_wp2_with fail
    go_ret
    exact ⟨_, rfl, LsO.nil _ _, Below.refl _ _⟩
  · clear h
    go_enter Tryd.func16, Tryd.ntmps16
    go_wp2_with (at_builtin; refine append_ls bsOk rfl _ _ rfl w.heap.size _ [] rfl (LsO.empty w _ (Nat.le_refl _)) (some ad) n c L rfl (H.out.mono bsOk ((Below.refl _ _).alloc (Nat.le_refl _) _)) (by simp; omega) (by simp) ?_; intro v2 w2 hN hb2 _ _; have N2 := Lib.hid (show LsO bsE w2 w.heap.size v2 L from hN); have B2 := Lib.hid (((Below.refl _ _).alloc (Nat.le_refl _) _).trans hb2); clear hN hb2)
    go_ret
    exact ⟨_, rfl, N2.out, B2.out⟩
end Go.Proofs.YtnkpcolkhmphmaaDoor.W
