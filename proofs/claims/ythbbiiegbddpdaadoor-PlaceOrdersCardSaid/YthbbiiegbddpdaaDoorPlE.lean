/- LAYER 29 (place): Others, Has of the reference; awake of the laws; law Orders. -/
import Derived.Test.YthbbiiegbddpdaaDoorPlD
set_option linter.unusedSimpArgs false
set_option linter.unusedVariables false
namespace Go.Proofs.YthbbiiegbddpdaaDoor.W
open Go Go.ChangeShapes Go.WideShapes Go.ChangeAt Go.RowKit
open Go.Proofs.YthbbiiegbddpdaaDoor.S
open Go.Proofs.YthbbiiegbddpdaaDoor.P (enc dec shaL shaL_len)

theorem izsame (a a' : Option Addr) (n n' c c' : Nat) (l : List Int) (w : World) (hr : Sl .i64 w a n l) (hr' : Sl .i64 w a' n' l) (hm : n ≤ 1000000) (hm' : n' ≤ 1000000) :
    Calls Tryd.prog 7 #[.slice a n c, .slice a' n' c'] w fun e w' => e = .returned (.bool true) ∧ Below w.heap.size w w' :=
  (izequal a a' n n' c c' l l w hr hr' hm hm').mono fun e w' h => ⟨h.1.trans (by rw [decide_eq_true rfl]), h.2⟩
theorem nodP_len (s : ByteArray) (n : Int) : (nodP s n).length ≤ 3 := by unfold nodP; rw [List.length_take]; omega
set_option maxRecDepth 100000 in
set_option maxHeartbeats 8000000 in
theorem zpothers (s : ByteArray) (n me : Int) (w : World) (hs : s.size ≤ 1000) (hn : SI64 n) :
    Calls Tryd.prog 15 #[.string s, .int .i64 n, .int .i64 me] w fun e w' => ∃ v, e = .returned v ∧ LsO intE w' w.heap.size v ((nodP s n).filter (fun x => !(isP me x))) ∧ Below w.heap.size w w' := by
  have HC := Lib.hid (zpnodes s n w hs hn)
  have hl3 := nodP_len s n
  obtain ⟨L, hL⟩ : ∃ L, nodP s n = L := ⟨_, rfl⟩
  rw [hL] at HC hl3 ⊢
  have HSI := Lib.hid (show ∀ x ∈ L, SI64 x by rw [← hL]; exact nodP_si s n)
  obtain ⟨N, hN⟩ : ∃ N, L.length = N := ⟨_, rfl⟩
  have HN := Lib.hid hN
  rw [hN] at hl3
  clear hL hs hn hN
  go_enter Tryd.func15, Tryd.ntmps15
  go_wp2_with (go_at_call 11; (with_reducible refine HC.out.mono ?_); rintro x w1 ⟨v, rfl, hl, hb⟩; obtain ⟨a, c, rfl, hls, -⟩ := hl.ls intOk HSI.out; rw [HN.out] at hls ⊢; have L1 := Lib.hid hls; have B1 := Lib.hid hb; clear hl hb hls)
  go_loopw [7, 9] (fun vo vi wr => ∃ (k : Nat) (v0 : Value), v0 = vo ∧ vi = .int .i64 (k : Int) ∧ k ≤ N ∧ Hid (LsO intE wr w1.heap.size v0 ((L.take k).filter (fun x => !(isP me x)))) ∧ Hid (Below w1.heap.size w1 wr)) (fun _ vi _ => N - (intOf vi).toNat)
  case atStart => exact ⟨0, _, rfl, rfl, Nat.zero_le _, Lib.hid (LsO.nil _ _), Lib.hid (Below.refl _ _)⟩
  case round =>
    obtain ⟨k, v0, rfl, rfl, hk, HL, HB⟩ := hrel
    by_cases hlt : k < N
    · obtain ⟨b, off, x, rfl, hx, hcell, hfx⟩ := L1.out.at intOk HB.out k hlt
      have c0 : wr.cell? ⟨b, off + k, none⟩ = some (.int .i64 x) := by have := hcell 0 _ rfl; simpa using this
      have SK := Lib.hid hfx
      have HX := Lib.hid (take_nextS L k (fun x => !(isP me x)) x hx)
      have g1 : (0 : Int) ≤ (k : Int) := by omega
      have g2 : (k : Int) < (N : Int) := by omega
      have HF := Lib.hid (show ((L.take k).filter (fun x => !(isP me x))).length ≤ 7 by
        refine Nat.le_trans (List.length_filter_le _ _) ?_
        rw [List.length_take]; omega)
      clear hx hcell hfx
      by_cases hm : x = me
      · have HQ := Lib.hid (show (!(isP me x)) = false by unfold isP; simp [hm])
        have hme : (x == me) = true := by rw [hm]; simp
        clear hm
        go_wp2_with fail
        go_roundw
        case rel => exact ⟨k + 1, _, rfl, by go_num, by omega, Lib.hid (by rw [HX.out, HQ.out]; simpa using HL.out), HB⟩
        case measure => simp [intOf]; omega
      · have HQ := Lib.hid (show (!(isP me x)) = true by unfold isP; simp [hm])
        have hme : (x == me) = false := by rw [beq_eq_false_iff_ne]; exact hm
        go_wp2_with (at_builtin; (with_reducible refine append_ls intOk (o := ⟨some 31, _, _, _, _, _⟩) rfl _ _ rfl w1.heap.size _ _ ?_ (HL.out.kept ((Below.refl _ _).alloc (Nat.le_refl _) _)) (some ⟨wr.heap.size, 0, none⟩) 1 1 [x] ?_ (ls_new intOk wr x _ rfl SK.out) ?_ ?_ ?_); (focus (first | (go_simp; done) | (go_simp; rfl))); (focus (first | (go_simp; done) | (go_simp; rfl))); (focus (have := HF.out; omega)); (focus (have := HB.out.size; simp; omega)); intro v6 w6 hl hb _ _; have L6 := Lib.hid hl; have B6 := Lib.hid ((HB.out.trans ((Below.refl wr.heap.size wr).alloc (Nat.le_refl _) (.cells #[.int .i64 x] 3) |>.mono HB.out.size)).trans hb); clear hl hb)
        go_roundw
        case rel => exact ⟨k + 1, _, rfl, by go_num, by omega, Lib.hid (by rw [HX.out, HQ.out, if_pos rfl]; exact L6.out), B6⟩
        case measure => simp [intOf]; omega
    · obtain rfl : k = N := by omega
      go_wp2_with fail
      go_ret
      refine ⟨_, rfl, HL.out.base B1.out.size |> (fun h => ?_), B1.out.trans (HB.out.mono B1.out.size)⟩
      rw [List.take_of_length_le (by rw [HN.out]; exact Nat.le_refl _)] at h
      exact h
set_option maxRecDepth 100000 in
set_option maxHeartbeats 8000000 in
theorem zphas (s : ByteArray) (n me : Int) (w : World) (hs : s.size ≤ 1000) (hn : SI64 n) :
    Calls Tryd.prog 13 #[.string s, .int .i64 n, .int .i64 me] w fun e w' => e = .returned (.bool (decide (me ∈ nodP s n))) ∧ Below w.heap.size w w' := by
  have HC1 := Lib.hid (zpothers s n me w hs hn)
  have HC2 := Lib.hid (fun w => zpnodes s n w hs hn)
  obtain ⟨L, hL⟩ : ∃ L, nodP s n = L := ⟨_, rfl⟩
  rw [hL] at HC1 HC2 ⊢
  have HSI := Lib.hid (show ∀ x ∈ L, SI64 x by rw [← hL]; exact nodP_si s n)
  obtain ⟨F, hF⟩ : ∃ F, L.filter (fun x => !(isP me x)) = F := ⟨_, rfl⟩
  have HSF := Lib.hid (show ∀ x ∈ F, SI64 x by rw [← hF]; exact fun x hx => HSI.out x (List.mem_filter.1 hx).1)
  obtain ⟨d, hd⟩ : ∃ d, decide (me ∈ L) = d := ⟨_, rfl⟩
  have hlen : d = true ↔ F.length < L.length := by
    rw [← hd, decide_eq_true_iff, ← hF]
    constructor
    · intro h
      refine Nat.lt_of_le_of_ne (List.length_filter_le _ _) fun e => ?_
      have := List.length_filter_eq_length_iff.1 e me h
      simp [isP] at this
    · intro h
      refine Classical.byContradiction fun hne => ?_
      rw [List.filter_eq_self.2 (fun x hx => by unfold isP; simp; rintro rfl; exact hne hx)] at h
      exact Nat.lt_irrefl _ h
  obtain ⟨p, hp⟩ : ∃ p, F.length = p := ⟨_, rfl⟩
  obtain ⟨q, hq⟩ : ∃ q, L.length = q := ⟨_, rfl⟩
  have HP := Lib.hid hp
  have HQ := Lib.hid hq
  rw [hp, hq] at hlen
  rw [hF] at HC1
  rw [hd]
  clear hL hs hn hF hd hp hq
  cases d
  · have g : ¬ (p : Int) < (q : Int) := by simp at hlen; omega
    clear hlen
    go_enter Tryd.func13, Tryd.ntmps13
    go_wp2_with (first
      | (go_at_call 15; (with_reducible refine HC1.out.mono ?_); rintro x w2 ⟨v, rfl, hl, hb⟩; obtain ⟨a, c, rfl, -, -⟩ := hl.ls intOk HSF.out; rw [HP.out]; have B2 := Lib.hid hb; clear hl hb)
      | (go_at_call 11; (with_reducible refine (HC2.out _).mono ?_); rintro x w3 ⟨v, rfl, hl, hb⟩; obtain ⟨a, c, rfl, -, -⟩ := hl.ls intOk HSI.out; rw [HQ.out]; have B3 := Lib.hid (B2.out.trans (hb.mono B2.out.size)); clear hl hb))
    go_ret
    exact ⟨one (vbool (by first | done | rfl | (simp; omega))), B3.out⟩
  · have g : (p : Int) < (q : Int) := by simp at hlen; omega
    clear hlen
    go_enter Tryd.func13, Tryd.ntmps13
    go_wp2_with (first
      | (go_at_call 15; (with_reducible refine HC1.out.mono ?_); rintro x w2 ⟨v, rfl, hl, hb⟩; obtain ⟨a, c, rfl, -, -⟩ := hl.ls intOk HSF.out; rw [HP.out]; have B2 := Lib.hid hb; clear hl hb)
      | (go_at_call 11; (with_reducible refine (HC2.out _).mono ?_); rintro x w3 ⟨v, rfl, hl, hb⟩; obtain ⟨a, c, rfl, -, -⟩ := hl.ls intOk HSI.out; rw [HQ.out]; have B3 := Lib.hid (B2.out.trans (hb.mono B2.out.size)); clear hl hb))
    go_ret
    exact ⟨one (vbool (by first | done | rfl | (simp; omega))), B3.out⟩
theorem three_of (L : List Int) (hl : L.length = 3) (hn : L.Nodup) : ∃ x y z, L = [x, y, z] ∧ x ≠ y ∧ y ≠ z ∧ x ≠ z := by
  match L, hl with
  | [x, y, z], _ =>
    simp at hn
    exact ⟨x, y, z, rfl, hn.1.1, hn.2, hn.1.2⟩
set_option maxRecDepth 100000 in
set_option maxHeartbeats 8000000 in
theorem awake29 (w : World) (hK : Ks w) : Calls Tryd.prog 6 #[] w fun e w' => e = .returned (.bool true) ∧ Below w.heap.size w w' := by
  have HK := Lib.hid hK
  have SA : (⟨#[115]⟩ : ByteArray).size ≤ 1000 := by decide
  have N2 := Lib.hid (show (nodP ⟨#[115]⟩ 2).length = 2 by unfold nodP ordP; rw [List.length_take, ordL_len]; rfl)
  have h3 : (nodP ⟨#[115]⟩ 5).length = 3 := by unfold nodP ordP; rw [List.length_take, ordL_len]; rfl
  obtain ⟨x, y, z, hL, hxy, hyz, hxz⟩ := three_of _ h3 (by unfold nodP; exact (ordL_nodup _ _).sublist (List.take_sublist _ _))
  have N3 := Lib.hid (show ((nodP ⟨#[115]⟩ 5).filter (fun t => !(isP x t))).length = 2 by
    rw [hL]
    have e1 : isP x x = true := by simp [isP]
    have e2 : isP x y = false := by simp [isP]; exact fun e => hxy e.symm
    have e3 : isP x z = false := by simp [isP]; exact fun e => hxz e.symm
    simp [e1, e2, e3])
  have HLL := Lib.hid hL
  have HC1 := Lib.hid (plnodes ⟨#[115]⟩ 5 w hK SA ⟨by decide, by decide⟩)
  have gxy : (x == y) = false := beq_eq_false_iff_ne.2 hxy
  have gyz : (y == z) = false := beq_eq_false_iff_ne.2 hyz
  have nxy : ¬ x = y := hxy
  have nyz : ¬ y = z := hyz
  clear hL hxy hyz hxz h3 hK
  go_enter Tryd.func6, Tryd.ntmps6
  go_wp2_with (go_at_call 10; (with_reducible refine HC1.out.mono ?_); rintro q w1 ⟨v, rfl, hl, hb⟩; rw [HLL.out] at hl; have LO := Lib.hid hl; have B1 := Lib.hid hb; clear hl hb)
  rcases LO.out.owr intOk with ⟨-, h0⟩ | ⟨g, c, Z, hv, hg, ho⟩
  · cases h0
  subst hv
  have hrow := ho.row
  rw [flat_int] at hrow
  have X0 := Lib.hid (show w1.cell? ⟨g, 0, none⟩ = some (.int .i64 x) by rw [hrow.cellV]; rfl)
  have X1 := Lib.hid (show w1.cell? ⟨g, 1, none⟩ = some (.int .i64 y) by rw [hrow.cellV]; rfl)
  have X2 := Lib.hid (show w1.cell? ⟨g, 2, none⟩ = some (.int .i64 z) by rw [hrow.cellV]; rfl)
  have RL := Lib.hid hrow.lt
  have HC2 := Lib.hid (fun w' (hb : Below w1.heap.size w1 w') => plnodes ⟨#[115]⟩ 2 w' (HK.out.below (B1.out.trans (hb.mono B1.out.size)) HK.out.pos) SA ⟨by decide, by decide⟩)
  have HC3 := Lib.hid (fun w' (hb : Below w1.heap.size w1 w') => plothers ⟨#[115]⟩ 5 x w' (HK.out.below (B1.out.trans (hb.mono B1.out.size)) HK.out.pos) SA ⟨by decide, by decide⟩)
  clear hrow ho hg SA
  go_wp2_with fail
  refine region_h (fun v => Below w1.heap.size w1 v) (by kernel_rfl) (by kernel_rfl) (Below.refl _ _).drew ?_
  obtain ⟨d0, hd0⟩ : ∃ wd, w1.drew = wd := ⟨_, rfl⟩
  have J0 : Hid (Below w1.heap.size w1 d0) := Lib.hid (by rw [← hd0]; exact (Below.refl _ _).drew)
  rw [hd0]
  clear hd0
  simp only [List.length_cons, List.length_nil]
  (refine h_read 0 rfl (by kernel_rfl) (by kernel_rfl) (h_free rfl) ?_ ?_ ?_; rotate_left; (focus (intro v hv; go_simp; rfl)); go_simp)
  (refine h_read 1 rfl (by kernel_rfl) (by kernel_rfl) (h_free rfl) ?_ ?_ ?_; rotate_left; (focus (intro v hv; go_simp; rfl)); go_simp)
  (refine h_read 2 rfl (by kernel_rfl) (by kernel_rfl) (h_free rfl) ?_ ?_ ?_; rotate_left; (focus (intro v hv; go_simp; rfl)); go_simp)
  (refine h_read 3 rfl (by kernel_rfl) (by kernel_rfl) (h_free rfl) ?_ ?_ ?_; rotate_left; (focus (intro v hv; go_simp; rfl)); go_simp)
  (refine h_read 4 rfl (by kernel_rfl) (by kernel_rfl) ?_ ?_ ?_ ?_; (focus (go_simp; done)); rotate_left; (focus (intro v hv; go_simp; rfl)); go_simp)
  (refine h_read 5 rfl (by kernel_rfl) (by kernel_rfl) ?_ ?_ ?_ ?_; (focus (go_simp; done)); rotate_left; (focus (intro v hv; go_simp; rfl)); go_simp)
  (refine h_read 6 rfl (by kernel_rfl) (by kernel_rfl) ?_ ?_ ?_ ?_; (focus (go_simp; done)); rotate_left; (focus (intro v hv; have x0 := (hv.cell (p := ⟨g, 0, none⟩) RL.out).trans X0.out; have x1 := (hv.cell (p := ⟨g, 1, none⟩) RL.out).trans X1.out; have x2 := (hv.cell (p := ⟨g, 2, none⟩) RL.out).trans X2.out; go_simp; rfl)); go_simp)
  (refine h_read 7 rfl (by kernel_rfl) (by kernel_rfl) ?_ ?_ ?_ ?_; (focus (go_simp; done)); rotate_left; (focus (intro v hv; go_simp; rfl)); go_simp)
  (refine h_read 8 rfl (by kernel_rfl) (by kernel_rfl) ?_ ?_ ?_ ?_; (focus (go_simp; done)); rotate_left; (focus (intro v hv; go_simp; rfl)); go_simp)
  (refine h_read 9 rfl (by kernel_rfl) (by kernel_rfl) ?_ ?_ ?_ ?_; (focus (go_simp; done)); rotate_left; (focus (intro v hv; have x0 := (hv.cell (p := ⟨g, 0, none⟩) RL.out).trans X0.out; have x1 := (hv.cell (p := ⟨g, 1, none⟩) RL.out).trans X1.out; have x2 := (hv.cell (p := ⟨g, 2, none⟩) RL.out).trans X2.out; go_simp; rfl)); go_simp)
  (refine h_read 10 rfl (by kernel_rfl) (by kernel_rfl) ?_ ?_ ?_ ?_; (focus (go_simp; done)); rotate_left; (focus (intro v hv; go_simp; rfl)); go_simp)
  (refine h_read 11 rfl (by kernel_rfl) (by kernel_rfl) (h_free rfl) ?_ ?_ ?_; rotate_left; (focus (intro v hv; go_simp; rfl)); go_simp)
  (refine h_read 12 rfl (by kernel_rfl) (by kernel_rfl) (h_free rfl) ?_ ?_ ?_; rotate_left; (focus (intro v hv; go_simp; rfl)); go_simp)
  (refine h_read 13 rfl (by kernel_rfl) (by kernel_rfl) ?_ ?_ ?_ ?_; (focus (go_simp; done)); rotate_left; (focus (intro v hv; go_simp; rfl)); go_simp)
  (refine h_read 14 rfl (by kernel_rfl) (by kernel_rfl) ?_ ?_ ?_ ?_; (focus (go_simp; done)); rotate_left; (focus (intro v hv; go_simp; rfl)); go_simp)
  (refine h_read 15 rfl (by kernel_rfl) (by kernel_rfl) ?_ ?_ ?_ ?_; (focus (go_simp; done)); rotate_left; (focus (intro v hv; have x0 := (hv.cell (p := ⟨g, 0, none⟩) RL.out).trans X0.out; have x1 := (hv.cell (p := ⟨g, 1, none⟩) RL.out).trans X1.out; have x2 := (hv.cell (p := ⟨g, 2, none⟩) RL.out).trans X2.out; go_simp; rfl)); go_simp)
  (refine h_read 16 rfl (by kernel_rfl) (by kernel_rfl) ?_ ?_ ?_ ?_; (focus (go_simp; done)); rotate_left; (focus (intro v hv; go_simp; rfl)); go_simp)
  (refine h_read 17 rfl (by kernel_rfl) (by kernel_rfl) ?_ ?_ ?_ ?_; (focus (go_simp; done)); rotate_left; (focus (intro v hv; go_simp; rfl)); go_simp)
  (refine h_read 18 rfl (by kernel_rfl) (by kernel_rfl) ?_ ?_ ?_ ?_; (focus (go_simp; done)); rotate_left; (focus (intro v hv; have x0 := (hv.cell (p := ⟨g, 0, none⟩) RL.out).trans X0.out; have x1 := (hv.cell (p := ⟨g, 1, none⟩) RL.out).trans X1.out; have x2 := (hv.cell (p := ⟨g, 2, none⟩) RL.out).trans X2.out; go_simp; rfl)); go_simp)
  (refine h_read 19 rfl (by kernel_rfl) (by kernel_rfl) ?_ ?_ ?_ ?_; (focus (go_simp; done)); rotate_left; (focus (intro v hv; go_simp; rfl)); go_simp)
  (refine h_read 20 rfl (by kernel_rfl) (by kernel_rfl) (h_free rfl) ?_ ?_ ?_; rotate_left; (focus (intro v hv; go_simp; rfl)); go_simp)
  (refine h_read 21 rfl (by kernel_rfl) (by kernel_rfl) (h_free rfl) ?_ ?_ ?_; rotate_left; (focus (intro v hv; go_simp; rfl)); go_simp)
  (refine h_call 22 rfl (by kernel_rfl) ?_ 10 ?_ ?_ ?_; (focus (go_simp; done)); rotate_left; (focus (go_simp; rfl)))
  refine (HC2.out d0 (J0.out)).mono ?_
  rintro z d1 ⟨v, rfl, hl, hb⟩
  obtain ⟨a2, c2, rfl, -, -⟩ := hl.ls intOk (nodP_si _ _)
  have J1 := Lib.hid (J0.out.trans (hb.mono J0.out.size))
  clear hl hb
  refine ⟨_, rfl, J1.out, ?_⟩
  rw [N2.out]
  go_simp
  (refine h_read 23 rfl (by kernel_rfl) (by kernel_rfl) ?_ ?_ ?_ ?_; (focus (go_simp; done)); rotate_left; (focus (intro v hv; go_simp; rfl)); go_simp)
  (refine h_read 24 rfl (by kernel_rfl) (by kernel_rfl) ?_ ?_ ?_ ?_; (focus (go_simp; done)); rotate_left; (focus (intro v hv; go_simp; rfl)); go_simp)
  (refine h_read 25 rfl (by kernel_rfl) (by kernel_rfl) (h_free rfl) ?_ ?_ ?_; rotate_left; (focus (intro v hv; go_simp; rfl)); go_simp)
  (refine h_read 26 rfl (by kernel_rfl) (by kernel_rfl) (h_free rfl) ?_ ?_ ?_; rotate_left; (focus (intro v hv; go_simp; rfl)); go_simp)
  (refine h_read 27 rfl (by kernel_rfl) (by kernel_rfl) ?_ ?_ ?_ ?_; (focus (go_simp; done)); rotate_left; (focus (intro v hv; go_simp; rfl)); go_simp)
  (refine h_read 28 rfl (by kernel_rfl) (by kernel_rfl) ?_ ?_ ?_ ?_; (focus (go_simp; done)); rotate_left; (focus (intro v hv; go_simp; rfl)); go_simp)
  (refine h_read 29 rfl (by kernel_rfl) (by kernel_rfl) ?_ ?_ ?_ ?_; (focus (go_simp; done)); rotate_left; (focus (intro v hv; have x0 := (hv.cell (p := ⟨g, 0, none⟩) RL.out).trans X0.out; have x1 := (hv.cell (p := ⟨g, 1, none⟩) RL.out).trans X1.out; have x2 := (hv.cell (p := ⟨g, 2, none⟩) RL.out).trans X2.out; go_simp; rfl)); go_simp)
  (refine h_call 30 rfl (by kernel_rfl) ?_ 14 ?_ ?_ ?_; (focus (go_simp; done)); rotate_left; (focus (go_simp; rfl)))
  refine (HC3.out d1 (J1.out)).mono ?_
  rintro z d2 ⟨v, rfl, hl, hb⟩
  obtain ⟨a3, c3, rfl, -, -⟩ := hl.ls intOk (fun x hx => nodP_si _ _ x (List.mem_filter.1 hx).1)
  have J2 := Lib.hid (J1.out.trans (hb.mono J1.out.size))
  clear hl hb
  refine ⟨_, rfl, J2.out, ?_⟩
  rw [N3.out]
  go_simp
  (refine h_read 31 rfl (by kernel_rfl) (by kernel_rfl) ?_ ?_ ?_ ?_; (focus (go_simp; done)); rotate_left; (focus (intro v hv; go_simp; rfl)); go_simp)
  (refine h_read 32 rfl (by kernel_rfl) (by kernel_rfl) ?_ ?_ ?_ ?_; (focus (go_simp; done)); rotate_left; (focus (intro v hv; go_simp; rfl)); go_simp)
  (refine h_read 33 rfl (by kernel_rfl) (by kernel_rfl) (h_free rfl) ?_ ?_ ?_; rotate_left; (focus (intro v hv; go_simp; rfl)); go_simp)
  (refine h_read 34 rfl (by kernel_rfl) (by kernel_rfl) (h_free rfl) ?_ ?_ ?_; rotate_left; (focus (intro v hv; go_simp; rfl)); go_simp)
  refine h_done (by kernel_rfl) ?_
  go_wp2_with fail
  go_ret
  refine ⟨?_, B1.out.trans (J2.out.mono B1.out.size)⟩
  exact one (vbool (by simp [nxy, nyz]))
set_option maxRecDepth 100000 in
set_option maxHeartbeats 16000000 in
theorem law_PlaceOrders (s : ByteArray) (n me : Int) (w : World) (hK : Ks w) (_hs : s.size ≤ maxLen) (wn : (Lit.int .i64 n).wf = true) (_wm : (Lit.int .i64 me).wf = true) :
    Calls Tryd.prog 3 #[.string s, .int .i64 n, .int .i64 me] w fun x w' => x = .returned (.bool true) ∧ Below w.heap.size w w' := by
  have hn : SI64 n := bd wn
  have HK := Lib.hid hK
  have HA := Lib.hid (fun w' (hb : Below w.heap.size w w') => awake29 w' (HK.out.below hb HK.out.pos))
  clear hK wn
  by_cases f1 : s.size ≤ 500
  rotate_left
  · have g1 : (500 : Int) < (s.size : Int) := by omega
    go_enter Tryd.func3, Tryd.ntmps3
    go_wp2_with (go_at_call 6; (with_reducible refine (HA.out _ (Below.refl _ _)).mono ?_); rintro x wb ⟨rfl, hb⟩; have Bb := Lib.hid hb; clear hb)
    go_ret
    exact ⟨rfl, Bb.out⟩
  have g1 : ¬ (500 : Int) < (s.size : Int) := by omega
  have hs : s.size ≤ 1000 := by omega
  have HC1 := Lib.hid (fun w' (hb : Below w.heap.size w w') => plorder s n w' (HK.out.below hb HK.out.pos) hs hn)
  have HC2 := Lib.hid (fun w' => zporder s n w' hs hn)
  have HC3 := Lib.hid (fun w' (hb : Below w.heap.size w w') => plnodes s n w' (HK.out.below hb HK.out.pos) hs hn)
  have HC4 := Lib.hid (fun w' => zpnodes s n w' hs hn)
  have HC5 := Lib.hid (fun w' (hb : Below w.heap.size w w') => plhas s n me w' (HK.out.below hb HK.out.pos) hs hn)
  have HC6 := Lib.hid (fun w' => zphas s n me w' hs hn)
  have HC7 := Lib.hid (fun w' (hb : Below w.heap.size w w') => plothers s n me w' (HK.out.below hb HK.out.pos) hs hn)
  have HC8 := Lib.hid (fun w' => zpothers s n me w' hs hn)
  have HS1 := Lib.hid (ordP_si s n)
  have HS2 := Lib.hid (nodP_si s n)
  have l1 : (ordP s n).length ≤ 7 := by unfold ordP; rw [ordL_len]; omega
  have l2 := nodP_len s n
  obtain ⟨L1, hL1⟩ : ∃ L, ordP s n = L := ⟨_, rfl⟩
  obtain ⟨L2, hL2⟩ : ∃ L, nodP s n = L := ⟨_, rfl⟩
  have l3 : ((nodP s n).filter (fun x => !(isP me x))).length ≤ 3 := Nat.le_trans (List.length_filter_le _ _) l2
  have HS3 := Lib.hid (show ∀ x ∈ (nodP s n).filter (fun x => !(isP me x)), SI64 x from fun x hx => nodP_si s n x (List.mem_filter.1 hx).1)
  obtain ⟨L3, hL3⟩ : ∃ L, (nodP s n).filter (fun x => !(isP me x)) = L := ⟨_, rfl⟩
  obtain ⟨d, hd⟩ : ∃ d, decide (me ∈ nodP s n) = d := ⟨_, rfl⟩
  rw [hL1] at HC1 HC2 HS1 l1
  rw [hd] at HC5 HC6
  rw [hL3] at HC7 HC8 HS3 l3
  rw [hL2] at HC3 HC4 HS2 l2
  obtain ⟨n1, hn1⟩ : ∃ k, L1.length = k := ⟨_, rfl⟩
  obtain ⟨n2, hn2⟩ : ∃ k, L2.length = k := ⟨_, rfl⟩
  obtain ⟨n3, hn3⟩ : ∃ k, L3.length = k := ⟨_, rfl⟩
  rw [hn1] at l1
  rw [hn2] at l2
  rw [hn3] at l3
  have N1 := Lib.hid hn1
  have N2 := Lib.hid hn2
  have N3 := Lib.hid hn3
  clear hL1 hL2 hL3 hd hn1 hn2 hn3 hs hn f1
  go_enter Tryd.func3, Tryd.ntmps3
  go_wp2_with (first
    | (go_at_call 8; (with_reducible refine (HC1.out _ (Below.refl _ _)).mono ?_); rintro x w1 ⟨v, rfl, hl, hb⟩; obtain ⟨a1, c1, rfl, hls, -⟩ := hl.ls intOk HS1.out; rw [N1.out] at hls ⊢; have S1 := Lib.hid hls.sl; have B1 := Lib.hid hb; clear hl hb hls)
    | (go_at_call 9; (with_reducible refine (HC2.out _).mono ?_); rintro x w2 ⟨v, rfl, hl, hb⟩; obtain ⟨a2, c2, rfl, hls, -⟩ := hl.ls intOk HS1.out; rw [N1.out] at hls ⊢; have S2 := Lib.hid hls.sl; have S1' := Lib.hid (S1.out.mono hb); have B2 := Lib.hid (B1.out.trans (hb.mono B1.out.size)); have E2 := Lib.hid (izsame a1 a2 n1 n1 c1 c2 L1 w2 S1'.out S2.out (by omega) (by omega)); clear hl hb hls S1)
    | (go_at_call 7; (with_reducible refine E2.out.mono ?_); rintro x w3 ⟨rfl, hb⟩; have B3 := Lib.hid (B2.out.trans (hb.mono B2.out.size)); clear hb E2)
    | (go_at_call 10; (with_reducible refine (HC3.out _ B3.out).mono ?_); rintro x w4 ⟨v, rfl, hl, hb⟩; obtain ⟨a4, c4, rfl, hls, -⟩ := hl.ls intOk HS2.out; rw [N2.out] at hls ⊢; have S4 := Lib.hid hls.sl; have B4 := Lib.hid (B3.out.trans (hb.mono B3.out.size)); clear hl hb hls)
    | (go_at_call 11; (with_reducible refine (HC4.out _).mono ?_); rintro x w5 ⟨v, rfl, hl, hb⟩; obtain ⟨a5, c5, rfl, hls, -⟩ := hl.ls intOk HS2.out; rw [N2.out] at hls ⊢; have S5 := Lib.hid hls.sl; have S4' := Lib.hid (S4.out.mono hb); have B5 := Lib.hid (B4.out.trans (hb.mono B4.out.size)); have E5 := Lib.hid (izsame a4 a5 n2 n2 c4 c5 L2 w5 S4'.out S5.out (by omega) (by omega)); clear hl hb hls S4)
    | (go_at_call 7; (with_reducible refine E5.out.mono ?_); rintro x w6 ⟨rfl, hb⟩; have B6 := Lib.hid (B5.out.trans (hb.mono B5.out.size)); clear hb E5)
    | (go_at_call 12; (with_reducible refine (HC5.out _ B6.out).mono ?_); rintro x w7 ⟨rfl, hb⟩; have B7 := Lib.hid (B6.out.trans (hb.mono B6.out.size)); clear hb)
    | (go_at_call 13; (with_reducible refine (HC6.out _).mono ?_); rintro x w8 ⟨rfl, hb⟩; have B8 := Lib.hid (B7.out.trans (hb.mono B7.out.size)); clear hb)
    | (go_at_call 14; (with_reducible refine (HC7.out _ B8.out).mono ?_); rintro x w9 ⟨v, rfl, hl, hb⟩; obtain ⟨a9, c9, rfl, hls, -⟩ := hl.ls intOk HS3.out; rw [N3.out] at hls ⊢; have S9 := Lib.hid hls.sl; have B9 := Lib.hid (B8.out.trans (hb.mono B8.out.size)); clear hl hb hls)
    | (go_at_call 15; (with_reducible refine (HC8.out _).mono ?_); rintro x w10 ⟨v, rfl, hl, hb⟩; obtain ⟨a10, c10, rfl, hls, -⟩ := hl.ls intOk HS3.out; rw [N3.out] at hls ⊢; have S10 := Lib.hid hls.sl; have S9' := Lib.hid (S9.out.mono hb); have B10 := Lib.hid (B9.out.trans (hb.mono B9.out.size)); have E10 := Lib.hid (izsame a9 a10 n3 n3 c9 c10 L3 w10 S9'.out S10.out (by omega) (by omega)); clear hl hb hls S9)
    | (go_at_call 7; (with_reducible refine E10.out.mono ?_); rintro x w11 ⟨rfl, hb⟩; have B11 := Lib.hid (B10.out.trans (hb.mono B10.out.size)); clear hb E10)
    | (go_at_call 6; (with_reducible refine (HA.out _ B11.out).mono ?_); rintro x wb ⟨rfl, hb⟩; have Bb := Lib.hid (B11.out.trans (hb.mono B11.out.size)); clear hb))
  all_goals (go_ret; exact ⟨rfl, Bb.out⟩)
end Go.Proofs.YthbbiiegbddpdaaDoor.W
