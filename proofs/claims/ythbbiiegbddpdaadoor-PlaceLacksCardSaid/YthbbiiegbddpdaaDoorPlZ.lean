import Derived.Test.YthbbiiegbddpdaaDoorPlD
import Derived.Test.YthbbiiegbddpdaaDoorStr
import Derived.Test.YthbbiiegbddpdaaDoorLsC
import Derived.Test.YthbbiiegbddpdaaDoorStl
import Derived.Test.YthbbiiegbddpdaaDoorSm
import Derived.Test.YthbbiiegbddpdaaDoorStk
/- LAYER 29 (place): Others, Has of the reference; awake of the laws; law Orders. -/
set_option linter.unusedSimpArgs false
set_option linter.unusedVariables false
namespace Go.Proofs.YthbbiiegbddpdaaDoor.W
open Go Go.ChangeShapes Go.WideShapes Go.ChangeAt Go.RowKit
open Go.Proofs.YthbbiiegbddpdaaDoor.S
open Go.Proofs.YthbbiiegbddpdaaDoor.P (enc dec shaL shaL_len)

theorem izsame (a a' : Option Addr) (n n' c c' : Nat) (l : List Int) (w : World) (hr : Sl .i64 w a n l) (hr' : Sl .i64 w a' n' l) (hm : n ≤ 1000000) (hm' : n' ≤ 1000000) :
    Calls Tryd.prog 7 #[.slice a n c, .slice a' n' c'] w fun e w' => e = .returned (.bool true) ∧ Below w.heap.size w w' :=
  (izequal a a' n n' c c' l l w hr hr' hm hm').mono fun e w' h => ⟨h.1.trans (by rw [decide_eq_true rfl]), h.2⟩
theorem nodP_len (s : ByteArray) (n : Int) : (nodP s n).length ≤ 3 := by unfold nodP; rw [List.length_take]; omega
set_option maxRecDepth 100000 in
set_option maxHeartbeats 8000000 in
theorem zpothers (s : ByteArray) (n me : Int) (w : World) (hs : s.size ≤ 1000) (hn : SI64 n) :
    Calls Tryd.prog 15 #[.string s, .int .i64 n, .int .i64 me] w fun e w' => ∃ v, e = .returned v ∧ LsO intE w' w.heap.size v ((nodP s n).filter (fun x => !(isP me x))) ∧ Below w.heap.size w w' := by
  have HC := Lib.hid (zpnodes s n w hs hn)
  have hl3 := nodP_len s n
  obtain ⟨L, hL⟩ : ∃ L, nodP s n = L := ⟨_, rfl⟩
  rw [hL] at HC hl3 ⊢
  have HSI := Lib.hid (show ∀ x ∈ L, SI64 x by rw [← hL]; exact nodP_si s n)
  obtain ⟨N, hN⟩ : ∃ N, L.length = N := ⟨_, rfl⟩
  have HN := Lib.hid hN
  rw [hN] at hl3
  clear hL hs hn hN
  go_enter Tryd.func15, Tryd.ntmps15
  go_wp2_with (go_at_call 11; (with_reducible refine HC.out.mono ?_); rintro x w1 ⟨v, rfl, hl, hb⟩; obtain ⟨a, c, rfl, hls, -⟩ := hl.ls intOk HSI.out; rw [HN.out] at hls ⊢; have L1 := Lib.hid hls; have B1 := Lib.hid hb; clear hl hb hls)
  go_loopw [7, 9] (fun vo vi wr => ∃ (k : Nat) (v0 : Value), v0 = vo ∧ vi = .int .i64 (k : Int) ∧ k ≤ N ∧ Hid (LsO intE wr w1.heap.size v0 ((L.take k).filter (fun x => !(isP me x)))) ∧ Hid (Below w1.heap.size w1 wr)) (fun _ vi _ => N - (intOf vi).toNat)
  case atStart => exact ⟨0, _, rfl, rfl, Nat.zero_le _, Lib.hid (LsO.nil _ _), Lib.hid (Below.refl _ _)⟩
  case round =>
    obtain ⟨k, v0, rfl, rfl, hk, HL, HB⟩ := hrel
    by_cases hlt : k < N
    · obtain ⟨b, off, x, rfl, hx, hcell, hfx⟩ := L1.out.at intOk HB.out k hlt
      have c0 : wr.cell? ⟨b, off + k, none⟩ = some (.int .i64 x) := by have := hcell 0 _ rfl; simpa using this
      have SK := Lib.hid hfx
      have HX := Lib.hid (take_nextS L k (fun x => !(isP me x)) x hx)
      have g1 : (0 : Int) ≤ (k : Int) := by omega
      have g2 : (k : Int) < (N : Int) := by omega
      have HF := Lib.hid (show ((L.take k).filter (fun x => !(isP me x))).length ≤ 7 by
        refine Nat.le_trans (List.length_filter_le _ _) ?_
        rw [List.length_take]; omega)
      clear hx hcell hfx
      by_cases hm : x = me
      · have HQ := Lib.hid (show (!(isP me x)) = false by unfold isP; simp [hm])
        have hme : (x == me) = true := by rw [hm]; simp
        clear hm
        go_wp2_with fail
        go_roundw
        case rel => exact ⟨k + 1, _, rfl, by go_num, by omega, Lib.hid (by rw [HX.out, HQ.out]; simpa using HL.out), HB⟩
        case measure => simp [intOf]; omega
      · have HQ := Lib.hid (show (!(isP me x)) = true by unfold isP; simp [hm])
        have hme : (x == me) = false := by rw [beq_eq_false_iff_ne]; exact hm
        go_wp2_with (at_builtin; (with_reducible refine append_ls intOk (o := ⟨some 31, _, _, _, _, _⟩) rfl _ _ rfl w1.heap.size _ _ ?_ (HL.out.kept ((Below.refl _ _).alloc (Nat.le_refl _) _)) (some ⟨wr.heap.size, 0, none⟩) 1 1 [x] ?_ (ls_new intOk wr x _ rfl SK.out) ?_ ?_ ?_); (focus (first | (go_simp; done) | (go_simp; rfl))); (focus (first | (go_simp; done) | (go_simp; rfl))); (focus (have := HF.out; omega)); (focus (have := HB.out.size; simp; omega)); intro v6 w6 hl hb _ _; have L6 := Lib.hid hl; have B6 := Lib.hid ((HB.out.trans ((Below.refl wr.heap.size wr).alloc (Nat.le_refl _) (.cells #[.int .i64 x] 3) |>.mono HB.out.size)).trans hb); clear hl hb)
        go_roundw
        case rel => exact ⟨k + 1, _, rfl, by go_num, by omega, Lib.hid (by rw [HX.out, HQ.out, if_pos rfl]; exact L6.out), B6⟩
        case measure => simp [intOf]; omega
    · obtain rfl : k = N := by omega
      go_wp2_with fail
      go_ret
      refine ⟨_, rfl, HL.out.base B1.out.size |> (fun h => ?_), B1.out.trans (HB.out.mono B1.out.size)⟩
      rw [List.take_of_length_le (by rw [HN.out]; exact Nat.le_refl _)] at h
      exact h
set_option maxRecDepth 100000 in
set_option maxHeartbeats 8000000 in
theorem zphas (s : ByteArray) (n me : Int) (w : World) (hs : s.size ≤ 1000) (hn : SI64 n) :
    Calls Tryd.prog 13 #[.string s, .int .i64 n, .int .i64 me] w fun e w' => e = .returned (.bool (decide (me ∈ nodP s n))) ∧ Below w.heap.size w w' := by
  have HC1 := Lib.hid (zpothers s n me w hs hn)
  have HC2 := Lib.hid (fun w => zpnodes s n w hs hn)
  obtain ⟨L, hL⟩ : ∃ L, nodP s n = L := ⟨_, rfl⟩
  rw [hL] at HC1 HC2 ⊢
  have HSI := Lib.hid (show ∀ x ∈ L, SI64 x by rw [← hL]; exact nodP_si s n)
  obtain ⟨F, hF⟩ : ∃ F, L.filter (fun x => !(isP me x)) = F := ⟨_, rfl⟩
  have HSF := Lib.hid (show ∀ x ∈ F, SI64 x by rw [← hF]; exact fun x hx => HSI.out x (List.mem_filter.1 hx).1)
  obtain ⟨d, hd⟩ : ∃ d, decide (me ∈ L) = d := ⟨_, rfl⟩
  have hlen : d = true ↔ F.length < L.length := by
    rw [← hd, decide_eq_true_iff, ← hF]
    constructor
    · intro h
      refine Nat.lt_of_le_of_ne (List.length_filter_le _ _) fun e => ?_
      have := List.length_filter_eq_length_iff.1 e me h
      simp [isP] at this
    · intro h
      refine Classical.byContradiction fun hne => ?_
      rw [List.filter_eq_self.2 (fun x hx => by unfold isP; simp; rintro rfl; exact hne hx)] at h
      exact Nat.lt_irrefl _ h
  obtain ⟨p, hp⟩ : ∃ p, F.length = p := ⟨_, rfl⟩
  obtain ⟨q, hq⟩ : ∃ q, L.length = q := ⟨_, rfl⟩
  have HP := Lib.hid hp
  have HQ := Lib.hid hq
  rw [hp, hq] at hlen
  rw [hF] at HC1
  rw [hd]
  clear hL hs hn hF hd hp hq
  cases d
  · have g : ¬ (p : Int) < (q : Int) := by simp at hlen; omega
    clear hlen
    go_enter Tryd.func13, Tryd.ntmps13
    go_wp2_with (first
      | (go_at_call 15; (with_reducible refine HC1.out.mono ?_); rintro x w2 ⟨v, rfl, hl, hb⟩; obtain ⟨a, c, rfl, -, -⟩ := hl.ls intOk HSF.out; rw [HP.out]; have B2 := Lib.hid hb; clear hl hb)
      | (go_at_call 11; (with_reducible refine (HC2.out _).mono ?_); rintro x w3 ⟨v, rfl, hl, hb⟩; obtain ⟨a, c, rfl, -, -⟩ := hl.ls intOk HSI.out; rw [HQ.out]; have B3 := Lib.hid (B2.out.trans (hb.mono B2.out.size)); clear hl hb))
    go_ret
    exact ⟨one (vbool (by first | done | rfl | (simp; omega))), B3.out⟩
  · have g : (p : Int) < (q : Int) := by simp at hlen; omega
    clear hlen
    go_enter Tryd.func13, Tryd.ntmps13
    go_wp2_with (first
      | (go_at_call 15; (with_reducible refine HC1.out.mono ?_); rintro x w2 ⟨v, rfl, hl, hb⟩; obtain ⟨a, c, rfl, -, -⟩ := hl.ls intOk HSF.out; rw [HP.out]; have B2 := Lib.hid hb; clear hl hb)
      | (go_at_call 11; (with_reducible refine (HC2.out _).mono ?_); rintro x w3 ⟨v, rfl, hl, hb⟩; obtain ⟨a, c, rfl, -, -⟩ := hl.ls intOk HSI.out; rw [HQ.out]; have B3 := Lib.hid (B2.out.trans (hb.mono B2.out.size)); clear hl hb))
    go_ret
    exact ⟨one (vbool (by first | done | rfl | (simp; omega))), B3.out⟩
theorem three_of (L : List Int) (hl : L.length = 3) (hn : L.Nodup) : ∃ x y z, L = [x, y, z] ∧ x ≠ y ∧ y ≠ z ∧ x ≠ z := by
  match L, hl with
  | [x, y, z], _ =>
    simp at hn
    exact ⟨x, y, z, rfl, hn.1.1, hn.2, hn.1.2⟩
set_option maxRecDepth 100000 in
set_option maxHeartbeats 8000000 in
theorem awake29 (w : World) (hK : Ks w) : Calls Tryd.prog 6 #[] w fun e w' => e = .returned (.bool true) ∧ Below w.heap.size w w' := by
  have HK := Lib.hid hK
  have SA : (⟨#[115]⟩ : ByteArray).size ≤ 1000 := by decide
  have N2 := Lib.hid (show (nodP ⟨#[115]⟩ 2).length = 2 by unfold nodP ordP; rw [List.length_take, ordL_len]; rfl)
  have h3 : (nodP ⟨#[115]⟩ 5).length = 3 := by unfold nodP ordP; rw [List.length_take, ordL_len]; rfl
  obtain ⟨x, y, z, hL, hxy, hyz, hxz⟩ := three_of _ h3 (by unfold nodP; exact (ordL_nodup _ _).sublist (List.take_sublist _ _))
  have N3 := Lib.hid (show ((nodP ⟨#[115]⟩ 5).filter (fun t => !(isP x t))).length = 2 by
    rw [hL]
    have e1 : isP x x = true := by simp [isP]
    have e2 : isP x y = false := by simp [isP]; exact fun e => hxy e.symm
    have e3 : isP x z = false := by simp [isP]; exact fun e => hxz e.symm
    simp [e1, e2, e3])
  have HLL := Lib.hid hL
  have HC1 := Lib.hid (plnodes ⟨#[115]⟩ 5 w hK SA ⟨by decide, by decide⟩)
  have gxy : (x == y) = false := beq_eq_false_iff_ne.2 hxy
  have gyz : (y == z) = false := beq_eq_false_iff_ne.2 hyz
  have nxy : ¬ x = y := hxy
  have nyz : ¬ y = z := hyz
  clear hL hxy hyz hxz h3 hK
  go_enter Tryd.func6, Tryd.ntmps6
  go_wp2_with (go_at_call 10; (with_reducible refine HC1.out.mono ?_); rintro q w1 ⟨v, rfl, hl, hb⟩; rw [HLL.out] at hl; have LO := Lib.hid hl; have B1 := Lib.hid hb; clear hl hb)
  rcases LO.out.owr intOk with ⟨-, h0⟩ | ⟨g, c, Z, hv, hg, ho⟩
  · cases h0
  subst hv
  have hrow := ho.row
  rw [flat_int] at hrow
  have X0 := Lib.hid (show w1.cell? ⟨g, 0, none⟩ = some (.int .i64 x) by rw [hrow.cellV]; rfl)
  have X1 := Lib.hid (show w1.cell? ⟨g, 1, none⟩ = some (.int .i64 y) by rw [hrow.cellV]; rfl)
  have X2 := Lib.hid (show w1.cell? ⟨g, 2, none⟩ = some (.int .i64 z) by rw [hrow.cellV]; rfl)
  have RL := Lib.hid hrow.lt
  have HC2 := Lib.hid (fun w' (hb : Below w1.heap.size w1 w') => plnodes ⟨#[115]⟩ 2 w' (HK.out.below (B1.out.trans (hb.mono B1.out.size)) HK.out.pos) SA ⟨by decide, by decide⟩)
  have HC3 := Lib.hid (fun w' (hb : Below w1.heap.size w1 w') => plothers ⟨#[115]⟩ 5 x w' (HK.out.below (B1.out.trans (hb.mono B1.out.size)) HK.out.pos) SA ⟨by decide, by decide⟩)
  clear hrow ho hg SA
  go_wp2_with fail
  refine region_h (fun v => Below w1.heap.size w1 v) (by kernel_rfl) (by kernel_rfl) (Below.refl _ _).drew ?_
  obtain ⟨d0, hd0⟩ : ∃ wd, w1.drew = wd := ⟨_, rfl⟩
  have J0 : Hid (Below w1.heap.size w1 d0) := Lib.hid (by rw [← hd0]; exact (Below.refl _ _).drew)
  rw [hd0]
  clear hd0
  simp only [List.length_cons, List.length_nil]
  (refine h_read 0 rfl (by kernel_rfl) (by kernel_rfl) (h_free rfl) ?_ ?_ ?_; rotate_left; (focus (intro v hv; go_simp; rfl)); go_simp)
  (refine h_read 1 rfl (by kernel_rfl) (by kernel_rfl) (h_free rfl) ?_ ?_ ?_; rotate_left; (focus (intro v hv; go_simp; rfl)); go_simp)
  (refine h_read 2 rfl (by kernel_rfl) (by kernel_rfl) (h_free rfl) ?_ ?_ ?_; rotate_left; (focus (intro v hv; go_simp; rfl)); go_simp)
  (refine h_read 3 rfl (by kernel_rfl) (by kernel_rfl) (h_free rfl) ?_ ?_ ?_; rotate_left; (focus (intro v hv; go_simp; rfl)); go_simp)
  (refine h_read 4 rfl (by kernel_rfl) (by kernel_rfl) ?_ ?_ ?_ ?_; (focus (go_simp; done)); rotate_left; (focus (intro v hv; go_simp; rfl)); go_simp)
  (refine h_read 5 rfl (by kernel_rfl) (by kernel_rfl) ?_ ?_ ?_ ?_; (focus (go_simp; done)); rotate_left; (focus (intro v hv; go_simp; rfl)); go_simp)
  (refine h_read 6 rfl (by kernel_rfl) (by kernel_rfl) ?_ ?_ ?_ ?_; (focus (go_simp; done)); rotate_left; (focus (intro v hv; have x0 := (hv.cell (p := ⟨g, 0, none⟩) RL.out).trans X0.out; have x1 := (hv.cell (p := ⟨g, 1, none⟩) RL.out).trans X1.out; have x2 := (hv.cell (p := ⟨g, 2, none⟩) RL.out).trans X2.out; go_simp; rfl)); go_simp)
  (refine h_read 7 rfl (by kernel_rfl) (by kernel_rfl) ?_ ?_ ?_ ?_; (focus (go_simp; done)); rotate_left; (focus (intro v hv; go_simp; rfl)); go_simp)
  (refine h_read 8 rfl (by kernel_rfl) (by kernel_rfl) ?_ ?_ ?_ ?_; (focus (go_simp; done)); rotate_left; (focus (intro v hv; go_simp; rfl)); go_simp)
  (refine h_read 9 rfl (by kernel_rfl) (by kernel_rfl) ?_ ?_ ?_ ?_; (focus (go_simp; done)); rotate_left; (focus (intro v hv; have x0 := (hv.cell (p := ⟨g, 0, none⟩) RL.out).trans X0.out; have x1 := (hv.cell (p := ⟨g, 1, none⟩) RL.out).trans X1.out; have x2 := (hv.cell (p := ⟨g, 2, none⟩) RL.out).trans X2.out; go_simp; rfl)); go_simp)
  (refine h_read 10 rfl (by kernel_rfl) (by kernel_rfl) ?_ ?_ ?_ ?_; (focus (go_simp; done)); rotate_left; (focus (intro v hv; go_simp; rfl)); go_simp)
  (refine h_read 11 rfl (by kernel_rfl) (by kernel_rfl) (h_free rfl) ?_ ?_ ?_; rotate_left; (focus (intro v hv; go_simp; rfl)); go_simp)
  (refine h_read 12 rfl (by kernel_rfl) (by kernel_rfl) (h_free rfl) ?_ ?_ ?_; rotate_left; (focus (intro v hv; go_simp; rfl)); go_simp)
  (refine h_read 13 rfl (by kernel_rfl) (by kernel_rfl) ?_ ?_ ?_ ?_; (focus (go_simp; done)); rotate_left; (focus (intro v hv; go_simp; rfl)); go_simp)
  (refine h_read 14 rfl (by kernel_rfl) (by kernel_rfl) ?_ ?_ ?_ ?_; (focus (go_simp; done)); rotate_left; (focus (intro v hv; go_simp; rfl)); go_simp)
  (refine h_read 15 rfl (by kernel_rfl) (by kernel_rfl) ?_ ?_ ?_ ?_; (focus (go_simp; done)); rotate_left; (focus (intro v hv; have x0 := (hv.cell (p := ⟨g, 0, none⟩) RL.out).trans X0.out; have x1 := (hv.cell (p := ⟨g, 1, none⟩) RL.out).trans X1.out; have x2 := (hv.cell (p := ⟨g, 2, none⟩) RL.out).trans X2.out; go_simp; rfl)); go_simp)
  (refine h_read 16 rfl (by kernel_rfl) (by kernel_rfl) ?_ ?_ ?_ ?_; (focus (go_simp; done)); rotate_left; (focus (intro v hv; go_simp; rfl)); go_simp)
  (refine h_read 17 rfl (by kernel_rfl) (by kernel_rfl) ?_ ?_ ?_ ?_; (focus (go_simp; done)); rotate_left; (focus (intro v hv; go_simp; rfl)); go_simp)
  (refine h_read 18 rfl (by kernel_rfl) (by kernel_rfl) ?_ ?_ ?_ ?_; (focus (go_simp; done)); rotate_left; (focus (intro v hv; have x0 := (hv.cell (p := ⟨g, 0, none⟩) RL.out).trans X0.out; have x1 := (hv.cell (p := ⟨g, 1, none⟩) RL.out).trans X1.out; have x2 := (hv.cell (p := ⟨g, 2, none⟩) RL.out).trans X2.out; go_simp; rfl)); go_simp)
  (refine h_read 19 rfl (by kernel_rfl) (by kernel_rfl) ?_ ?_ ?_ ?_; (focus (go_simp; done)); rotate_left; (focus (intro v hv; go_simp; rfl)); go_simp)
  (refine h_read 20 rfl (by kernel_rfl) (by kernel_rfl) (h_free rfl) ?_ ?_ ?_; rotate_left; (focus (intro v hv; go_simp; rfl)); go_simp)
  (refine h_read 21 rfl (by kernel_rfl) (by kernel_rfl) (h_free rfl) ?_ ?_ ?_; rotate_left; (focus (intro v hv; go_simp; rfl)); go_simp)
  (refine h_call 22 rfl (by kernel_rfl) ?_ 10 ?_ ?_ ?_; (focus (go_simp; done)); rotate_left; (focus (go_simp; rfl)))
  refine (HC2.out d0 (J0.out)).mono ?_
  rintro z d1 ⟨v, rfl, hl, hb⟩
  obtain ⟨a2, c2, rfl, -, -⟩ := hl.ls intOk (nodP_si _ _)
  have J1 := Lib.hid (J0.out.trans (hb.mono J0.out.size))
  clear hl hb
  refine ⟨_, rfl, J1.out, ?_⟩
  rw [N2.out]
  go_simp
  (refine h_read 23 rfl (by kernel_rfl) (by kernel_rfl) ?_ ?_ ?_ ?_; (focus (go_simp; done)); rotate_left; (focus (intro v hv; go_simp; rfl)); go_simp)
  (refine h_read 24 rfl (by kernel_rfl) (by kernel_rfl) ?_ ?_ ?_ ?_; (focus (go_simp; done)); rotate_left; (focus (intro v hv; go_simp; rfl)); go_simp)
  (refine h_read 25 rfl (by kernel_rfl) (by kernel_rfl) (h_free rfl) ?_ ?_ ?_; rotate_left; (focus (intro v hv; go_simp; rfl)); go_simp)
  (refine h_read 26 rfl (by kernel_rfl) (by kernel_rfl) (h_free rfl) ?_ ?_ ?_; rotate_left; (focus (intro v hv; go_simp; rfl)); go_simp)
  (refine h_read 27 rfl (by kernel_rfl) (by kernel_rfl) ?_ ?_ ?_ ?_; (focus (go_simp; done)); rotate_left; (focus (intro v hv; go_simp; rfl)); go_simp)
  (refine h_read 28 rfl (by kernel_rfl) (by kernel_rfl) ?_ ?_ ?_ ?_; (focus (go_simp; done)); rotate_left; (focus (intro v hv; go_simp; rfl)); go_simp)
  (refine h_read 29 rfl (by kernel_rfl) (by kernel_rfl) ?_ ?_ ?_ ?_; (focus (go_simp; done)); rotate_left; (focus (intro v hv; have x0 := (hv.cell (p := ⟨g, 0, none⟩) RL.out).trans X0.out; have x1 := (hv.cell (p := ⟨g, 1, none⟩) RL.out).trans X1.out; have x2 := (hv.cell (p := ⟨g, 2, none⟩) RL.out).trans X2.out; go_simp; rfl)); go_simp)
  (refine h_call 30 rfl (by kernel_rfl) ?_ 14 ?_ ?_ ?_; (focus (go_simp; done)); rotate_left; (focus (go_simp; rfl)))
  refine (HC3.out d1 (J1.out)).mono ?_
  rintro z d2 ⟨v, rfl, hl, hb⟩
  obtain ⟨a3, c3, rfl, -, -⟩ := hl.ls intOk (fun x hx => nodP_si _ _ x (List.mem_filter.1 hx).1)
  have J2 := Lib.hid (J1.out.trans (hb.mono J1.out.size))
  clear hl hb
  refine ⟨_, rfl, J2.out, ?_⟩
  rw [N3.out]
  go_simp
  (refine h_read 31 rfl (by kernel_rfl) (by kernel_rfl) ?_ ?_ ?_ ?_; (focus (go_simp; done)); rotate_left; (focus (intro v hv; go_simp; rfl)); go_simp)
  (refine h_read 32 rfl (by kernel_rfl) (by kernel_rfl) ?_ ?_ ?_ ?_; (focus (go_simp; done)); rotate_left; (focus (intro v hv; go_simp; rfl)); go_simp)
  (refine h_read 33 rfl (by kernel_rfl) (by kernel_rfl) (h_free rfl) ?_ ?_ ?_; rotate_left; (focus (intro v hv; go_simp; rfl)); go_simp)
  (refine h_read 34 rfl (by kernel_rfl) (by kernel_rfl) (h_free rfl) ?_ ?_ ?_; rotate_left; (focus (intro v hv; go_simp; rfl)); go_simp)
  refine h_done (by kernel_rfl) ?_
  go_wp2_with fail
  go_ret
  refine ⟨?_, B1.out.trans (J2.out.mono B1.out.size)⟩
  exact one (vbool (by simp [nxy, nyz]))
set_option maxRecDepth 100000 in
set_option maxHeartbeats 16000000 in
theorem law_PlaceOrders (s : ByteArray) (n me : Int) (w : World) (hK : Ks w) (_hs : s.size ≤ maxLen) (wn : (Lit.int .i64 n).wf = true) (_wm : (Lit.int .i64 me).wf = true) :
    Calls Tryd.prog 3 #[.string s, .int .i64 n, .int .i64 me] w fun x w' => x = .returned (.bool true) ∧ Below w.heap.size w w' := by
  have hn : SI64 n := bd wn
  have HK := Lib.hid hK
  have HA := Lib.hid (fun w' (hb : Below w.heap.size w w') => awake29 w' (HK.out.below hb HK.out.pos))
  clear hK wn
  by_cases f1 : s.size ≤ 500
  rotate_left
  · have g1 : (500 : Int) < (s.size : Int) := by omega
    go_enter Tryd.func3, Tryd.ntmps3
    go_wp2_with (go_at_call 6; (with_reducible refine (HA.out _ (Below.refl _ _)).mono ?_); rintro x wb ⟨rfl, hb⟩; have Bb := Lib.hid hb; clear hb)
    go_ret
    exact ⟨rfl, Bb.out⟩
  have g1 : ¬ (500 : Int) < (s.size : Int) := by omega
  have hs : s.size ≤ 1000 := by omega
  have HC1 := Lib.hid (fun w' (hb : Below w.heap.size w w') => plorder s n w' (HK.out.below hb HK.out.pos) hs hn)
  have HC2 := Lib.hid (fun w' => zporder s n w' hs hn)
  have HC3 := Lib.hid (fun w' (hb : Below w.heap.size w w') => plnodes s n w' (HK.out.below hb HK.out.pos) hs hn)
  have HC4 := Lib.hid (fun w' => zpnodes s n w' hs hn)
  have HC5 := Lib.hid (fun w' (hb : Below w.heap.size w w') => plhas s n me w' (HK.out.below hb HK.out.pos) hs hn)
  have HC6 := Lib.hid (fun w' => zphas s n me w' hs hn)
  have HC7 := Lib.hid (fun w' (hb : Below w.heap.size w w') => plothers s n me w' (HK.out.below hb HK.out.pos) hs hn)
  have HC8 := Lib.hid (fun w' => zpothers s n me w' hs hn)
  have HS1 := Lib.hid (ordP_si s n)
  have HS2 := Lib.hid (nodP_si s n)
  have l1 : (ordP s n).length ≤ 7 := by unfold ordP; rw [ordL_len]; omega
  have l2 := nodP_len s n
  obtain ⟨L1, hL1⟩ : ∃ L, ordP s n = L := ⟨_, rfl⟩
  obtain ⟨L2, hL2⟩ : ∃ L, nodP s n = L := ⟨_, rfl⟩
  have l3 : ((nodP s n).filter (fun x => !(isP me x))).length ≤ 3 := Nat.le_trans (List.length_filter_le _ _) l2
  have HS3 := Lib.hid (show ∀ x ∈ (nodP s n).filter (fun x => !(isP me x)), SI64 x from fun x hx => nodP_si s n x (List.mem_filter.1 hx).1)
  obtain ⟨L3, hL3⟩ : ∃ L, (nodP s n).filter (fun x => !(isP me x)) = L := ⟨_, rfl⟩
  obtain ⟨d, hd⟩ : ∃ d, decide (me ∈ nodP s n) = d := ⟨_, rfl⟩
  rw [hL1] at HC1 HC2 HS1 l1
  rw [hd] at HC5 HC6
  rw [hL3] at HC7 HC8 HS3 l3
  rw [hL2] at HC3 HC4 HS2 l2
  obtain ⟨n1, hn1⟩ : ∃ k, L1.length = k := ⟨_, rfl⟩
  obtain ⟨n2, hn2⟩ : ∃ k, L2.length = k := ⟨_, rfl⟩
  obtain ⟨n3, hn3⟩ : ∃ k, L3.length = k := ⟨_, rfl⟩
  rw [hn1] at l1
  rw [hn2] at l2
  rw [hn3] at l3
  have N1 := Lib.hid hn1
  have N2 := Lib.hid hn2
  have N3 := Lib.hid hn3
  clear hL1 hL2 hL3 hd hn1 hn2 hn3 hs hn f1
  go_enter Tryd.func3, Tryd.ntmps3
  go_wp2_with (first
    | (go_at_call 8; (with_reducible refine (HC1.out _ (Below.refl _ _)).mono ?_); rintro x w1 ⟨v, rfl, hl, hb⟩; obtain ⟨a1, c1, rfl, hls, -⟩ := hl.ls intOk HS1.out; rw [N1.out] at hls ⊢; have S1 := Lib.hid hls.sl; have B1 := Lib.hid hb; clear hl hb hls)
    | (go_at_call 9; (with_reducible refine (HC2.out _).mono ?_); rintro x w2 ⟨v, rfl, hl, hb⟩; obtain ⟨a2, c2, rfl, hls, -⟩ := hl.ls intOk HS1.out; rw [N1.out] at hls ⊢; have S2 := Lib.hid hls.sl; have S1' := Lib.hid (S1.out.mono hb); have B2 := Lib.hid (B1.out.trans (hb.mono B1.out.size)); have E2 := Lib.hid (izsame a1 a2 n1 n1 c1 c2 L1 w2 S1'.out S2.out (by omega) (by omega)); clear hl hb hls S1)
    | (go_at_call 7; (with_reducible refine E2.out.mono ?_); rintro x w3 ⟨rfl, hb⟩; have B3 := Lib.hid (B2.out.trans (hb.mono B2.out.size)); clear hb E2)
    | (go_at_call 10; (with_reducible refine (HC3.out _ B3.out).mono ?_); rintro x w4 ⟨v, rfl, hl, hb⟩; obtain ⟨a4, c4, rfl, hls, -⟩ := hl.ls intOk HS2.out; rw [N2.out] at hls ⊢; have S4 := Lib.hid hls.sl; have B4 := Lib.hid (B3.out.trans (hb.mono B3.out.size)); clear hl hb hls)
    | (go_at_call 11; (with_reducible refine (HC4.out _).mono ?_); rintro x w5 ⟨v, rfl, hl, hb⟩; obtain ⟨a5, c5, rfl, hls, -⟩ := hl.ls intOk HS2.out; rw [N2.out] at hls ⊢; have S5 := Lib.hid hls.sl; have S4' := Lib.hid (S4.out.mono hb); have B5 := Lib.hid (B4.out.trans (hb.mono B4.out.size)); have E5 := Lib.hid (izsame a4 a5 n2 n2 c4 c5 L2 w5 S4'.out S5.out (by omega) (by omega)); clear hl hb hls S4)
    | (go_at_call 7; (with_reducible refine E5.out.mono ?_); rintro x w6 ⟨rfl, hb⟩; have B6 := Lib.hid (B5.out.trans (hb.mono B5.out.size)); clear hb E5)
    | (go_at_call 12; (with_reducible refine (HC5.out _ B6.out).mono ?_); rintro x w7 ⟨rfl, hb⟩; have B7 := Lib.hid (B6.out.trans (hb.mono B6.out.size)); clear hb)
    | (go_at_call 13; (with_reducible refine (HC6.out _).mono ?_); rintro x w8 ⟨rfl, hb⟩; have B8 := Lib.hid (B7.out.trans (hb.mono B7.out.size)); clear hb)
    | (go_at_call 14; (with_reducible refine (HC7.out _ B8.out).mono ?_); rintro x w9 ⟨v, rfl, hl, hb⟩; obtain ⟨a9, c9, rfl, hls, -⟩ := hl.ls intOk HS3.out; rw [N3.out] at hls ⊢; have S9 := Lib.hid hls.sl; have B9 := Lib.hid (B8.out.trans (hb.mono B8.out.size)); clear hl hb hls)
    | (go_at_call 15; (with_reducible refine (HC8.out _).mono ?_); rintro x w10 ⟨v, rfl, hl, hb⟩; obtain ⟨a10, c10, rfl, hls, -⟩ := hl.ls intOk HS3.out; rw [N3.out] at hls ⊢; have S10 := Lib.hid hls.sl; have S9' := Lib.hid (S9.out.mono hb); have B10 := Lib.hid (B9.out.trans (hb.mono B9.out.size)); have E10 := Lib.hid (izsame a9 a10 n3 n3 c9 c10 L3 w10 S9'.out S10.out (by omega) (by omega)); clear hl hb hls S9)
    | (go_at_call 7; (with_reducible refine E10.out.mono ?_); rintro x w11 ⟨rfl, hb⟩; have B11 := Lib.hid (B10.out.trans (hb.mono B10.out.size)); clear hb E10)
    | (go_at_call 6; (with_reducible refine (HA.out _ B11.out).mono ?_); rintro x wb ⟨rfl, hb⟩; have Bb := Lib.hid (B11.out.trans (hb.mono B11.out.size)); clear hb))
  all_goals (go_ret; exact ⟨rfl, Bb.out⟩)
end Go.Proofs.YthbbiiegbddpdaaDoor.W

/- A SLICE OF STRINGS that came in reads as a list. -/
set_option linter.unusedSimpArgs false
set_option linter.unusedVariables false
namespace Go.Proofs.YthbbiiegbddpdaaDoor.W
open Go Go.ChangeShapes Go.WideShapes Go.ChangeAt Go.RowKit

section
variable {H : Type} {enc : TypeId × Value → H} {w : World} {base : Nat} {held : Bool}
theorem str_cells {fuel : Nat} {cs : List Value} {x : DataW H × List MemPlace} (h : DataW.trod enc Tryd.prog w base (fun _ => true) held fuel 9 cs = some x) : ∃ y : ByteArray, cs = strE.cells y ∧ strE.fit w y := by
  obtain ⟨s, e, -, hs⟩ := DataW.trod_string Tryd.underlying9 h
  exact ⟨s, e, hs⟩
theorem strs_open {a : Option Addr} {len cap : Nat} {d : DataW H} {pl : List MemPlace} (h : DataW.Trod enc Tryd.prog w base (fun _ => true) held 31 (.slice a len cap) d pl) : ∃ L, Ls strE w a len cap L := by
  obtain ⟨fuel, hf⟩ := h
  obtain ⟨a', n', c', L, hc, hL⟩ := ls_cells strOk (by kernel_rfl) (fun hx => str_cells hx) hf
  simp [Value.cells] at hc
  obtain ⟨rfl, rfl, rfl⟩ := hc
  exact ⟨L, hL⟩
end
end Go.Proofs.YthbbiiegbddpdaaDoor.W

/- slices.Equal of strings -/
set_option linter.unusedSimpArgs false
set_option linter.unusedVariables false
namespace Go.Proofs.YthbbiiegbddpdaaDoor.W
open Go Go.ChangeShapes Go.WideShapes Go.ChangeAt Go.RowKit

theorem str_next (L M : List ByteArray) (k : Nat) (x : ByteArray) (h1 : L[k]? = some x) (h2 : M[k]? = some x) (e : L.take k = M.take k) : L.take (k + 1) = M.take (k + 1) := by
  obtain ⟨a1, a2⟩ := List.getElem?_eq_some_iff.1 h1
  obtain ⟨b1, b2⟩ := List.getElem?_eq_some_iff.1 h2
  rw [List.take_succ_eq_append_getElem a1, List.take_succ_eq_append_getElem b1, a2, b2, e]
set_option maxRecDepth 100000 in
set_option maxHeartbeats 16000000 in
theorem strequal (a a' : Option Addr) (n c n' c' : Nat) (L M : List ByteArray) (w : World) (V : Bool) (h1 : Ls strE w a n c L) (h2 : Ls strE w a' n' c' M) (hV : V = true ↔ L = M) :
    Calls Tryd.prog 19 #[.slice a n c, .slice a' n' c'] w fun x w' => x = .returned (.bool V) ∧ Below w.heap.size w w' := by
  have H1 := Lib.hid h1
  have H2 := Lib.hid h2
  have L1 := Lib.hid h1.hlen
  have L2 := Lib.hid h2.hlen
  have HV := Lib.hid hV
  have hm := h1.hmax
  have hle := h1.hle
  clear h1 h2 hV
  by_cases hn : n = n'
  case neg =>
    have HF := Lib.hid (show V = false by
      cases hh : V with
      | false => rfl
      | true => exact absurd (by rw [← L1.out, ← L2.out, HV.out.1 hh]) hn)
    have gn : ((n : Int) == (n' : Int)) = false := beq_eq_false_iff_ne.2 (by omega)
    have gm : ¬ ((n : Int) = (n' : Int)) := by omega
    clear HV
    go_enter Tryd.func19, Tryd.ntmps19
    go_wp2_with fail
    go_ret
    exact ⟨one (vbool (by rw [HF.out])), Below.refl _ _⟩
  subst hn
  go_enter Tryd.func19, Tryd.ntmps19
  go_wp2_with fail
  go_loopw [13] (fun i wr => ∃ k : Nat, i = .int .i64 (k : Int) ∧ k ≤ n ∧ Hid (L.take k = M.take k) ∧ Hid (Below w.heap.size w wr)) (fun i _ => n - (intOf i).toNat)
  case atStart => exact ⟨0, rfl, Nat.zero_le _, Lib.hid rfl, Lib.hid (Below.refl _ _)⟩
  case round =>
    obtain ⟨k, rfl, hk, P, B⟩ := hrel
    by_cases hlt : k < n
    · obtain ⟨b, o, x, rfl, hx1, hc1, -⟩ := H1.out.at strOk B.out k hlt
      obtain ⟨b', o', y, rfl, hx2, hc2, -⟩ := H2.out.at strOk B.out k hlt
      have g1 : (0 : Int) ≤ (k : Int) := by omega
      have g2 : (k : Int) < (n : Int) := by omega
      have d1 : wr.cell? ⟨b, o + k, none⟩ = some (.string x) := by have := hc1 0 (.string x) rfl; rw [show o + k * strE.k + 0 = o + k by show o + k * 1 + 0 = o + k; omega] at this; exact this
      have d2 : wr.cell? ⟨b', o' + k, none⟩ = some (.string y) := by have := hc2 0 (.string y) rfl; rw [show o' + k * strE.k + 0 = o' + k by show o' + k * 1 + 0 = o' + k; omega] at this; exact this
      clear hc1 hc2
      by_cases hxy : x = y
      · subst hxy
        have HN := Lib.hid (str_next L M k x hx1 hx2 P.out)
        clear hx1 hx2
        go_wp2_with fail
        go_quiet (fail)
        go_wp2_with fail
        go_roundw
        case rel => exact ⟨k + 1, vint (by omega), by omega, HN, Lib.hid (below_drewN B.out _)⟩
        case measure => simp [intOf]; omega
      · have HF := Lib.hid (show V = false by
          cases hh : V with
          | false => rfl
          | true =>
            have := HV.out.1 hh
            rw [this, hx2] at hx1
            exact absurd (Option.some.inj hx1).symm hxy)
        have ne1 : (x.toList == y.toList) = false := eqM_ne.2 hxy
        have ne3 : ¬ x.toList = y.toList := fun e => by rw [e] at ne1; simp at ne1
        have ne2 : (x.toList != y.toList) = true := by rw [bne, ne1]; rfl
        clear hx1 hx2 hxy
        go_wp2_with fail
        go_quiet (fail)
        go_wp2_with fail
        go_ret
        exact ⟨one (vbool (by rw [HF.out])), below_drewN B.out _⟩
    · obtain rfl : n = k := by omega
      have HT := Lib.hid (show V = true from HV.out.2 (by
        have := P.out
        rwa [List.take_of_length_le (by rw [L1.out]; exact Nat.le_refl _), List.take_of_length_le (by rw [L2.out]; exact Nat.le_refl _)] at this))
      go_wp2_with fail
      go_ret
      exact ⟨one (vbool (by rw [HT.out])), B.out⟩
end Go.Proofs.YthbbiiegbddpdaaDoor.W

/- LAYER 29 (place): Lacks of both. -/
set_option linter.unusedSimpArgs false
set_option linter.unusedVariables false
namespace Go.Proofs.YthbbiiegbddpdaaDoor.W
open Go Go.ChangeShapes Go.WideShapes Go.ChangeAt Go.RowKit
open Go.Proofs.YthbbiiegbddpdaaDoor.S
open Go.Proofs.YthbbiiegbddpdaaDoor.P (enc dec shaL shaL_len)

def lackP (s : Int) (n : Int) (have_ : List ByteArray) (x : ByteArray) : Bool := !(hasStr have_ x) && decide (s ∈ nodP x n)
-- ---- a set of strings, rising
def putK (s : ByteArray) : List ByteArray → List ByteArray
  | [] => [s]
  | x :: X => if ltM s x = true then s :: x :: X else if ltM x s = true then x :: putK s X else x :: X
def EK (X : List ByteArray) : List Ent := X.map fun s => (s, .agg #[])
theorem mem_putK (s y : ByteArray) : ∀ X, y ∈ putK s X ↔ y = s ∨ y ∈ X
  | [] => by simp [putK]
  | x :: X => by
    unfold putK
    split
    · simp
    · split
      · rw [List.mem_cons, mem_putK s y X, List.mem_cons]
        constructor
        · rintro (h | h | h)
          · exact .inr (.inl h)
          · exact .inl h
          · exact .inr (.inr h)
        · rintro (h | h | h)
          · exact .inr (.inl h)
          · exact .inl h
          · exact .inr (.inr h)
      · rename_i h1 h2
        have e : s = x := Classical.byContradiction fun hne => h2 (ltM_total (by simpa using h1) hne)
        subst e
        simp
theorem ris_putK (s : ByteArray) : ∀ X, X.Pairwise (fun a b => ltM a b = true) → (putK s X).Pairwise (fun a b => ltM a b = true)
  | [], _ => by simp [putK]
  | x :: X, h => by
    rw [List.pairwise_cons] at h
    unfold putK
    split
    · rename_i h1
      refine List.pairwise_cons.2 ⟨fun z hz => ?_, List.pairwise_cons.2 h⟩
      rcases List.mem_cons.1 hz with rfl | hz
      · exact h1
      · exact ltM_trans h1 (h.1 z hz)
    · split
      · rename_i h1 h2
        refine List.pairwise_cons.2 ⟨fun z hz => ?_, ris_putK s X h.2⟩
        rcases (mem_putK s z X).1 hz with rfl | hz
        · exact h2
        · exact h.1 z hz
      · exact List.pairwise_cons.2 h
theorem ris_EK {X : List ByteArray} (h : X.Pairwise (fun a b => ltM a b = true)) : Ris (EK X) := by
  unfold Ris EK
  rw [List.pairwise_map]
  exact h
theorem mem_EK {X : List ByteArray} {p : Ent} : p ∈ EK X ↔ p.1 ∈ X ∧ p.2 = .agg #[] := by
  unfold EK
  rw [List.mem_map]
  constructor
  · rintro ⟨s, hs, rfl⟩; exact ⟨hs, rfl⟩
  · rintro ⟨h1, h2⟩; exact ⟨p.1, h1, by rw [← h2]⟩
theorem put_EK (s : ByteArray) (X : List ByteArray) (p : Ent) : p ∈ EK (putK s X) ↔ p = (s, .agg #[]) ∨ (p ∈ EK X ∧ p.1 ≠ s) := by
  rw [mem_EK, mem_EK, mem_putK]
  obtain ⟨a, b⟩ := p
  constructor
  · rintro ⟨h1 | h1, h2⟩
    · exact .inl (by rw [show a = s from h1, show b = _ from h2])
    · by_cases e : a = s
      · exact .inl (by rw [e, show b = _ from h2])
      · exact .inr ⟨⟨h1, h2⟩, e⟩
  · rintro (h | ⟨⟨h1, h2⟩, _⟩)
    · injection h with h1 h2; exact ⟨.inl h1, h2⟩
    · exact ⟨.inr h1, h2⟩
def keysK (L : List ByteArray) : List ByteArray := L.foldl (fun X s => putK s X) []
theorem keysK_snoc (L : List ByteArray) (s : ByteArray) : keysK (L ++ [s]) = putK s (keysK L) := by unfold keysK; rw [List.foldl_append]; rfl
theorem keysK_ris (L : List ByteArray) : (keysK L).Pairwise (fun a b => ltM a b = true) := by
  suffices ∀ (L X : List ByteArray), X.Pairwise (fun a b => ltM a b = true) → (L.foldl (fun X s => putK s X) X).Pairwise (fun a b => ltM a b = true) from this L [] (by simp)
  intro L
  induction L with
  | nil => intro X h; exact h
  | cons x L ih => intro X h; exact ih _ (ris_putK x X h)
theorem keysK_mem (y : ByteArray) (L : List ByteArray) : y ∈ keysK L ↔ y ∈ L := by
  suffices ∀ (L X : List ByteArray), y ∈ L.foldl (fun X s => putK s X) X ↔ y ∈ L ∨ y ∈ X by simpa [keysK] using this L []
  intro L
  induction L with
  | nil => intro X; simp
  | cons x L ih =>
    intro X
    rw [List.foldl_cons, ih, mem_putK, List.mem_cons]
    constructor
    · rintro (h | h | h)
      · exact .inl (.inr h)
      · exact .inl (.inl h)
      · exact .inr h
    · rintro ((h | h) | h)
      · exact .inr (.inl h)
      · exact .inl h
      · exact .inr (.inr h)
theorem hasStr_iff (L : List ByteArray) (s : ByteArray) : hasStr L s = true ↔ s ∈ L := by
  unfold hasStr
  rw [List.any_eq_true]
  constructor
  · rintro ⟨x, hx, h⟩; rw [decide_eq_true_iff] at h; rw [← h]; exact hx
  · intro h; exact ⟨s, h, by simp⟩
theorem emp_map : Tryd.prog.underlying 48 = some (.map 9 49) := by kernel_rfl
theorem emp_zero : (Tryd.prog.info? 49).map (·.zero) = some (some (.agg ([] : List Value).toArray)) := by kernel_rfl
theorem emp_size : (Tryd.prog.info? 49).map (·.size) = some ([] : List Value).length := by kernel_rfl
theorem emp_zv (w : World) : (zeroValue 49).run Tryd.prog w = .ok (.agg #[]) w := by
  have h := emp_zero
  cases hq : Tryd.prog.info? 49 with
  | none => rw [hq] at h; cases h
  | some i =>
    rw [hq] at h
    have hi : i.zero = some (.agg #[]) := by simpa using h
    simp [zeroValue, typeInfo, hq, hi]
theorem emp_built : Tryd.prog.built 49 [] = some ([] : List Value).toArray := by kernel_rfl
theorem below_of_grown {w w' : World} {b base : Nat} (h : w.grownBy w' (some b)) (hb : base ≤ b) (hs : base ≤ w.heap.size) : Below base w w' := ⟨h.os, h.tape, h.output, h.size, fun k hk => by
  by_cases e : k < w.heap.size
  · exact h.block k e (by intro e2; injection e2 with e2; omega)
  · exact absurd hk (by omega)⟩
set_option maxRecDepth 100000 in
set_option maxHeartbeats 16000000 in
theorem pllacks (me n : Int) (a1 a2 : Option Addr) (n1 n2 c1 c2 : Nat) (L1 L2 : List ByteArray) (w : World) (hK : Ks w) (hn : SI64 n) (h1 : Ls strE w a1 n1 c1 L1) (h2 : Ls strE w a2 n2 c2 L2) (hm1 : n1 ≤ 30) (hm2 : n2 ≤ 30) (hs1 : ∀ s ∈ L1, s.size ≤ 200) (hs2 : ∀ s ∈ L2, s.size ≤ 200) :
    Calls Tryd.prog 20 #[.int .i64 me, .int .i64 n, .slice a1 n1 c1, .slice a2 n2 c2] w fun x w' => ∃ v, x = .returned v ∧ LsO strE w' w.heap.size v (L1.filter (lackP me n L2)) ∧ Below w.heap.size w w' := by
  have HK := Lib.hid hK
  have H1 := Lib.hid h1
  have H2 := Lib.hid h2
  have HS1 := Lib.hid hs1
  have HS2 := Lib.hid hs2
  have HN1 := Lib.hid h1.hlen
  have HN2 := Lib.hid h2.hlen
  have HC := Lib.hid (fun (s : ByteArray) (hs : s.size ≤ 200) w' (hb : Below w.heap.size w w') => plhas s n me w' (HK.out.below hb HK.out.pos) (by omega) hn)
  have EZ := Lib.hid emp_zero
  have ES := Lib.hid emp_size
  have hmm := @run_makeMap Tryd.prog
  clear h1 h2 hs1 hs2 hK hn
  go_enter Tryd.func20, Tryd.ntmps20
  go_wp2_with fail
  clear hmm
  have B0 := Lib.hid ((Below.refl w.heap.size w).alloc (Nat.le_refl _) (.map #[] 0))
  have M0 := Lib.hid (SM.made w)
  obtain ⟨w0, hw0⟩ : ∃ x, w.alloc (.map #[] 0) = x := ⟨_, rfl⟩
  rw [hw0] at B0 M0 ⊢
  have hz0 : w0.heap.size = w.heap.size + 1 := by rw [← hw0]; simp
  have HZ0 := Lib.hid hz0
  clear hw0 hz0
  go_loopw [20] (fun vi wr => ∃ (k : Nat), vi = .int .i64 (k : Int) ∧ k ≤ n2 ∧ Hid (SM wr w.heap.size k (EK (keysK (L2.take k)))) ∧ Hid (Below w.heap.size w wr)) (fun vi _ => n2 - (intOf vi).toNat)
  case atStart => exact ⟨0, rfl, Nat.zero_le _, M0, B0⟩
  case round =>
    obtain ⟨k, rfl, hk, MM, BB⟩ := hrel
    by_cases hlt : k < n2
    · obtain ⟨b, off, s, rfl, hs, hcell, hft⟩ := H2.out.at strOk BB.out k hlt
      have c0 : wr.cell? ⟨b, off + k, none⟩ = some (.string s) := by have := hcell 0 _ rfl; simpa using this
      have SZM := Lib.hid hft
      have HX := Lib.hid (show L2.take (k + 1) = L2.take k ++ [s] by
        obtain ⟨q1, q2⟩ := List.getElem?_eq_some_iff.1 hs
        rw [List.take_succ_eq_append_getElem q1, q2])
      have g1 : (0 : Int) ≤ (k : Int) := by omega
      have g2 : (k : Int) < (n2 : Int) := by omega
      clear hs hcell hft
      go_wp2_with (first
        | ((with_reducible refine build_row (o := ⟨some 26, _, _, _, _, _⟩) rfl _ _ rfl [] ?_ ?_); (focus (exact emp_built)))
        | ((with_reducible refine map_put (o := ⟨none, _, _, _, _, _⟩) rfl _ _ _ 48 49 rfl emp_map w.heap.size k _ ?_ MM.out ?_ s (.agg #[]) ?_ SZM.out ?_ (EK (putK s (keysK (L2.take k)))) (ris_EK (ris_putK s _ (keysK_ris _))) (fun p => put_EK s _ p) ?_); (focus (first | (go_simp; done) | (go_simp; rfl))); (focus omega); (focus (first | (go_simp; done) | (go_simp; rfl))); (focus (first | (go_simp; done) | (go_simp; rfl))); intro w3 hsm hgr hz; have M3 := Lib.hid (show SM w3 w.heap.size (k + 1) (EK (keysK (L2.take (k + 1)))) by rw [HX.out, keysK_snoc]; exact hsm); have B3 := Lib.hid (BB.out.trans (below_of_grown hgr (Nat.le_refl _) BB.out.size)); clear hsm hgr hz))
      go_roundw
      case rel => exact ⟨k + 1, by go_num, by omega, M3, B3⟩
      case measure => simp [intOf]; omega
    · obtain rfl : k = n2 := by omega
      have ht : L2.take k = L2 := List.take_of_length_le (by rw [HN2.out]; exact Nat.le_refl _)
      rw [ht] at MM
      obtain ⟨wq, rfl⟩ : ∃ x, x = wr := ⟨_, rfl⟩
      have SQ := Lib.hid (show w.heap.size < wq.heap.size from MM.out.lt)
      clear ht
      go_wp2_with fail
      go_loopw [12, 30] (fun vo vi wr => ∃ (j : Nat) (v0 : Value), v0 = vo ∧ vi = .int .i64 (j : Int) ∧ j ≤ n1 ∧ Hid (LsO strE wr wq.heap.size v0 ((L1.take j).filter (lackP me n L2))) ∧ Hid (Below wq.heap.size wq wr)) (fun _ vi _ => n1 - (intOf vi).toNat)
      case atStart => exact ⟨0, _, rfl, rfl, Nat.zero_le _, Lib.hid (LsO.nil _ _), Lib.hid (Below.refl _ _)⟩
      case round =>
        obtain ⟨j, v0, rfl, rfl, hj, HL, BQ⟩ := hrel
        by_cases hjn : j < n1
        · have B2 := Lib.hid (BB.out.trans (BQ.out.mono BB.out.size))
          obtain ⟨b, off, s, rfl, hs, hcell, hft⟩ := H1.out.at strOk B2.out j hjn
          have c0 : wr.cell? ⟨b, off + j, none⟩ = some (.string s) := by have := hcell 0 _ rfl; simpa using this
          have SZM := Lib.hid hft
          have HX := Lib.hid (take_nextS L1 j (lackP me n L2) s hs)
          have hss := HS1.out s (List.mem_of_getElem? hs)
          have HC1 := Lib.hid (HC.out s hss)
          have HF := Lib.hid (show ((L1.take j).filter (lackP me n L2)).length ≤ 30 by
            refine Nat.le_trans (List.length_filter_le _ _) ?_
            rw [List.length_take]; omega)
          have g1 : (0 : Int) ≤ (j : Int) := by omega
          have g2 : (j : Int) < (n1 : Int) := by omega
          have MW := MM.out.kept BQ.out
          have hmx : s.size ≤ maxLen := hft
          have SB := Lib.hid (show w.heap.size ≤ wq.heap.size ∧ wq.heap.size ≤ wr.heap.size from ⟨by have := SQ.out; omega, BQ.out.size⟩)
          obtain ⟨d1, hd1⟩ : ∃ d, hasStr L2 s = d := ⟨_, rfl⟩
          obtain ⟨d2, hd2⟩ : ∃ d, decide (me ∈ nodP s n) = d := ⟨_, rfl⟩
          have HQ := Lib.hid (show lackP me n L2 s = (!d1 && d2) by unfold lackP; rw [hd1, hd2])
          rw [hd2] at HC1
          clear hs hcell hft hss hd2
          cases d1
          · have lk := (look_no (s := s) 48 49 emp_map _ (emp_zv wr) MW hmx (fun p hp e => by
              have := (mem_EK.1 hp).1
              rw [e, keysK_mem, ← hasStr_iff, hd1] at this
              cases this)).2
            clear MW hd1 hmx
            cases d2
            · go_wp2_with (first
                | ((with_reducible refine alloc_row (o := ⟨some 15, _, _, _, _, _⟩) rfl _ rfl [] EZ.out ?_); intro w2 hr hb hz; have R2 := Lib.hid hr; have D2 := Lib.hid (BQ.out.trans (hb.mono BQ.out.size)); have L2' := Lib.hid (HL.out.kept hb); have T2 := Lib.hid (B2.out.trans (hb.mono B2.out.size)); clear hr hb hz)
                | ((with_reducible refine store_row (o := ⟨none, _, _, _, _, _⟩) rfl _ _ _ rfl wr.heap.size [] ?_ ?_ 49 _ R2.out ES.out rfl ?_ ?_); (focus go_simp); (focus (first | (go_simp; done) | (go_simp; rfl))); (focus (intro v hv; cases hv)); intro w3 hr hu; have D3 := Lib.hid (D2.out.trans (hu.below SB.out.2)); have L3 := Lib.hid (L2'.out.upd hu (fun e => by have h1 := (World.ownsRow.lt HL.out) _ e; omega)); have T3 := Lib.hid (T2.out.trans (hu.below (by have := SB.out; omega))); clear hr hu)
                | (go_at_call 12; (with_reducible refine (HC1.out _ T3.out).mono ?_); rintro x w4 ⟨rfl, hb⟩; have D4 := Lib.hid (D3.out.trans (hb.mono D3.out.size)); have L4 := Lib.hid (L3.out.kept hb); clear hb))
              go_roundw
              case rel => exact ⟨j + 1, _, rfl, by go_num, by omega, Lib.hid (by rw [HX.out, HQ.out]; simpa using L4.out), D4⟩
              case measure => simp [intOf]; omega
            · go_wp2_with (first
                | ((with_reducible refine alloc_row (o := ⟨some 15, _, _, _, _, _⟩) rfl _ rfl [] EZ.out ?_); intro w2 hr hb hz; have R2 := Lib.hid hr; have D2 := Lib.hid (BQ.out.trans (hb.mono BQ.out.size)); have L2' := Lib.hid (HL.out.kept hb); have T2 := Lib.hid (B2.out.trans (hb.mono B2.out.size)); clear hr hb hz)
                | ((with_reducible refine store_row (o := ⟨none, _, _, _, _, _⟩) rfl _ _ _ rfl wr.heap.size [] ?_ ?_ 49 _ R2.out ES.out rfl ?_ ?_); (focus go_simp); (focus (first | (go_simp; done) | (go_simp; rfl))); (focus (intro v hv; cases hv)); intro w3 hr hu; have D3 := Lib.hid (D2.out.trans (hu.below SB.out.2)); have L3 := Lib.hid (L2'.out.upd hu (fun e => by have h1 := (World.ownsRow.lt HL.out) _ e; omega)); have T3 := Lib.hid (T2.out.trans (hu.below (by have := SB.out; omega))); clear hr hu)
                | (go_at_call 12; (with_reducible refine (HC1.out _ T3.out).mono ?_); rintro x w4 ⟨rfl, hb⟩; have D4 := Lib.hid (D3.out.trans (hb.mono D3.out.size)); have L4 := Lib.hid (L3.out.kept hb); clear hb)
                | (at_builtin; (with_reducible refine append_ls strOk (o := ⟨some 51, _, _, _, _, _⟩) rfl _ _ rfl wq.heap.size _ _ ?_ (L4.out.kept ((Below.refl _ _).alloc (Nat.le_refl _) _)) (some ⟨w4.heap.size, 0, none⟩) 1 1 [s] ?_ (ls_new strOk w4 s _ rfl SZM.out) ?_ ?_ ?_); (focus (first | (go_simp; done) | (go_simp; rfl))); (focus (first | (go_simp; done) | (go_simp; rfl))); (focus (have := HF.out; omega)); (focus (have := D4.out.size; simp; omega)); intro v6 w6 hl hb _ _; have L6 := Lib.hid hl; have B6 := Lib.hid ((D4.out.trans ((Below.refl w4.heap.size w4).alloc (Nat.le_refl _) (.cells #[.string s] 9) |>.mono D4.out.size)).trans (hb.mono (Nat.le_refl _))); clear hl hb))
              go_roundw
              case rel => exact ⟨j + 1, _, rfl, by go_num, by omega, Lib.hid (by rw [HX.out, HQ.out]; simpa using L6.out), B6⟩
              case measure => simp [intOf]; omega
          · have lk := (look_yes (s := s) 48 49 emp_map _ (emp_zv wr) MW hmx (v := .agg #[]) (mem_EK.2 ⟨by rw [keysK_mem, ← hasStr_iff]; exact hd1, rfl⟩)).2
            clear MW hd1 hmx
            go_wp2_with (first
                | ((with_reducible refine alloc_row (o := ⟨some 15, _, _, _, _, _⟩) rfl _ rfl [] EZ.out ?_); intro w2 hr hb hz; have R2 := Lib.hid hr; have D2 := Lib.hid (BQ.out.trans (hb.mono BQ.out.size)); have L2' := Lib.hid (HL.out.kept hb); have T2 := Lib.hid (B2.out.trans (hb.mono B2.out.size)); clear hr hb hz)
                | ((with_reducible refine store_row (o := ⟨none, _, _, _, _, _⟩) rfl _ _ _ rfl wr.heap.size [] ?_ ?_ 49 _ R2.out ES.out rfl ?_ ?_); (focus go_simp); (focus (first | (go_simp; done) | (go_simp; rfl))); (focus (intro v hv; cases hv)); intro w3 hr hu; have D3 := Lib.hid (D2.out.trans (hu.below SB.out.2)); have L3 := Lib.hid (L2'.out.upd hu (fun e => by have h1 := (World.ownsRow.lt HL.out) _ e; omega)); clear hr hu))
            go_roundw
            case rel => exact ⟨j + 1, _, rfl, by go_num, by omega, Lib.hid (by rw [HX.out, HQ.out]; simpa using L3.out), D3⟩
            case measure => simp [intOf]; omega
        · obtain rfl : j = n1 := by omega
          have ht : L1.take j = L1 := List.take_of_length_le (by rw [HN1.out]; exact Nat.le_refl _)
          rw [ht] at HL
          clear ht
          go_wp2_with fail
          go_ret
          exact ⟨_, rfl, HL.out.base (by have := SQ.out; omega), BB.out.trans (BQ.out.mono BB.out.size)⟩
end Go.Proofs.YthbbiiegbddpdaaDoor.W

/- LAYER 29 (place): Lacks of the reference; law Lacks. -/
set_option linter.unusedSimpArgs false
set_option linter.unusedVariables false
namespace Go.Proofs.YthbbiiegbddpdaaDoor.W
open Go Go.ChangeShapes Go.WideShapes Go.ChangeAt Go.RowKit
open Go.Proofs.YthbbiiegbddpdaaDoor.S
open Go.Proofs.YthbbiiegbddpdaaDoor.P (enc dec shaL shaL_len)

set_option maxRecDepth 100000 in
set_option maxHeartbeats 16000000 in
theorem plsclone (a : Option Addr) (n c : Nat) (L : List ByteArray) (w : World) (h : Ls strE w a n c L) (hn : n ≤ 1000) :
    Calls Tryd.prog 18 #[.slice a n c] w fun x w' => ∃ a' c', x = .returned (.slice a' n c') ∧ LsO strE w' w.heap.size (.slice a' n c') L ∧ Below w.heap.size w w' := by
  have H := Lib.hid h
  have hnil := fun (w : World) (a : Option Addr) (n c : Nat) => Lib.run_eql_slice_nil (P := Tryd.prog) w 31 9 a n c 0 0 Tryd.underlying31
  rcases a with _ | ad
  · have h0 := h.hnil rfl
    have h1 := h.hle
    have h2 := h.hlen
    obtain rfl : n = 0 := by omega
    have : L = [] := List.eq_nil_of_length_eq_zero h2
    subst this h0
    clear h h1 h2
    go_enter Tryd.func18, Tryd.ntmps18
    go_wp2_with fail
    go_ret
    exact ⟨none, 0, rfl, LsO.nil _ _, Below.refl _ _⟩
  · have HL := Lib.hid h.hlen
    have HFIT := Lib.hid h.hfit
    clear h
    go_enter Tryd.func18, Tryd.ntmps18
    go_wp2_with (at_builtin; refine append_ls strOk rfl _ _ rfl w.heap.size _ [] rfl (LsO.empty w _ (Nat.le_refl _)) (some ad) n c L rfl (H.out.mono strOk ((Below.refl _ _).alloc (Nat.le_refl _) _)) (by simp; omega) (by simp) ?_; intro v2 w2 hN hb2 _ _; have N2 := Lib.hid (show LsO strE w2 w.heap.size v2 L from hN); have B2 := Lib.hid (((Below.refl _ _).alloc (Nat.le_refl _) _).trans hb2); clear hN hb2)
    obtain ⟨a2, c2, hv, -, -⟩ := N2.out.ls strOk (fun x hx => strOk.mono x _ _ (HFIT.out x hx) B2.out)
    subst hv
    rw [HL.out] at N2 ⊢
    go_ret
    exact ⟨a2, c2, rfl, N2.out, B2.out⟩
set_option maxRecDepth 100000 in
set_option maxHeartbeats 8000000 in
theorem zpin (s : ByteArray) (a : Option Addr) (n c : Nat) (L : List ByteArray) (w : World) (h : Ls strE w a n c L) :
    Calls Tryd.prog 34 #[.slice a n c, .string s] w fun x w' => x = .returned (.bool (hasStr L s)) ∧ w = w' := by
  have H := Lib.hid h
  have HN := Lib.hid h.hlen
  obtain ⟨V, hV⟩ : ∃ V, hasStr L s = V := ⟨_, rfl⟩
  rw [hV]
  have HV := Lib.hid hV
  have hle := h.hle
  have hmx := h.hmax
  clear h hV
  go_enter Tryd.func34, Tryd.ntmps34
  go_wp2_with fail
  go_loopw [5] (fun vi wr => ∃ (k : Nat), vi = .int .i64 (k : Int) ∧ k ≤ n ∧ Hid (∀ i, i < k → ∀ x, L[i]? = some x → x ≠ s) ∧ w = wr) (fun vi _ => n - (intOf vi).toNat)
  case atStart => exact ⟨0, rfl, Nat.zero_le _, Lib.hid (fun i h => absurd h (by omega)), rfl⟩
  case round =>
    obtain ⟨k, rfl, hk, HP, rfl⟩ := hrel
    by_cases hlt : k < n
    · obtain ⟨b, off, x, rfl, hx, hcell, -⟩ := H.out.at strOk (Below.refl _ _) k hlt
      have c0 : w.cell? ⟨b, off + k, none⟩ = some (.string x) := by have := hcell 0 _ rfl; simpa using this
      have HX := Lib.hid hx
      have g1 : (0 : Int) ≤ (k : Int) := by omega
      have g2 : (k : Int) < (n : Int) := by omega
      clear hx hcell
      by_cases e : x = s
      · have HT := Lib.hid (show V = true by rw [← HV.out, hasStr_iff, ← e]; exact List.mem_of_getElem? HX.out)
        have ge : (x.toList == s.toList) = true := by rw [str_beq, e]; simp
        clear e
        go_wp2_with fail
        go_ret
        exact ⟨one (vbool (by rw [HT.out])), rfl⟩
      · have ge : (x.toList == s.toList) = false := by rw [str_beq]; simp [e]
        have HE := Lib.hid e
        clear e
        go_wp2_with fail
        go_roundw
        case rel =>
          refine ⟨k + 1, by go_num, by omega, Lib.hid ?_, trivial⟩
          intro i hi y hy
          by_cases h : i < k
          · exact HP.out i h y hy
          · obtain rfl : i = k := by omega
            rw [HX.out] at hy; injection hy with hy; subst hy; exact HE.out
        case measure => simp [intOf]; omega
    · obtain rfl : k = n := by omega
      have HF := Lib.hid (show V = false by
        rw [← HV.out]
        cases hq : hasStr L s with
        | false => rfl
        | true =>
          obtain ⟨i, hi, e⟩ := List.mem_iff_getElem.1 ((hasStr_iff L s).1 hq)
          exact absurd e (HP.out i (by rw [← HN.out]; exact hi) _ (List.getElem?_eq_getElem hi)))
      go_wp2_with fail
      go_ret
      exact ⟨one (vbool (by rw [HF.out])), rfl⟩
set_option maxRecDepth 100000 in
set_option maxHeartbeats 16000000 in
theorem zplacks (me n : Int) (a1 a2 : Option Addr) (n1 n2 c1 c2 : Nat) (L1 L2 : List ByteArray) (w : World) (hn : SI64 n) (h1 : Ls strE w a1 n1 c1 L1) (h2 : Ls strE w a2 n2 c2 L2) (hm1 : n1 ≤ 30) (hs1 : ∀ s ∈ L1, s.size ≤ 200) :
    Calls Tryd.prog 21 #[.int .i64 me, .int .i64 n, .slice a1 n1 c1, .slice a2 n2 c2] w fun x w' => ∃ v, x = .returned v ∧ LsO strE w' w.heap.size v (L1.filter (lackP me n L2)) ∧ Below w.heap.size w w' := by
  have H1 := Lib.hid h1
  have H2 := Lib.hid h2
  have HS1 := Lib.hid hs1
  have HN1 := Lib.hid h1.hlen
  have HC := Lib.hid (fun (s : ByteArray) (hs : s.size ≤ 200) w' => zphas s n me w' (by omega) hn)
  clear h1 h2 hs1 hn
  go_enter Tryd.func21, Tryd.ntmps21
  go_wp2_with fail
  go_loopw [9, 10] (fun vo vi wr => ∃ (j : Nat) (v0 : Value), v0 = vo ∧ vi = .int .i64 (j : Int) ∧ j ≤ n1 ∧ Hid (LsO strE wr w.heap.size v0 ((L1.take j).filter (lackP me n L2))) ∧ Hid (Below w.heap.size w wr)) (fun _ vi _ => n1 - (intOf vi).toNat)
  case atStart => exact ⟨0, _, rfl, rfl, Nat.zero_le _, Lib.hid (LsO.nil _ _), Lib.hid (Below.refl _ _)⟩
  case round =>
    obtain ⟨j, v0, rfl, rfl, hj, HL, BQ⟩ := hrel
    by_cases hjn : j < n1
    · obtain ⟨b, off, s, rfl, hs, hcell, hft⟩ := H1.out.at strOk BQ.out j hjn
      have HCE := Lib.hid hcell
      have c0 : wr.cell? ⟨b, off + j, none⟩ = some (.string s) := by have := hcell 0 _ rfl; simpa using this
      have C0 := Lib.hid c0
      have LT := Lib.hid (show b < wr.heap.size by
        obtain ⟨b', o', e, hlt, -⟩ := H1.out.hcells.resolve_left (by omega)
        injection e with e; injection e with e1 e2 e3; subst e1; exact Nat.lt_of_lt_of_le hlt BQ.out.size)
      have SZM := Lib.hid hft
      have HX := Lib.hid (take_nextS L1 j (lackP me n L2) s hs)
      have hss := HS1.out s (List.mem_of_getElem? hs)
      have HC1 := Lib.hid (HC.out s hss)
      have HC2 := Lib.hid (fun w' (hb : Below w.heap.size w w') => zpin s a2 n2 c2 L2 w' (H2.out.mono strOk hb))
      have HF := Lib.hid (show ((L1.take j).filter (lackP me n L2)).length ≤ 30 by
        refine Nat.le_trans (List.length_filter_le _ _) ?_
        rw [List.length_take]; omega)
      have g1 : (0 : Int) ≤ (j : Int) := by omega
      have g2 : (j : Int) < (n1 : Int) := by omega
      obtain ⟨d1, hd1⟩ : ∃ d, hasStr L2 s = d := ⟨_, rfl⟩
      obtain ⟨d2, hd2⟩ : ∃ d, decide (me ∈ nodP s n) = d := ⟨_, rfl⟩
      have HQ := Lib.hid (show lackP me n L2 s = (!d1 && d2) by unfold lackP; rw [hd1, hd2])
      rw [hd2] at HC1
      rw [hd1] at HC2
      clear hs hcell hft hss hd1 hd2
      cases d2
      · go_wp2_with (first
          | (go_at_call 13; (with_reducible refine (HC1.out _).mono ?_); rintro x w4 ⟨rfl, hb⟩; have D4 := Lib.hid (BQ.out.trans (hb.mono BQ.out.size)); have L4 := Lib.hid (HL.out.kept hb); clear hb))
        go_roundw
        case rel => exact ⟨j + 1, _, rfl, by go_num, by omega, Lib.hid (by rw [HX.out, HQ.out]; simpa using L4.out), D4⟩
        case measure => simp [intOf]; omega
      cases d1
      · go_wp2_with (first
          | (go_at_call 13; (with_reducible refine (HC1.out _).mono ?_); rintro x w4 ⟨rfl, hb⟩; have D4 := Lib.hid (BQ.out.trans (hb.mono BQ.out.size)); have L4 := Lib.hid (HL.out.kept hb); have c1 := (hb.cell (p := ⟨b, off + j, none⟩) LT.out).trans C0.out; clear hb c0)
          | (go_at_call 34; (with_reducible refine (HC2.out _ D4.out).mono ?_); rintro x w5 ⟨rfl, rfl⟩)
          | (at_builtin; (with_reducible refine append_ls strOk (o := ⟨some 39, _, _, _, _, _⟩) rfl _ _ rfl w.heap.size _ _ ?_ (L4.out.kept ((Below.refl _ _).alloc (Nat.le_refl _) _)) (some ⟨w4.heap.size, 0, none⟩) 1 1 [s] ?_ (ls_new strOk w4 s _ rfl SZM.out) ?_ ?_ ?_); (focus (first | (go_simp; done) | (go_simp; rfl))); (focus (first | (go_simp; done) | (go_simp; rfl))); (focus (have := HF.out; omega)); (focus (have := D4.out.size; simp; omega)); intro v6 w6 hl hb _ _; have L6 := Lib.hid hl; have B6 := Lib.hid ((D4.out.trans ((Below.refl w4.heap.size w4).alloc (Nat.le_refl _) (.cells #[.string s] 9) |>.mono D4.out.size)).trans hb); clear hl hb))
        go_roundw
        case rel => exact ⟨j + 1, _, rfl, by go_num, by omega, Lib.hid (by rw [HX.out, HQ.out]; simpa using L6.out), B6⟩
        case measure => simp [intOf]; omega
      · go_wp2_with (first
          | (go_at_call 13; (with_reducible refine (HC1.out _).mono ?_); rintro x w4 ⟨rfl, hb⟩; have D4 := Lib.hid (BQ.out.trans (hb.mono BQ.out.size)); have L4 := Lib.hid (HL.out.kept hb); have c1 := (hb.cell (p := ⟨b, off + j, none⟩) LT.out).trans C0.out; clear hb c0)
          | (go_at_call 34; (with_reducible refine (HC2.out _ D4.out).mono ?_); rintro x w5 ⟨rfl, rfl⟩))
        go_roundw
        case rel => exact ⟨j + 1, _, rfl, by go_num, by omega, Lib.hid (by rw [HX.out, HQ.out]; simpa using L4.out), D4⟩
        case measure => simp [intOf]; omega
    · obtain rfl : j = n1 := by omega
      have ht : L1.take j = L1 := List.take_of_length_le (by rw [HN1.out]; exact Nat.le_refl _)
      rw [ht] at HL
      clear ht
      go_wp2_with fail
      go_ret
      exact ⟨_, rfl, HL.out, BQ.out⟩
set_option maxRecDepth 100000 in
set_option maxHeartbeats 16000000 in
theorem law_PlaceLacks (me n : Int) (a1 : Option Addr) (n1 c1 : Nat) (L1 : List ByteArray) (a2 : Option Addr) (n2 c2 : Nat) (L2 : List ByteArray) (w : World) (hK : Ks w) (_wm : (Lit.int .i64 me).wf = true) (wn : (Lit.int .i64 n).wf = true) (h1 : Ls strE w a1 n1 c1 L1) (h2 : Ls strE w a2 n2 c2 L2) :
    Calls Tryd.prog 5 #[.int .i64 me, .int .i64 n, .slice a1 n1 c1, .slice a2 n2 c2] w fun x w' => x = .returned (.bool true) ∧ Below w.heap.size w w' := by
  have hn : SI64 n := bd wn
  have HK := Lib.hid hK
  have HA := Lib.hid (fun w' (hb : Below w.heap.size w w') => awake29 w' (HK.out.below hb HK.out.pos))
  clear hK wn
  by_cases f1 : n1 ≤ 30
  rotate_left
  · have g1 : (30 : Int) < (n1 : Int) := by omega
    clear h1 h2
    go_enter Tryd.func5, Tryd.ntmps5
    go_wp2_with (go_at_call 6; (with_reducible refine (HA.out _ (Below.refl _ _)).mono ?_); rintro x wb ⟨rfl, hb⟩; have Bb := Lib.hid hb; clear hb)
    go_ret
    exact ⟨rfl, Bb.out⟩
  have g1 : ¬ (30 : Int) < (n1 : Int) := by omega
  by_cases f2 : n2 ≤ 30
  rotate_left
  · have g2 : (30 : Int) < (n2 : Int) := by omega
    clear h1 h2
    go_enter Tryd.func5, Tryd.ntmps5
    go_wp2_with (go_at_call 6; (with_reducible refine (HA.out _ (Below.refl _ _)).mono ?_); rintro x wb ⟨rfl, hb⟩; have Bb := Lib.hid hb; clear hb)
    go_ret
    exact ⟨rfl, Bb.out⟩
  have g2 : ¬ (30 : Int) < (n2 : Int) := by omega
  have H1 := Lib.hid h1
  have H2 := Lib.hid h2
  have HN1 := Lib.hid h1.hlen
  have HN2 := Lib.hid h2.hlen
  have HL1 := Lib.hid (fun w' (hb : Below w.heap.size w w') (s1 : ∀ s ∈ L1, s.size ≤ 200) (s2 : ∀ s ∈ L2, s.size ≤ 200) => pllacks me n a1 a2 n1 n2 c1 c2 L1 L2 w' (HK.out.below hb HK.out.pos) hn (H1.out.mono strOk hb) (H2.out.mono strOk hb) f1 f2 s1 s2)
  have HL2 := Lib.hid (fun w' (hb : Below w.heap.size w w') (s1 : ∀ s ∈ L1, s.size ≤ 200) => zplacks me n a1 a2 n1 n2 c1 c2 L1 L2 w' hn (H1.out.mono strOk hb) (H2.out.mono strOk hb) f1 s1)
  have HCL := Lib.hid (plsclone a1 n1 c1 L1 w h1 (by omega))
  clear h1 h2 hn
  go_enter Tryd.func5, Tryd.ntmps5
  go_wp2_with (first
    | (go_at_call 18; (with_reducible refine HCL.out.mono ?_); rintro x w1 ⟨a3, c3, rfl, hl, hb⟩; have L3 := Lib.hid hl; have B3 := Lib.hid hb; clear hl hb)
    | (at_builtin; (with_reducible refine append_ls strOk (o := ⟨some 23, _, _, _, _, _⟩) rfl _ _ rfl w.heap.size _ _ ?_ L3.out a2 n2 c2 L2 ?_ (H2.out.mono strOk B3.out) ?_ B3.out.size ?_); (focus (first | (go_simp; done) | (go_simp; rfl))); (focus (first | (go_simp; done) | (go_simp; rfl))); (focus (rw [HN1.out]; omega)); intro v4 w4 hl hb _ _; have hf4 : ∀ x ∈ L1 ++ L2, strE.fit w4 x := fun x hx => (List.mem_append.1 hx).elim (H1.out.hfit x) (H2.out.hfit x); obtain ⟨a4, c4, rfl, hls, -⟩ := hl.ls strOk hf4; rw [List.length_append, HN1.out, HN2.out] at hls ⊢; have L4 := Lib.hid hls; have B4 := Lib.hid (B3.out.trans hb); clear hl hb hls hf4))
  go_loopw [25] (fun vi wr => ∃ (k : Nat), vi = .int .i64 (k : Int) ∧ k ≤ n1 + n2 ∧ Hid (∀ i, i < k → ∀ x, (L1 ++ L2)[i]? = some x → x.size ≤ 200) ∧ w4 = wr) (fun vi _ => n1 + n2 - (intOf vi).toNat)
  case atStart => exact ⟨0, rfl, Nat.zero_le _, Lib.hid (fun i h => absurd h (by omega)), rfl⟩
  case round =>
    obtain ⟨k, rfl, hk, HP, rfl⟩ := hrel
    by_cases hlt : k < n1 + n2
    · obtain ⟨b, off, s, rfl, hs, hcell, -⟩ := L4.out.at strOk (Below.refl _ _) k hlt
      have c0 : w4.cell? ⟨b, off + k, none⟩ = some (.string s) := by have := hcell 0 _ rfl; simpa using this
      have HX := Lib.hid hs
      have g3 : (0 : Int) ≤ (k : Int) := by omega
      have g4 : (k : Int) < (n1 : Int) + (n2 : Int) := by omega
      clear hs hcell
      by_cases f3 : s.size ≤ 200
      · have g5 : ¬ (200 : Int) < (s.size : Int) := by omega
        go_wp2_with fail
        go_roundw
        case rel =>
          refine ⟨k + 1, by go_num, by omega, Lib.hid ?_, trivial⟩
          intro i hi y hy
          by_cases h : i < k
          · exact HP.out i h y hy
          · obtain rfl : i = k := by omega
            rw [HX.out] at hy; injection hy with hy; subst hy; exact f3
        case measure => simp [intOf]; omega
      · have g5 : (200 : Int) < (s.size : Int) := by omega
        go_wp2_with (go_at_call 6; (with_reducible refine (HA.out _ B4.out).mono ?_); rintro x wb ⟨rfl, hb⟩; have Bb := Lib.hid (B4.out.trans (hb.mono B4.out.size)); clear hb)
        go_ret
        exact ⟨rfl, Bb.out⟩
    · obtain rfl : k = n1 + n2 := by omega
      have hall : ∀ s ∈ L1 ++ L2, s.size ≤ 200 := fun s hs => by
        obtain ⟨i, hi, e⟩ := List.mem_iff_getElem.1 hs
        exact HP.out i (by rw [List.length_append, HN1.out, HN2.out] at hi; exact hi) s (by rw [List.getElem?_eq_getElem hi, e])
      have HD1 := Lib.hid (HL1.out w4 B4.out (fun s hs => hall s (List.mem_append.2 (.inl hs))) (fun s hs => hall s (List.mem_append.2 (.inr hs))))
      have HD2 := Lib.hid (fun w' hb => HL2.out w' hb (fun s hs => hall s (List.mem_append.2 (.inl hs))))
      obtain ⟨F, hF⟩ : ∃ F, L1.filter (lackP me n L2) = F := ⟨_, rfl⟩
      have HSF := Lib.hid (show ∀ x ∈ F, x.size ≤ maxLen by rw [← hF]; exact fun x hx => by have := hall x (List.mem_append.2 (.inl (List.mem_filter.1 hx).1)); unfold maxLen; omega)
      obtain ⟨m, hm⟩ : ∃ m, F.length = m := ⟨_, rfl⟩
      have HM := Lib.hid hm
      rw [hF] at HD1 HD2
      clear hall hF hm
      go_wp2_with (first
        | (go_at_call 20; (with_reducible refine HD1.out.mono ?_); rintro x w5 ⟨v, rfl, hl, hb⟩; obtain ⟨a5, c5, rfl, hls, -⟩ := hl.ls strOk HSF.out; rw [HM.out] at hls ⊢; have S5 := Lib.hid hls; have B5 := Lib.hid (B4.out.trans (hb.mono B4.out.size)); clear hl hb hls)
        | (go_at_call 21; (with_reducible refine (HD2.out _ B5.out).mono ?_); rintro x w6 ⟨v, rfl, hl, hb⟩; obtain ⟨a6, c6, rfl, hls, -⟩ := hl.ls strOk HSF.out; rw [HM.out] at hls ⊢; have S6 := Lib.hid hls; have B6 := Lib.hid (B5.out.trans (hb.mono B5.out.size)); have E6 := Lib.hid (strequal a5 a6 m c5 m c6 F F w6 true (S5.out.mono strOk hb) S6.out (by simp)); clear hl hb hls)
        | (go_at_call 19; (with_reducible refine E6.out.mono ?_); rintro x w7 ⟨rfl, hb⟩; have B7 := Lib.hid (B6.out.trans (hb.mono B6.out.size)); clear hb)
        | (go_at_call 6; (with_reducible refine (HA.out _ B7.out).mono ?_); rintro x wb ⟨rfl, hb⟩; have Bb := Lib.hid (B7.out.trans (hb.mono B7.out.size)); clear hb))
      go_ret
      exact ⟨rfl, Bb.out⟩
end Go.Proofs.YthbbiiegbddpdaaDoor.W
