/- LAYER 23 (command): whether a command is few; commands as they come in. -/
import Derived.Test.YtkmdbdieloimiaaCmX
import Derived.Test.YtkmdbdieloimiaaMfU
set_option linter.unusedSimpArgs false
set_option linter.unusedVariables false
namespace Go.Proofs.Ytkmdbdieloimiaa.W
open Go Go.ChangeShapes Go.WideShapes Go.ChangeAt Go.RowKit
open Go.Proofs.Ytkmdbdieloimiaa.P (enc dec)
open Go.Proofs.Ytkmdbdieloimiaa.S

def smallC (c : Cv) : Bool := decide (c.name.size ≤ 200)
def fewCm (m : Cm) : Bool := (decide (m.V.length ≤ 20) && m.V.all smallC) && (decide (m.P.length ≤ 20) && (decide (m.sp.size ≤ 200) && decide (m.nm.size ≤ 200)))
theorem smc_next (L : List Cv) (k : Nat) (x : Cv) (h : L[k]? = some x) : (L.take (k + 1)).all smallC = ((L.take k).all smallC && smallC x) := by
  obtain ⟨h1, h2⟩ := List.getElem?_eq_some_iff.1 h
  rw [List.take_succ_eq_append_getElem h1, List.all_append, h2]; simp
theorem smc_bad (L : List Cv) (k : Nat) (x : Cv) (h : L[k]? = some x) (hx : smallC x = false) : L.all smallC = false := by
  obtain ⟨h1, h2⟩ := List.getElem?_eq_some_iff.1 h
  rw [List.all_eq_false]
  exact ⟨x, by rw [← h2]; exact List.getElem_mem _, by simp [hx]⟩
set_option maxRecDepth 100000 in
set_option maxHeartbeats 8000000 in
theorem few23 (x : CmX) (w : World) (h : x.fit w) : Calls Try.prog 8 #[.agg x.cells.toArray] w fun e w' => e = .returned (.bool (fewCm x.m)) ∧ Below w.heap.size w w' := by
  obtain ⟨⟨cl, sq, kd, id, ep, V, sp, nm, nu, by1, ti, PL⟩, va, vn, vc, pa, pn, pc⟩ := x
  obtain ⟨-, -, -, -, -, hV, hs, hn, -, -, -, hP⟩ := h
  dsimp only at hV hs hn hP ⊢
  have H := Lib.hid hV.ls
  have HL := Lib.hid hV.hlen
  have HP := Lib.hid hP.hlen
  have hm := hV.hmax
  have hle := hV.hle
  have hmp := hP.hmax
  have hlp := hP.hle
  have hs2 : (sp.size : Int) ≤ 9223372036854775807 := by unfold maxLen at hs; omega
  have hn2 : (nm.size : Int) ≤ 9223372036854775807 := by unfold maxLen at hn; omega
  obtain ⟨F, hF⟩ : ∃ F, fewCm ⟨cl, sq, kd, id, ep, V, sp, nm, nu, by1, ti, PL⟩ = F := ⟨_, rfl⟩
  rw [hF]
  have HF := Lib.hid (show ((decide (vn ≤ 20) && V.all smallC) && (decide (pn ≤ 20) && (decide (sp.size ≤ 200) && decide (nm.size ≤ 200)))) = F by rw [← hF, ← hV.hlen, ← hP.hlen]; rfl)
  clear hV hP hF hs hn
  go_enter Try.func8, Try.ntmps8
  go_wp2_with ((with_reducible refine box_row (o := ⟨some 1, _, _, _, _, _⟩) rfl _ _ rfl (cmC cl sq kd id ep va vn vc sp nm nu by1 ti pa pn pc) rfl ?_); intro w1 hr hb hz; have X1 := Lib.hid hr; have B1 := Lib.hid hb; have c5 := hr.cm'.c5; clear hr hb hz)
  clear c5
  go_loopw [8] (fun i wr => ∃ k : Nat, i = .int .i64 (k : Int) ∧ k ≤ vn ∧ k ≤ 20 ∧ Hid ((V.take k).all smallC = true) ∧ Hid (Below w1.heap.size w1 wr)) (fun i _ => vn - (intOf i).toNat)
  case atStart => exact ⟨0, rfl, Nat.zero_le _, Nat.zero_le _, Lib.hid rfl, Lib.hid (Below.refl _ _)⟩
  case round =>
    obtain ⟨k, rfl, hk, hk20, A, B⟩ := hrel
    have BW := Lib.hid (B1.out.trans (B.out.mono B1.out.size))
    by_cases hlt : k < vn
    · obtain ⟨b, off, x, rfl, hx, hcell, hfx⟩ := H.out.at cvOk BW.out k hlt
      have hnx := smc_next V k x hx
      rw [A.out, Bool.true_and] at hnx
      have hbad : smallC x = false → F = false := fun e => by
        rw [← HF.out, smc_bad V k x hx e, Bool.and_false]; rfl
      have hb20 : k = 20 → F = false := fun e => by
        rw [← HF.out, decide_eq_false (by omega)]; rfl
      obtain ⟨x0, x1, x2⟩ := cvC b off k wr x hcell
      have hnm := hfx.2.2
      obtain ⟨kind, num, name⟩ := x
      dsimp only at x0 x1 x2 hnm
      have g1 : (0 : Int) ≤ (k : Int) := by omega
      have g2 : (k : Int) < (vn : Int) := by omega
      have hnm2 : (name.size : Int) ≤ 9223372036854775807 := by unfold maxLen at hnm; omega
      clear hx hcell hfx
      by_cases k20 : 20 ≤ k
      · have HF' := Lib.hid (hb20 (by omega))
        have g3 : (20 : Int) ≤ (k : Int) := by omega
        clear hnx hbad hb20
        go_wp2_with fail
        go_ret
        exact ⟨by rw [HF'.out]; first | done | rfl, BW.out.alloc BW.out.size _⟩
      · have g3 : ¬ (20 : Int) ≤ (k : Int) := by omega
        by_cases hsm : name.size ≤ 200
        · have hsm2 : ¬ (200 : Int) < (name.size : Int) := by omega
          have HN := Lib.hid (show (V.take (k + 1)).all smallC = true by rw [hnx]; unfold smallC; exact decide_eq_true hsm)
          clear hnx hbad hb20
          go_wp2_with fail
          go_roundw
          case rel => exact ⟨k + 1, vint (by omega), by omega, by omega, HN, Lib.hid (B.out.alloc B.out.size _)⟩
          case measure => simp [intOf]; omega
        · have hsm2 : (200 : Int) < (name.size : Int) := by omega
          have HF' := Lib.hid (hbad (by unfold smallC; exact decide_eq_false hsm))
          clear hnx hbad hb20
          go_wp2_with fail
          go_ret
          exact ⟨by rw [HF'.out]; first | done | rfl, BW.out.alloc BW.out.size _⟩
    · obtain rfl : vn = k := by omega
      have ht : V.take vn = V := List.take_of_length_le (by rw [HL.out]; exact Nat.le_refl _)
      have HX := Lib.hid (show F = (decide (pn ≤ 20) && (decide (sp.size ≤ 200) && decide (nm.size ≤ 200))) by rw [← HF.out]; rw [ht] at A; rw [A.out, decide_eq_true hk20]; rfl)
      have XR := Lib.hid (X1.out.below B.out X1.out.lt)
      obtain ⟨-, -, -, -, -, -, c6, c7, -, -, -, c11⟩ := XR.out.cm'
      clear ht
      by_cases p20 : pn ≤ 20
      · have q1 : (pn : Int) ≤ 20 := by omega
        by_cases s200 : sp.size ≤ 200
        · have q2 : (sp.size : Int) ≤ 200 := by omega
          by_cases n200 : nm.size ≤ 200
          · have q3 : (nm.size : Int) ≤ 200 := by omega
            have HY := Lib.hid (show F = true by rw [HX.out]; simp [p20, s200, n200])
            go_wp2_with fail
            go_ret
            exact ⟨one (vbool (by rw [HY.out])), BW.out⟩
          · have q3 : ¬ (nm.size : Int) ≤ 200 := by omega
            have HY := Lib.hid (show F = false by rw [HX.out]; simp [p20, s200, n200])
            go_wp2_with fail
            go_ret
            exact ⟨one (vbool (by rw [HY.out])), BW.out⟩
        · have q2 : ¬ (sp.size : Int) ≤ 200 := by omega
          have HY := Lib.hid (show F = false by rw [HX.out]; simp [p20, s200])
          go_wp2_with fail
          go_ret
          exact ⟨one (vbool (by rw [HY.out])), BW.out⟩
      · have q1 : ¬ (pn : Int) ≤ 20 := by omega
        have HY := Lib.hid (show F = false by rw [HX.out]; simp [p20])
        go_wp2_with fail
        go_ret
        exact ⟨one (vbool (by rw [HY.out])), BW.out⟩
@[reducible] def CmX.val (x : CmX) : Value := .agg x.cells.toArray
section
variable {H : Type} {enc : TypeId × Value → H} {w : World} {base : Nat} {held : Bool}
set_option maxRecDepth 100000 in
set_option maxHeartbeats 4000000 in
theorem cm_cells {fuel : Nat} {cs : List Value} {x : DataW H × List MemPlace} (h : DataW.trod enc Try.prog w base (fun _ => true) held fuel 31 cs = some x) : ∃ y : CmX, cs = y.cells ∧ y.fit w := by
  obtain ⟨xs, n, hn, rfl, hl, hlen, hf⟩ := DataW.trod_struct Try.underlying31 h
  have hcl : Try.prog.cellsOf 31 = 12 := by kernel_rfl
  rw [hcl] at hl
  have f0 := hf 0 _ rfl
  have f1 := hf 1 _ rfl
  have f2 := hf 2 _ rfl
  have f3 := hf 3 _ rfl
  have f4 := hf 4 _ rfl
  have f5 := hf 5 _ rfl
  have f6 := hf 6 _ rfl
  have f7 := hf 7 _ rfl
  have f8 := hf 8 _ rfl
  have f9 := hf 9 _ rfl
  have f10 := hf 10 _ rfl
  have f11 := hf 11 _ rfl
  match cs, hl with
  | [v0, v1, v2, v3, v4, v5, v6, v7, v8, v9, v10, v11], _ =>
    have c1 : Try.prog.cellsOf 3 = 1 := by kernel_rfl
    have c2 : Try.prog.cellsOf 9 = 1 := by kernel_rfl
    have c3 : Try.prog.cellsOf 28 = 1 := by kernel_rfl
    have c4 : Try.prog.cellsOf 29 = 1 := by kernel_rfl
    match xs, hlen with
    | [x0, x1, x2, x3, x4, x5, x6, x7, x8, x9, x10, x11], _ =>
    simp [c1] at f0
    simp [c1] at f1
    simp [c1] at f2
    simp [c1] at f3
    simp [c1] at f4
    simp [c1, c3] at f5
    simp [c1, c2, c3] at f6
    simp [c1, c2, c3] at f7
    simp [c1, c2, c3] at f8
    simp [c1, c2, c3] at f9
    simp [c1, c2, c3] at f10
    simp [c1, c2, c3, c4] at f11
    obtain ⟨n0, e0, -, w0⟩ := DataW.trod_int Try.underlying3 f0
    obtain ⟨n1, e1, -, w1⟩ := DataW.trod_int Try.underlying3 f1
    obtain ⟨n2, e2, -, w2⟩ := DataW.trod_int Try.underlying3 f2
    obtain ⟨n3, e3, -, w3⟩ := DataW.trod_int Try.underlying3 f3
    obtain ⟨n4, e4, -, w4⟩ := DataW.trod_int Try.underlying3 f4
    obtain ⟨va, vn, vc, V, e5, hV⟩ := ls_cells cvOk (by kernel_rfl) (fun hx => cv_cells hx) f5
    obtain ⟨n6, e6, -, w6⟩ := DataW.trod_string Try.underlying9 f6
    obtain ⟨n7, e7, -, w7⟩ := DataW.trod_string Try.underlying9 f7
    obtain ⟨n8, e8, -, w8⟩ := DataW.trod_int Try.underlying3 f8
    obtain ⟨n9, e9, -, w9⟩ := DataW.trod_int Try.underlying3 f9
    obtain ⟨n10, e10, -, w10⟩ := DataW.trod_int Try.underlying3 f10
    obtain ⟨pa, pn, pc, P, e11, hP⟩ := ls_cells pcOk (by kernel_rfl) (fun hx => pc_cells hx) f11
    simp at e0 e1 e2 e3 e4 e5 e6 e7 e8 e9 e10 e11
    exact ⟨⟨⟨n0, n1, n2, n3, n4, V, n6, n7, n8, n9, n10, P⟩, va, vn, vc, pa, pn, pc⟩, by simp [CmX.cells, cmC, e0, e1, e2, e3, e4, e5, e6, e7, e8, e9, e10, e11], ⟨bd w0, bd w1, bd w2, bd w3, bd w4, hV.cvs, w6, w7, bd w8, bd w9, bd w10, hP⟩⟩
set_option maxRecDepth 100000 in
theorem cm_open {base' : Nat} {v : Value} {d : DataW H} {pl : List MemPlace} (hv : Value.okWide Try.prog w .any base' 31 v) (h : DataW.Trod enc Try.prog w base (fun _ => true) held 31 v d pl) : ∃ x : CmX, v = x.val ∧ x.fit w := by
  obtain ⟨fuel, hf⟩ := h
  obtain ⟨c, hc, hfit⟩ := cm_cells hf
  obtain ⟨cs, rfl, -⟩ := okWide_struct Try.underlying31 hv
  refine ⟨c, ?_, hfit⟩
  simp [Value.cells] at hc
  unfold CmX.val
  congr 1
  apply Array.ext'
  rw [hc]
@[reducible] def cmE : El CmX := ⟨22, 31, 12, 144, .agg (cmC 0 0 0 0 0 none 0 0 ⟨#[]⟩ ⟨#[]⟩ 0 0 0 none 0 0).toArray, CmX.cells, fun w x => x.fit w⟩
theorem cmOk : cmE.Ok Try.prog where
  und := Try.underlying22
  info := by kernel_rfl
  zs := rfl
  pos := by decide
  len := fun _ => rfl
  one := fun s v hv => cm_one _ _ _ _ _ _ _ _ _ _ _ _ _ _ _ _ v hv
  mono := fun _ _ _ h hb => h.mono hb
  small := by decide
theorem cms_open {a : Option Addr} {len cap : Nat} {d : DataW H} {pl : List MemPlace} (h : DataW.Trod enc Try.prog w base (fun _ => true) held 22 (.slice a len cap) d pl) : ∃ X, Ls cmE w a len cap X := by
  obtain ⟨fuel, hf⟩ := h
  obtain ⟨a', n, c, L, e, hL⟩ := ls_cells cmOk (by kernel_rfl) (fun hx => cm_cells hx) hf
  simp [Value.cells] at e
  obtain ⟨rfl, rfl, rfl⟩ := e
  exact ⟨L, hL⟩
end
end Go.Proofs.Ytkmdbdieloimiaa.W
