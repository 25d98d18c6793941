/- CONTRACTS of layer 10 (frame): the reference's Next. -/
import Derived.Test.YtfcbndjciojniaaFrR
import Derived.Test.YtfcbndjciojniaaQ
set_option linter.unusedSimpArgs false
set_option linter.unusedVariables false
namespace Go.Proofs.Ytfcbndjciojniaa.W
open Go Go.ChangeShapes Go.WideShapes Go.ChangeAt Go.RowKit
open Go.Proofs.Ytfcbndjciojniaa.P (enc dec)

theorem Rd.first {w : World} {a : Option Addr} {len cap : Nat} {l : List UInt8} (h : Rd w a len cap l) (s : Nat) (hs : s ≤ len) : Rd w a s cap (l.take s) := by
  refine ⟨by rw [List.length_take, h.hlen]; omega, Nat.le_trans hs h.hle, h.hmax, h.hnil, ?_⟩
  rcases h.hcells with h0 | ⟨b, off, e, hlt, hc⟩
  · exact .inl (by omega)
  · refine .inr ⟨b, off, e, hlt, fun i hi => ?_⟩
    rw [hc i (by omega)]
    congr 2
    simp [List.getD_eq_getElem?_getD, List.getElem?_take, hi]
theorem numR_good {most : Int} {l : List UInt8} {n : Nat} {r : List UInt8} (h : numR most l 0 = (n, r, 0)) : l = enc n ++ r ∧ (n : Int) ≤ most ∧ n < 9223372036854775808 := by
  by_cases hd : (dec 9 0 0 l).2.2 = 0
  · by_cases hm : most < ((dec 9 0 0 l).1 : Int)
    · rw [numR_long hd hm] at h
      simp at h
    · rw [numR_ok hd hm] at h
      simp only [Prod.mk.injEq] at h
      obtain ⟨rfl, rfl, -⟩ := h
      refine ⟨?_, by omega, P.dec_rng l⟩
      rw [P.enc_dec9 l hd, List.take_append_drop]
  · rw [numR_bad hd] at h
    simp only [Prod.mk.injEq] at h
    exact absurd h.2.2 hd
theorem str_eqb2 (a b : ByteArray) : (a.toList == b.toList) = decide (a.data.toList = b.data.toList) := by
  rw [ByteArray.toList_eq, ByteArray.toList_eq]
  rw [Bool.eq_iff_iff]; simp
/-- the frame with which bytes begin: what it holds, how many bytes it has, the error -/
def nextF (b : List UInt8) : List UInt8 × Nat × Int :=
  if (numR 262144 b 0).2.2 ≠ 0 then ([], 0, (numR 262144 b 0).2.2)
  else if (numR 262144 b 0).2.1.length < (numR 262144 b 0).1 + 4 then ([], 0, 4)
  else if sealF ((numR 262144 b 0).2.1.take (numR 262144 b 0).1) ≠ b.take (sealF ((numR 262144 b 0).2.1.take (numR 262144 b 0).1)).length then ([], 0, 9)
  else ((numR 262144 b 0).2.1.take (numR 262144 b 0).1, (sealF ((numR 262144 b 0).2.1.take (numR 262144 b 0).1)).length, 0)
theorem seal_len (l : List UInt8) : (sealF l).length = (enc l.length).length + l.length + 4 := by simp [sealF, headF, sum4]; omega

set_option maxRecDepth 100000 in
set_option maxHeartbeats 4000000 in
theorem unext_any (a : Option Addr) (len cap : Nat) (b : List UInt8) (w : World) (hr : Rd w a len cap b) (hmax : len ≤ 1000000) (x : List UInt8) (m : Nat) (e : Int) (hx : nextF b = (x, m, e)) :
    Calls Try.prog 34 #[.slice a len cap] w fun y w' => ∃ v, y = .returned (.tuple #[v, .int .i64 (m : Int), .int .i64 e]) ∧ Fr w' w.heap.size v x ∧ Below w.heap.size w w' := by
  have HR := Lib.hid hr
  have hlen := hr.hlen
  have hcap := hr.hle
  obtain ⟨n, r, e1, hn⟩ : ∃ n r e1, numR 262144 b 0 = (n, r, e1) := ⟨_, _, _, rfl⟩
  unfold nextF at hx
  rw [hn] at hx
  dsimp only at hx
  have HN := Lib.hid hn
  by_cases he1 : e1 = 0
  · subst he1
    obtain ⟨hb, hle, -⟩ := numR_good hn
    rw [if_neg (by simp)] at hx
    have hnl : n ≤ 262144 := by omega
    have hbl : len = (enc n).length + r.length := by rw [← hlen, hb, List.length_append]
    have hrl : r.length ≤ 1000000 := by omega
    have HBL := Lib.hid hbl
    clear hn hr
    by_cases hsh : r.length < n + 4
    · rw [if_pos hsh] at hx
      simp only [Prod.mk.injEq] at hx
      obtain ⟨rfl, rfl, rfl⟩ := hx
      clear hbl hb hlen
      go_enter Try.func34, Try.ntmps34
      go_wp2_with (first
        | (go_at_call 59; refine (ropen a len cap b w HR.out (by omega)).mono ?_; rintro y w1 ⟨p, rfl, hp, hrr, hb1⟩; have P1 := Lib.hid hrr; have PL := Lib.hid hp; have B1 := Lib.hid hb1; clear hrr hp hb1)
        | (go_at_call 60; refine (rnumR p 262144 b 0 w1 P1.out).mono ?_; rw [HN.out]; dsimp only; rintro y w2 ⟨rfl, hrr, hu⟩; have P2 := Lib.hid hrr; have B2 := Lib.hid (B1.out.trans (hu.below PL.out)); clear hrr hu)
        | (go_at_call 61; refine (rerr p r 0 w2 P2.out).mono ?_; rintro y wq ⟨rfl, rfl⟩)
        | (go_at_call 62; refine (rleft p r 0 w2 P2.out).mono ?_; rintro y wq ⟨rfl, rfl⟩))
      go_ret3
      exact ⟨_, rfl, Fr.nil _ _, B2.out⟩
    · rw [if_neg hsh] at hx
      obtain ⟨hd, hhd⟩ : ∃ hd, r.take n = hd := ⟨_, rfl⟩
      have hdl : hd.length = n := by rw [← hhd, List.length_take]; omega
      obtain ⟨F, hF⟩ : ∃ F, sealF hd = F := ⟨_, rfl⟩
      have hFl : F.length = (enc n).length + n + 4 := by rw [← hF, seal_len, hdl]
      rw [hhd, hF] at hx
      obtain ⟨q, hq⟩ : ∃ q, F.length = q := ⟨_, rfl⟩
      have hql : q ≤ len := by omega
      have hqc : q ≤ cap := by omega
      rw [hq] at hx
      have HHD := Lib.hid hhd
      have HDL := Lib.hid hdl
      have HF := Lib.hid hF
      have HQ := Lib.hid hq
      have hwn : IntKind.i64.wrap ((n : Int) + 4) = (n : Int) + 4 := by rw [IntKind.wrap_i64]; omega
      have hnr : n ≤ r.length := by omega
      obtain ⟨D, hD⟩ : ∃ D, ((str F).toList == (str (b.take q)).toList) = D := ⟨_, rfl⟩
      have HD := Lib.hid hD
      have hDx : D = decide (F = b.take q) := by rw [← hD, str_eqb2, str_data, str_data]
      clear hhd hdl hF hq hFl hb hlen hbl hD
      go_enter Try.func34, Try.ntmps34
      go_wp2_with (first
        | (go_at_call 59; refine (ropen a len cap b w HR.out (by omega)).mono ?_; rintro y w1 ⟨p, rfl, hp, hrr, hb1⟩; have P1 := Lib.hid hrr; have PL := Lib.hid hp; have B1 := Lib.hid hb1; clear hrr hp hb1)
        | (go_at_call 60; refine (rnumR p 262144 b 0 w1 P1.out).mono ?_; rw [HN.out]; dsimp only; rintro y w2 ⟨rfl, hrr, hu⟩; have P2 := Lib.hid hrr; have B2 := Lib.hid (B1.out.trans (hu.below PL.out)); clear hrr hu)
        | (go_at_call 61; refine (rerr p r 0 w2 P2.out).mono ?_; rintro y wq ⟨rfl, rfl⟩)
        | (go_at_call 62; refine (rleft p r 0 w2 P2.out).mono ?_; rintro y wq ⟨rfl, rfl⟩; obtain ⟨ra, rc, c0, c1, -, -, hrd, -⟩ := P2.out.cells; have RD := Lib.hid hrd; have hrc := hrd.hle; have hnc : n ≤ rc := (by omega); clear hrd hrc)
        | (go_at_call 32; refine (useal_ok ra n rc hd w2 (by rw [← HHD.out]; exact RD.out.first n hnr) hnl).mono ?_; rw [HF.out]; rintro y w3 ⟨v3, rfl, hf3, hb3⟩; obtain ⟨a3, c3, hv3, hr3⟩ := hf3.form' q HQ.out; subst hv3; have R3 := Lib.hid hr3; have RD3 := Lib.hid (RD.out.mono hb3); have B3 := Lib.hid (B2.out.trans (hb3.mono B2.out.size)); clear hf3 hr3 hb3 c0 c1))
      refine region_w (C := fun v => Below w3.heap.size w3 v) (by kernel_rfl) (by kernel_rfl) (Below.refl _ _).drew ?_
      repeat (first
        | (refine w_read (wanted_free rfl) ?_ ?_ ?_; rotate_left; (focus (intro v hv; have cv1 := conv_rd (R3.out.mono hv); have cv2 := conv_rd (((HR.out.mono B3.out).mono hv).first q hql); have hDD := HD.out; go_simp; rfl)); go_simp))
      refine w_nil ?_
      intro w4 hb4
      have RD4 := Lib.hid (RD3.out.mono hb4)
      have B4 := Lib.hid (B3.out.trans (hb4.mono B3.out.size))
      clear hb4
      rw [show (!decide (F = List.take q b)) = !D by rw [hDx]]
      rcases D with _ | _
      · have hne : F ≠ b.take q := of_decide_eq_false hDx.symm
        rw [if_pos hne] at hx
        simp only [Prod.mk.injEq] at hx
        obtain ⟨rfl, rfl, rfl⟩ := hx
        clear hDx hne
        go_wp2_with fail
        go_ret3
        exact ⟨_, rfl, Fr.nil _ _, B4.out⟩
      · have heq : F = b.take q := of_decide_eq_true hDx.symm
        rw [if_neg (by simpa using heq)] at hx
        simp only [Prod.mk.injEq] at hx
        obtain ⟨rfl, rfl, rfl⟩ := hx
        clear hDx heq
        go_wp2_with (at_builtin; refine append_rd rfl _ _ rfl w.heap.size _ [] rfl (Fr.nil _ _) ra n rc hd rfl (by rw [← HHD.out]; exact RD4.out.first n hnr) (by simp; omega) B4.out.size ?_; intro v5 w5 hf5 hb5 _; rw [List.nil_append] at hf5; have F5 := Lib.hid hf5; have B5 := Lib.hid (B4.out.trans hb5); clear hf5 hb5)
        go_ret3
        exact ⟨_, rfl, F5.out, B5.out⟩
  · rw [if_pos he1] at hx
    simp only [Prod.mk.injEq] at hx
    obtain ⟨rfl, rfl, rfl⟩ := hx
    have hne : (e1 != 0) = true := by simpa using he1
    clear hn hr hlen
    go_enter Try.func34, Try.ntmps34
    go_wp2_with (first
      | (go_at_call 59; refine (ropen a len cap b w HR.out (by omega)).mono ?_; rintro y w1 ⟨p, rfl, hp, hrr, hb1⟩; have P1 := Lib.hid hrr; have PL := Lib.hid hp; have B1 := Lib.hid hb1; clear hrr hp hb1)
      | (go_at_call 60; refine (rnumR p 262144 b 0 w1 P1.out).mono ?_; rw [HN.out]; dsimp only; rintro y w2 ⟨rfl, hrr, hu⟩; have P2 := Lib.hid hrr; have B2 := Lib.hid (B1.out.trans (hu.below PL.out)); clear hrr hu)
      | (go_at_call 61; refine (rerr p r e1 w2 P2.out).mono ?_; rintro y wq ⟨rfl, rfl⟩))
    go_ret3
    exact ⟨_, rfl, Fr.nil _ _, B2.out⟩

end Go.Proofs.Ytfcbndjciojniaa.W
