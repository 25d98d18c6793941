/- LAYER 10 (frame): the program's Next. -/
import Derived.Test.YtfcbndjciojniaaFpR
import Derived.Test.YtfcbndjciojniaaTail
set_option linter.unusedSimpArgs false
set_option linter.unusedVariables false
namespace Go.Proofs.Ytfcbndjciojniaa.W
open Go Go.ChangeShapes Go.WideShapes Go.ChangeAt Go.RowKit
open Go.Proofs.Ytfcbndjciojniaa.P (enc dec)
open Go.Proofs.Ytfcbndjciojniaa.A (more)

set_option maxHeartbeats 400000 in
theorem fclone (a : Option Addr) (len cap : Nat) (l : List UInt8) (w : World) (hr : Rd w a len cap l) (hmax : len ≤ 140737488355000) :
    Calls Try.prog 52 #[.slice a len cap] w fun e w' => ∃ v, e = .returned v ∧ Fr w' w.heap.size v l ∧ Below w.heap.size w w' := by
  have HR := Lib.hid hr
  have hnil := fun (w : World) (a : Option Addr) (n c : Nat) => Lib.run_eql_slice_nil (P := Try.prog) w 30 5 a n c 0 0 Try.underlying30
  rcases a with _ | ad
  · have h0 := hr.hnil rfl
    have h1 := hr.hle
    have h2 := hr.hlen
    obtain rfl : len = 0 := by omega
    have : l = [] := List.eq_nil_of_length_eq_zero h2
    subst this h0
    clear hr h1 h2
    go_enter Try.func52, Try.ntmps52
    go_wp2_with fail
    go_ret
    exact ⟨_, rfl, Fr.nil _ _, Below.refl _ _⟩
  · clear hr
    go_enter Try.func52, Try.ntmps52
    go_wp2_with (at_builtin; refine append_rd rfl _ _ rfl w.heap.size _ [] rfl (Fr.empty w _ (Nat.le_refl _)) _ _ _ l rfl (HR.out.mono ((Below.refl _ _).alloc (Nat.le_refl _) _)) (by simp; omega) (by simp) ?_; intro v2 w2 hf2 hb2 _)
    go_ret
    exact ⟨_, rfl, hf2, ((Below.refl _ _).alloc (Nat.le_refl _) _).trans hb2⟩
set_option maxRecDepth 100000 in
set_option maxHeartbeats 4000000 in
theorem bequal (a1 a2 : Option Addr) (n1 c1 n2 c2 : Nat) (l1 l2 : List UInt8) (w : World) (h1 : Rd w a1 n1 c1 l1) (h2 : Rd w a2 n2 c2 l2) :
    Calls Try.prog 58 #[.slice a1 n1 c1, .slice a2 n2 c2] w fun e w' => e = .returned (.bool (decide (l1 = l2))) ∧ w = w' := by
  have cv1 := conv_rd h1
  have cv2 := conv_rd h2
  obtain ⟨D, hD⟩ : ∃ D, ((str l1).toList == (str l2).toList) = D := ⟨_, rfl⟩
  have hDx : D = decide (l1 = l2) := by rw [← hD, str_eqb2, str_data, str_data]
  rw [← hDx]
  clear h1 h2 hDx
  go_enter Try.func58, Try.ntmps58
  go_wp2_with fail
  go_ret
  exact ⟨by first | rfl | (rw [← hD]; rfl) | (simp [hD]; done) | (rw [← hD]; simp), rfl⟩
theorem nextF_bad {b : List UInt8} (h : (numR 262144 b 0).2.2 ≠ 0) : nextF b = ([], 0, (numR 262144 b 0).2.2) := by unfold nextF; rw [if_pos h]
theorem Rd.cut2 {w : World} {a : Option Addr} {len cap : Nat} {l : List UInt8} (h : Rd w a len cap l) (k n : Nat) (hk : k + n ≤ len) : Rd w (if cap = k then a else a.map (fun x => x.add k)) n (cap - k) ((l.drop k).take n) := by
  have hr := h.hle
  refine ⟨by rw [List.length_take, List.length_drop, h.hlen]; omega, by omega, by have := h.hmax; omega, ?_, ?_⟩
  · intro e
    by_cases hc : cap = k
    · omega
    · rw [if_neg hc] at e
      have : a = none := by cases a <;> simp_all
      have := h.hnil this
      omega
  · rcases h.hcells with h0 | ⟨b, off, e, hlt, hcell⟩
    · exact .inl (by omega)
    · by_cases hz : n = 0
      · exact .inl hz
      · refine .inr ⟨b, off + k, ?_, hlt, fun i hi => ?_⟩
        · rw [if_neg (by omega), e]; simp [Addr.add]
        · have := hcell (k + i) (by omega)
          rw [show off + k + i = off + (k + i) by omega, this]
          simp [List.getD_eq_getElem?_getD, List.getElem?_drop, List.getElem?_take, hi]

set_option maxRecDepth 100000 in
set_option maxHeartbeats 4000000 in
theorem fnext_any (a : Option Addr) (len cap : Nat) (b : List UInt8) (w : World) (hr : Rd w a len cap b) (hmax : len ≤ 1000000) (x : List UInt8) (m : Nat) (e : Int) (hx : nextF b = (x, m, e)) :
    Calls Try.prog 33 #[.slice a len cap] w fun y w' => ∃ v, y = .returned (.tuple #[v, .int .i64 (m : Int), .int .i64 e]) ∧ Fr w' w.heap.size v x ∧ Below w.heap.size w w' := by
  have HR := Lib.hid hr
  have hlen := hr.hlen
  have hcap := hr.hle
  obtain ⟨n, r, e1, hn⟩ : ∃ n r e1, numR 262144 b 0 = (n, r, e1) := ⟨_, _, _, rfl⟩
  unfold nextF at hx
  rw [hn] at hx
  dsimp only at hx
  have HD := Lib.hid (fhead a len cap b w hr n e1 (by rw [hn]) (by rw [hn]) (by omega))
  by_cases he1 : e1 = 0
  · subst he1
    obtain ⟨hb, hle, -⟩ := numR_good hn
    rw [if_neg (by simp)] at hx
    have hnl : n ≤ 262144 := by omega
    have hbl : len = (enc n).length + r.length := by rw [← hlen, hb, List.length_append]
    have hrl : r.length ≤ 1000000 := by omega
    obtain ⟨z, hz⟩ : ∃ z, (enc n).length = z := ⟨_, rfl⟩
    obtain ⟨rl, hrl2⟩ : ∃ rl, r.length = rl := ⟨_, rfl⟩
    rw [hz] at HD
    rw [hz, hrl2] at hbl
    rw [hrl2] at hrl hx
    have hw1 : wrap64 ((z : Int) + (n : Int)) = (z : Int) + (n : Int) := by unfold wrap64; omega
    have hw2 : wrap64 ((z : Int) + (n : Int) + 4) = (z : Int) + (n : Int) + 4 := by unfold wrap64; omega
    have hw3 : IntKind.i64.wrap ((z : Int) + (n : Int)) = (z : Int) + (n : Int) := by rw [IntKind.wrap_i64]; omega
    have hw4 : IntKind.i64.wrap ((z : Int) + (n : Int) + 4) = (z : Int) + (n : Int) + 4 := by rw [IntKind.wrap_i64]; omega
    obtain ⟨en, hen⟩ : ∃ en : Nat, z + n = en := ⟨_, rfl⟩
    have hzn : (z : Int) + (n : Int) = (en : Int) := by omega
    obtain ⟨q4, hq4⟩ : ∃ q4 : Nat, en + 4 = q4 := ⟨_, rfl⟩
    have hz4 : (en : Int) + 4 = (q4 : Int) := by omega
    rw [hzn, hz4] at hw2 hw4
    rw [hzn] at hw1 hw3
    have HW := Lib.hid (And.intro hw1 (And.intro hw2 (And.intro hw3 hw4)))
    clear hw1 hw2 hw3 hw4
    by_cases hsh : rl < n + 4
    · rw [if_pos hsh] at hx
      simp only [Prod.mk.injEq] at hx
      obtain ⟨rfl, rfl, rfl⟩ := hx
      have hlt : (len : Int) < (q4 : Int) := by omega
      clear hbl hb hlen hn hr hz hrl2 hen hsh hq4
      obtain ⟨hw1, hw2, hw3, hw4⟩ := HW.out
      go_enter Try.func33, Try.ntmps33
      go_wp2_with (go_at_call 57; refine HD.out.mono ?_; rintro y w1 ⟨rfl, hb1⟩; have B1 := Lib.hid hb1; clear hb1)
      go_ret3
      exact ⟨_, rfl, Fr.nil _ _, B1.out⟩
    · rw [if_neg hsh] at hx
      obtain ⟨hd, hhd⟩ : ∃ hd, r.take n = hd := ⟨_, rfl⟩
      have hdl : hd.length = n := by rw [← hhd, List.length_take, hrl2]; omega
      have hnle : ¬ (len : Int) < (q4 : Int) := by omega
      have he4 : en + 4 ≤ len := by omega
      have he4c : q4 ≤ cap := by omega
      have hq4e : en ≤ q4 := by omega
      have hq4d : q4 - en = 4 := by omega
      have hec : en ≤ cap := by omega
      have hel : en ≤ len := by omega
      have hze : z ≤ en := by omega
      have hzc : z ≤ cap := by omega
      have hhead : b.take en = headF hd := by
        rw [hb, headF, hdl, ← hen, ← hz, List.take_append, List.take_of_length_le (by omega)]
        rw [show (enc n).length + n - (enc n).length = n by omega, hhd]
      have hbody : (b.drop z).take n = hd := by
        rw [hb, ← hz, List.drop_left, hhd]
      obtain ⟨F4, hF4⟩ : ∃ F4, (b.drop en).take 4 = F4 := ⟨_, rfl⟩
      obtain ⟨S4, hS4⟩ : ∃ S4, sum4 (more 1 (b.take en)) = S4 := ⟨_, rfl⟩
      have hS4l : S4.length = 4 := by rw [← hS4]; rfl
      have hF4l : F4.length = 4 := by rw [← hF4, List.length_take, List.length_drop, hlen]; omega
      have hseal : sealF hd = b.take en ++ S4 := by rw [sealF, ← hhead, hS4]
      have hq : (sealF hd).length = q4 := by rw [seal_len, hdl, hz]; omega
      have htake : b.take q4 = b.take en ++ F4 := by rw [← hF4, ← hq4, List.take_add]
      rw [hhd, hq, htake, hseal] at hx
      have hiff : (b.take en ++ S4 ≠ b.take en ++ F4) ↔ ¬ F4 = S4 := by
        constructor
        · intro h e; exact h (by rw [e])
        · intro h e; exact h ((List.append_cancel_left e).symm)
      have R4 : Hid (Rd w (if cap = en then a else a.map (fun x => x.add en)) 4 (cap - en) F4) := Lib.hid (by rw [← hF4]; exact hr.cut2 en 4 he4)
      have RE : Hid (Rd w a en cap (b.take en)) := Lib.hid (hr.first en hel)
      have RB : Hid (Rd w (if cap = z then a else a.map (fun x => x.add z)) (en - z) (cap - z) hd) := Lib.hid (by rw [← hbody, show en - z = n by omega]; exact hr.cut2 z n (by omega))
      obtain ⟨ra, hra⟩ : ∃ ra, (if cap = en then a else a.map (fun x => x.add en)) = ra := ⟨_, rfl⟩
      rw [hra] at R4
      rw [if_neg (show ¬ cap = z by omega)] at RB
      have HS4 := Lib.hid hS4
      have HS4L := Lib.hid hS4l
      have HDL := Lib.hid hdl
      clear hbl hb hlen hn hr hz hrl2 hsh hhd hdl hhead hbody hF4 hS4 hS4l hF4l hseal hq htake hq4 he4 hen
      by_cases heq : F4 = S4
      · have hdec : decide (F4 = S4) = true := decide_eq_true heq
        rw [if_neg (by rw [hiff]; exact not_not_intro heq)] at hx
        simp only [Prod.mk.injEq] at hx
        obtain ⟨rfl, rfl, rfl⟩ := hx
        clear hiff heq
        have HDEC := Lib.hid hdec
        clear hdec
        obtain ⟨hw1, hw2, hw3, hw4⟩ := HW.out
        go_enter Try.func33, Try.ntmps33
        go_wp2_with (go_at_call 57; refine HD.out.mono ?_; rintro y w1 ⟨rfl, hb1⟩; have B1 := Lib.hid hb1; clear hb1)
        have BD := Lib.hid (B1.out.drew)
        refine region_h (fun v => Below w.heap.size w v) (by kernel_rfl) (by kernel_rfl) BD.out ?_
        obtain ⟨wd, hwd⟩ : ∃ wd, w1.drew = wd := ⟨_, rfl⟩
        rw [hwd] at BD ⊢
        clear hwd
        (refine h_read 0 rfl (by kernel_rfl) (by kernel_rfl) (h_free rfl) ?_ ?_ ?_; rotate_left; (focus (intro v hv; go_simp; rfl)); go_simp)
        (refine h_read 1 rfl (by kernel_rfl) (by kernel_rfl) (h_free rfl) ?_ ?_ ?_; rotate_left; (focus (intro v hv; go_simp; rfl)); go_simp)
        (refine h_read 2 rfl (by kernel_rfl) (by kernel_rfl) (h_free rfl) ?_ ?_ ?_; rotate_left; (focus (intro v hv; go_simp; rfl)); go_simp)
        (refine h_read 3 rfl (by kernel_rfl) (by kernel_rfl) (h_free rfl) ?_ ?_ ?_; rotate_left; (focus (intro v hv; go_simp; rfl)); go_simp)
        (refine h_read 4 rfl (by kernel_rfl) (by kernel_rfl) (h_free rfl) ?_ ?_ ?_; rotate_left; (focus (intro v hv; go_simp; rfl)); go_simp)
        (refine h_read 5 rfl (by kernel_rfl) (by kernel_rfl) (h_free rfl) ?_ ?_ ?_; rotate_left; (focus (intro v hv; go_simp; rfl)); go_simp)
        (refine h_read 6 rfl (by kernel_rfl) (by kernel_rfl) (h_free rfl) ?_ ?_ ?_; rotate_left; (focus (intro v hv; go_simp; rfl)); go_simp)
        (refine h_read 7 rfl (by kernel_rfl) (by kernel_rfl) (h_free rfl) ?_ ?_ ?_; rotate_left; (focus (intro v hv; go_simp; rfl)); go_simp)
        (refine h_call 8 rfl (by kernel_rfl) (h_free rfl) 54 ?_ ?_ ?_; rotate_left; (focus (go_simp; rfl)))
        refine (fsum a en cap (b.take en) wd (RE.out.mono BD.out)).mono ?_
        rw [HS4.out]
        rintro y w3 ⟨v3, rfl, hf3, hb3⟩
        obtain ⟨a3, c3, hv3, hr3⟩ := hf3.form' 4 HS4L.out
        subst hv3
        have R3 := Lib.hid hr3
        have B3 := Lib.hid (BD.out.trans (hb3.mono BD.out.size))
        clear hf3 hr3 hb3
        refine ⟨_, rfl, B3.out, ?_⟩
        go_simp
        (refine h_call 9 rfl (by kernel_rfl) (h_free rfl) 58 ?_ ?_ ?_; rotate_left; (focus (go_simp; rfl)))
        refine (bequal ra a3 4 (cap - en) 4 c3 F4 S4 w3 (R4.out.mono B3.out) R3.out).mono ?_
        rw [HDEC.out]
        rintro y w4 ⟨rfl, hw4⟩
        have B4 : Hid (Below w.heap.size w w4) := Lib.hid (by rw [← hw4]; exact B3.out)
        clear hw4
        refine ⟨_, rfl, B4.out, ?_⟩
        go_simp
        (refine h_read 10 rfl (by kernel_rfl) (by kernel_rfl) (h_free rfl) ?_ ?_ ?_; rotate_left; (focus (intro v hv; go_simp; rfl)); go_simp)
        refine h_done (by kernel_rfl) ?_
        go_wp2_with (go_at_call 52; refine (fclone (a.map (fun x => x.add z)) (en - z) (cap - z) hd w4 (RB.out.mono B4.out) (by omega)).mono ?_; rintro e w5 ⟨v5, rfl, hf5, hb5⟩; have F5 := Lib.hid (hf5.base B4.out.size); have B5 := Lib.hid (B4.out.trans (hb5.mono B4.out.size)); clear hf5 hb5)
        go_ret3
        exact ⟨_, rfl, F5.out, B5.out⟩
      · have hdec : decide (F4 = S4) = false := decide_eq_false heq
        rw [if_pos (by rw [hiff]; exact heq)] at hx
        simp only [Prod.mk.injEq] at hx
        obtain ⟨rfl, rfl, rfl⟩ := hx
        clear hiff heq
        have HDEC := Lib.hid hdec
        clear hdec
        obtain ⟨hw1, hw2, hw3, hw4⟩ := HW.out
        go_enter Try.func33, Try.ntmps33
        go_wp2_with (go_at_call 57; refine HD.out.mono ?_; rintro y w1 ⟨rfl, hb1⟩; have B1 := Lib.hid hb1; clear hb1)
        have BD := Lib.hid (B1.out.drew)
        refine region_h (fun v => Below w.heap.size w v) (by kernel_rfl) (by kernel_rfl) BD.out ?_
        obtain ⟨wd, hwd⟩ : ∃ wd, w1.drew = wd := ⟨_, rfl⟩
        rw [hwd] at BD ⊢
        clear hwd
        (refine h_read 0 rfl (by kernel_rfl) (by kernel_rfl) (h_free rfl) ?_ ?_ ?_; rotate_left; (focus (intro v hv; go_simp; rfl)); go_simp)
        (refine h_read 1 rfl (by kernel_rfl) (by kernel_rfl) (h_free rfl) ?_ ?_ ?_; rotate_left; (focus (intro v hv; go_simp; rfl)); go_simp)
        (refine h_read 2 rfl (by kernel_rfl) (by kernel_rfl) (h_free rfl) ?_ ?_ ?_; rotate_left; (focus (intro v hv; go_simp; rfl)); go_simp)
        (refine h_read 3 rfl (by kernel_rfl) (by kernel_rfl) (h_free rfl) ?_ ?_ ?_; rotate_left; (focus (intro v hv; go_simp; rfl)); go_simp)
        (refine h_read 4 rfl (by kernel_rfl) (by kernel_rfl) (h_free rfl) ?_ ?_ ?_; rotate_left; (focus (intro v hv; go_simp; rfl)); go_simp)
        (refine h_read 5 rfl (by kernel_rfl) (by kernel_rfl) (h_free rfl) ?_ ?_ ?_; rotate_left; (focus (intro v hv; go_simp; rfl)); go_simp)
        (refine h_read 6 rfl (by kernel_rfl) (by kernel_rfl) (h_free rfl) ?_ ?_ ?_; rotate_left; (focus (intro v hv; go_simp; rfl)); go_simp)
        (refine h_read 7 rfl (by kernel_rfl) (by kernel_rfl) (h_free rfl) ?_ ?_ ?_; rotate_left; (focus (intro v hv; go_simp; rfl)); go_simp)
        (refine h_call 8 rfl (by kernel_rfl) (h_free rfl) 54 ?_ ?_ ?_; rotate_left; (focus (go_simp; rfl)))
        refine (fsum a en cap (b.take en) wd (RE.out.mono BD.out)).mono ?_
        rw [HS4.out]
        rintro y w3 ⟨v3, rfl, hf3, hb3⟩
        obtain ⟨a3, c3, hv3, hr3⟩ := hf3.form' 4 HS4L.out
        subst hv3
        have R3 := Lib.hid hr3
        have B3 := Lib.hid (BD.out.trans (hb3.mono BD.out.size))
        clear hf3 hr3 hb3
        refine ⟨_, rfl, B3.out, ?_⟩
        go_simp
        (refine h_call 9 rfl (by kernel_rfl) (h_free rfl) 58 ?_ ?_ ?_; rotate_left; (focus (go_simp; rfl)))
        refine (bequal ra a3 4 (cap - en) 4 c3 F4 S4 w3 (R4.out.mono B3.out) R3.out).mono ?_
        rw [HDEC.out]
        rintro y w4 ⟨rfl, hw4⟩
        have B4 : Hid (Below w.heap.size w w4) := Lib.hid (by rw [← hw4]; exact B3.out)
        clear hw4
        refine ⟨_, rfl, B4.out, ?_⟩
        go_simp
        (refine h_read 10 rfl (by kernel_rfl) (by kernel_rfl) (h_free rfl) ?_ ?_ ?_; rotate_left; (focus (intro v hv; go_simp; rfl)); go_simp)
        refine h_done (by kernel_rfl) ?_
        go_wp2_with fail
        go_ret3
        exact ⟨_, rfl, Fr.nil _ _, B4.out⟩
  · rw [if_pos he1] at hx
    simp only [Prod.mk.injEq] at hx
    obtain ⟨rfl, rfl, rfl⟩ := hx
    have hne : (e1 != 0) = true := by simpa using he1
    clear hn hr hlen
    go_enter Try.func33, Try.ntmps33
    go_wp2_with (go_at_call 57; refine HD.out.mono ?_; rintro y w1 ⟨rfl, hb1⟩; have B1 := Lib.hid hb1; clear hb1)
    go_ret3
    exact ⟨_, rfl, Fr.nil _ _, B1.out⟩
end Go.Proofs.Ytfcbndjciojniaa.W
