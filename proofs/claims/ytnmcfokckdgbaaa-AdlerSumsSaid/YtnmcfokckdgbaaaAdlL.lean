/- THE LAWS of layer 5 (adler): each returns true; nothing that was there has changed. -/
import Derived.Test.YtnmcfokckdgbaaaAdlW
import Derived.Test.YtnmcfokckdgbaaaQ
namespace Go.Proofs.Ytnmcfokckdgbaaa.W
open Go.ChangeShapes Go.WideShapes Go.ChangeAt Go.RowKit
open Go.Proofs.Ytnmcfokckdgbaaa.A

theorem bdu32 {x : Int} (h : (Lit.int .u32 x).wf = true) : 0 ≤ x ∧ x ≤ 4294967295 := by
  simpa [Lit.wf, IntKind.min, IntKind.max, IntKind.bits, IntKind.signed] using h

theorem more_rng {s : Int} (l : List UInt8) : 0 ≤ more s l ∧ more s l ≤ 4294967295 := wh_rng _ _
theorem Fr.empty (w : World) (base : Nat) (hb : base ≤ w.heap.size) (fr : Nat × Nat) (h0 : fr = (0, 0)) : Fr (w.alloc (.cells #[] 5 fr)) base (.slice (some ⟨w.heap.size, 0, none⟩) 0 0) [] := by
  subst h0
  exact ⟨rfl, .inr ⟨w.heap.size, 0, #[], rfl, hb, heap_alloc_new w _, Nat.le_refl _, by unfold maxLen; omega, rfl, rfl⟩⟩
theorem Fr.form'' {w : World} {base : Nat} {v : Value} {l : List UInt8} (h : Fr w base v l) (n : Nat) (hn : l.length = n) : ∃ a cap, v = .slice a n cap ∧ Rd w a n cap l := by
  subst hn
  obtain ⟨a, cap, hv, hr, -⟩ := h.form
  exact ⟨a, cap, hv, hr⟩

set_option maxHeartbeats 1000000 in
theorem law_AdlerSums (s : Int) (a : Option Addr) (len cap : Nat) (zs : List Int) (w : World) (w0 : (Lit.int .u32 s).wf = true) (w1 : IsRow .u8 w a len cap zs) :
    Calls Try.prog 3 #[.int .u32 s, .slice a len cap] w fun e w' => e = .returned (.bool true) ∧ Below w.heap.size w w' := by
  have hr := Rd.of_row w1
  obtain ⟨l, hl⟩ : ∃ l, (zs.take len).map (fun n => UInt8.ofNat n.toNat) = l := ⟨_, rfl⟩
  rw [hl] at hr
  clear hl w1
  obtain ⟨h0, h1⟩ := bdu32 w0
  have hle := hr.hle
  have hmax := hr.hmax
  have HR := Lib.hid hr
  clear hr w0
  by_cases h : (20000 : Int) < (len : Int)
  · go_enter Try.func3, Try.ntmps3
    go_wp2_with (go_at_call 13; refine (awake5 _).mono ?_; rintro e w' ⟨rfl, hb⟩)
    go_ret
    exact ⟨rfl, by assumption⟩
  · go_enter Try.func3, Try.ntmps3
    go_wp2_with (first | (go_at_call 14; refine (asum _ _ _ _ _ HR.out).mono ?_; rintro e w' ⟨rfl, rfl⟩) | (go_at_call 15; refine (qsum _ _ _ _ _ HR.out).mono ?_; rintro e w' ⟨rfl, rfl⟩) | (go_at_call 16; refine (amore _ _ _ _ _ _ h0 h1 HR.out).mono ?_; rintro e w' ⟨rfl, rfl⟩) | (go_at_call 17; refine (qmore _ _ _ _ _ _ h0 h1 HR.out).mono ?_; rintro e w' ⟨rfl, rfl⟩) | (go_at_call 13; refine (awake5 _).mono ?_; rintro e w' ⟨rfl, hb⟩))
    go_ret
    exact ⟨rfl, by assumption⟩

set_option maxHeartbeats 1000000 in
theorem law_AdlerAny (a b n x y : Int) (w : World) (w0 : (Lit.int .u32 a).wf = true) (w1 : (Lit.int .u32 b).wf = true) (_w2 : (Lit.int .i64 n).wf = true) (w3 : (Lit.int .u8 x).wf = true) (w4 : (Lit.int .u8 y).wf = true) :
    Calls Try.prog 4 #[.int .u32 a, .int .u32 b, .int .i64 n, .int .u8 x, .int .u8 y] w fun e w' => e = .returned (.bool true) ∧ Below w.heap.size w w' := by
  obtain ⟨a0, a1⟩ := bdu32 w0
  obtain ⟨b0, b1⟩ := bdu32 w1
  obtain ⟨x0, x1⟩ := bd8 w3
  obtain ⟨y0, y1⟩ := bd8 w4
  clear w0 w1 w3 w4
  go_enter Try.func4, Try.ntmps4
  go_wp2_with (first | (go_at_call 18; refine (ajoin _ _ _ _ a0 a1 b0 b1).mono ?_; rintro e w' ⟨rfl, rfl⟩) | (go_at_call 19; refine (qjoin _ _ _ _ a0 a1 b0 b1).mono ?_; rintro e w' ⟨rfl, rfl⟩) | (go_at_call 20; refine (aroll _ _ _ _ _ a0 a1 x0 x1 y0 y1).mono ?_; rintro e w' ⟨rfl, rfl⟩) | (go_at_call 21; refine (qroll _ _ _ _ _ a0 a1 x0 x1 y0 y1).mono ?_; rintro e w' ⟨rfl, rfl⟩) | (go_at_call 13; refine (awake5 _).mono ?_; rintro e w' ⟨rfl, hb⟩))
  go_ret
  exact ⟨rfl, by assumption⟩

set_option maxHeartbeats 1000000 in
theorem law_AdlerJoins (a : Option Addr) (len cap : Nat) (zs : List Int) (a' : Option Addr) (len' cap' : Nat) (zs' : List Int) (w : World) (w0 : IsRow .u8 w a len cap zs) (w1 : IsRow .u8 w a' len' cap' zs') :
    Calls Try.prog 5 #[.slice a len cap, .slice a' len' cap'] w fun e w' => e = .returned (.bool true) ∧ Below w.heap.size w w' := by
  have hr := Rd.of_row w0
  obtain ⟨l, hl⟩ : ∃ l, (zs.take len).map (fun n => UInt8.ofNat n.toNat) = l := ⟨_, rfl⟩
  rw [hl] at hr
  have hr' := Rd.of_row w1
  obtain ⟨l', hl'⟩ : ∃ l, (zs'.take len').map (fun n => UInt8.ofNat n.toNat) = l := ⟨_, rfl⟩
  rw [hl'] at hr'
  clear hl hl' w0 w1
  have hle := hr.hle
  have hmax := hr.hmax
  have hle' := hr'.hle
  have hmax' := hr'.hmax
  have HR := Lib.hid hr
  have HR' := Lib.hid hr'
  have HL := Lib.hid hr.hlen
  have HL' := Lib.hid hr'.hlen
  clear hr hr'
  by_cases h : (5000 : Int) < (len : Int)
  · go_enter Try.func5, Try.ntmps5
    go_wp2_with (go_at_call 13; refine (awake5 _).mono ?_; rintro e w' ⟨rfl, hb⟩)
    go_ret
    exact ⟨rfl, by assumption⟩
  · by_cases h' : (5000 : Int) < (len' : Int)
    · go_enter Try.func5, Try.ntmps5
      go_wp2_with (go_at_call 13; refine (awake5 _).mono ?_; rintro e w' ⟨rfl, hb⟩)
      go_ret
      exact ⟨rfl, by assumption⟩
    · have HJ := Lib.hid (join_more l l')
      go_enter Try.func5, Try.ntmps5
      go_wp2_with (first
        | (at_builtin; refine append_rd rfl (.tmp 15) _ rfl w.heap.size _ [] rfl (Fr.empty w w.heap.size (Nat.le_refl _) _ rfl) _ _ _ l rfl (HR.out.mono ((Below.refl _ _).alloc (Nat.le_refl _) _)) (by simp; omega) (by simp) ?_; intro v1 w1 hf1 hb1 _; rw [List.nil_append] at hf1; have HF1 := Lib.hid hf1; have HB1 := Lib.hid (((Below.refl w.heap.size w).alloc (Nat.le_refl _) _).trans hb1); clear hf1 hb1)
        | (at_builtin; refine append_rd rfl (.tmp 17) _ rfl w.heap.size _ l rfl HF1.out _ _ _ l' rfl (HR'.out.mono HB1.out) (by rw [HL.out]; omega) HB1.out.size ?_; intro v2 w2 hf2 hb2 _))
      have HF2 := Lib.hid hf2
      have HB2 := Lib.hid (HB1.out.trans hb2)
      clear hf2 hb2
      obtain ⟨a2, c2, hv2, hr2⟩ := HF2.out.form'' (len + len') (by simp [HL.out, HL'.out])
      rw [hv2]
      have HR2 := Lib.hid hr2
      clear hv2 hr2
      go_wp2_with fail
      refine (asum _ _ _ _ _ (HR.out.mono HB2.out)).mono ?_
      rintro e w3 ⟨rfl, rfl⟩
      go_wp2_with fail
      refine (asum _ _ _ _ _ (HR'.out.mono HB2.out)).mono ?_
      rintro e w3 ⟨rfl, rfl⟩
      go_wp2_with fail
      refine (ajoin _ _ _ _ (more_rng _).1 (more_rng _).2 (more_rng _).1 (more_rng _).2).mono ?_
      have hj := HJ.out
      rw [HL'.out] at hj
      rw [hj]
      rintro e w3 ⟨rfl, rfl⟩
      go_wp2_with fail
      refine (asum _ _ _ _ _ HR2.out).mono ?_
      rintro e w3 ⟨rfl, rfl⟩
      go_wp2_with (go_at_call 13; refine (awake5 _).mono ?_; rintro e w' ⟨rfl, hb⟩)
      go_ret
      exact ⟨rfl, HB2.out.trans ((by assumption : Below w2.heap.size w2 _).mono HB2.out.size)⟩

set_option maxRecDepth 100000 in
set_option maxHeartbeats 1000000 in
theorem law_AdlerRolls (a : Option Addr) (len cap : Nat) (zs : List Int) (y : Int) (w : World) (w0 : IsRow .u8 w a len cap zs) (w1 : (Lit.int .u8 y).wf = true) :
    Calls Try.prog 6 #[.slice a len cap, .int .u8 y] w fun e w' => e = .returned (.bool true) ∧ Below w.heap.size w w' := by
  have hr := Rd.of_row w0
  obtain ⟨l, hl⟩ : ∃ l, (zs.take len).map (fun n => UInt8.ofNat n.toNat) = l := ⟨_, rfl⟩
  rw [hl] at hr
  obtain ⟨y0, y1⟩ := bd8 w1
  obtain ⟨u, hu⟩ : ∃ u : UInt8, (u.toNat : Int) = y := ⟨UInt8.ofNat y.toNat, by simp [UInt8.toNat_ofNat']; omega⟩
  have HU := Lib.hid hu
  clear hu
  clear hl w0 w1
  have hle := hr.hle
  have hmax := hr.hmax
  have HR := Lib.hid hr
  have HL := Lib.hid hr.hlen
  by_cases h0 : (len : Int) < 1
  · clear hr
    go_enter Try.func6, Try.ntmps6
    go_wp2_with (go_at_call 13; refine (awake5 _).mono ?_; rintro e w' ⟨rfl, hb⟩)
    go_ret
    exact ⟨rfl, by assumption⟩
  · by_cases h : (5000 : Int) < (len : Int)
    · clear hr
      go_enter Try.func6, Try.ntmps6
      go_wp2_with (go_at_call 13; refine (awake5 _).mono ?_; rintro e w' ⟨rfl, hb⟩)
      go_ret
      exact ⟨rfl, by assumption⟩
    · obtain ⟨b, off, rfl, hlt, hc⟩ := hr.lt_of (by omega)
      obtain ⟨x, t, rfl⟩ : ∃ x t, l = x :: t := by
        cases l with
        | nil => have := hr.hlen; simp at this; omega
        | cons x t => exact ⟨x, t, rfl⟩
      obtain ⟨m, rfl⟩ : ∃ m, len = m + 1 := ⟨len - 1, by omega⟩
      have hT : Rd w (if cap = 1 then some ⟨b, off, none⟩ else some ⟨b, off + 1, none⟩) m (cap - 1) t := by
        refine ⟨by have := hr.hlen; simpa using this, by omega, by omega, (fun h => by split at h <;> cases h), ?_⟩
        by_cases hc1 : cap = 1
        · exact .inl (by omega)
        · rw [if_neg hc1]
          refine .inr ⟨b, off + 1, rfl, hlt, fun i hi => ?_⟩
          have := hc (i + 1) (by omega)
          rw [show off + 1 + i = off + (i + 1) by omega, this]; simp
      have hx : w.cell? ⟨b, off, none⟩ = some (.int .u8 (x.toNat : Int)) := by have := hc 0 (by omega); simpa [B] using this
      have hx0 : (0 : Int) ≤ (x.toNat : Int) := by omega
      have hx1 : (x.toNat : Int) ≤ 255 := by have := x.toNat_lt; omega
      have hj := roll_more x t u
      have hl1 := hr.hlen
      rw [hl1, HU.out] at hj
      obtain ⟨X, hX⟩ : ∃ X : Int, (x.toNat : Int) = X := ⟨_, rfl⟩
      rw [hX] at hx hx0 hx1 hj
      have HT := Lib.hid hT
      have HX := Lib.hid hx
      have HJ := Lib.hid hj
      have hT2 := Lib.hid hT.hlen
      clear hT hx hr hc hX hj hl1
      obtain ⟨q, hq⟩ : ∃ q, (if cap = 1 then some (⟨b, off, none⟩ : Addr) else some ⟨b, off + 1, none⟩) = some q := by split <;> exact ⟨_, rfl⟩
      rw [hq] at HT
      have HQ := Lib.hid hq
      have HBU := Lib.hid (show #[Value.int .u8 y] = ([u].map B).toArray from by simp [B, HU.out])
      have HB2 := Lib.hid (show t.length + 1 ≤ 140737488355328 from by rw [hT2.out]; omega)
      have HB3 := Lib.hid (show [u].length ≤ 9223372036854775807 from by simp)
      clear hq
      go_enter Try.func6, Try.ntmps6
      go_wp2_with (first
        | (at_builtin; refine append_rd rfl (.tmp 15) _ rfl w.heap.size _ [] rfl (Fr.empty w w.heap.size (Nat.le_refl _) _ rfl) _ _ _ t (by rw [← HQ.out]; rfl) (HT.out.mono ((Below.refl _ _).alloc (Nat.le_refl _) _)) (by simp; omega) (by simp) ?_; intro v1 w1 hf1 hb1 _; rw [List.nil_append] at hf1; have HF1 := Lib.hid hf1; have HB1 := Lib.hid (((Below.refl w.heap.size w).alloc (Nat.le_refl _) _).trans hb1); clear hf1 hb1)
        | (at_builtin; refine append_rd rfl (.tmp 18) _ rfl w.heap.size _ t rfl (HF1.out.alloc _) _ _ _ [u] rfl (rd_made _ [u] _ _ _ HBU.out HB3.out) HB2.out (Nat.le_trans HB1.out.size (by simp)) ?_; intro v2 w2 hf2 hb2 _; have HF2 := Lib.hid hf2; have HB4 := Lib.hid ((HB1.out.alloc HB1.out.size _).trans hb2); clear hf2 hb2))
      all_goals
        have HB5 := HB4.out
        obtain ⟨a2, c2, hv2, hr2⟩ := HF2.out.form'' (m + 1) (by simp [hT2.out])
        rw [hv2]
        have HR2 := Lib.hid hr2
        have hw2 : ∀ W, Below w2.heap.size w2 W → W.cell? ⟨b, off, none⟩ = some (.int .u8 X) := fun W hW => by
          rw [hW.cell (p := ⟨b, off, none⟩) (Nat.lt_of_lt_of_le hlt HB4.out.size), HB4.out.cell (p := ⟨b, off, none⟩) hlt]; exact HX.out
        have HW2 := Lib.hid hw2
        clear hv2 hr2 hw2 HB5
        have hM1 := more_rng (s := 1) (x :: t)
        obtain ⟨hM2, hM3⟩ := hM1
        refine region_q (C := fun v => Below w2.heap.size w2 v) (by kernel_rfl) (by kernel_rfl) (Below.refl _ _).drew ?_
        refine q_val rfl (.slice (some ⟨b, off, none⟩) (m + 1) cap) (fun _ => by go_simp) ?_
        go_simp
        refine q_call rfl 14 #[.slice (some ⟨b, off, none⟩) (m + 1) cap] (fun _ => by go_simp) (.int .u32 (more 1 (x :: t))) (fun v hv => (asum _ _ _ _ v ((HR.out.mono HB4.out).mono hv)).mono fun e v' ⟨he, hb⟩ => ⟨he, hb ▸ hv⟩) ?_
        go_simp
        refine q_val rfl (.slice (some ⟨b, off, none⟩) (m + 1) cap) (fun _ => by go_simp) ?_
        go_simp
        refine q_val rfl (.int .i64 ((m + 1 : Nat) : Int)) (fun _ => by go_simp) ?_
        go_simp
        refine q_val rfl (.slice (some ⟨b, off, none⟩) (m + 1) cap) (fun _ => by go_simp) ?_
        go_simp
        refine q_val rfl (.pointer (some ⟨b, off, none⟩)) (fun _ => by go_simp) ?_
        go_simp
        refine q_read rfl (.int .u8 X) (fun v hv => by have h9 := HW2.out v hv; go_simp) ?_
        go_simp
        refine q_val rfl (.int .u8 y) (fun _ => by go_simp) ?_
        go_simp
        refine q_call rfl 20 #[.int .u32 (more 1 (x :: t)), .int .i64 ((m + 1 : Nat) : Int), .int .u8 X, .int .u8 y] (fun _ => by go_simp) (.int .u32 (more 1 (t ++ [u]))) (fun v hv => (aroll _ _ _ _ v hM2 hM3 hx0 hx1 y0 y1).mono fun e v' ⟨he, hb⟩ => ⟨by rw [he, HJ.out], hb ▸ hv⟩) ?_
        go_simp
        refine q_val rfl (.slice a2 (m + 1) c2) (fun _ => by go_simp) ?_
        go_simp
        refine q_call rfl 14 #[.slice a2 (m + 1) c2] (fun _ => by go_simp) (.int .u32 (more 1 (t ++ [u]))) (fun v hv => (asum _ _ _ _ v (HR2.out.mono hv)).mono fun e v' ⟨he, hb⟩ => ⟨he, hb ▸ hv⟩) ?_
        go_simp
        refine q_val rfl (.bool true) (fun _ => by go_simp) ?_
        go_simp
        refine q_val rfl (.bool true) (fun _ => by go_simp) ?_
        go_simp
        refine q_call (by go_simp) 13 #[] (fun _ => by go_simp) (.bool true) (fun v hv => (awake5 v).mono fun e v' ⟨he, hb⟩ => ⟨he, hv.trans (hb.mono hv.size)⟩) ?_
        go_simp
        refine q_val rfl (.bool true) (fun _ => by go_simp) ?_
        go_simp
        refine q_val rfl (.bool true) (fun _ => by go_simp) ?_
        refine wpQuiet_nil ?_
        intro w3 hb3
        go_simp
        go_wp2_with fail
        go_ret
        exact ⟨rfl, HB4.out.trans (hb3.mono HB4.out.size)⟩

end Go.Proofs.Ytnmcfokckdgbaaa.W
