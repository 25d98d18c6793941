/- LAYER 9 (disk): the program's Append, Read, Clear, Cut, Size, Room, Slots. -/
import Derived.Test.YtlohfalpcppcjaaDpR
set_option linter.unusedSimpArgs false
set_option linter.unusedVariables false
namespace Go.Proofs.Ytlohfalpcppcjaa.W
open Go Go.ChangeShapes Go.WideShapes Go.ChangeAt Go.RowKit

theorem set_getD_self {α : Type} (l : List α) (k : Nat) (x : α) (hk : k < l.length) : l.set k (l.getD k x) = l := by
  rw [show l.getD k x = l[k] by simp [hk], List.set_getElem_self]

set_option maxRecDepth 100000 in
set_option maxHeartbeats 4000000 in
theorem dappend_ok (p g : Nat) (L : List Value) (vs : List Sv) (S : Nat → Prop) (d : DSt) (k : Nat) (a : Option Addr) (m c : Nat) (l : List UInt8) (w : World) (h : PX w p g L vs S d) (hk : k < d.B.length) (hr : Rd w a m c l) (hfit : (m : Int) ≤ d.most - ((d.B.getD k []).length : Int)) :
    Calls Try.prog 13 #[.pointer (some ⟨p, 0, none⟩), .int .i64 (k : Int), .slice a m c] w fun e w' => e = .returned (.int .i64 0) ∧ ∃ S', PD w' p S' { d with B := d.B.set k (d.B.getD k [] ++ l) } ∧ Ft S w w' ∧ Grew w S S' := by
  have HX := Lib.hid h
  have HRD := Lib.hid hr
  have HF := Lib.hid (dfind_ok p g L vs S d k w h hk)
  have hml := hr.hlen
  have hlen := h.len k
  have hmost := h.most0
  have hp0 := h.p0
  obtain ⟨x0, x1, x2⟩ := h.rp.t3
  obtain ⟨va, vc, hv, xb, hrk⟩ := h.at k hk
  have how := h.ow k hk
  have hsu := h.sure k hk
  obtain ⟨Bk, hB⟩ : ∃ Bk, d.B.getD k [] = Bk := ⟨_, rfl⟩
  rw [hB] at hv xb hrk hfit hlen how hsu ⊢
  obtain ⟨n, hn⟩ : ∃ n, Bk.length = n := ⟨_, rfl⟩
  rw [hn] at hv xb hrk hfit hlen hsu
  rw [hv] at how
  obtain ⟨most, hmo⟩ : ∃ most, d.most = most := ⟨_, rfl⟩
  rw [hmo] at x1 hfit hmost
  have X1 := Lib.hid x1
  have XB := Lib.hid xb
  have HN := Lib.hid hn
  have HV := Lib.hid hv
  have HO := Lib.hid how
  have HL := Lib.hid hml
  have HK := Lib.hid hk
  have HSU := Lib.hid hsu
  have hw : IntKind.i64.wrap (most - (n : Int)) = most - (n : Int) := by rw [IntKind.wrap_i64]; omega
  clear h hr x0 x1 x2 xb hrk hB hn hv hmo how hml hk hsu
  go_enter Try.func13, Try.ntmps13
  go_wp2_with (go_at_call 34; refine HF.out.mono ?_; rintro e w1 ⟨rfl, rfl⟩)
  refine region_w (C := fun v => Below w.heap.size w v) (by kernel_rfl) (by kernel_rfl) (Below.refl _ _).drew ?_
  repeat (first
    | (refine w_read (wanted_free rfl) ?_ ?_ ?_; rotate_left; (focus (intro v hv; have x1 := (hv.cell (p := ⟨p, 1, none⟩) HX.out.rp.lt).trans X1.out; have xb := (hv.cell (p := ⟨g, k * 2, none⟩) HX.out.rg.lt).trans XB.out; go_simp; rfl)); go_simp))
  refine w_nil ?_
  intro w4 hb4
  have X4 := Lib.hid (HX.out.mono hb4)
  have R4 := Lib.hid (HRD.out.mono hb4)
  have F4 : Hid (Ft S w w4) := Lib.hid (Ft.of_below hb4)
  have O4 : Hid (Fr w4 0 (.slice va n vc) Bk) := Lib.hid (HO.out.kept hb4)
  have yb := (hb4.cell (p := ⟨g, k * 2, none⟩) HX.out.rg.lt).trans XB.out
  clear hb4
  go_wp2_with (at_builtin; refine append_rd_at rfl _ _ rfl 0 (.slice va n vc) Bk (by go_simp) O4.out a m c l (by go_simp) R4.out (by have := HN.out; omega) (Nat.zero_le _) ?_; intro v6 w6 hf6 hg6 hat6; obtain ⟨a6, c6, hv6, hr6⟩ := hf6.form' (n + m) (by rw [List.length_append, HN.out, HL.out]); subst hv6; have F6 := Lib.hid hf6; have G6 := Lib.hid hg6; have A6 := Lib.hid hat6; have R6 := Lib.hid (X4.out.rg.ft (Ft.of_grown (F := fun b => Value.ownBlock (.slice va n vc) = some b) hg6 fun b e => e) (O4.out.ne X4.out.rg (by decide))); have y6 := (show w6.cell? ⟨g, k * 2, none⟩ = some (.slice va n vc) by rw [R6.out.cellV, X4.out.lb k HK.out, HV.out]); have z6 := R6.out.frozen (k * 2); clear hf6 hg6 hat6 hr6 yb)
  go_ret
  have hcv : (vs.getD k default).val = .slice va n vc := HV.out
  have P := X4.out.put (w' := w6.setCell ⟨g, k * 2, none⟩ (.slice a6 (n + m) c6)) k HK.out (a6, n + m, c6) (Bk ++ l) (d.s.getD k 0) (L' := L.set (k * 2) (.slice a6 (n + m) c6))
    ((Ft.of_grown G6.out fun b e => .inr (by rw [hcv]; exact e)).trans (Ft.of_upd (Upd.setCell _ _ _ _) (.inl rfl))) (R6.out.setV _ _) (by simp)
    (by rw [List.getElem?_set_self (by rw [X4.out.ll]; have := HK.out; omega)]; rfl) (by rw [List.getElem?_set_ne (by omega)]; exact X4.out.ls k HK.out) (fun i h1 h2 => by rw [List.getElem?_set_ne (Ne.symm h1)])
    (Fr.ftb F6.out (Ft.of_upd (F := fun b => b = g) (Upd.setCell _ _ _ _) rfl) fun b e e2 => F6.out.ne R6.out (by decide) (e2 ▸ e)) (by
      intro b e
      rw [hcv]
      rcases A6.out with e2 | e2
      · exact .inl (e2 ▸ e)
      · exact .inr (by have := e2.symm.trans e; simp at this; omega))
    (by rw [List.length_append, HN.out, HL.out]; omega) (by rw [List.length_append, HN.out, HL.out]; have := HSU.out; omega)
  rw [set_getD_self d.s k 0 (by rw [X4.out.lS]; exact HK.out)] at P
  exact ⟨rfl, _, ⟨g, _, _, P.1⟩, F4.out.trans P.2.1, fun b hb => (P.2.2 b hb).elim .inl fun e => .inr (Nat.le_trans F4.out.size e)⟩
set_option maxRecDepth 100000 in
set_option maxHeartbeats 4000000 in
theorem dappend_full (p g : Nat) (L : List Value) (vs : List Sv) (S : Nat → Prop) (d : DSt) (k : Nat) (a : Option Addr) (m c : Nat) (l : List UInt8) (w : World) (h : PX w p g L vs S d) (hk : k < d.B.length) (hr : Rd w a m c l) (hfit : d.most - ((d.B.getD k []).length : Int) < (m : Int)) :
    Calls Try.prog 13 #[.pointer (some ⟨p, 0, none⟩), .int .i64 (k : Int), .slice a m c] w fun e w' => e = .returned (.int .i64 7) ∧ Below w.heap.size w w' := by
  have HX := Lib.hid h
  have HF := Lib.hid (dfind_ok p g L vs S d k w h hk)
  have hlen := h.len k
  have hmost := h.most0
  have hp0 := h.p0
  obtain ⟨x0, x1, x2⟩ := h.rp.t3
  obtain ⟨va, vc, hv, xb, hrk⟩ := h.at k hk
  obtain ⟨n, hn⟩ : ∃ n, (d.B.getD k []).length = n := ⟨_, rfl⟩
  rw [hn] at xb hfit hlen
  obtain ⟨most, hmo⟩ : ∃ most, d.most = most := ⟨_, rfl⟩
  rw [hmo] at x1 hfit hmost
  have X1 := Lib.hid x1
  have XB := Lib.hid xb
  have hw : IntKind.i64.wrap (most - (n : Int)) = most - (n : Int) := by rw [IntKind.wrap_i64]; omega
  clear h hr x0 x1 x2 xb hrk hn hv hmo hk
  go_enter Try.func13, Try.ntmps13
  go_wp2_with (go_at_call 34; refine HF.out.mono ?_; rintro e w1 ⟨rfl, rfl⟩)
  refine region_w (C := fun v => Below w.heap.size w v) (by kernel_rfl) (by kernel_rfl) (Below.refl _ _).drew ?_
  repeat (first
    | (refine w_read (wanted_free rfl) ?_ ?_ ?_; rotate_left; (focus (intro v hv; have x1 := (hv.cell (p := ⟨p, 1, none⟩) HX.out.rp.lt).trans X1.out; have xb := (hv.cell (p := ⟨g, k * 2, none⟩) HX.out.rg.lt).trans XB.out; go_simp; rfl)); go_simp))
  refine w_nil ?_
  intro w4 hb4
  go_wp2_with fail
  go_ret
  exact ⟨rfl, hb4⟩
set_option maxRecDepth 100000 in
set_option maxHeartbeats 4000000 in
/-- a call on a slot that there is not -/
theorem dappend_bad (p : Nat) (slot e1 : Int) (a : Option Addr) (m c : Nat) (w : World) (q : Option Addr) (he : e1 ≠ 0) (h : Calls Try.prog 34 #[.pointer q, .int .i64 slot] w fun e w' => e = .returned (.tuple #[.pointer none, .int .i64 e1]) ∧ w = w') :
    Calls Try.prog 13 #[.pointer q, .int .i64 slot, .slice a m c] w fun e w' => e = .returned (.int .i64 e1) ∧ w = w' := by
  have HF := Lib.hid h
  clear h
  go_enter Try.func13, Try.ntmps13
  go_wp2_with (go_at_call 34; refine HF.out.mono ?_; rintro e w1 ⟨rfl, rfl⟩)
  go_ret
  exact ⟨rfl, rfl⟩
set_option maxRecDepth 100000 in
set_option maxHeartbeats 4000000 in
theorem dread_bad (slot e1 : Int) (w : World) (q : Option Addr) (he : e1 ≠ 0) (h : Calls Try.prog 34 #[.pointer q, .int .i64 slot] w fun e w' => e = .returned (.tuple #[.pointer none, .int .i64 e1]) ∧ w = w') :
    Calls Try.prog 17 #[.pointer q, .int .i64 slot] w fun e w' => e = .returned (.tuple #[.slice none 0 0, .int .i64 e1]) ∧ w = w' := by
  have HF := Lib.hid h
  clear h
  go_enter Try.func17, Try.ntmps17
  go_wp2_with (go_at_call 34; refine HF.out.mono ?_; rintro e w1 ⟨rfl, rfl⟩)
  go_ret2
  exact ⟨rfl, rfl⟩
set_option maxRecDepth 100000 in
set_option maxHeartbeats 4000000 in
theorem dclear_bad (slot e1 : Int) (w : World) (q : Option Addr) (he : e1 ≠ 0) (h : Calls Try.prog 34 #[.pointer q, .int .i64 slot] w fun e w' => e = .returned (.tuple #[.pointer none, .int .i64 e1]) ∧ w = w') :
    Calls Try.prog 21 #[.pointer q, .int .i64 slot] w fun e w' => e = .returned (.int .i64 e1) ∧ w = w' := by
  have HF := Lib.hid h
  clear h
  go_enter Try.func21, Try.ntmps21
  go_wp2_with (go_at_call 34; refine HF.out.mono ?_; rintro e w1 ⟨rfl, rfl⟩)
  go_ret
  exact ⟨rfl, rfl⟩
set_option maxRecDepth 100000 in
set_option maxHeartbeats 4000000 in
theorem dcut_bad (slot size e1 : Int) (w : World) (q : Option Addr) (he : e1 ≠ 0) (h : Calls Try.prog 34 #[.pointer q, .int .i64 slot] w fun e w' => e = .returned (.tuple #[.pointer none, .int .i64 e1]) ∧ w = w') :
    Calls Try.prog 22 #[.pointer q, .int .i64 slot, .int .i64 size] w fun e w' => e = .returned (.int .i64 e1) ∧ w = w' := by
  have HF := Lib.hid h
  clear h
  go_enter Try.func22, Try.ntmps22
  go_wp2_with (go_at_call 34; refine HF.out.mono ?_; rintro e w1 ⟨rfl, rfl⟩)
  go_ret
  exact ⟨rfl, rfl⟩
set_option maxRecDepth 100000 in
set_option maxHeartbeats 4000000 in
theorem dsize_bad (slot e1 : Int) (w : World) (q : Option Addr) (he : e1 ≠ 0) (h : Calls Try.prog 34 #[.pointer q, .int .i64 slot] w fun e w' => e = .returned (.tuple #[.pointer none, .int .i64 e1]) ∧ w = w') :
    Calls Try.prog 23 #[.pointer q, .int .i64 slot] w fun e w' => e = .returned (.int .i64 0) ∧ w = w' := by
  have HF := Lib.hid h
  clear h
  go_enter Try.func23, Try.ntmps23
  go_wp2_with (go_at_call 34; refine HF.out.mono ?_; rintro e w1 ⟨rfl, rfl⟩)
  go_ret
  exact ⟨rfl, rfl⟩
set_option maxRecDepth 100000 in
set_option maxHeartbeats 4000000 in
theorem dsize_ok (p g : Nat) (L : List Value) (vs : List Sv) (S : Nat → Prop) (d : DSt) (k : Nat) (w : World) (h : PX w p g L vs S d) (hk : k < d.B.length) :
    Calls Try.prog 23 #[.pointer (some ⟨p, 0, none⟩), .int .i64 (k : Int)] w fun e w' => e = .returned (.int .i64 ((d.B.getD k []).length : Int)) ∧ w = w' := by
  have HF := Lib.hid (dfind_ok p g L vs S d k w h hk)
  obtain ⟨va, vc, hv, xb, hrk⟩ := h.at k hk
  obtain ⟨n, hn⟩ : ∃ n, (d.B.getD k []).length = n := ⟨_, rfl⟩
  rw [hn] at xb ⊢
  clear h hrk hn hv hk
  go_enter Try.func23, Try.ntmps23
  go_wp2_with (go_at_call 34; refine HF.out.mono ?_; rintro e w1 ⟨rfl, rfl⟩)
  go_ret
  exact ⟨rfl, rfl⟩
set_option maxRecDepth 100000 in
set_option maxHeartbeats 4000000 in
theorem droom (p : Nat) (t : TypeId) (x y : Value) (w : World) (h : Row w p t [.bool true, x, y]) (hp : True) :
    Calls Try.prog 24 #[.pointer (some ⟨p, 0, none⟩)] w fun e w' => e = .returned x ∧ w = w' := by
  have HR := Lib.hid (dready p t true x y w h hp)
  obtain ⟨c0, c1, c2⟩ := h.t3
  clear h
  go_enter Try.func24, Try.ntmps24
  go_wp2_with (go_at_call 35; refine HR.out.mono ?_; rintro e w1 ⟨rfl, rfl⟩)
  go_ret
  exact ⟨rfl, rfl⟩
set_option maxRecDepth 100000 in
set_option maxHeartbeats 4000000 in
theorem dslots (p : Nat) (t : TypeId) (x : Value) (a : Option Addr) (n c : Nat) (w : World) (h : Row w p t [.bool true, x, .slice a n c]) (hp : True) :
    Calls Try.prog 25 #[.pointer (some ⟨p, 0, none⟩)] w fun e w' => e = .returned (.int .i64 (n : Int)) ∧ w = w' := by
  have HR := Lib.hid (dready p t true _ _ w h hp)
  obtain ⟨c0, c1, c2⟩ := h.t3
  clear h
  go_enter Try.func25, Try.ntmps25
  go_wp2_with (go_at_call 35; refine HR.out.mono ?_; rintro e w1 ⟨rfl, rfl⟩)
  go_ret
  exact ⟨rfl, rfl⟩

set_option maxHeartbeats 400000 in
theorem bclone (a : Option Addr) (len cap : Nat) (l : List UInt8) (w : World) (hr : Rd w a len cap l) (hmax : len ≤ 140737488355000) :
    Calls Try.prog 39 #[.slice a len cap] w fun e w' => ∃ v, e = .returned v ∧ Fr w' w.heap.size v l ∧ Below w.heap.size w w' := by
  have HR := Lib.hid hr
  have hnil := fun (w : World) (a : Option Addr) (n c : Nat) => Lib.run_eql_slice_nil (P := Try.prog) w 30 5 a n c 0 0 Try.underlying30
  rcases a with _ | ad
  · have h0 := hr.hnil rfl
    have h1 := hr.hle
    have h2 := hr.hlen
    obtain rfl : len = 0 := by omega
    have : l = [] := List.eq_nil_of_length_eq_zero h2
    subst this h0
    clear hr h1 h2
    go_enter Try.func39, Try.ntmps39
    go_wp2_with fail
    go_ret
    exact ⟨_, rfl, Fr.nil _ _, Below.refl _ _⟩
  · clear hr
    go_enter Try.func39, Try.ntmps39
    go_wp2_with (at_builtin; refine append_rd rfl _ _ rfl w.heap.size _ [] rfl (Fr.empty w _ (Nat.le_refl _)) _ _ _ l rfl (HR.out.mono ((Below.refl _ _).alloc (Nat.le_refl _) _)) (by simp; omega) (by simp) ?_; intro v2 w2 hf2 hb2 _)
    go_ret
    exact ⟨_, rfl, hf2, ((Below.refl _ _).alloc (Nat.le_refl _) _).trans hb2⟩

set_option maxRecDepth 100000 in
set_option maxHeartbeats 4000000 in
theorem dread_ok (p g : Nat) (L : List Value) (vs : List Sv) (S : Nat → Prop) (d : DSt) (k : Nat) (w : World) (h : PX w p g L vs S d) (hk : k < d.B.length) :
    Calls Try.prog 17 #[.pointer (some ⟨p, 0, none⟩), .int .i64 (k : Int)] w fun e w' => ∃ v, e = .returned (.tuple #[v, .int .i64 0]) ∧ Fr w' w.heap.size v (d.B.getD k []) ∧ Below w.heap.size w w' := by
  have HF := Lib.hid (dfind_ok p g L vs S d k w h hk)
  obtain ⟨va, vc, hv, xb, hrk⟩ := h.at k hk
  have hlen := h.len k
  have HC := Lib.hid (bclone va _ vc _ w hrk (by omega))
  obtain ⟨n, hn⟩ : ∃ n, (d.B.getD k []).length = n := ⟨_, rfl⟩
  rw [hn] at xb HC
  clear h hrk hn hv hk hlen
  go_enter Try.func17, Try.ntmps17
  go_wp2_with (first
    | (go_at_call 34; refine HF.out.mono ?_; rintro e w1 ⟨rfl, rfl⟩)
    | (go_at_call 39; refine HC.out.mono ?_; rintro e w1 ⟨v1, rfl, hf1, hb1⟩; have F1 := Lib.hid hf1; have B1 := Lib.hid hb1; clear hf1 hb1))
  go_ret2
  exact ⟨_, rfl, F1.out, B1.out⟩

/-- a slot that was cut -/
theorem PX.cut {w w' : World} {p g : Nat} {L : List Value} {vs : List Sv} {S : Nat → Prop} {d : DSt} (h : PX w p g L vs S d) (k q c : Nat) (va : Option Addr) (hk : k < d.B.length) (hv : (vs.getD k default).val = .slice va (d.B.getD k []).length c) (hq : q ≤ (d.B.getD k []).length)
    (hr : Row w' g 64 ((L.set (k * 2) (.slice va q c)).set (k * 2 + 1) (.int .i64 (min (d.s.getD k 0) (q : Int))))) (hu : Upd w w' g) :
    PX w' p g ((L.set (k * 2) (.slice va q c)).set (k * 2 + 1) (.int .i64 (min (d.s.getD k 0) (q : Int)))) (vs.set k (va, q, c)) (fun b => S b ∨ (Sv.val (va, q, c)).ownBlock = some b) { d with B := d.B.set k ((d.B.getD k []).take q), s := d.s.set k (min (d.s.getD k 0) (q : Int)) } ∧ Ft S w w' ∧ Grew w S (fun b => S b ∨ (Sv.val (va, q, c)).ownBlock = some b) := by
  have hL := h.ll
  have hs := h.sure k hk
  have hlen := h.len k
  have how := h.ow k hk
  have hob : (Sv.val (va, q, c)).ownBlock = (vs.getD k default).val.ownBlock := by
    rw [hv]; cases va <;> rfl
  refine h.put k hk (va, q, c) _ _ (Ft.of_upd hu (.inl rfl)) hr (by simp) ?_ ?_ ?_ ?_ ?_ ?_ ?_
  · rw [List.getElem?_set_ne (by omega), List.getElem?_set_self (by omega)]; rfl
  · rw [List.getElem?_set_self (by rw [List.length_set]; omega)]
  · intro i h1 h2
    rw [List.getElem?_set_ne (Ne.symm h2), List.getElem?_set_ne (Ne.symm h1)]
  · have h2 : Fr w 0 (Sv.val (va, q, c)) ((d.B.getD k []).take q) := by
      obtain ⟨h1, h2⟩ := how
      refine ⟨by simp, ?_⟩
      rcases h2 with ⟨e, h0⟩ | ⟨g', cap, cur, e, hg, hh, hn, hm, hsz, ht⟩
      · rw [hv] at e
        simp at e
        obtain ⟨rfl, h3, rfl⟩ := e
        have : q = 0 := by omega
        subst this
        exact .inl ⟨rfl, by simp⟩
      · rw [hv] at e
        simp at e
        obtain ⟨rfl, rfl⟩ := e
        refine .inr ⟨g', c, cur, by rw [List.length_take, Nat.min_eq_left hq]; rfl, hg, hh, by rw [List.length_take]; omega, hm, hsz, ?_⟩
        rw [List.length_take, Nat.min_eq_left hq, List.map_take, ← ht, List.take_take]
        congr 1
        omega
    exact h2.ftb (Ft.of_upd (F := fun b => b = g) hu rfl) fun b e e2 => h2.ne h.rg (by decide) (e2 ▸ e)
  · intro b e
    exact .inl (hob ▸ e)
  · rw [List.length_take]; omega
  · rw [List.length_take]; omega
theorem Rd.hle' {w : World} {a : Option Addr} {m c : Nat} {l : List UInt8} (h : Rd w a l.length c l) : l.length ≤ c := h.hle
set_option maxRecDepth 100000 in
set_option maxHeartbeats 4000000 in
theorem dclear_ok (p g : Nat) (L : List Value) (vs : List Sv) (S : Nat → Prop) (d : DSt) (k : Nat) (w : World) (h : PX w p g L vs S d) (hk : k < d.B.length) :
    Calls Try.prog 21 #[.pointer (some ⟨p, 0, none⟩), .int .i64 (k : Int)] w fun e w' => e = .returned (.int .i64 0) ∧ ∃ S', PD w' p S' { d with B := d.B.set k [], s := d.s.set k (min (d.s.getD k 0) 0) } ∧ Ft S w w' ∧ Grew w S S' := by
  have HX := Lib.hid h
  have HF := Lib.hid (dfind_ok p g L vs S d k w h hk)
  obtain ⟨va, vc, hv, xb, hrk⟩ := h.at k hk
  have HC := Lib.hid (scut g k _ vc 0 va (d.s.getD k 0) L w h.rg (by rw [h.lb k hk, hv]) (h.ls k hk) (Nat.zero_le _) hrk.hle (h.len k) (h.sure k hk))
  have HV := Lib.hid hv
  have HK := Lib.hid hk
  clear h hrk hv hk xb
  go_enter Try.func21, Try.ntmps21
  go_wp2_with (first
    | (go_at_call 34; refine HF.out.mono ?_; rintro e w1 ⟨rfl, rfl⟩)
    | (go_at_call 38; refine HC.out.mono ?_; rintro e w1 ⟨rfl, hr1, hu1⟩; have R1 := Lib.hid hr1; have U1 := Lib.hid hu1; clear hr1 hu1))
  go_ret
  have P := HX.out.cut k 0 vc va HK.out HV.out (Nat.zero_le _) R1.out U1.out
  exact ⟨rfl, _, ⟨g, _, _, P.1⟩, P.2.1, P.2.2⟩
set_option maxRecDepth 100000 in
set_option maxHeartbeats 4000000 in
theorem dcut_ok (p g : Nat) (L : List Value) (vs : List Sv) (S : Nat → Prop) (d : DSt) (k q : Nat) (w : World) (h : PX w p g L vs S d) (hk : k < d.B.length) (hq : q ≤ (d.B.getD k []).length) :
    Calls Try.prog 22 #[.pointer (some ⟨p, 0, none⟩), .int .i64 (k : Int), .int .i64 (q : Int)] w fun e w' => e = .returned (.int .i64 0) ∧ ∃ S', PD w' p S' { d with B := d.B.set k ((d.B.getD k []).take q), s := d.s.set k (min (d.s.getD k 0) (q : Int)) } ∧ Ft S w w' ∧ Grew w S S' := by
  have HX := Lib.hid h
  have HF := Lib.hid (dfind_ok p g L vs S d k w h hk)
  obtain ⟨va, vc, hv, xb, hrk⟩ := h.at k hk
  have HC := Lib.hid (scut g k _ vc q va (d.s.getD k 0) L w h.rg (by rw [h.lb k hk, hv]) (h.ls k hk) hq hrk.hle (h.len k) (h.sure k hk))
  have HV := Lib.hid hv
  have HK := Lib.hid hk
  have HQ := Lib.hid hq
  have hlen := h.len k
  obtain ⟨n, hn⟩ : ∃ n, (d.B.getD k []).length = n := ⟨_, rfl⟩
  rw [hn] at xb hq hlen
  clear h hrk hv hk hn
  go_enter Try.func22, Try.ntmps22
  go_wp2_with (first
    | (go_at_call 34; refine HF.out.mono ?_; rintro e w1 ⟨rfl, rfl⟩)
    | (go_at_call 38; refine HC.out.mono ?_; rintro e w1 ⟨rfl, hr1, hu1⟩; have R1 := Lib.hid hr1; have U1 := Lib.hid hu1; clear hr1 hu1 xb))
  go_ret
  have P := HX.out.cut k q vc va HK.out HV.out HQ.out R1.out U1.out
  exact ⟨rfl, _, ⟨g, _, _, P.1⟩, P.2.1, P.2.2⟩
set_option maxRecDepth 100000 in
set_option maxHeartbeats 4000000 in
theorem dcut_size (p g : Nat) (L : List Value) (vs : List Sv) (S : Nat → Prop) (d : DSt) (k : Nat) (size : Int) (w : World) (h : PX w p g L vs S d) (hk : k < d.B.length) (hs : size < 0 ∨ ((d.B.getD k []).length : Int) < size) :
    Calls Try.prog 22 #[.pointer (some ⟨p, 0, none⟩), .int .i64 (k : Int), .int .i64 size] w fun e w' => e = .returned (.int .i64 1) ∧ w = w' := by
  have HF := Lib.hid (dfind_ok p g L vs S d k w h hk)
  obtain ⟨va, vc, hv, xb, hrk⟩ := h.at k hk
  have hlen := h.len k
  obtain ⟨n, hn⟩ : ∃ n, (d.B.getD k []).length = n := ⟨_, rfl⟩
  rw [hn] at xb hs hlen
  clear h hrk hv hk hn
  by_cases h0 : size < 0
  · clear hs
    go_enter Try.func22, Try.ntmps22
    go_wp2_with (go_at_call 34; refine HF.out.mono ?_; rintro e w1 ⟨rfl, rfl⟩)
    go_ret
    exact ⟨rfl, rfl⟩
  · have hs2 : (n : Int) < size := hs.resolve_left h0
    clear hs
    go_enter Try.func22, Try.ntmps22
    go_wp2_with (go_at_call 34; refine HF.out.mono ?_; rintro e w1 ⟨rfl, rfl⟩)
    go_ret
    exact ⟨rfl, rfl⟩
end Go.Proofs.Ytlohfalpcppcjaa.W
