/- LAYER 18 (spaces): the law SpacesStay out of what the program's calls promise. -/
import Derived.Test.YtiopcojkdglapaaSpB
set_option linter.unusedSimpArgs false
set_option linter.unusedVariables false
namespace Go.Proofs.Ytiopcojkdglapaa.W
open Go Go.ChangeShapes Go.WideShapes Go.ChangeAt Go.RowKit
open Go.Proofs.Ytiopcojkdglapaa.P (enc dec)

abbrev SpPutP (f : FuncId) : Prop := ∀ (a0 : Option Addr) (m0 c0 : Nat) (S : List UInt8) (a : Option Addr) (n c : Nat) (L : List Sp) (w : World), Rd w a0 m0 c0 S → m0 ≤ 2000000 → Ls spE w a n c L → n ≤ 30 → (∀ s ∈ L, s.name.size ≤ 2000000) → Calls Try.prog f #[.slice a0 m0 c0, .slice a n c] w fun x w' => ∃ v, x = .returned v ∧ Fr w' w.heap.size v (S ++ putV L) ∧ Below w.heap.size w w'
abbrev SpReadP (f : FuncId) : Prop := ∀ (p : Nat) (l : List UInt8) (e : Int) (w : World), RP w p l e → Calls Try.prog f #[.pointer (some ⟨p, 0, none⟩)] w fun x w' => ∃ a n c, x = .returned (.slice a n c) ∧ Ls spE w' a n c (readZ l e).1 ∧ RP w' p (readZ l e).2.1 (readZ l e).2.2 ∧ Gw p w w'
abbrev SpSameP (f : FuncId) : Prop := ∀ (a a' : Option Addr) (n c n' c' : Nat) (L M : List Sp) (w : World), Ls spE w a n c L → Ls spE w a' n' c' M → ∀ V : Bool, (V = true ↔ L = M) → Calls Try.prog f #[.slice a n c, .slice a' n' c'] w fun x w' => x = .returned (.bool V) ∧ Below w.heap.size w w'
theorem check_len {L : List Sp} (h : checkV L = true) : L.length ≤ 6 := by
  have hc : chkS none L = true ∧ L.length ≤ 6 := by simpa [checkV] using h
  exact hc.2
theorem check_names {L : List Sp} (h : checkV L = true) : ∀ s ∈ L, s.name.size ≤ 2000000 := fun s hs => by
  have hc : chkS none L = true ∧ L.length ≤ 6 := by simpa [checkV] using h
  have := (ok_facts (chk_oks L none hc.1 s hs)).1
  omega
set_option maxRecDepth 100000 in
set_option maxHeartbeats 16000000 in
theorem stay_of (hS : SpSetP 17) (hM : SpMayP 25) (hC : SpCheckP 22) (hF : SpFindP 19) (hP : SpPutP 32) (hR : SpReadP 29) (hE : SpSameP 38)
    (a : Option Addr) (n c : Nat) (L : List Sp) (s : Sp) (nm : ByteArray) (w : World) (h : Ls spE w a n c L) (hs : s.fit) :
    Calls Try.prog 6 #[.slice a n c, .agg s.cells.toArray, .string nm] w fun x w' => x = .returned (.bool true) ∧ Below w.heap.size w w' := by
  have HA := Lib.hid (awake18 hS hM)
  have HC1 := Lib.hid (fun w' (hb : Below w.heap.size w w') => hC a n c L w' (h.mono spOk hb))
  obtain ⟨sn, sr, sw⟩ := s
  have HX := Lib.hid (show (Try.prog.info? 24).map (·.size) = some [Value.string sn, .int .i64 sr, .int .i64 sw].length from sp_size)
  obtain ⟨V, hV⟩ : ∃ V, checkV L = V := ⟨_, rfl⟩
  rw [hV] at HC1
  cases V
  · clear hS hM hC hF hP hR hE h hV
    go_enter Try.func6, Try.ntmps6
    go_wp2_with (first
      | (with_reducible refine box_row (o := ⟨some 4, _, _, _, _, _⟩) rfl _ _ rfl [.string sn, .int .i64 sr, .int .i64 sw] rfl ?_; intro w1 hr1 hb1 hz1; have B1 := Lib.hid hb1; clear hr1 hb1 hz1)
      | (go_at_call 22; (with_reducible refine (HC1.out w1 B1.out).mono ?_); rintro x w2 ⟨rfl, hb⟩; have B2 := Lib.hid (B1.out.trans (hb.mono B1.out.size)); clear hb)
      | (go_at_call 15; (with_reducible refine (HA.out w2).mono ?_); rintro x w3 ⟨rfl, hb⟩; have B3 := Lib.hid (B2.out.trans (hb.mono B2.out.size)); clear hb))
    go_ret
    exact ⟨rfl, B3.out⟩
  · have hlen : n ≤ 30 := by have := check_len hV; have := h.hlen; omega
    have HS1 := Lib.hid (fun w' (hb : Below w.heap.size w w') => hS a n c L ⟨sn, sr, sw⟩ w' (h.mono spOk hb) hs hlen)
    have HF1 := Lib.hid (fun w' (hb : Below w.heap.size w w') => hF a n c L nm w' (h.mono spOk hb))
    have hck := set_check (s := ⟨sn, sr, sw⟩) hV
    have hfs := fun hn => find_set (L := L) (s := ⟨sn, sr, sw⟩) (n := nm) hn
    obtain ⟨⟨N, en⟩, hN⟩ : ∃ q, setV L ⟨sn, sr, sw⟩ = q := ⟨_, rfl⟩
    rw [hN] at HS1 hck hfs
    dsimp only at HS1 hck hfs
    have hrp := sp_read_put hck
    have hnl := check_len hck
    have HPL := Lib.hid (putV_len hck)
    have HC2 := Lib.hid (fun a1 n1 c1 w' (hl : Ls spE w' a1 n1 c1 N) => hC a1 n1 c1 N w' hl)
    have HF2 := Lib.hid (fun a1 n1 c1 w' (hl : Ls spE w' a1 n1 c1 N) => hF a1 n1 c1 N nm w' hl)
    have HP2 := Lib.hid (fun a1 n1 c1 w' (hl : Ls spE w' a1 n1 c1 N) => hP none 0 0 [] a1 n1 c1 N w' (Rd_nil w') (by decide) hl (by have := hl.hlen; omega) (check_names hck))
    have HR2 := Lib.hid (fun p w' (hp : RP w' p (putV N) 0) => hR p (putV N) 0 w' hp)
    have HE2 := Lib.hid (fun a1 n1 c1 a2 n2 c2 w' (hl : Ls spE w' a1 n1 c1 N) (hl2 : Ls spE w' a2 n2 c2 N) => hE a1 a2 n1 c1 n2 c2 N N w' hl hl2 true (by simp))
    simp only [hck] at HC2
    simp only [hrp] at HR2
    simp only [List.nil_append] at HP2
    obtain ⟨⟨⟨xn, xr, xw⟩, fx⟩, hfx⟩ : ∃ q, findV L nm = q := ⟨_, rfl⟩
    obtain ⟨⟨⟨yn, yr, yw⟩, fy⟩, hfy⟩ : ∃ q, findV N nm = q := ⟨_, rfl⟩
    rw [hfx] at HF1 hfs
    simp only [hfy] at HF2
    rw [hfy] at hfs
    dsimp only at HF1
    have SZ := Lib.hid sp_size
    have MZ := Lib.hid sp_zero
    clear hS hM hC hF hP hR hE h hV hN hck hrp hfx hfy hs
    by_cases hnm : nm = sn
    · subst hnm
      have hq1 : (nm.toList == nm.toList) = true := by simp
      have hq2 : (nm.toList != nm.toList) = false := by rw [bne, hq1]; rfl
      clear hfs
      go_enter Try.func6, Try.ntmps6
      go_wp2_with (first
        | (with_reducible refine box_row (o := ⟨some 4, _, _, _, _, _⟩) rfl _ _ rfl [.string nm, .int .i64 sr, .int .i64 sw] rfl ?_; intro w1 hr1 hb1 hz1; have R1 := Lib.hid hr1; have B1 := Lib.hid hb1; clear hr1 hb1 hz1)
        | (go_at_call 22; (with_reducible refine (HC1.out w1 B1.out).mono ?_); rintro x w2 ⟨rfl, hb⟩; have R2 := Lib.hid (R1.out.below hb R1.out.lt); have B2 := Lib.hid (B1.out.trans (hb.mono B1.out.size)); clear hb)
        | ((with_reducible refine load_row (o := ⟨some 20, _, _, _, _, _⟩) rfl _ _ rfl w.heap.size ?_ _ [.string nm, .int .i64 sr, .int .i64 sw] _ R2.out Try.underlying24 rfl ?_ ?_); (focus go_simp); (focus (exact HX.out)))
        | (go_at_call 17; (with_reducible refine (HS1.out w2 B2.out).mono ?_); rintro x w2a ⟨a1, n1, c1, rfl, hl, hb⟩; have L2 := Lib.hid hl; have R2a := Lib.hid (R2.out.below hb R2.out.lt); have B2a := Lib.hid (B2.out.trans (hb.mono B2.out.size)); clear hl hb)
        | (go_at_call 19; (with_reducible refine (HF1.out w2a B2a.out).mono ?_); rintro x w3 ⟨rfl, hb⟩; have L3 := Lib.hid (L2.out.mono spOk hb); have R3 := Lib.hid (R2a.out.below hb R2a.out.lt); have B3 := Lib.hid (B2a.out.trans (hb.mono B2a.out.size)); clear hb)
        | ((with_reducible refine alloc_row (o := ⟨some 9, _, _, _, _, _⟩) rfl _ rfl _ MZ.out ?_); intro w4 hr hb hz; have A4 := Lib.hid hr; have BB4 := Lib.hid hb; have L4 := Lib.hid (L3.out.mono spOk hb); have R4 := Lib.hid (R3.out.below hb R3.out.lt); have B4 := Lib.hid (B3.out.trans (hb.mono B3.out.size)); have RL := Lib.hid R3.out.lt; clear hr hb hz)
        | ((with_reducible refine store_row (o := ⟨none, _, _, _, _, _⟩) rfl _ (.tmp 9) _ rfl w3.heap.size [.string xn, .int .i64 xr, .int .i64 xw] ?_ ?_ 24 _ A4.out ?_ ?_ ?_ ?_); (focus go_simp); (focus (first | (go_simp; done) | (go_simp; rfl))); (focus (exact SZ.out)); (focus rfl); (focus (exact sp_one ⟨_, _, _⟩)); intro w5 hr hu; have A5 := Lib.hid hr; have hb := Below.refl w3.heap.size w4; have hb2 : Below w3.heap.size w4 w5 := hu.below (Nat.le_refl _); have L5 := Lib.hid (L3.out.mono spOk ((show Below w3.heap.size w3 w4 from BB4.out).trans hb2)); have R5 := Lib.hid (R4.out.upd hu (by have := RL.out; omega)); have B5 := Lib.hid (B4.out.trans (hu.below B3.out.size)); clear hr hu hb hb2)
        | (go_at_call 19; (with_reducible refine (HF2.out a1 n1 c1 w5 L5.out).mono ?_); rintro x w6 ⟨rfl, hb⟩; have L6 := Lib.hid (L5.out.mono spOk hb); have A6 := Lib.hid (A5.out.below hb A5.out.lt); have R6 := Lib.hid (R5.out.below hb R5.out.lt); have B6 := Lib.hid (B5.out.trans (hb.mono B5.out.size)); clear hb)
        | ((with_reducible refine alloc_row (o := ⟨some 11, _, _, _, _, _⟩) rfl _ rfl _ MZ.out ?_); intro w7 hr hb hz; have C7 := Lib.hid hr; have BB7 := Lib.hid hb; have A7 := Lib.hid (A6.out.below hb A6.out.lt); have R7 := Lib.hid (R6.out.below hb R6.out.lt); have B7 := Lib.hid (B6.out.trans (hb.mono B6.out.size)); have AL := Lib.hid A6.out.lt; have RL6 := Lib.hid R6.out.lt; clear hr hb hz)
        | ((with_reducible refine store_row (o := ⟨none, _, _, _, _, _⟩) rfl _ (.tmp 11) _ rfl w6.heap.size [.string yn, .int .i64 yr, .int .i64 yw] ?_ ?_ 24 _ C7.out ?_ ?_ ?_ ?_); (focus go_simp); (focus (first | (go_simp; done) | (go_simp; rfl))); (focus (exact SZ.out)); (focus rfl); (focus (exact sp_one ⟨_, _, _⟩)); intro w8 hr hu; have C8 := Lib.hid hr; have L8 := Lib.hid (L6.out.mono spOk (BB7.out.trans (hu.below (Nat.le_refl _)))); have A8 := Lib.hid (A7.out.upd hu (by have := AL.out; omega)); have hr8 := R7.out.upd hu (by have := RL6.out; omega); have R8 := Lib.hid hr8; have B8 := Lib.hid (B7.out.trans (hu.below B6.out.size)); clear hr hu hr8)
        | (go_at_call 22; (with_reducible refine (HC2.out a1 n1 c1 w8 L8.out).mono ?_); rintro x w9 ⟨rfl, hb⟩; have L9 := Lib.hid (L8.out.mono spOk hb); have A9 := Lib.hid (A8.out.below hb A8.out.lt); have C9 := Lib.hid (C8.out.below hb C8.out.lt); have hr9 := R8.out.below hb R8.out.lt; obtain ⟨z0, z1, z2⟩ := hr9.sp3c; have B9 := Lib.hid (B8.out.trans (hb.mono B8.out.size)); clear hb hr9)
        | (go_at_call 32; (with_reducible refine (HP2.out a1 n1 c1 w9 L9.out).mono ?_); rintro x wa ⟨v, rfl, hf, hb⟩; obtain ⟨pl, hpl⟩ : ∃ q, (putV N).length = q := ⟨_, rfl⟩; obtain ⟨av, cv, hv, hrv⟩ := hf.form' pl hpl; subst hv; have RV := Lib.hid hrv; have PL := Lib.hid (show pl ≤ 1000 by rw [← hpl]; exact HPL.out); have La := Lib.hid (L9.out.mono spOk hb); have Ba := Lib.hid (B9.out.trans (hb.mono B9.out.size)); clear hb hf hpl hrv)
        | (go_at_call 27; (with_reducible refine (popen av pl cv (putV N) wa RV.out (by have := PL.out; omega)).mono ?_); rintro x wb ⟨p, rfl, hp1, hp2, hb⟩; have Pb := Lib.hid hp2; have Lb := Lib.hid (La.out.mono spOk hb); have HPW := Lib.hid (Nat.le_trans Ba.out.size hp1); have Bb := Lib.hid (Ba.out.trans (hb.mono Ba.out.size)); have PW := Lib.hid hp1; have Bab := Lib.hid hb; clear hb hp1 hp2)
        | (go_at_call 29; (with_reducible refine (HR2.out p wb Pb.out).mono ?_); rintro x wc ⟨a2, n2, c2, rfl, hl, hp, hg⟩; have Lc2 := Lib.hid hl; have Pc := Lib.hid hp; have Lc := Lib.hid (La.out.mono spOk (Bab.out.trans (hg.below PW.out (Bab.out.size)))); have Bc := Lib.hid (Bb.out.trans (hg.below HPW.out Bb.out.size)); clear hl hp hg)
        | (go_at_call 38; (with_reducible refine (HE2.out a2 n2 c2 a1 n1 c1 wc Lc2.out Lc.out).mono ?_); rintro x wd ⟨rfl, hb⟩; have Pd := Lib.hid (Pc.out.mono hb); have Bd := Lib.hid (Bc.out.trans (hb.mono Bc.out.size)); clear hb)
        | (go_at_call 39; (with_reducible refine (pend p [] 0 wd Pd.out).mono ?_); rintro x w' ⟨rfl, rfl⟩)
        | (go_at_call 15; (with_reducible refine (HA.out wd).mono ?_); rintro x we ⟨rfl, hb⟩; have Be := Lib.hid (Bd.out.trans (hb.mono Bd.out.size)); clear hb))
      go_ret
      exact ⟨by first | rfl | exact one (vbool (by simp [endV])), Be.out⟩
    · have hq1 : (nm.toList == sn.toList) = false := by
        cases hq : (nm.toList == sn.toList) with
        | false => rfl
        | true => exact absurd ((eqB_iff nm sn).1 hq) hnm
      have hq2 : (nm.toList != sn.toList) = true := by rw [bne, hq1]; rfl
      have hq := hfs hnm
      simp only [Prod.mk.injEq, Sp.mk.injEq] at hq
      obtain ⟨⟨rfl, rfl, rfl⟩, rfl⟩ := hq
      clear hfs
      go_enter Try.func6, Try.ntmps6
      go_wp2_with (first
        | (with_reducible refine box_row (o := ⟨some 4, _, _, _, _, _⟩) rfl _ _ rfl [.string sn, .int .i64 sr, .int .i64 sw] rfl ?_; intro w1 hr1 hb1 hz1; have R1 := Lib.hid hr1; have B1 := Lib.hid hb1; clear hr1 hb1 hz1)
        | (go_at_call 22; (with_reducible refine (HC1.out w1 B1.out).mono ?_); rintro x w2 ⟨rfl, hb⟩; have R2 := Lib.hid (R1.out.below hb R1.out.lt); have B2 := Lib.hid (B1.out.trans (hb.mono B1.out.size)); clear hb)
        | ((with_reducible refine load_row (o := ⟨some 20, _, _, _, _, _⟩) rfl _ _ rfl w.heap.size ?_ _ [.string sn, .int .i64 sr, .int .i64 sw] _ R2.out Try.underlying24 rfl ?_ ?_); (focus go_simp); (focus (exact HX.out)))
        | (go_at_call 17; (with_reducible refine (HS1.out w2 B2.out).mono ?_); rintro x w2a ⟨a1, n1, c1, rfl, hl, hb⟩; have L2 := Lib.hid hl; have R2a := Lib.hid (R2.out.below hb R2.out.lt); have B2a := Lib.hid (B2.out.trans (hb.mono B2.out.size)); clear hl hb)
        | (go_at_call 19; (with_reducible refine (HF1.out w2a B2a.out).mono ?_); rintro x w3 ⟨rfl, hb⟩; have L3 := Lib.hid (L2.out.mono spOk hb); have R3 := Lib.hid (R2a.out.below hb R2a.out.lt); have B3 := Lib.hid (B2a.out.trans (hb.mono B2a.out.size)); clear hb)
        | ((with_reducible refine alloc_row (o := ⟨some 9, _, _, _, _, _⟩) rfl _ rfl _ MZ.out ?_); intro w4 hr hb hz; have A4 := Lib.hid hr; have BB4 := Lib.hid hb; have L4 := Lib.hid (L3.out.mono spOk hb); have R4 := Lib.hid (R3.out.below hb R3.out.lt); have B4 := Lib.hid (B3.out.trans (hb.mono B3.out.size)); have RL := Lib.hid R3.out.lt; clear hr hb hz)
        | ((with_reducible refine store_row (o := ⟨none, _, _, _, _, _⟩) rfl _ (.tmp 9) _ rfl w3.heap.size [.string yn, .int .i64 yr, .int .i64 yw] ?_ ?_ 24 _ A4.out ?_ ?_ ?_ ?_); (focus go_simp); (focus (first | (go_simp; done) | (go_simp; rfl))); (focus (exact SZ.out)); (focus rfl); (focus (exact sp_one ⟨_, _, _⟩)); intro w5 hr hu; have A5 := Lib.hid hr; have hb := Below.refl w3.heap.size w4; have hb2 : Below w3.heap.size w4 w5 := hu.below (Nat.le_refl _); have L5 := Lib.hid (L3.out.mono spOk ((show Below w3.heap.size w3 w4 from BB4.out).trans hb2)); have R5 := Lib.hid (R4.out.upd hu (by have := RL.out; omega)); have B5 := Lib.hid (B4.out.trans (hu.below B3.out.size)); clear hr hu hb hb2)
        | (go_at_call 19; (with_reducible refine (HF2.out a1 n1 c1 w5 L5.out).mono ?_); rintro x w6 ⟨rfl, hb⟩; have L6 := Lib.hid (L5.out.mono spOk hb); have A6 := Lib.hid (A5.out.below hb A5.out.lt); have R6 := Lib.hid (R5.out.below hb R5.out.lt); have B6 := Lib.hid (B5.out.trans (hb.mono B5.out.size)); clear hb)
        | ((with_reducible refine alloc_row (o := ⟨some 11, _, _, _, _, _⟩) rfl _ rfl _ MZ.out ?_); intro w7 hr hb hz; have C7 := Lib.hid hr; have BB7 := Lib.hid hb; have A7 := Lib.hid (A6.out.below hb A6.out.lt); have R7 := Lib.hid (R6.out.below hb R6.out.lt); have B7 := Lib.hid (B6.out.trans (hb.mono B6.out.size)); have AL := Lib.hid A6.out.lt; have RL6 := Lib.hid R6.out.lt; clear hr hb hz)
        | ((with_reducible refine store_row (o := ⟨none, _, _, _, _, _⟩) rfl _ (.tmp 11) _ rfl w6.heap.size [.string yn, .int .i64 yr, .int .i64 yw] ?_ ?_ 24 _ C7.out ?_ ?_ ?_ ?_); (focus go_simp); (focus (first | (go_simp; done) | (go_simp; rfl))); (focus (exact SZ.out)); (focus rfl); (focus (exact sp_one ⟨_, _, _⟩)); intro w8 hr hu; have C8 := Lib.hid hr; have L8 := Lib.hid (L6.out.mono spOk (BB7.out.trans (hu.below (Nat.le_refl _)))); have A8 := Lib.hid (A7.out.upd hu (by have := AL.out; omega)); have hr8 := R7.out.upd hu (by have := RL6.out; omega); have R8 := Lib.hid hr8; have B8 := Lib.hid (B7.out.trans (hu.below B6.out.size)); clear hr hu hr8)
        | (go_at_call 22; (with_reducible refine (HC2.out a1 n1 c1 w8 L8.out).mono ?_); rintro x w9 ⟨rfl, hb⟩; have L9 := Lib.hid (L8.out.mono spOk hb); have A9 := Lib.hid (A8.out.below hb A8.out.lt); have C9 := Lib.hid (C8.out.below hb C8.out.lt); have hr9 := R8.out.below hb R8.out.lt; obtain ⟨z0, z1, z2⟩ := hr9.sp3c; have B9 := Lib.hid (B8.out.trans (hb.mono B8.out.size)); clear hb hr9)
        | ((with_reducible refine load_rowg (o := ⟨some 45, _, _, _, _, _⟩) 8 true 44 rfl _ _ rfl w3.heap.size _ [.string yn, .int .i64 yr, .int .i64 yw] _ A9.out Try.underlying24 rfl ?_ ?_ ?_ ?_ ?_); (focus rfl); (focus go_simp); (focus go_simp); (focus (exact SZ.out)))
        | ((with_reducible refine load_rowg (o := ⟨some 46, _, _, _, _, _⟩) 8 true 44 rfl _ _ rfl w6.heap.size _ [.string yn, .int .i64 yr, .int .i64 yw] _ C9.out Try.underlying24 rfl ?_ ?_ ?_ ?_ ?_); (focus rfl); (focus go_simp); (focus go_simp); (focus (exact SZ.out)))
        | (go_at_call 32; (with_reducible refine (HP2.out a1 n1 c1 w9 L9.out).mono ?_); rintro x wa ⟨v, rfl, hf, hb⟩; obtain ⟨pl, hpl⟩ : ∃ q, (putV N).length = q := ⟨_, rfl⟩; obtain ⟨av, cv, hv, hrv⟩ := hf.form' pl hpl; subst hv; have RV := Lib.hid hrv; have PL := Lib.hid (show pl ≤ 1000 by rw [← hpl]; exact HPL.out); have La := Lib.hid (L9.out.mono spOk hb); have Ba := Lib.hid (B9.out.trans (hb.mono B9.out.size)); clear hb hf hpl hrv)
        | (go_at_call 27; (with_reducible refine (popen av pl cv (putV N) wa RV.out (by have := PL.out; omega)).mono ?_); rintro x wb ⟨p, rfl, hp1, hp2, hb⟩; have Pb := Lib.hid hp2; have Lb := Lib.hid (La.out.mono spOk hb); have HPW := Lib.hid (Nat.le_trans Ba.out.size hp1); have Bb := Lib.hid (Ba.out.trans (hb.mono Ba.out.size)); have PW := Lib.hid hp1; have Bab := Lib.hid hb; clear hb hp1 hp2)
        | (go_at_call 29; (with_reducible refine (HR2.out p wb Pb.out).mono ?_); rintro x wc ⟨a2, n2, c2, rfl, hl, hp, hg⟩; have Lc2 := Lib.hid hl; have Pc := Lib.hid hp; have Lc := Lib.hid (La.out.mono spOk (Bab.out.trans (hg.below PW.out (Bab.out.size)))); have Bc := Lib.hid (Bb.out.trans (hg.below HPW.out Bb.out.size)); clear hl hp hg)
        | (go_at_call 38; (with_reducible refine (HE2.out a2 n2 c2 a1 n1 c1 wc Lc2.out Lc.out).mono ?_); rintro x wd ⟨rfl, hb⟩; have Pd := Lib.hid (Pc.out.mono hb); have Bd := Lib.hid (Bc.out.trans (hb.mono Bc.out.size)); clear hb)
        | (go_at_call 39; (with_reducible refine (pend p [] 0 wd Pd.out).mono ?_); rintro x w' ⟨rfl, rfl⟩)
        | (go_at_call 15; (with_reducible refine (HA.out wd).mono ?_); rintro x we ⟨rfl, hb⟩; have Be := Lib.hid (Bd.out.trans (hb.mono Bd.out.size)); clear hb))
      go_ret
      exact ⟨by first | rfl | exact one (vbool (by simp [endV])), Be.out⟩
end Go.Proofs.Ytiopcojkdglapaa.W
