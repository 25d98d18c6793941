/- LAYER 18 (spaces): the law SpacesCodes out of what the program's calls promise, for names that are not too long. -/
import Derived.Test.YtiopcojkdglapaaSpC
import Derived.Test.YtiopcojkdglapaaSpW
set_option linter.unusedSimpArgs false
set_option linter.unusedVariables false
namespace Go.Proofs.Ytiopcojkdglapaa.W
open Go Go.ChangeShapes Go.WideShapes Go.ChangeAt Go.RowKit
open Go.Proofs.Ytiopcojkdglapaa.P (enc dec)

theorem Ls.other {w w' : World} {a : Option Addr} {n c q : Nat} {t : TypeId} {L : List Sp} {K : List Value} (h : Ls spE w a n c L) (hq : Row w q t K) (hk : ∀ s, Value.string s ∉ K) (hu : Gw q w w') : Ls spE w' a n c L := by
  refine ⟨h.hlen, h.hle, h.hmax, h.hfit, h.hnil, ?_⟩
  rcases h.hcells with h0 | ⟨b, off, rfl, hlt, hc⟩
  · exact .inl h0
  · by_cases hn : n = 0
    · exact .inl hn
    · right
      have hb : b ≠ q := by
        rintro rfl
        have hlen := h.hlen
        obtain ⟨x, hx⟩ : ∃ x, L[0]? = some x := ⟨_, List.getElem?_eq_getElem (by omega)⟩
        have h1 := hc 0 x hx 0 (.string x.name) rfl
        rw [hq.cellV] at h1
        exact hk _ (List.mem_of_getElem? h1)
      refine ⟨b, off, rfl, Nat.lt_of_lt_of_le hlt hu.size, fun i x hi j v hj => ?_⟩
      rw [hu.cell (p := ⟨b, off + i * spE.k + j, none⟩) hlt hb]
      exact hc i x hi j v hj
theorem Ls.rrs {w w' : World} {a : Option Addr} {n c q : Nat} {L : List Sp} {l : List UInt8} {e : Int} (h : Ls spE w a n c L) (hq : RR w q l e) (hu : Gw q w w') : Ls spE w' a n c L := by
  obtain ⟨x, y, hh, -⟩ := hq.ex
  exact h.other (show Row w q 105 [.slice x l.length y, .int .i64 e] from hh) (fun s hs => by simp at hs) hu
theorem readZ_fit (l : List UInt8) (e : Int) : ∀ s ∈ (readZ l e).1, s.fit := by
  unfold readZ endZ
  split
  · split
    · exact rdSps_fit _ _ _
    · intro s hs; cases hs
  · intro s hs; cases hs
set_option maxRecDepth 100000 in
set_option maxHeartbeats 4000000 in
theorem sp_few (a : Option Addr) (n c : Nat) (w : World) : Calls Try.prog 14 #[.slice a n c] w fun x w' => x = .returned (.bool (decide (n ≤ 30))) ∧ w = w' := by
  go_enter Try.func14, Try.ntmps14
  go_wp2_with fail
  go_ret
  exact ⟨one (vbool (by rw [decide_eq_decide]; omega)), rfl⟩
set_option maxRecDepth 100000 in
set_option maxHeartbeats 16000000 in
theorem codes_of (hS : SpSetP 17) (hM : SpMayP 25) (hP : SpPutP 32) (hR : SpReadP 29) (hE : SpSameP 38)
    (a : Option Addr) (n c : Nat) (L : List Sp) (a' : Option Addr) (n' c' : Nat) (M : List Sp) (ba : Option Addr) (bm bc : Nat) (lb : List UInt8) (w : World) (h : Ls spE w a n c L) (h' : Ls spE w a' n' c' M) (hb : Rd w ba bm bc lb) (hnm : ∀ s ∈ L, s.name.size ≤ 2000000) :
    Calls Try.prog 5 #[.slice a n c, .slice a' n' c', .slice ba bm bc] w fun x w' => x = .returned (.bool true) ∧ Below w.heap.size w w' := by
  have HA := Lib.hid (awake18 hS hM)
  have HF := Lib.hid (fun a n c w => sp_few a n c w)
  have F0 : n ≤ 30 ∨ ¬ n ≤ 30 := Classical.em _
  have F1 : n' ≤ 30 ∨ ¬ n' ≤ 30 := Classical.em _
  by_cases hall : n ≤ 30 ∧ n' ≤ 30 ∧ bm ≤ 2000
  · obtain ⟨g1, g2, g3⟩ := hall
    have d1 := decide_eq_true g1
    have d2 := decide_eq_true g2
    have g4 : ¬ (2000 : Int) < (bm : Int) := by omega
    have HF1 := Lib.hid (sp_few a n c w)
    have HF2 := Lib.hid (sp_few a' n' c' w)
    rw [d1] at HF1
    rw [d2] at HF2
    have H := Lib.hid h
    have H' := Lib.hid h'
    have HB := Lib.hid hb
    have HRP := Lib.hid (fun p w' (hp : RP w' p lb 0) => hR p lb 0 w' hp)
    have HRR := Lib.hid (fun p w' (hp : RR w' p lb 0) => zread p lb 0 w' hp)
    have hfit := readZ_fit lb 0
    obtain ⟨Q, lq, eq, hq⟩ : ∃ x y z, readZ lb 0 = (x, y, z) := ⟨_, _, _, rfl⟩
    rw [hq] at hfit
    simp only [hq] at HRP HRR
    dsimp only at hfit
    have HFT := Lib.hid hfit
    have HP1 := Lib.hid (fun w' (hw : Below w.heap.size w w') => hP ba bm bc lb a n c L w' (hb.mono hw) (by omega) (h.mono spOk hw) g1 hnm)
    have HP2 := Lib.hid (fun w' (hw : Below w.heap.size w w') => zput ba bm bc lb a n c L w' (hb.mono hw) (by omega) (h.mono spOk hw) (by omega) hnm)
    have HSR := Lib.hid (fun a1 n1 c1 a2 n2 c2 w' (l1 : Ls spE w' a1 n1 c1 Q) (l2 : Ls spE w' a2 n2 c2 Q) => zsame a1 a2 n1 c1 n2 c2 Q Q w' l1 l2 true (by simp))
    obtain ⟨V, hV⟩ : ∃ V : Bool, (V = true ↔ L = M) := by
      by_cases hx : L = M
      · exact ⟨true, by simp [hx]⟩
      · exact ⟨false, by simp [hx]⟩
    have HE1 := Lib.hid (fun w' (hw : Below w.heap.size w w') => hE a a' n c n' c' L M w' (h.mono spOk hw) (h'.mono spOk hw) V hV)
    have HE2 := Lib.hid (fun w' (hw : Below w.heap.size w w') => zsame a a' n c n' c' L M w' (h.mono spOk hw) (h'.mono spOk hw) V hV)
    obtain ⟨R, hR'⟩ : ∃ R, lb ++ putV L = R := ⟨_, rfl⟩
    simp only [hR'] at HP1 HP2
    clear hS hM hP hR hE h h' hb hnm hq hfit hV hR' d1 d2 F0 F1 HF
    go_enter Try.func5, Try.ntmps5
    go_wp2_with (first
      | (go_at_call 14; (with_reducible refine HF1.out.mono ?_); rintro x w' ⟨rfl, rfl⟩)
      | (go_at_call 14; (with_reducible refine HF2.out.mono ?_); rintro x w' ⟨rfl, rfl⟩)
      | (go_at_call 27; (with_reducible refine (popen ba bm bc lb w HB.out (by omega)).mono ?_); rintro x w1 ⟨p, rfl, hp1, hp2, hb⟩; have P1 := Lib.hid hp2; have PW := Lib.hid hp1; have B1 := Lib.hid hb; clear hp1 hp2 hb)
      | (go_at_call 28; (with_reducible refine (ropen ba bm bc lb w1 (HB.out.mono B1.out) (by omega)).mono ?_); rintro x w2 ⟨q, rfl, hq1, hq2, hb⟩; have P2 := Lib.hid (P1.out.mono hb); have Q2 := Lib.hid hq2; have QW := Lib.hid (Nat.le_trans B1.out.size hq1); have B2 := Lib.hid (B1.out.trans (hb.mono B1.out.size)); clear hq1 hq2 hb)
      | (go_at_call 29; (with_reducible refine (HRP.out p w2 P2.out).mono ?_); rintro x w3 ⟨a3, n3, c3, rfl, hl, hp, hg⟩; have L3 := Lib.hid hl; have P3 := Lib.hid hp; have Q3 := Lib.hid (Q2.out.gw P2.out hg); have B3 := Lib.hid (B2.out.trans (hg.below PW.out B2.out.size)); clear hl hp hg)
      | (go_at_call 30; (with_reducible refine (HRR.out q w3 Q3.out).mono ?_); rintro x w4 ⟨v4, rfl, hl, hp, hg⟩; obtain ⟨a4, c4, hv4, hls4, -⟩ := (hl.lso spOk).ls spOk HFT.out; subst hv4; have M4 := Lib.hid hls4; have Q4 := Lib.hid hp; have P4 := Lib.hid (P3.out.gw Q3.out hg); have L4 := Lib.hid (L3.out.rrs Q3.out hg); have B4 := Lib.hid (B3.out.trans (hg.below QW.out B3.out.size)); clear hl hp hg hls4)
      | (go_at_call 32; (with_reducible refine (HP1.out w4 B4.out).mono ?_); rintro x w5 ⟨v5, rfl, hf, hb⟩; have F5 := Lib.hid hf; have L5 := Lib.hid (L4.out.mono spOk hb); have M5 := Lib.hid (M4.out.mono spOk hb); have P5 := Lib.hid (P4.out.mono hb); have Q5 := Lib.hid (Q4.out.mono hb); have B5 := Lib.hid (B4.out.trans (hb.mono B4.out.size)); clear hf hb)
      | (go_at_call 33; (with_reducible refine (HP2.out w5 B5.out).mono ?_); rintro x w6 ⟨v6, rfl, hf, hb⟩; obtain ⟨rl, hrl⟩ : ∃ rl, R.length = rl := ⟨_, rfl⟩; obtain ⟨a6, c6, hv6, hr6⟩ := hf.form' rl hrl; obtain ⟨a5, c5, hv5, hr5⟩ := (F5.out.kept hb).form' rl hrl; subst hv5 hv6; have R5 := Lib.hid hr5; have R6 := Lib.hid hr6; have L6 := Lib.hid (L5.out.mono spOk hb); have M6 := Lib.hid (M5.out.mono spOk hb); have P6 := Lib.hid (P5.out.mono hb); have Q6 := Lib.hid (Q5.out.mono hb); have B6 := Lib.hid (B5.out.trans (hb.mono B5.out.size)); clear hf hb hr5 hr6 hrl)
      | (go_at_call 31; (with_reducible refine (sequal a5 a6 rl rl c5 c6 R R w6 R5.out R6.out).mono ?_); rw [decide_eq_true rfl]; rintro x w7 ⟨rfl, hq⟩; have hb := hq.below w6.heap.size; have L7 := Lib.hid (L6.out.mono spOk hb); have M7 := Lib.hid (M6.out.mono spOk hb); have P7 := Lib.hid (P6.out.mono hb); have Q7 := Lib.hid (Q6.out.mono hb); have B7 := Lib.hid (B6.out.trans (hb.mono B6.out.size)); clear hb hq)
      | (go_at_call 21; (with_reducible refine (HSR.out a3 n3 c3 a4 _ c4 w7 L7.out M7.out).mono ?_); rintro x w8 ⟨rfl, hb⟩; have P8 := Lib.hid (P7.out.mono hb); have Q8 := Lib.hid (Q7.out.mono hb); have B8 := Lib.hid (B7.out.trans (hb.mono B7.out.size)); clear hb)
      | (go_at_call 34; (with_reducible refine (perr p lq eq w8 P8.out).mono ?_); rintro x w' ⟨rfl, rfl⟩)
      | (go_at_call 35; (with_reducible refine (rerr q lq eq w8 Q8.out).mono ?_); rintro x w' ⟨rfl, rfl⟩)
      | (go_at_call 36; (with_reducible refine (pleft p lq eq w8 P8.out).mono ?_); rintro x w' ⟨rfl, rfl⟩)
      | (go_at_call 37; (with_reducible refine (rleft q lq eq w8 Q8.out).mono ?_); rintro x w' ⟨rfl, rfl⟩)
      | (go_at_call 38; (with_reducible refine (HE1.out w8 B8.out).mono ?_); rintro x w9 ⟨rfl, hb⟩; have B9 := Lib.hid (B8.out.trans (hb.mono B8.out.size)); clear hb)
      | (go_at_call 21; (with_reducible refine (HE2.out w9 B9.out).mono ?_); rintro x wa ⟨rfl, hb⟩; have Ba := Lib.hid (B9.out.trans (hb.mono B9.out.size)); clear hb)
      | (go_at_call 15; (with_reducible refine (HA.out wa).mono ?_); rintro x wb ⟨rfl, hb⟩; have Bb := Lib.hid (Ba.out.trans (hb.mono Ba.out.size)); clear hb))
    go_ret
    exact ⟨by first | rfl | exact one (vbool (by simp)), Bb.out⟩
  · have HF1 := Lib.hid (sp_few a n c w)
    have HF2 := Lib.hid (sp_few a' n' c' w)
    by_cases g1 : n ≤ 30
    · rw [decide_eq_true g1] at HF1
      by_cases g2 : n' ≤ 30
      · rw [decide_eq_true g2] at HF2
        have g4 : (2000 : Int) < (bm : Int) := by omega
        clear hS hM hP hR hE h h' hb hnm F0 F1 HF hall
        go_enter Try.func5, Try.ntmps5
        go_wp2_with (first
          | (go_at_call 14; (with_reducible refine HF1.out.mono ?_); rintro x w' ⟨rfl, rfl⟩)
          | (go_at_call 14; (with_reducible refine HF2.out.mono ?_); rintro x w' ⟨rfl, rfl⟩)
          | (go_at_call 15; (with_reducible refine (HA.out w).mono ?_); rintro x wb ⟨rfl, hb⟩; have Bb := Lib.hid hb; clear hb))
        go_ret
        exact ⟨rfl, Bb.out⟩
      · rw [decide_eq_false g2] at HF2
        clear hS hM hP hR hE h h' hb hnm F0 F1 HF hall
        go_enter Try.func5, Try.ntmps5
        go_wp2_with (first
          | (go_at_call 14; (with_reducible refine HF1.out.mono ?_); rintro x w' ⟨rfl, rfl⟩)
          | (go_at_call 14; (with_reducible refine HF2.out.mono ?_); rintro x w' ⟨rfl, rfl⟩)
          | (go_at_call 15; (with_reducible refine (HA.out w).mono ?_); rintro x wb ⟨rfl, hb⟩; have Bb := Lib.hid hb; clear hb))
        go_ret
        exact ⟨rfl, Bb.out⟩
    · rw [decide_eq_false g1] at HF1
      clear hS hM hP hR hE h h' hb hnm F0 F1 HF hall
      go_enter Try.func5, Try.ntmps5
      go_wp2_with (first
        | (go_at_call 14; (with_reducible refine HF1.out.mono ?_); rintro x w' ⟨rfl, rfl⟩)
        | (go_at_call 15; (with_reducible refine (HA.out w).mono ?_); rintro x wb ⟨rfl, hb⟩; have Bb := Lib.hid hb; clear hb))
      go_ret
      exact ⟨rfl, Bb.out⟩
end Go.Proofs.Ytiopcojkdglapaa.W
