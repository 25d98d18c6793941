/- LAYER 9 (disk): what a crash leaves; the law DiskStays. -/
import Derived.Test.YtlohfalpcppcjaaDpM
set_option linter.unusedSimpArgs false
set_option linter.unusedVariables false
namespace Go.Proofs.Ytlohfalpcppcjaa.W
open Go Go.ChangeShapes Go.WideShapes Go.ChangeAt Go.RowKit
theorem Rd.first9 {w : World} {a : Option Addr} {len cap : Nat} {l : List UInt8} (h : Rd w a len cap l) (s : Nat) (hs : s ≤ len) : Rd w a s cap (l.take s) := by
  refine ⟨by rw [List.length_take, h.hlen]; omega, Nat.le_trans hs h.hle, h.hmax, h.hnil, ?_⟩
  rcases h.hcells with h0 | ⟨b, off, e, hlt, hc⟩
  · exact .inl (by omega)
  · refine .inr ⟨b, off, e, hlt, fun i hi => ?_⟩
    rw [hc i (by omega)]
    congr 2
    simp [List.getD_eq_getElem?_getD, List.getElem?_take, hi]
theorem crN_spec (ks : List Int) (Bs : List (List UInt8)) (Ss : List Int) (h : DSure Bs Ss) (hl : Ss.length = Bs.length) : ∀ k, k ≤ Bs.length →
    (crN ks Bs Ss k).1.length = Bs.length ∧ (crN ks Bs Ss k).2.1.length = Bs.length ∧
    (∀ i, i < k → ∃ q : Nat, (crN ks Bs Ss k).2.1.getD i 0 = q ∧ (crN ks Bs Ss k).1.getD i [] = (Bs.getD i []).take q ∧ Ss.getD i 0 ≤ q ∧ q ≤ (Bs.getD i []).length) ∧
    (∀ i, k ≤ i → (crN ks Bs Ss k).1.getD i [] = Bs.getD i [] ∧ (crN ks Bs Ss k).2.1.getD i 0 = Ss.getD i 0)
  | 0, _ => ⟨rfl, hl, fun i hi => absurd hi (Nat.not_lt_zero i), fun i _ => ⟨rfl, rfl⟩⟩
  | k + 1, hk => by
    obtain ⟨h1, h2, h3, h4⟩ := crN_spec ks Bs Ss h hl k (by omega)
    have hs := h k (by omega)
    obtain ⟨e1, e2⟩ := h4 k (Nat.le_refl _)
    have hst : crN ks Bs Ss (k + 1) = _ := crN.eq_2 ks Bs Ss k
    rw [e1, e2] at hst
    obtain ⟨Bk, Sk, nk, hc⟩ : ∃ x y z, crN ks Bs Ss k = (x, y, z) := ⟨_, _, _, rfl⟩
    rw [hc] at h1 h2 h3 h4 hst e1 e2
    dsimp only at h1 h2 h3 h4 hst e1 e2
    have hkv := keepV_le ks nk (((Bs.getD k []).length : Int) - Ss.getD k 0) (by omega)
    by_cases h0 : ((Bs.getD k []).length : Int) - Ss.getD k 0 = 0
    · rw [if_pos h0] at hst
      rw [hst]
      refine ⟨h1, h2, fun i hi => ?_, fun i hi => h4 i (by omega)⟩
      by_cases hik : i = k
      · subst hik
        exact ⟨(Bs.getD i []).length, by rw [e2]; omega, by rw [e1, List.take_length], by omega, Nat.le_refl _⟩
      · exact h3 i (by omega)
    · rw [if_neg h0] at hst
      obtain ⟨q, hq⟩ : ∃ q : Nat, Ss.getD k 0 + keepV ks nk (((Bs.getD k []).length : Int) - Ss.getD k 0) = q := ⟨(Ss.getD k 0 + keepV ks nk (((Bs.getD k []).length : Int) - Ss.getD k 0)).toNat, by omega⟩
      rw [hq, Int.toNat_natCast] at hst
      rw [hst]
      dsimp only
      refine ⟨by simp [h1], by simp [h2], fun i hi => ?_, fun i hi => ?_⟩
      · rw [getD_set _ _ _ _ _ (by omega), getD_set _ _ _ _ _ (by omega)]
        by_cases hik : i = k
        · subst hik
          rw [if_pos rfl, if_pos rfl]
          exact ⟨q, rfl, rfl, by omega, by omega⟩
        · rw [if_neg hik, if_neg hik]; exact h3 i (by omega)
      · rw [getD_set _ _ _ _ _ (by omega), getD_set _ _ _ _ _ (by omega), if_neg (by omega), if_neg (by omega)]; exact h4 i (by omega)
theorem looseN_zero (Bs : List (List UInt8)) (Ss : List Int) : ∀ k, (∀ i, i < k → Ss.getD i 0 = (Bs.getD i []).length) → looseN Bs Ss k = 0
  | 0, _ => rfl
  | k + 1, h => by
    unfold looseN
    rw [looseN_zero Bs Ss k fun i hi => h i (by omega), h k (by omega)]
    omega
/-- behind a crash nothing is loose; of each slot a beginning is left that has what was sure -/
theorem crash_spec (d : DSt) (ks : List Int) (h : DSure d.B d.s) (hl : d.s.length = d.B.length) (k : Nat) (hk : k < d.B.length) :
    (d.crash ks).loose = 0 ∧ (d.crash ks).B.length = d.B.length ∧ ∃ q : Nat, (d.crash ks).B.getD k [] = (d.B.getD k []).take q ∧ d.s.getD k 0 ≤ q ∧ q ≤ (d.B.getD k []).length := by
  obtain ⟨h1, h2, h3, -⟩ := crN_spec ks d.B d.s h hl d.B.length (Nat.le_refl _)
  refine ⟨?_, h1, ?_⟩
  · unfold DSt.loose DSt.crash
    dsimp only
    rw [h1]
    refine looseN_zero _ _ _ fun i hi => ?_
    obtain ⟨q, e1, e2, e3, e4⟩ := h3 i hi
    rw [e1, e2, List.length_take]; omega
  · obtain ⟨q, e1, e2, e3, e4⟩ := h3 k hk
    exact ⟨q, e2, e3, e4⟩
def st1 (s : Nat) (A : List UInt8) : DSt := ((DSt.new 4 3000).ap (s : Int) A)
def st2 (s : Nat) (A : List UInt8) : DSt := (st1 s A).sync
def st3 (s : Nat) (A C : List UInt8) : DSt := (st2 s A).ap (s : Int) C
theorem stays (s : Nat) (A C : List UInt8) (hs : s < 4) (hA : A.length ≤ 1000) (hC : C.length ≤ 1000) :
    (DSt.new 4 3000).apE (s : Int) A = 0 ∧ (st1 s A).loose = A.length ∧ (st2 s A).apE (s : Int) C = 0 ∧ (st3 s A C).loose = C.length ∧ (st3 s A C).B.length = 4 ∧ (st3 s A C).B.getD s [] = A ++ C ∧ (st3 s A C).s.getD s 0 = A.length := by
  have hS : slotV (DSt.new 4 3000).B (s : Int) = true := by unfold slotV; simp [DSt.new]; omega
  have e1 : (DSt.new 4 3000).apE (s : Int) A = 0 := by
    unfold DSt.apE
    rw [if_neg (by rw [hS]; decide), if_neg]
    unfold DSt.at
    rw [Int.toNat_natCast]
    simp only [DSt.new]
    rw [getD_rep]
    simp; omega
  have d1 : st1 s A = ⟨(List.replicate 4 []).set s A, List.replicate 4 0, 3000⟩ := by
    unfold st1 DSt.ap
    rw [if_pos e1]
    unfold DSt.at
    rw [Int.toNat_natCast]
    simp only [DSt.new]
    rw [getD_rep, List.nil_append]
    rfl
  have d2 : st2 s A = ⟨(List.replicate 4 []).set s A, (List.replicate 4 0).set s (A.length : Int), 3000⟩ := by
    unfold st2
    rw [d1]
    rcases (by omega : s = 0 ∨ s = 1 ∨ s = 2 ∨ s = 3) with rfl | rfl | rfl | rfl <;> rfl
  have e2 : (st2 s A).apE (s : Int) C = 0 := by
    rw [d2]
    unfold DSt.apE
    rw [if_neg (by unfold slotV; simp; omega), if_neg]
    unfold DSt.at
    rw [Int.toNat_natCast]
    dsimp only
    rw [getD_set _ _ _ _ _ (by simpa using hs), if_pos rfl]
    omega
  have d3 : st3 s A C = ⟨(List.replicate 4 []).set s (A ++ C), (List.replicate 4 0).set s (A.length : Int), 3000⟩ := by
    unfold st3 DSt.ap
    rw [if_pos e2]
    unfold DSt.at
    rw [Int.toNat_natCast, d2]
    dsimp only
    rw [getD_set _ _ _ _ _ (by simpa using hs), if_pos rfl, List.set_set]
  refine ⟨e1, ?_, e2, ?_, ?_, ?_, ?_⟩
  · rw [d1]
    unfold DSt.loose
    rcases (by omega : s = 0 ∨ s = 1 ∨ s = 2 ∨ s = 3) with rfl | rfl | rfl | rfl <;> simp [looseN]
  · rw [d3]
    unfold DSt.loose
    rcases (by omega : s = 0 ∨ s = 1 ∨ s = 2 ∨ s = 3) with rfl | rfl | rfl | rfl <;> simp [looseN] <;> omega
  · rw [d3]; simp
  · rw [d3]; dsimp only; rw [getD_set _ _ _ _ _ (by simpa using hs), if_pos rfl]
  · rw [d3]; dsimp only; rw [getD_set _ _ _ _ _ (by simpa using hs), if_pos rfl]

set_option maxRecDepth 100000 in
set_option maxHeartbeats 4000000 in
theorem stays_ok (sl : Int) (s : Nat) (a : Option Addr) (m c : Nat) (A : List UInt8) (a' : Option Addr) (m' c' : Nat) (C : List UInt8) (ka : Option Addr) (kl kc : Nat) (ks : List Int) (w : World) (h0 : 0 ≤ sl ∧ sl ≤ 255) (hs : sl.tmod 4 = (s : Int)) (hr : Rd w a m c A) (hr' : Rd w a' m' c' C) (hk : Sl .i64 w ka kl ks) (hold : kl ≠ 0 → ∀ b off, ka = some ⟨b, off, none⟩ → b < w.heap.size) (hm : m ≤ 1000) (hm' : m' ≤ 1000) (hkl : kl ≤ 30) :
    Calls Try.prog 4 #[.int .u8 sl, .slice a m c, .slice a' m' c', .slice ka kl kc] w fun e w' => e = .returned (.bool true) ∧ Below w.heap.size w w' := by
  have hs4 : s < 4 := by
    rw [Int.tmod_eq_emod_of_nonneg h0.1] at hs; omega
  have hsm : sl % 4 = (s : Int) := by
    rw [Int.tmod_eq_emod_of_nonneg h0.1] at hs; exact hs
  have hu8 : IntKind.u8.wrap (s : Int) = (s : Int) := by
    rcases (by omega : s = 0 ∨ s = 1 ∨ s = 2 ∨ s = 3) with rfl | rfl | rfl | rfl <;> rfl
  obtain ⟨f1, f2, f3, f4, f5, f6, f7⟩ := stays s A C hs4 (by rw [hr.hlen]; exact hm) (by rw [hr'.hlen]; exact hm')
  rw [hr.hlen] at f2 f7
  rw [hr'.hlen] at f4
  have HR := Lib.hid hr
  have HR' := Lib.hid hr'
  have HK := Lib.hid hk
  have HOLD := Lib.hid hold
  have F1 := Lib.hid f1
  have F2 := Lib.hid f2
  have F3 := Lib.hid f3
  have F4 := Lib.hid f4
  have F5 := Lib.hid f5
  have F6 := Lib.hid f6
  have F7 := Lib.hid f7
  have HM := Lib.hid hr.hlen
  have HM' := Lib.hid hr'.hlen
  have HN := Lib.hid (dnew_ok 4 3000 w (by decide) (by decide) (by decide))
  have HS4 := Lib.hid hs4
  clear hr hr' hk hold f1 f2 f3 f4 f5 f6 f7
  go_enter Try.func4, Try.ntmps4
  go_wp2_with (first
    | (go_at_call 8; refine HN.out.mono ?_; rintro e w1 ⟨p, S0, rfl, hp1, hb1, hs1⟩; have P1 := Lib.hid hp1; have B1 := Lib.hid hb1; have S1 := Lib.hid hs1; clear hp1 hb1 hs1 HN)
    | (go_at_call 13; (with_reducible refine (dappend_any p S0 (DSt.new 4 3000) (s : Int) a m c A w1 P1.out (HR.out.mono B1.out)).mono ?_); rw [F1.out]; rintro e w2 ⟨rfl, S2, hp, hf, hg⟩; have P2 : Hid (PD w2 p S2 (st1 s A)) := Lib.hid hp; have B2 := Lib.hid (Ft.deep B1.out hf S1.out); have N2 : Hid (∀ b, S2 b → w.heap.size ≤ b) := Lib.hid (fun b hb => (hg b hb).elim (S1.out b) fun e => Nat.le_trans B1.out.size e); clear hp hf hg P1)
    | (go_at_call 14; refine (dkC.sync p S2 _ w2 P2.out).mono ?_; rw [F2.out]; rintro e w3 ⟨rfl, S3, hp, hf, hg⟩; have P3 : Hid (PD w3 p S3 (st2 s A)) := Lib.hid hp; have B3 := Lib.hid (Ft.deep B2.out hf N2.out); have N3 : Hid (∀ b, S3 b → w.heap.size ≤ b) := Lib.hid (fun b hb => (hg b hb).elim (N2.out b) fun e => Nat.le_trans B2.out.size e); clear hp hf hg P2)
    | (go_at_call 13; (with_reducible refine (dappend_any p S3 (st2 s A) (s : Int) a' m' c' C w3 P3.out (HR'.out.mono B3.out)).mono ?_); rw [F3.out]; rintro e w4 ⟨rfl, S4, hp, hf, hg⟩; have P4 : Hid (PD w4 p S4 (st3 s A C)) := Lib.hid hp; have B4 := Lib.hid (Ft.deep B3.out hf N3.out); have N4 : Hid (∀ b, S4 b → w.heap.size ≤ b) := Lib.hid (fun b hb => (hg b hb).elim (N3.out b) fun e => Nat.le_trans B3.out.size e); clear hp hf hg P3)
    | (go_at_call 15; refine (dkC.loose p S4 _ w4 P4.out).mono ?_; rw [F4.out]; rintro e w5 ⟨rfl, hb5⟩; have P5 := Lib.hid (P4.out.ft (Ft.of_below (F := fun _ => False) hb5) fun _ _ x => x); have B5 := Lib.hid (B4.out.trans (hb5.mono B4.out.size)); clear hb5 P4)
    | (go_at_call 16; refine (dkC.crash p S4 _ ka kl kc ks w5 P5.out (HK.out.mono B5.out) (fun h0 b off e hb => absurd (HOLD.out h0 b off e) (Nat.not_lt.2 (N4.out b hb)))).mono ?_; rintro e w6 ⟨rfl, S6, hp, hf, hg⟩; obtain ⟨g5, L5, vs5, hx5⟩ := P5.out; have CS := Lib.hid (crash_spec _ ks hx5.sure hx5.lS s (by have := F5.out; have := HS4.out; omega)); have P6 := Lib.hid hp; have B6 := Lib.hid (Ft.deep B5.out hf N4.out); clear hp hf hg P5 hx5))
  obtain ⟨d6, hd6⟩ : ∃ d6, (st3 s A C).crash ks = d6 := ⟨_, rfl⟩
  rw [hd6] at P6 CS
  obtain ⟨e1, e2, q, e3, e4, e5⟩ := CS.out
  rw [F6.out] at e3 e5
  rw [F7.out] at e4
  rw [List.length_append, HM.out, HM'.out] at e5
  have hsl : slotV d6.B (s : Int) = true := by unfold slotV; rw [e2, F5.out]; simp; omega
  have RV := Lib.hid (show d6.clE (s : Int) = 0 ∧ d6.rd (s : Int) = (A ++ C).take q by
    unfold DSt.clE DSt.rd
    rw [if_neg (by rw [hsl]; decide), if_neg (by rw [hsl]; decide)]
    unfold DSt.at
    rw [Int.toNat_natCast, e3]
    exact ⟨rfl, rfl⟩)
  have E1 := Lib.hid e1
  have hmq : m ≤ q := by omega
  have hql := Lib.hid (show ((A ++ C).take q).length = q by rw [List.length_take, List.length_append, HM.out, HM'.out]; omega)
  have hall := Lib.hid (show (A ++ C).length = m + m' by rw [List.length_append, HM.out, HM'.out])
  clear hd6 CS e1 e2 e3 e4 hsl
  go_wp2_with (first
    | (go_at_call 17; refine (dkC.read p S6 d6 (s : Int) w6 P6.out).mono ?_; rw [RV.out.1, RV.out.2]; rintro e w7 ⟨v7, rfl, hf7, hb7⟩; obtain ⟨a7, c7, hv7, hr7⟩ := hf7.form' q hql.out; subst hv7; have R7 := Lib.hid hr7; have P7 := Lib.hid (P6.out.ft (Ft.of_below (F := fun _ => False) hb7) fun _ _ x => x); have B7 := Lib.hid (B6.out.trans (hb7.mono B6.out.size)); clear hf7 hr7 hb7)
    | (go_at_call 18; refine (sclone a m c A w7 (HR.out.mono B7.out) (by omega)).mono ?_; rintro e w8 ⟨v8, rfl, hf8, hb8⟩; obtain ⟨a8, c8, hv8, hr8⟩ := hf8.form' m HM.out; subst hv8; have F8 := Lib.hid hf8; have Z8 := Lib.hid hb8; have B8 := Lib.hid (B7.out.trans (hb8.mono B7.out.size)); clear hr8 hf8 hb8)
    | (at_builtin; refine append_rd rfl _ _ rfl w7.heap.size (.slice a8 m c8) A (by go_simp) F8.out a' m' c' C (by go_simp) (HR'.out.mono B8.out) (by have := HM.out; omega) Z8.out.size ?_; intro v9 w9 hf9 hb9 _; obtain ⟨a9, c9, hv9, hr9⟩ := hf9.form' (m + m') hall.out; subst hv9; have hc9 := hr9.hle; have hqc : q ≤ c9 := (by omega); have R9 := Lib.hid hr9; have Q9 := Lib.hid (R7.out.mono (Z8.out.trans hb9)); have P9 := Lib.hid (P7.out.ft (Ft.of_below (F := fun _ => False) (Z8.out.trans hb9)) fun _ _ x => x); have B9 := Lib.hid (B7.out.trans ((Z8.out.trans hb9).mono B7.out.size)); clear hf9 hb9 hr9 hc9)
    | (go_at_call 19; refine (sequal a7 a9 q q c7 c9 _ _ w9 Q9.out (R9.out.first9 q e5)).mono ?_; rintro e w10 ⟨rfl, hq10⟩; have P10 := Lib.hid (P9.out.ft (Ft.of_below (F := fun _ => False) (hq10.below w9.heap.size)) fun _ _ x => x); have B10 := Lib.hid (B9.out.trans (hq10.below w.heap.size)); clear hq10)
    | (go_at_call 15; refine (dkC.loose p S6 d6 w10 P10.out).mono ?_; rw [E1.out]; rintro e w11 ⟨rfl, hb11⟩; have B11 := Lib.hid (B10.out.trans (hb11.mono B10.out.size)); clear hb11)
    | (go_at_call 12; refine (awake9 w11).mono ?_; rintro e w12 ⟨rfl, hb12⟩; have B12 := Lib.hid (B11.out.trans (hb12.mono B11.out.size)); clear hb12))
  go_ret
  exact ⟨by simp, B12.out⟩

set_option maxRecDepth 100000 in
set_option maxHeartbeats 4000000 in
theorem stays_not (sl : Int) (a : Option Addr) (m c : Nat) (a' : Option Addr) (m' c' : Nat) (ka : Option Addr) (kl kc : Nat) (w : World) (_h0 : 0 ≤ sl ∧ sl ≤ 255) (h : ¬ ((m : Int) ≤ 1000 ∧ (m' : Int) ≤ 1000 ∧ (kl : Int) ≤ 30)) :
    Calls Try.prog 4 #[.int .u8 sl, .slice a m c, .slice a' m' c', .slice ka kl kc] w fun e w' => e = .returned (.bool true) ∧ Below w.heap.size w w' := by
  have HN := Lib.hid (dnew_ok 4 3000 w (by decide) (by decide) (by decide))
  by_cases h1 : (1000 : Int) < m
  all_goals by_cases h2 : (1000 : Int) < m'
  all_goals by_cases h3 : (30 : Int) < kl
  all_goals first
    | (exfalso; omega)
    | (clear h
       go_enter Try.func4, Try.ntmps4
       go_wp2_with (first
         | (go_at_call 8; refine HN.out.mono ?_; rintro e w1 ⟨p, S0, rfl, hp1, hb1, hs1⟩; have B1 := Lib.hid hb1; clear hp1 hb1 hs1 HN)
         | (go_at_call 12; refine (awake9 w1).mono ?_; rintro e w12 ⟨rfl, hb12⟩; have B12 := Lib.hid (B1.out.trans (hb12.mono B1.out.size)); clear hb12))
       go_ret
       exact ⟨rfl, B12.out⟩)
theorem law_DiskStays (sl : Int) (a : Option Addr) (m c : Nat) (zs : List Int) (a' : Option Addr) (m' c' : Nat) (zs' : List Int) (ka : Option Addr) (kl kc : Nat) (ks : List Int) (w : World) (w0 : (Lit.int .u8 sl).wf = true) (w1 : IsRow .u8 w a m c zs) (w2 : IsRow .u8 w a' m' c' zs') (w3 : IsRow .i64 w ka kl kc ks) :
    Calls Try.prog 4 #[.int .u8 sl, .slice a m c, .slice a' m' c', .slice ka kl kc] w fun e w' => e = .returned (.bool true) ∧ Below w.heap.size w w' := by
  have h0 := bd8 w0
  by_cases hok : (m : Int) ≤ 1000 ∧ (m' : Int) ≤ 1000 ∧ (kl : Int) ≤ 30
  · obtain ⟨s, hs⟩ : ∃ s : Nat, sl.tmod 4 = s := ⟨(sl.tmod 4).toNat, by rw [Int.tmod_eq_emod_of_nonneg h0.1]; omega⟩
    exact stays_ok sl s a m c _ a' m' c' _ ka kl kc _ w h0 hs (Rd.of_row w1) (Rd.of_row w2) (Sl.of_row w3).1 (fun h => w3.old h) (by omega) (by omega) (by omega)
  · exact stays_not sl a m c a' m' c' ka kl kc w h0 hok
end Go.Proofs.Ytlohfalpcppcjaa.W
