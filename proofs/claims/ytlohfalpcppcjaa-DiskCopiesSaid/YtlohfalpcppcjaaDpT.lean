/- LAYER 9 (disk): the program's Loose; a slot of which other bytes are sure; the closure that hands out the keeps. -/
import Derived.Test.YtlohfalpcppcjaaDpS
set_option linter.unusedSimpArgs false
set_option linter.unusedVariables false
namespace Go.Proofs.Ytlohfalpcppcjaa.W
open Go Go.ChangeShapes Go.WideShapes Go.ChangeAt Go.RowKit

set_option maxRecDepth 100000 in
set_option maxHeartbeats 4000000 in
theorem dloose (p g : Nat) (L : List Value) (vs : List Sv) (S : Nat → Prop) (d : DSt) (w : World) (h : PX w p g L vs S d) :
    Calls Try.prog 15 #[.pointer (some ⟨p, 0, none⟩)] w fun e w' => e = .returned (.int .i64 d.loose) ∧ Below w.heap.size w w' := by
  unfold DSt.loose
  have HX := Lib.hid h
  have HR := Lib.hid (dready p _ true _ _ w h.rp h.p0)
  have hn16 := h.n16
  have hp0 := h.p0
  obtain ⟨n, hnn⟩ : ∃ n, d.B.length = n := ⟨_, rfl⟩
  obtain ⟨x0, x1, x2⟩ := h.rp.t3
  rw [hnn] at x2 hn16 ⊢
  have HNN := Lib.hid hnn
  have X2 := Lib.hid x2
  clear h hnn x0 x1
  go_enter Try.func15, Try.ntmps15
  go_wp2_with (go_at_call 35; refine HR.out.mono ?_; rintro e w1 ⟨rfl, rfl⟩)
  clear x2
  go_loopw [3, 13] (fun v i wr => ∃ k : Nat, v = .int .i64 (looseN d.B d.s k) ∧ i = .int .i64 (k : Int) ∧ k ≤ n ∧ Hid (Below w.heap.size w wr)) (fun _ i _ => n - (intOf i).toNat)
  case atStart => exact ⟨0, rfl, rfl, Nat.zero_le _, Lib.hid (Below.refl _ _)⟩
  case round =>
    obtain ⟨k, rfl, rfl, hk, HB⟩ := hrel
    by_cases hlt : k < n
    · have hk' : k < d.B.length := by rw [HNN.out]; exact hlt
      have hX := HX.out.mono HB.out
      obtain ⟨va, vc, hv, xb, hrk⟩ := hX.at k hk'
      have xs := hX.cs k hk'
      have hlen := HX.out.len k
      have hs1 := HX.out.sure k hk'
      have hb1 := looseN_le d.B d.s HX.out.sure HX.out.len k (by omega)
      have hst : looseN d.B d.s (k + 1) = looseN d.B d.s k + ((d.B.getD k []).length : Int) - d.s.getD k 0 := rfl
      have HSL := Lib.hid (fun v (hv : Below wr.heap.size wr v) => sloose g k _ vc va _ v ((hX.mono hv).rg.cellV _ ▸ (by rw [(hX.mono hv).lb k hk', ‹(vs.getD k default).val = _›]) : v.cell? ⟨g, k * 2, none⟩ = some (.slice va (d.B.getD k []).length vc)) ((hX.mono hv).cs k hk') (hX.mono hv).rg.lt hlen hs1)
      obtain ⟨A, hA⟩ : ∃ A, looseN d.B d.s k = A := ⟨_, rfl⟩
      obtain ⟨su, hsu⟩ : ∃ su, d.s.getD k 0 = su := ⟨_, rfl⟩
      obtain ⟨m, hm⟩ : ∃ m, (d.B.getD k []).length = m := ⟨_, rfl⟩
      rw [hA, hsu, hm] at hst
      rw [hA] at hb1
      rw [hsu, hm] at HSL hs1
      rw [hm] at hlen
      rw [hA]
      have hw1 : IntKind.i64.wrap (A + ((m : Int) - su)) = A + ((m : Int) - su) := by rw [IntKind.wrap_i64]; omega
      have HST := Lib.hid hst
      have XX := Lib.hid hX
      clear hv xb hrk xs hst hA hsu hm hk' hX
      have x2 := (HB.out.cell (p := ⟨p, 2, none⟩) HX.out.rp.lt).trans X2.out
      go_wp2_with (go_at_call 36; refine (HSL.out _ (Below.refl _ _)).mono ?_; rintro e w5 ⟨rfl, hb5⟩; have B5 := Lib.hid hb5; clear hb5 x2)
      go_roundw
      case rel => exact ⟨k + 1, by rw [HST.out, Int.add_sub_assoc], vint (by omega), by omega, Lib.hid (HB.out.trans (B5.out.mono HB.out.size))⟩
      case measure => simp [intOf]; omega
    · obtain rfl : n = k := by omega
      go_wp2_with fail
      go_ret
      exact ⟨rfl, HB.out⟩

theorem PX.same {w : World} {p g : Nat} {L : List Value} {vs : List Sv} {S S' : Nat → Prop} {d : DSt} (h : PX w p g L vs S' d) (e : S' = S) : PX w p g L vs S d := by subst e; exact h
/-- of a slot other bytes are sure -/
theorem PX.sureNow {w w' : World} {p g : Nat} {L : List Value} {vs : List Sv} {S : Nat → Prop} {d : DSt} (h : PX w p g L vs S d) (k : Nat) (su : Int) (hk : k < d.B.length)
    (hr : Row w' g 64 (L.set (k * 2 + 1) (.int .i64 su))) (hu : Upd w w' g) (hs : 0 ≤ su ∧ su ≤ (d.B.getD k []).length) :
    PX w' p g (L.set (k * 2 + 1) (.int .i64 su)) vs S { d with s := d.s.set k su } ∧ Ft S w w' := by
  have hL := h.ll
  have P := h.put k hk (vs.getD k default) (d.B.getD k []) su (Ft.of_upd hu (.inl rfl)) hr (by simp) (by rw [List.getElem?_set_ne (by omega)]; exact h.lb k hk) (by rw [List.getElem?_set_self (by omega)])
    (fun i _ h2 => by rw [List.getElem?_set_ne (Ne.symm h2)]) ((h.ow k hk).ftb (Ft.of_upd (F := fun b => b = g) hu rfl) fun b e e2 => (h.ow k hk).ne h.rg (by decide) (e2 ▸ e)) (fun b e => .inl e) (h.len k) hs
  rw [set_getD_self d.B k [] hk, set_getD_self vs k default (by rw [h.lv]; exact hk)] at P
  exact ⟨P.1.same (funext fun b => propext ⟨fun e => e.elim id (h.sv k b hk), .inl⟩), P.2.1⟩
/-- a slot that was cut: its blocks are the same -/
theorem PX.cutNow {w w' : World} {p g : Nat} {L : List Value} {vs : List Sv} {S : Nat → Prop} {d : DSt} (h : PX w p g L vs S d) (k q c : Nat) (va : Option Addr) (hk : k < d.B.length) (hv : (vs.getD k default).val = .slice va (d.B.getD k []).length c) (hq : q ≤ (d.B.getD k []).length)
    (hr : Row w' g 64 ((L.set (k * 2) (.slice va q c)).set (k * 2 + 1) (.int .i64 (min (d.s.getD k 0) (q : Int))))) (hu : Upd w w' g) :
    PX w' p g ((L.set (k * 2) (.slice va q c)).set (k * 2 + 1) (.int .i64 (min (d.s.getD k 0) (q : Int)))) (vs.set k (va, q, c)) S { d with B := d.B.set k ((d.B.getD k []).take q), s := d.s.set k (min (d.s.getD k 0) (q : Int)) } ∧ Ft S w w' := by
  have P := h.cut k q c va hk hv hq hr hu
  have hob : (Sv.val (va, q, c)).ownBlock = (vs.getD k default).val.ownBlock := by
    rw [hv]; cases va <;> rfl
  exact ⟨P.1.same (funext fun b => propext ⟨fun e => e.elim id fun e => h.sv k b hk (hob ▸ e), .inl⟩), P.2.1⟩

/-- which turn comes next -/
def turnAt (ks : List Int) (i : Nat) : Nat := if ks.length = 0 then i else i + 1
set_option maxRecDepth 100000 in
set_option maxHeartbeats 4000000 in
theorem dturn (b1 b2 i kl kc : Nat) (ka : Option Addr) (ks : List Int) (lo : Int) (w : World) (h1 : Row w b1 31 [.slice ka kl kc]) (h2 : Row w b2 3 [.int .i64 (i : Int)]) (hk : Sl .i64 w ka kl ks) (hi : i ≤ 1000) (hlo : 0 ≤ lo ∧ lo ≤ 9223372036854775807) :
    Calls Try.prog 41 #[.int .i64 lo, .pointer (some ⟨b1, 0, none⟩), .pointer (some ⟨b2, 0, none⟩)] w fun e w' => e = .returned (.int .i64 (keepV ks i lo)) ∧ Row w' b2 3 [.int .i64 ((turnAt ks i : Nat) : Int)] ∧ Gw b2 w w' := by
  have H1 := Lib.hid h1
  have H2 := Lib.hid h2
  have HK := Lib.hid hk
  have hkll := hk.1
  have hkm := hk.2.1
  have c1 := h1.k0
  have c2 := h2.k0
  have C1 := Lib.hid c1
  have C2 := Lib.hid c2
  clear h1 h2 hk c2
  by_cases hkz : kl = 0
  · have e1 : keepV ks i lo = 0 := by unfold keepV; rw [if_pos (by omega)]
    have e2 : turnAt ks i = i := by unfold turnAt; rw [if_pos (by omega)]
    rw [e1, e2]
    clear e1 e2 hkll
    subst hkz
    go_enter Try.func41, Try.ntmps41
    go_wp2_with fail
    go_ret
    exact ⟨rfl, H2.out, Gw.refl _ _⟩
  · have e1 : keepV ks i lo = min (max (ks.getD (i % kl) 0) 0) lo := by unfold keepV; rw [if_neg (by omega), hkll]
    have e2 : turnAt ks i = i + 1 := by unfold turnAt; rw [if_neg (by omega)]
    rw [e1, e2]
    obtain ⟨kb, koff, rfl, hkb, hkc⟩ := HK.out.2.2.2.resolve_left hkz
    have hj : i % kl < kl := Nat.mod_lt _ (by omega)
    have ck := hkc (i % kl) hj
    have hrem : (i : Int).tmod (kl : Int) = ((i % kl : Nat) : Int) := by rw [Int.tmod_eq_emod_of_nonneg (by omega)]; simp
    have hrem2 : (i : Int) % (kl : Int) = ((i % kl : Nat) : Int) := by simp
    obtain ⟨r, hr⟩ : ∃ r, i % kl = r := ⟨_, rfl⟩
    rw [hr] at ck hj hrem hrem2 ⊢
    have hkl0 : ((kl : Int) == 0) = false := by simp; omega
    obtain ⟨kv, hkvv⟩ : ∃ kv, ks.getD r 0 = kv := ⟨_, rfl⟩
    rw [hkvv] at ck ⊢
    obtain ⟨kq, hkq⟩ : ∃ kq, min (max kv 0) lo = kq := ⟨_, rfl⟩
    rw [hkq]
    have HKQ := Lib.hid hkq
    have CK := Lib.hid ck
    clear hkvv hkc e1 e2 hkll ck hr hkq
    go_enter Try.func41, Try.ntmps41
    go_wp2_with fail
    clear c1
    refine region_w (C := fun v => Below w.heap.size w v) (by kernel_rfl) (by kernel_rfl) (Below.refl _ _).drew ?_
    repeat (first
      | (refine w_read (wanted_free rfl) ?_ ?_ ?_; rotate_left; (focus (intro v hv; have c1 := (hv.cell (p := ⟨b1, 0, none⟩) H1.out.lt).trans C1.out; have c2 := (hv.cell (p := ⟨b2, 0, none⟩) H2.out.lt).trans C2.out; have ck := (hv.cell (p := ⟨kb, koff + r, none⟩) hkb).trans CK.out; go_simp; rfl)); go_simp))
    refine w_nil ?_
    intro w4 hb4
    have R2 := Lib.hid (H2.out.below hb4 H2.out.lt)
    have B4 := Lib.hid hb4
    have c2 := R2.out.k0
    have f2 := R2.out.frozen 0
    clear hb4
    go_wp2_with fail
    all_goals (go_ret; refine ⟨?_, R2.out.setV 0 _, (Gw.of_below B4.out).trans (Gw.upd (Upd.setCell _ _ _ _))⟩)
    all_goals (have hk := HKQ.out; refine one (vint ?_); (try split at *) <;> (try split at *) <;> omega)
end Go.Proofs.Ytlohfalpcppcjaa.W
