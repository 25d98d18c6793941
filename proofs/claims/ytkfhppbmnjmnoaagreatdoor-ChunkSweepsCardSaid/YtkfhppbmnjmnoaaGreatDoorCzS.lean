import Derived.Test.YtkfhppbmnjmnoaaGreatDoorCzF
/- LAYER 28 (chunk): the law Sweeps. -/
set_option linter.unusedSimpArgs false
set_option linter.unusedVariables false
namespace Go.Proofs.YtkfhppbmnjmnoaaGreatDoor.W
open Go Go.ChangeShapes Go.WideShapes Go.ChangeAt Go.RowKit
open Go.Proofs.YtkfhppbmnjmnoaaGreatDoor.P (shaL shaL_len)

def NewF (base : Nat) (Y : List FY) : Prop := ∀ y ∈ Y, (∀ q off z, y.ba = some ⟨q, off, z⟩ → base ≤ q) ∧ (∀ q off z, y.ta = some ⟨q, off, z⟩ → base ≤ q)
theorem NewF.snoc {base : Nat} {Y : List FY} {y : FY} (h : NewF base Y) (h1 : ∀ q off z, y.ba = some ⟨q, off, z⟩ → base ≤ q) (h2 : ∀ q off z, y.ta = some ⟨q, off, z⟩ → base ≤ q) : NewF base (Y ++ [y]) := by
  intro x hx
  rcases List.mem_append.1 hx with hx | hx
  · exact h x hx
  · rw [List.mem_singleton] at hx; subst hx; exact ⟨h1, h2⟩
set_option maxRecDepth 100000 in
set_option maxHeartbeats 4000000 in
theorem cfiles2 {p m T : Nat} {room : Int} {X : List FX} {S : Nat → Prop} {w : World} (h : CK w p m room X S) (hok : ∀ x ∈ X, FiOk T x.f) (hT : T ≤ 900) (hn : X.length ≤ 524288) :
    Calls Tryz.prog 12 #[.pointer (some ⟨p, 0, none⟩)] w fun e w' => ∃ v Y, e = .returned v ∧ Y.map (·.f) = X.map (·.f) ∧ LsF w' w.heap.size v Y ∧ NewF w.heap.size Y ∧ Below w.heap.size w w' := by
  have H := Lib.hid h
  have HS := Lib.hid (csums h hn)
  have HN := Lib.hid hn
  have HOK := Lib.hid hok
  have HT := Lib.hid hT
  obtain ⟨n, hnn⟩ : ∃ n, X.length = n := ⟨_, rfl⟩
  have HNN := Lib.hid hnn
  have hn2 : n ≤ 524288 := by omega
  clear h hok hn hnn hT
  go_enter Tryz.func12, Tryz.ntmps12
  go_wp2_with (go_at_call 47; (with_reducible refine HS.out.mono ?_); rintro e w1 ⟨sv, rfl, hl, hb⟩; obtain ⟨sa, sc, rfl, hsl, -⟩ := hl.ls strOk (fun s hs => by obtain ⟨x, hx, rfl⟩ := List.mem_map.1 hs; have h5 := (HOK.out x hx).s; show x.f.s.size ≤ maxLen; unfold maxLen; omega); rw [List.length_map, HNN.out] at hsl ⊢; have SL := Lib.hid hsl; have B1 := Lib.hid hb; clear hl hb hsl)
  go_loopw [3, 9] (fun v i wr => ∃ (k : Nat) (Y : List FY), i = .int .i64 (k : Int) ∧ k ≤ n ∧ Hid (Y.map (·.f) = (X.take k).map (·.f)) ∧ Hid (LsF wr w1.heap.size v Y) ∧ Hid (NewF w.heap.size Y) ∧ Hid (Below w.heap.size w wr) ∧ Hid (Below w1.heap.size w1 wr)) (fun _ i _ => n - (intOf i).toNat)
  case atStart => exact ⟨0, [], rfl, Nat.zero_le _, Lib.hid rfl, Lib.hid (LsF.nil _ _), Lib.hid (fun _ h => absurd h List.not_mem_nil), B1, Lib.hid (Below.refl _ _)⟩
  case round =>
    obtain ⟨k, Y, rfl, hk, HY, O, NF, B, BW⟩ := hrel
    by_cases hlt : k < n
    · obtain ⟨x, hx⟩ : ∃ x, X[k]? = some x := ⟨X[k]'(by rw [HNN.out]; exact hlt), by simp [HNN.out, hlt]⟩
      have hxm : x ∈ X := List.mem_of_getElem? hx
      obtain ⟨sb, so, s, rfl, hs1, hc1, -⟩ := SL.out.at strOk BW.out k hlt
      have hs2 : s = x.f.s := by
        rw [List.getElem?_map, hx] at hs1
        exact (Option.some.inj hs1).symm
      subst hs2
      have d1 : wr.cell? ⟨sb, so + k, none⟩ = some (.string x.f.s) := by have := hc1 0 (.string x.f.s) rfl; rw [show so + k * strE.k + 0 = so + k by show so + k * 1 + 0 = so + k; omega] at this; exact this
      have D1 := Lib.hid d1
      have g1 : (0 : Int) ≤ (k : Int) := by omega
      have g2 : (k : Int) < (n : Int) := by omega
      have hck := H.out.mono B.out
      have okx := HOK.out x hxm
      have hsm : x.f.s.size ≤ maxLen := by have := okx.s; unfold maxLen; omega
      have lk := (look_yes (s := x.f.s) 64 44 map_type _ (file_zv wr) hck.sm hsm (hck.at hxm)).1
      have c1 := hck.rp.k2.2
      obtain ⟨fa, fc, hbv, hrd, -⟩ := (hck.ob x hxm).form
      obtain ⟨ta, tc, htv, hlt2, -⟩ := (hck.ot x hxm).ls intOk okx.t64
      have HTN := Lib.hid (take_next X (·.f) k x hx)
      have OKX := Lib.hid okx
      have HYL := Lib.hid (show Y.length ≤ 524288 by have := congrArg List.length HY.out; simp at this; omega)
      obtain ⟨⟨xs, xb, xu, xt⟩, xbv, xtv⟩ := x
      dsimp only at hbv hrd htv hlt2 lk OKX HTN hs1 d1 D1 hsm ⊢
      replace lk : (Instr.lookup 64 (.map (some m)) (.string xs) false).run Tryz.prog wr = .ok (.agg (fiC xs xbv xu xtv).toArray) wr := lk
      have h256 := OKX.out.b2
      have hsu := OKX.out.su
      have htl := OKX.out.tl
      have ht9 := HT.out
      dsimp only at h256 hsu htl
      have MK := Lib.hid (fun (base : Nat) (w3 : World) (bv tv : Value) (h1 : Fr w3 base bv xb) (h2 : LsO intE w3 base tv xt) => fy_made (su := xu) h1 h2 OKX.out.t64 (show xs.size ≤ 1000000 from OKX.out.s) (by omega) (by omega) (by omega))
      have HCP := Lib.hid (ccopied xs (.slice fa xb.length fc) (.slice ta xt.length tc) fa ta xb.length fc xt.length tc xu xb xt wr rfl hrd (by omega) rfl hlt2 (by omega))
      subst hbv htv
      clear hs1 hc1 hck okx hrd hlt2 hx hxm h256 hsu htl ht9
      go_wp2_with (first
        | (go_at_call 48; (with_reducible refine HCP.out.mono ?_); rintro e w3 ⟨a', tv', rfl, hf, ht, hb⟩; obtain ⟨y, hy, hyr, hyc, hn1, hn2⟩ := MK.out _ _ _ _ hf ht; rw [hyc]; have NY := Lib.hid (show NewF w.heap.size (Y ++ [y]) from NF.out.snoc (fun q off z e => Nat.le_trans B.out.size (hn1 q off z e)) (fun q off z e => Nat.le_trans B.out.size (hn2 q off z e))); clear hn1 hn2; have Y3 := Lib.hid hyr; have HYF := Lib.hid hy; have B3 := Lib.hid (B.out.trans (hb.mono B.out.size)); have BW3 := Lib.hid (BW.out.trans (hb.mono BW.out.size)); have O3 := Lib.hid (O.out.kept hb); clear hf ht hb hy hyr hyc c1 lk)
        | ((with_reducible refine build_ls fiOk fi_fill (o := ⟨some 21, _, _, _, _, _⟩) rfl _ rfl y ?_ Y3.out (by decide) ?_); (focus (first | (go_simp; done) | (go_simp; rfl))); intro w4 hl hb hz; have L4 := Lib.hid hl; have B4 := Lib.hid (B3.out.trans (hb.mono B3.out.size)); have BW4 := Lib.hid (BW3.out.trans (hb.mono BW3.out.size)); have O4 := Lib.hid (O3.out.kept hb); clear hl hb hz)
        | ((with_reducible refine append_fi (o := ⟨some 22, _, _, _, _, _⟩) rfl _ _ rfl w1.heap.size _ Y ?_ O4.out (some ⟨w3.heap.size, 0, none⟩) 1 1 [y] ?_ L4.out (by have := HYL.out; omega) BW4.out.size ?_); (focus (first | (go_simp; done) | (go_simp; rfl))); (focus (first | (go_simp; done) | (go_simp; rfl))); intro v5 w5 hN hb2 hg2 hv2; have O5 := Lib.hid hN; have B5 := Lib.hid (B4.out.trans (hb2.mono B1.out.size)); have BW5 := Lib.hid (BW4.out.trans hb2); clear hN hb2 hg2 hv2))
      go_roundw
      case rel => exact ⟨k + 1, Y ++ [y], vint (by omega), by omega, Lib.hid (by rw [List.map_append, HY.out, HTN.out, List.map_cons, List.map_nil, HYF.out]), O5, NY, B5, BW5⟩
      case measure => simp [intOf]; omega
    · obtain rfl : n = k := by omega
      go_wp2_with fail
      go_ret
      exact ⟨_, Y, rfl, by rw [HY.out, List.take_of_length_le (by rw [HNN.out]; exact Nat.le_refl _)], O.out.base B1.out.size, NF.out, B.out⟩
theorem qfiles2 {w : World} {base p q T0 : Nat} {room : Int} {L M : List Fi} {S T : Nat → Prop} (h : P2 w base room p q L M S T) (hs : StOk T0 room L) (hT : T0 ≤ 900) :
    Calls Tryz.prog 12 #[.pointer (some ⟨p, 0, none⟩)] w fun e w' => ∃ v Y, e = .returned v ∧ Y.map (·.f) = L ∧ LsF w' w.heap.size v Y ∧ NewF w.heap.size Y ∧ Below w.heap.size w w' := by
  obtain ⟨m, X, rfl, hc⟩ := h.c
  exact cfiles2 hc (ckok hs) hT (ckn hs)
theorem FYr.ft28 {w w' : World} {S : Nat → Prop} {base : Nat} {y : FY} (h : FYr w y) (hn : (∀ q off z, y.ba = some ⟨q, off, z⟩ → base ≤ q) ∧ (∀ q off z, y.ta = some ⟨q, off, z⟩ → base ≤ q)) (k : Ft S w w') (hs : ∀ b, S b → b < base) : FYr w' y where
  s := h.s
  rb := h.rb.ft k (fun _ b off e hS => absurd (hn.1 b off none e) (by have := hs b hS; omega))
  rt := h.rt.stay0 k.size (fun _ b off s e hlt => k.block b hlt (fun hS => absurd (hn.2 b off s e) (by have := hs b hS; omega))) h.rt.hfit
  b1 := h.b1
  su := h.su
  t1 := h.t1
  kb := fun b off s e => (h.kb b off s e).of (k.block b (h.kb b off s e).lt (fun hS => absurd (hn.1 b off s e) (by have := hs b hS; omega)))
  kt := fun b off s e => (h.kt b off s e).of (k.block b (h.kt b off s e).lt (fun hS => absurd (hn.2 b off s e) (by have := hs b hS; omega)))
theorem had_ft {w w' : World} {S : Nat → Prop} {base n c : Nat} {a : Option Addr} {Y : List FY} (ho : LsF w base (.slice a n c) Y) (hl : Ls fiE w a n c Y) (hn : NewF base Y) (k : Ft S w w') (hs : ∀ b, S b → b < base) : Ls fiE w' a n c Y :=
  hl.stay0 k.size (fun _ b off s e hlt => k.block b hlt (fun hS => by have := (World.ownsRow.lt ho.own b (by rw [e]; rfl)).1; have := hs b hS; omega)) (fun y hy => (ho.fit y hy).ft28 (hn y hy) k hs)
-- ---- the closure, and ContainsFunc by it
def sameS (s : ByteArray) (y : FY) : Bool := decide (y.f.s = s)
set_option maxRecDepth 100000 in
set_option maxHeartbeats 4000000 in
theorem sweepc1 (s : ByteArray) (v2 v3 : Value) (su : Nat) (y : FY) (g : Nat) (w : World) (h : Row w g 44 (fiC s v2 su v3)) : Calls Tryz.prog 32 #[.agg y.cells.toArray, .pointer (some ⟨g, 0, none⟩)] w fun e w' => e = .returned (.bool (sameS s y)) ∧ Below w.heap.size w w' := by
  obtain ⟨⟨ys, yb, yu, yt⟩, ba, bn, bc, ta, tn, tc⟩ := y
  show Calls Tryz.prog 32 #[.agg (fiC ys (.slice ba bn bc) yu (.slice ta tn tc)).toArray, .pointer (some ⟨g, 0, none⟩)] w fun e w' => e = .returned (.bool (decide (ys = s))) ∧ Below w.heap.size w w'
  have H := Lib.hid h
  clear h
  go_enter Tryz.func32, Tryz.ntmps32
  go_wp2_with (first
    | (with_reducible refine box_row (o := ⟨some 2, _, _, _, _, _⟩) rfl _ _ rfl (fiC ys (.slice ba bn bc) yu (.slice ta tn tc)) rfl ?_; intro w1 hr1 hb1 hz1; have c0 := hr1.k4.1; have k0 := (H.out.below hb1 H.out.lt).k4.1; have B1 := Lib.hid hb1; clear hr1 hb1 hz1))
  go_ret
  exact ⟨one (vbool (by first | done | rfl | exact eqM_dec _ _ | (simp; done) | simp [str_beq])), B1.out⟩
set_option maxRecDepth 100000 in
set_option maxHeartbeats 8000000 in
theorem fidx (s : ByteArray) (v2 v3 : Value) (su g : Nat) (a : Option Addr) (n c : Nat) (L : List FY) (w : World) (h : Ls fiE w a n c L) (hg : Row w g 44 (fiC s v2 su v3)) :
    Calls Tryz.prog 60 #[.slice a n c, .func (.func 32) #[] #[.pointer (some ⟨g, 0, none⟩)]] w fun x w' => ∃ z : Int, x = .returned (.int .i64 z) ∧ (0 ≤ z ↔ L.any (sameS s) = true) ∧ Below w.heap.size w w' := by
  have H := Lib.hid h
  have HL := Lib.hid h.hlen
  have HG := Lib.hid hg
  have hm := h.hmax
  have hle := h.hle
  have SZ := Lib.hid file_size
  clear h hg
  go_enter Tryz.func60, Tryz.ntmps60
  go_wp2_with fail
  go_loopw [8] (fun i wr => ∃ k : Nat, i = .int .i64 (k : Int) ∧ k ≤ n ∧ Hid (∀ i, i < k → ∀ x, L[i]? = some x → sameS s x = false) ∧ Hid (Below w.heap.size w wr)) (fun i _ => n - (intOf i).toNat)
  case atStart => exact ⟨0, rfl, Nat.zero_le _, Lib.hid (fun i h => absurd h (by omega)), Lib.hid (Below.refl _ _)⟩
  case round =>
    obtain ⟨k, rfl, hk, HP, B⟩ := hrel
    by_cases hlt : k < n
    · obtain ⟨b, off, x, rfl, hx, hcell, hft⟩ := H.out.at fiOk B.out k hlt
      have XC := Lib.hid (show ∀ j v, x.cells[j]? = some v → wr.cell? ⟨b, off + k * 4 + j, none⟩ = some v from hcell)
      have HX := Lib.hid hx
      have HR := Lib.hid (HG.out.below B.out HG.out.lt)
      obtain ⟨q, hq⟩ : ∃ q, sameS s x = q := ⟨_, rfl⟩
      have HQ := Lib.hid hq
      have HC := Lib.hid (sweepc1 s v2 v3 su x g wr HR.out)
      rw [hq] at HC
      have g1 : (0 : Int) ≤ (k : Int) := by omega
      have g2 : (k : Int) < (n : Int) := by omega
      clear hx hcell hq hft
      obtain ⟨C, hC⟩ : ∃ C, x.cells = C := ⟨_, rfl⟩
      have SZC := Lib.hid (show (Tryz.prog.info? 44).map (·.size) = some C.length by rw [← hC]; exact SZ.out)
      rw [hC] at HC XC
      clear hC
      cases q
      · go_wp2_with (first
          | ((with_reducible refine load_cells (o := ⟨some 15, _, _, _, _, _⟩) rfl _ _ rfl b (off + k * 4) ?_ C _ XC.out Tryz.underlying44 rfl ?_ ?_); (focus go_simp); (focus (exact SZC.out)))
          | (go_at_call 32; refine HC.out.mono ?_; rintro x w5 ⟨rfl, hb5⟩; have B5 := Lib.hid (B.out.trans (hb5.mono B.out.size)); clear hb5))
        go_roundw
        case rel =>
          refine ⟨k + 1, vint (by omega), by omega, Lib.hid ?_, B5⟩
          intro i hi x hx
          by_cases h : i < k
          · exact HP.out i h x hx
          · obtain rfl : i = k := by omega
            rw [HX.out] at hx; injection hx with hx; subst hx; exact HQ.out
        case measure => simp [intOf]; omega
      · have HZ := Lib.hid (show L.any (sameS s) = true from List.any_eq_true.2 ⟨_, List.mem_of_getElem? HX.out, HQ.out⟩)
        go_wp2_with (first
          | ((with_reducible refine load_cells (o := ⟨some 15, _, _, _, _, _⟩) rfl _ _ rfl b (off + k * 4) ?_ C _ XC.out Tryz.underlying44 rfl ?_ ?_); (focus go_simp); (focus (exact SZC.out)))
          | (go_at_call 32; refine HC.out.mono ?_; rintro x w5 ⟨rfl, hb5⟩; have B5 := Lib.hid (B.out.trans (hb5.mono B.out.size)); clear hb5))
        go_ret
        exact ⟨_, rfl, ⟨fun _ => HZ.out, fun _ => by omega⟩, B5.out⟩
    · obtain rfl : n = k := by omega
      have HZ := Lib.hid (show ¬ L.any (sameS s) = true from fun h => by
        obtain ⟨x, hx, hxs⟩ := List.any_eq_true.1 h
        obtain ⟨i, hi⟩ := List.getElem?_of_mem hx
        have := HP.out i (by rw [← HL.out]; exact (List.getElem?_eq_some_iff.1 hi).1) x hi
        rw [this] at hxs; cases hxs)
      go_wp2_with fail
      go_ret
      exact ⟨_, rfl, ⟨fun h => absurd h (by omega), fun h => absurd h HZ.out⟩, B.out⟩
set_option maxRecDepth 100000 in
set_option maxHeartbeats 4000000 in
theorem fcont (s : ByteArray) (v2 v3 : Value) (su g : Nat) (a : Option Addr) (n c : Nat) (L : List FY) (w : World) (h : Ls fiE w a n c L) (hg : Row w g 44 (fiC s v2 su v3)) :
    Calls Tryz.prog 23 #[.slice a n c, .func (.func 32) #[] #[.pointer (some ⟨g, 0, none⟩)]] w fun x w' => x = .returned (.bool (L.any (sameS s))) ∧ Below w.heap.size w w' := by
  have H := Lib.hid (fidx s v2 v3 su g a n c L w h hg)
  obtain ⟨V, hV⟩ : ∃ V, L.any (sameS s) = V := ⟨_, rfl⟩
  rw [hV] at H ⊢
  clear h hV hg
  go_enter Tryz.func23, Tryz.ntmps23
  go_wp2_with (go_at_call 60; (with_reducible refine H.out.mono ?_); rintro e w1 ⟨z, rfl, hz, hb⟩; have HZ := Lib.hid hz; have B1 := Lib.hid hb; clear hz hb)
  go_ret
  refine ⟨one (vbool ?_), B1.out⟩
  have := HZ.out
  cases V
  · have h2 : ¬ 0 ≤ z := fun h => by simpa using this.1 h
    simp; omega
  · have h2 := this.2 rfl
    simp; omega
-- ---- plain
theorem gone_goes {time : Int} {needs : List ByteArray} {live : List Int} {L : List Fi} {Y : List FY} (hY : Y.map (·.f) = L.filter fun f => !goesC time needs live f) {f : Fi} (hf : f ∈ L) (hg : Y.any (sameS f.s) = false) : hasStr needs f.s = false ∧ ∀ t ∈ f.t, ¬ time ≤ t ∧ t ∉ live := by
  have hgo : goesC time needs live f = true := by
    cases hq : goesC time needs live f with
    | true => rfl
    | false =>
      have : f ∈ Y.map (·.f) := by rw [hY]; exact List.mem_filter.2 ⟨hf, by rw [hq]; rfl⟩
      obtain ⟨y, hy, e⟩ := List.mem_map.1 this
      have h2 := List.any_eq_false.1 hg y hy
      exact absurd (show sameS f.s y = true by unfold sameS; rw [e]; simp) h2
  unfold goesC oldC at hgo
  rw [Bool.and_eq_true] at hgo
  refine ⟨by have := hgo.1; unfold hasStr; simpa using this, fun t ht => ?_⟩
  have := List.all_eq_true.1 hgo.2 t ht
  simpa using this
theorem filter_two {α : Type} (p : α → Bool) : ∀ L : List α, (L.filter p).length + (L.filter fun x => !p x).length = L.length
  | [] => rfl
  | x :: r => by
    have := filter_two p r
    rw [List.filter_cons, List.filter_cons]
    cases p x <;> simp <;> omega
end Go.Proofs.YtkfhppbmnjmnoaaGreatDoor.W

/- LAYER 28 (chunk): the law Sweeps, whole. -/
set_option linter.unusedSimpArgs false
set_option linter.unusedVariables false
namespace Go.Proofs.YtkfhppbmnjmnoaaGreatDoor.W
open Go Go.ChangeShapes Go.WideShapes Go.ChangeAt Go.RowKit
open Go.Proofs.YtkfhppbmnjmnoaaGreatDoor.P (shaL shaL_len)

theorem row_ls {w : World} {a : Option Addr} {n : Nat} {l : List Int} (h : Sl .i64 w a n l) (hn : n ≠ 0) : ∀ b off s, a = some ⟨b, off, s⟩ → b < w.heap.size := by
  intro b off s e
  rcases h.2.2.2 with h0 | ⟨b', off', e2, hlt, -⟩
  · exact absurd h0 hn
  · rw [e] at e2; injection e2 with e2; injection e2 with e3; rw [e3]; exact hlt
set_option maxRecDepth 100000 in
set_option maxHeartbeats 64000000 in
theorem law_ChunkSweeps (a : Option Addr) (n c : Nat) (DL : List DoK) (time : Int) (na : Option Addr) (nn nc : Nat) (NS : List ByteArray) (la : Option Addr) (ln lc : Nat) (lz : List Int) (w : World) (hK : Ks w) (h : Ls doE w a n c DL) (_ht : (Lit.int .i64 time).wf = true) (hnd : Ls strE w na nn nc NS) (hlz : IsRow .i64 w la ln lc lz) :
    Calls Tryz.prog 6 #[.slice a n c, .int .i64 time, .slice na nn nc, .slice la ln lc] w fun x w' => x = .returned (.bool true) ∧ Below w.heap.size w w' := by
  have HK := Lib.hid hK
  have HA := Lib.hid (fun w' (hb : Below w.heap.size w w') => awake28 w' (HK.out.below hb HK.out.pos))
  have H := Lib.hid h
  have hm := h.hmax
  have hle := h.hle
  have hp := hK.pos
  have hsl := (Sl.of_row hlz).1
  obtain ⟨live, hlive⟩ : ∃ x, lz.take ln = x := ⟨_, rfl⟩
  rw [hlive] at hsl
  have HLV := Lib.hid hsl
  have HND := Lib.hid hnd
  have hnm := hnd.hmax
  have hnl := hnd.hle
  have hlm := hsl.2.1
  clear hK h hnd hlz hlive hsl
  have hr2 : (0 : Int) ≤ 20000 ∧ (20000 : Int) ≤ 524288 := by decide
  obtain ⟨base, hbase⟩ : ∃ b, w.heap.size = b := ⟨_, rfl⟩
  have HBASE := Lib.hid hbase
  have SZF := Lib.hid file_size
  have FZ := Lib.hid file_zero
  by_cases hn20 : 20 < nn
  · have g1 : (20 : Int) < (nn : Int) := by omega
    go_enter Tryz.func6, Tryz.ntmps6
    go_wp2_with (first
      | (go_at_call 7; (with_reducible refine (cnew 20000 w hr2).mono ?_); rintro e w1 ⟨p, m, rfl, hck, hb⟩; have C1 := Lib.hid hck; have B1 := Lib.hid hb; clear hck hb)
      | (go_at_call 8; (with_reducible refine (xcnew 20000 w1 hr2).mono ?_); rintro e w2 ⟨q, rfl, hxk, hb⟩; have P2I := Lib.hid (show P2 w2 base 20000 p q [] [] _ _ by rw [← HBASE.out]; exact P2.start C1.out hxk hb B1.out.size); have B2 := Lib.hid (show Below base w w2 by rw [← HBASE.out]; exact B1.out.trans (hb.mono B1.out.size)); clear hxk hb)
      | (go_at_call 18; (with_reducible refine (HA.out _ (by rw [HBASE.out]; exact B2.out)).mono ?_); rintro x wb ⟨rfl, hb⟩; have Bb := Lib.hid (B2.out.trans (hb.mono (by rw [← HBASE.out]; rw [← HBASE.out] at B2; exact B2.out.size))); clear hb))
    go_ret
    exact ⟨rfl, by rw [HBASE.out]; exact Bb.out⟩
  have g1 : ¬ (20 : Int) < (nn : Int) := by omega
  by_cases hl20 : 20 < ln
  · have g2 : (20 : Int) < (ln : Int) := by omega
    go_enter Tryz.func6, Tryz.ntmps6
    go_wp2_with (first
      | (go_at_call 7; (with_reducible refine (cnew 20000 w hr2).mono ?_); rintro e w1 ⟨p, m, rfl, hck, hb⟩; have C1 := Lib.hid hck; have B1 := Lib.hid hb; clear hck hb)
      | (go_at_call 8; (with_reducible refine (xcnew 20000 w1 hr2).mono ?_); rintro e w2 ⟨q, rfl, hxk, hb⟩; have P2I := Lib.hid (show P2 w2 base 20000 p q [] [] _ _ by rw [← HBASE.out]; exact P2.start C1.out hxk hb B1.out.size); have B2 := Lib.hid (show Below base w w2 by rw [← HBASE.out]; exact B1.out.trans (hb.mono B1.out.size)); clear hxk hb)
      | (go_at_call 18; (with_reducible refine (HA.out _ (by rw [HBASE.out]; exact B2.out)).mono ?_); rintro x wb ⟨rfl, hb⟩; have Bb := Lib.hid (B2.out.trans (hb.mono (by rw [← HBASE.out]; rw [← HBASE.out] at B2; exact B2.out.size))); clear hb))
    go_ret
    exact ⟨rfl, by rw [HBASE.out]; exact Bb.out⟩
  have g2 : ¬ (20 : Int) < (ln : Int) := by omega
  go_enter Tryz.func6, Tryz.ntmps6
  go_wp2_with (first
    | (go_at_call 7; (with_reducible refine (cnew 20000 w hr2).mono ?_); rintro e w1 ⟨p, m, rfl, hck, hb⟩; have C1 := Lib.hid hck; have B1 := Lib.hid hb; clear hck hb)
      | (go_at_call 8; (with_reducible refine (xcnew 20000 w1 hr2).mono ?_); rintro e w2 ⟨q, rfl, hxk, hb⟩; have P2I := Lib.hid (show P2 w2 base 20000 p q [] [] _ _ by rw [← HBASE.out]; exact P2.start C1.out hxk hb B1.out.size); have B2 := Lib.hid (show Below base w w2 by rw [← HBASE.out]; exact B1.out.trans (hb.mono B1.out.size)); clear hxk hb))
  go_loopw [54] (fun vi wr => ∃ (k T0 : Nat) (L : List Fi) (S T : Nat → Prop), vi = .int .i64 (k : Int) ∧ k ≤ n ∧ T0 ≤ k ∧ T0 ≤ 30 ∧ Hid (P2 wr base 20000 p q L L S T) ∧ Hid (StOk T0 20000 L) ∧ Hid (Below base w wr)) (fun vi _ => n - (intOf vi).toNat)
  case atStart => exact ⟨0, 0, [], _, _, rfl, Nat.zero_le _, by omega, by omega, P2I, Lib.hid (st_nil hr2), B2⟩
  case round =>
    obtain ⟨k, T0, L, S, T, rfl, hk, hT0, hT30, HP, HS, HB⟩ := hrel
    have ZB := Lib.hid (show base ≤ wr.heap.size by rw [← HBASE.out]; rw [← HBASE.out] at HB; exact HB.out.size)
    by_cases hkn : k < n
    · have g3 : (0 : Int) ≤ (k : Int) := by omega
      have g4 : (k : Int) < (n : Int) := by omega
      obtain ⟨b, off, d, rfl, hx, hcell, -⟩ := H.out.at doOk28 (show Below w.heap.size w wr by rw [HBASE.out]; exact HB.out) k hkn
      have hdf : d.fit w := H.out.hfit d (List.mem_of_getElem? hx)
      have HDF := Lib.hid hdf
      obtain ⟨C, hC⟩ : ∃ C, d.cells = C := ⟨_, rfl⟩
      have hcl : C.length = 8 := by rw [← hC]; rfl
      have XC := Lib.hid (show ∀ j v, C[j]? = some v → wr.cell? ⟨b, off + k * 8 + j, none⟩ = some v from fun j v hj => hcell j v (by show d.cells[j]? = _; rw [hC]; exact hj))
      have SZ := Lib.hid (show (Tryz.prog.info? 34).map (·.size) = some C.length by rw [hcl]; exact do_size28)
      have ZR := Lib.hid do_zero28
      have C1' := Lib.hid (show ∀ v ∈ C, v.oneCell' = true by rw [← hC]; exact doOk28.one d)
      have CL := Lib.hid hcl
      have HFW := Lib.hid (fun w' => by have := few28 d w'; rw [hC] at this; exact this)
      have HDO := Lib.hid (fun (w' : World) (hb : Below wr.heap.size wr w') (hf : d.few = true) => by have := do28 d 20000 L w w' base p q T0 S T (HP.out.mono hb) HS.out (by omega) hr2.1 (HK.out.below (HB.out.trans (hb.mono ZB.out)) (by rw [← HBASE.out]; exact hp)) HBASE.out (HB.out.trans (hb.mono ZB.out)) (by rw [← HBASE.out]; exact hp) HDF.out hf; rw [hC] at this; exact this)
      have HST := Lib.hid (step_ok HS.out d hdf.n64)
      obtain ⟨L', hL'⟩ : ∃ L', stepK 20000 L d = L' := ⟨_, rfl⟩
      rw [hL'] at HST HDO
      clear hx hcell hC hcl hdf hL'
      by_cases h30 : k < 30
      rotate_left
      · have g5 : ¬ (k : Int) < (30 : Int) := by omega
        go_wp2_with (first
          | ((with_reducible refine load_cells (o := ⟨some 58, _, _, _, _, _⟩) rfl _ _ rfl b (off + k * 8) ?_ C _ XC.out Tryz.underlying34 rfl ?_ ?_); (focus go_simp); (focus (exact SZ.out)))
          | ((with_reducible refine alloc_row (o := ⟨some 14, _, _, _, _, _⟩) rfl _ rfl _ ZR.out ?_); intro w4 hr4 hb4 hz4; have R4 := Lib.hid hr4; have B4 := Lib.hid hb4; clear hr4 hb4 hz4)
          | ((with_reducible refine store_row (o := ⟨none, _, _, _, _, _⟩) rfl _ (.tmp 14) _ rfl wr.heap.size C ?_ ?_ 34 _ R4.out ?_ ?_ ?_ ?_); (focus go_simp); (focus (first | (go_simp; done) | (go_simp; rfl))); (focus (exact SZ.out)); (focus (rw [CL.out]; rfl)); (focus (exact C1'.out)); intro w5 hr5 hu5; have R5 := Lib.hid hr5; have B5 := Lib.hid (B4.out.trans (hu5.below (Nat.le_refl _))); clear hr5 hu5))
        go_roundw
        case rel => exact ⟨k + 1, T0, L, S, T, by go_num, by omega, by omega, by omega, Lib.hid (HP.out.mono B5.out), HS, Lib.hid (HB.out.trans (B5.out.mono ZB.out))⟩
        case measure => simp [intOf]; omega
      have g5 : (k : Int) < (30 : Int) := by omega
      cases hfw : d.few with
      | false =>
        rw [hfw] at HFW
        clear hfw
        go_wp2_with (first
          | ((with_reducible refine load_cells (o := ⟨some 58, _, _, _, _, _⟩) rfl _ _ rfl b (off + k * 8) ?_ C _ XC.out Tryz.underlying34 rfl ?_ ?_); (focus go_simp); (focus (exact SZ.out)))
          | ((with_reducible refine alloc_row (o := ⟨some 14, _, _, _, _, _⟩) rfl _ rfl _ ZR.out ?_); intro w4 hr4 hb4 hz4; have R4 := Lib.hid hr4; have B4 := Lib.hid hb4; clear hr4 hb4 hz4)
          | ((with_reducible refine store_row (o := ⟨none, _, _, _, _, _⟩) rfl _ (.tmp 14) _ rfl wr.heap.size C ?_ ?_ 34 _ R4.out ?_ ?_ ?_ ?_); (focus go_simp); (focus (first | (go_simp; done) | (go_simp; rfl))); (focus (exact SZ.out)); (focus (rw [CL.out]; rfl)); (focus (exact C1'.out)); intro w5 hr5 hu5; have R5 := Lib.hid hr5; have B5 := Lib.hid (B4.out.trans (hu5.below (Nat.le_refl _))); clear hr5 hu5)
          | ((with_reducible refine load_rowg (o := ⟨some 62, _, _, _, _, _⟩) 2 true 61 rfl _ _ rfl wr.heap.size _ C _ R5.out Tryz.underlying34 rfl ?_ ?_ ?_ ?_ ?_); (focus rfl); (focus (first | (go_simp; done) | (go_simp; rfl))); (focus go_simp); (focus (exact SZ.out)))
          | (go_at_call 9; (with_reducible refine (HFW.out _).mono ?_); rintro x w6 ⟨rfl, hb⟩; have B6 := Lib.hid (B5.out.trans (hb.mono B5.out.size)); clear hb))
        go_roundw
        case rel => exact ⟨k + 1, T0, L, S, T, by go_num, by omega, by omega, by omega, Lib.hid (HP.out.mono B6.out), HS, Lib.hid (HB.out.trans (B6.out.mono ZB.out))⟩
        case measure => simp [intOf]; omega
      | true =>
        rw [hfw] at HFW
        have HDO2 := Lib.hid (fun w' hb => HDO.out w' hb hfw)
        clear hfw HDO
        go_wp2_with (first
          | ((with_reducible refine load_cells (o := ⟨some 58, _, _, _, _, _⟩) rfl _ _ rfl b (off + k * 8) ?_ C _ XC.out Tryz.underlying34 rfl ?_ ?_); (focus go_simp); (focus (exact SZ.out)))
          | ((with_reducible refine alloc_row (o := ⟨some 14, _, _, _, _, _⟩) rfl _ rfl _ ZR.out ?_); intro w4 hr4 hb4 hz4; have R4 := Lib.hid hr4; have B4 := Lib.hid hb4; clear hr4 hb4 hz4)
          | ((with_reducible refine store_row (o := ⟨none, _, _, _, _, _⟩) rfl _ (.tmp 14) _ rfl wr.heap.size C ?_ ?_ 34 _ R4.out ?_ ?_ ?_ ?_); (focus go_simp); (focus (first | (go_simp; done) | (go_simp; rfl))); (focus (exact SZ.out)); (focus (rw [CL.out]; rfl)); (focus (exact C1'.out)); intro w5 hr5 hu5; have R5 := Lib.hid hr5; have B5 := Lib.hid (B4.out.trans (hu5.below (Nat.le_refl _))); clear hr5 hu5)
          | ((with_reducible refine load_rowg (o := ⟨some 62, _, _, _, _, _⟩) 2 true 61 rfl _ _ rfl wr.heap.size _ C _ R5.out Tryz.underlying34 rfl ?_ ?_ ?_ ?_ ?_); (focus rfl); (focus (first | (go_simp; done) | (go_simp; rfl))); (focus go_simp); (focus (exact SZ.out)))
          | (go_at_call 9; (with_reducible refine (HFW.out _).mono ?_); rintro x w6 ⟨rfl, hb⟩; have R6 := Lib.hid (R5.out.below hb R5.out.lt); have B6 := Lib.hid (B5.out.trans (hb.mono B5.out.size)); clear hb)
          | ((with_reducible refine load_rowg (o := ⟨some 68, _, _, _, _, _⟩) 6 true 65 rfl _ _ rfl wr.heap.size _ C _ R6.out Tryz.underlying34 rfl ?_ ?_ ?_ ?_ ?_); (focus rfl); (focus (first | (go_simp; done) | (go_simp; rfl))); (focus go_simp); (focus (exact SZ.out)))
          | (go_at_call 10; (with_reducible refine (HDO2.out _ B6.out).mono ?_); rintro x w7 ⟨rfl, ⟨S', T', hp7⟩, hb⟩; have P7 := Lib.hid hp7; have B7 := Lib.hid ((HB.out.trans (B6.out.mono ZB.out)).trans hb); clear hp7 hb))
        go_roundw
        case rel => exact ⟨k + 1, T0 + 1, L', S', T', by go_num, by omega, by omega, by omega, P7, HST, B7⟩
        case measure => simp [intOf]; omega
    · obtain rfl : k = n := by omega
      have QF := Lib.hid (qfiles2 HP.out HS.out (by omega))
      have NOTN := Lib.hid (show nn ≠ 0 → ∀ b off s, na = some ⟨b, off, s⟩ → ¬ S b from fun hn b off s e hs => by have h1 := ls_old HND.out hn b off s e; have h2 := HP.out.sb b hs; rw [HBASE.out] at h1; omega)
      have NOTL := Lib.hid (show ln ≠ 0 → ∀ b off s, la = some ⟨b, off, s⟩ → ¬ S b from fun hn b off s e hs => by have h1 := row_ls HLV.out hn b off s e; have h2 := HP.out.sb b hs; rw [HBASE.out] at h1; omega)
      have WB := Lib.hid (fun w' (hw : Below wr.heap.size wr w') => show Below w.heap.size w w' by rw [HBASE.out]; exact HB.out.trans (hw.mono ZB.out))
      have HSW := Lib.hid (fun w' (hw : Below wr.heap.size wr w') => qsweep (HP.out.mono hw) (Nat.le_trans ZB.out hw.size) HS.out time na nn nc NS la ln lc live (HLV.out.mono (WB.out w' hw)) (HND.out.mono strOk (WB.out w' hw)) NOTL.out NOTN.out)
      obtain ⟨G, hG⟩ : ∃ x, L.filter (goesC time NS live) = x := ⟨_, rfl⟩
      obtain ⟨R, hR⟩ : ∃ x, (L.filter fun f => !goesC time NS live f) = x := ⟨_, rfl⟩
      have HR := Lib.hid hR
      have hcount := filter_two (goesC time NS live) L
      have SR := Lib.hid (show StOk T0 20000 R by rw [← hR]; exact HS.out.filter _)
      rw [hG, hR] at HSW hcount
      obtain ⟨gn, hgn⟩ : ∃ m, G.length = m := ⟨_, rfl⟩
      rw [hgn] at HSW hcount
      clear hG hR hgn
      go_wp2_with (first
        | (go_at_call 12; (with_reducible refine QF.out.mono ?_); rintro x w8 ⟨v8, Y8, rfl, hY8, hl8, hn8, hb⟩; obtain ⟨a8, c8, rfl, hls8, -⟩ := hl8.own.ls fiOk hl8.fit; have LY8 := Lib.hid hls8; have LF8 := Lib.hid hl8; have NF8 := Lib.hid hn8; have EY8 := Lib.hid hY8; have D8 := Lib.hid hb; clear QF hl8 hls8 hY8 hn8 hb)
        | (go_at_call 29; (with_reducible refine (HSW.out _ D8.out).mono ?_); rintro x w9 ⟨rfl, hst⟩; obtain ⟨⟨S', hp9, hS'⟩, hft⟩ := hst; have P9 := Lib.hid hp9; have HD9 := Lib.hid (had_ft LF8.out LY8.out NF8.out hft (fun b hb => HP.out.slt b hb)); have F9 := Lib.hid hft; have Z9 := Lib.hid (Nat.le_trans ZB.out (Nat.le_trans D8.out.size hft.size)); have B9 := Lib.hid (((HB.out.trans (D8.out.mono ZB.out))).trans (hft.below (Nat.le_trans ZB.out D8.out.size) (fun b hb => HP.out.sb b hb))); have LV9 := Lib.hid ((HLV.out.mono (WB.out _ D8.out)).stay0 hft.size (fun hn b off s e hlt => hft.block b hlt (NOTL.out hn b off s e))); have ND9 := Lib.hid ((HND.out.mono strOk (WB.out _ D8.out)).stay0 hft.size (fun hn b off s e hlt => hft.block b hlt (NOTN.out hn b off s e)) HND.out.hfit); have QG := Lib.hid (qfiles2 hp9 SR.out (by omega)); clear hp9 hft hS' HSW)
        | (go_at_call 12; (with_reducible refine QG.out.mono ?_); rintro x w10 ⟨v10, Y10, rfl, hY10, hl10, -, hb⟩; obtain ⟨a10, c10, rfl, hls10, -⟩ := hl10.own.ls fiOk hl10.fit; have LY10 := Lib.hid hls10; have EY10 := Lib.hid hY10; have D10 := Lib.hid hb; clear QG hl10 hls10 hY10 hb))
      obtain ⟨n8, hn8⟩ : ∃ m, Y8.length = m := ⟨_, rfl⟩
      obtain ⟨n9, hn9⟩ : ∃ m, Y10.length = m := ⟨_, rfl⟩
      have hc2 : gn + n9 = n8 := by have e1 := congrArg List.length EY8.out; have e2 := congrArg List.length EY10.out; rw [List.length_map] at e1 e2; omega
      clear LY8 LF8 hcount
      rw [hn8] at HD9 ⊢
      rw [hn9] at LY10 ⊢
      clear hn8 hn9
      have h8m := HD9.out.hmax
      have h8l := HD9.out.hle
      have h9m := LY10.out.hmax
      have h9l := LY10.out.hle
      have ZA := Lib.hid (Nat.le_trans Z9.out D10.out.size)
      have BA := Lib.hid (B9.out.trans (D10.out.mono Z9.out))
      go_loopw [84] (fun vi wq => ∃ (j : Nat), vi = .int .i64 (j : Int) ∧ j ≤ n8 ∧ Hid (Below w10.heap.size w10 wq)) (fun vi _ => n8 - (intOf vi).toNat)
      case atStart => exact ⟨0, rfl, Nat.zero_le _, Lib.hid (Below.refl _ _)⟩
      case round =>
        obtain ⟨j, rfl, hj, HB10⟩ := hrel
        obtain ⟨wq, rfl⟩ : ∃ x, x = wr := ⟨_, rfl⟩
        have DQ := Lib.hid (D10.out.trans (HB10.out.mono D10.out.size))
        by_cases hjn : j < n8
        · have j0 : (0 : Int) ≤ (j : Int) := by omega
          have j1 : (j : Int) < (n8 : Int) := by omega
          obtain ⟨b8, o8, y, rfl, hy, hcell, hfit⟩ := HD9.out.at fiOk DQ.out j hjn
          have hfy : FYr wq y := hfit
          have hfi : y.f ∈ L := by rw [← EY8.out]; exact List.mem_map.2 ⟨y, List.mem_of_getElem? hy, rfl⟩
          have hgg := gone_goes (EY10.out.trans HR.out.symm) hfi
          have XQ := Lib.hid (show ∀ i v, y.cells[i]? = some v → wq.cell? ⟨b8, o8 + j * 4 + i, none⟩ = some v from hcell)
          have LVQ := Lib.hid (LV9.out.mono DQ.out)
          have NDQ := Lib.hid (ND9.out.mono strOk DQ.out)
          clear hy hcell hfi hfit
          obtain ⟨⟨s, b', su, t⟩, fa, fn, fc, ta, tn, tc⟩ := y
          have LT := Lib.hid (show Ls intE wq ta tn tc t from hfy.rt)
          have htm := LT.out.hmax
          have htl := LT.out.hle
          clear hfy
          dsimp only at hgg
          replace XQ : Hid (∀ i v, (fiC s (.slice fa fn fc) su (.slice ta tn tc))[i]? = some v → wq.cell? ⟨b8, o8 + j * 4 + i, none⟩ = some v) := XQ
          have HFC := Lib.hid (fun (w' : World) (hw : Below wq.heap.size wq w') {g : Nat} (hr : Row w' g 44 (fiC s (.slice fa fn fc) su (.slice ta tn tc))) => fcont s (.slice fa fn fc) (.slice ta tn tc) su g a10 n9 c10 Y10 w' (LY10.out.mono fiOk (HB10.out.trans (hw.mono HB10.out.size))) hr)
          obtain ⟨GV, hGV⟩ : ∃ V, Y10.any (sameS s) = V := ⟨_, rfl⟩
          rw [hGV] at HFC hgg
          clear hGV
          cases GV with
          | false =>
            obtain ⟨hns, hnt⟩ := hgg rfl
            have HSC := Lib.hid (fun w' (hw : Below wq.heap.size wq w') => by have := scontains s na nn nc NS w' (NDQ.out.mono strOk hw); rw [hns] at this; exact this)
            have HNT := Lib.hid hnt
            clear hns hnt hgg
            go_wp2_with (first
              | ((with_reducible refine load_cells (o := ⟨some 87, _, _, _, _, _⟩) rfl _ _ rfl b8 (o8 + j * 4) ?_ (fiC s (.slice fa fn fc) su (.slice ta tn tc)) _ XQ.out Tryz.underlying44 rfl ?_ ?_); (focus go_simp); (focus (exact SZF.out)))
              | ((with_reducible refine alloc_row (o := ⟨some 19, _, _, _, _, _⟩) rfl _ rfl _ FZ.out ?_); intro w4 hr4 hb4 hz4; have R4 := Lib.hid hr4; have B4 := Lib.hid hb4; clear hr4 hb4 hz4)
              | ((with_reducible refine store_row (o := ⟨none, _, _, _, _, _⟩) rfl _ (.tmp 19) _ rfl wq.heap.size (fiC s (.slice fa fn fc) su (.slice ta tn tc)) ?_ ?_ 44 _ R4.out ?_ ?_ (fi_one _ _ _ _ rfl rfl) ?_); (focus go_simp); (focus (first | (go_simp; done) | (go_simp; rfl))); (focus (exact SZF.out)); (focus rfl); intro w5 hr5 hu5; have R5 := Lib.hid hr5; have B5 := Lib.hid (B4.out.trans (hu5.below (Nat.le_refl _))); clear hr5 hu5)
              | (go_at_call 23; (with_reducible refine (HFC.out _ B5.out R5.out).mono ?_); rintro x w6 ⟨rfl, hb⟩; have R6 := Lib.hid (R5.out.below hb R5.out.lt); have c0 := R6.out.k4.1; have c3 := R6.out.k4.2.2.2; have B6 := Lib.hid (B5.out.trans (hb.mono B5.out.size)); clear hb)
              | (go_at_call 33; (with_reducible refine (HSC.out _ B6.out).mono ?_); rintro x w7 ⟨rfl, hb⟩; have c3 := (R6.out.below hb R6.out.lt).k4.2.2.2; have B7 := Lib.hid (B6.out.trans (hb.mono B6.out.size)); clear hb))
            go_loopw [102] (fun vi wx => ∃ (i : Nat), vi = .int .i64 (i : Int) ∧ i ≤ tn ∧ Hid (Below w7.heap.size w7 wx)) (fun vi _ => tn - (intOf vi).toNat)
            case atStart => exact ⟨0, rfl, Nat.zero_le _, Lib.hid (Below.refl _ _)⟩
            case round =>
              obtain ⟨i, rfl, hi, HBx⟩ := hrel
              obtain ⟨wx, rfl⟩ : ∃ x, x = wr := ⟨_, rfl⟩
              have BX := Lib.hid (B7.out.trans (HBx.out.mono B7.out.size))
              by_cases hit : i < tn
              · obtain ⟨tb, tf, tv, rfl, hx, hcell, -⟩ := LT.out.at intOk BX.out i hit
                have d1 : wx.cell? ⟨tb, tf + i, none⟩ = some (.int .i64 tv) := by have := hcell 0 (.int .i64 tv) rfl; rw [show tf + i * intE.k + 0 = tf + i by show tf + i * 1 + 0 = tf + i; omega] at this; exact this
                have i0 : (0 : Int) ≤ (i : Int) := by omega
                have i1 : (i : Int) < (tn : Int) := by omega
                obtain ⟨hq1, hq2⟩ := HNT.out tv (List.mem_of_getElem? hx)
                have HIC := Lib.hid (by have := icontains tv la ln lc live wx (LVQ.out.mono BX.out); rw [decide_eq_false hq2] at this; exact this)
                clear hx hcell hq2
                go_wp2_with (go_at_call 34; (with_reducible refine HIC.out.mono ?_); rintro x wy ⟨rfl, rfl⟩)
                go_roundw
                case rel => exact ⟨i + 1, by go_num, by omega, HBx⟩
                case measure => simp [intOf]; omega
              · obtain rfl : i = tn := by omega
                go_wp2_with fail
                go_roundw
                case rel => exact ⟨j + 1, by go_num, by omega, Lib.hid (HB10.out.trans (BX.out.mono HB10.out.size))⟩
                case measure => simp [intOf]; omega
          | true =>
            clear hgg
            go_wp2_with (first
              | ((with_reducible refine load_cells (o := ⟨some 87, _, _, _, _, _⟩) rfl _ _ rfl b8 (o8 + j * 4) ?_ (fiC s (.slice fa fn fc) su (.slice ta tn tc)) _ XQ.out Tryz.underlying44 rfl ?_ ?_); (focus go_simp); (focus (exact SZF.out)))
              | ((with_reducible refine alloc_row (o := ⟨some 19, _, _, _, _, _⟩) rfl _ rfl _ FZ.out ?_); intro w4 hr4 hb4 hz4; have R4 := Lib.hid hr4; have B4 := Lib.hid hb4; clear hr4 hb4 hz4)
              | ((with_reducible refine store_row (o := ⟨none, _, _, _, _, _⟩) rfl _ (.tmp 19) _ rfl wq.heap.size (fiC s (.slice fa fn fc) su (.slice ta tn tc)) ?_ ?_ 44 _ R4.out ?_ ?_ (fi_one _ _ _ _ rfl rfl) ?_); (focus go_simp); (focus (first | (go_simp; done) | (go_simp; rfl))); (focus (exact SZF.out)); (focus rfl); intro w5 hr5 hu5; have R5 := Lib.hid hr5; have B5 := Lib.hid (B4.out.trans (hu5.below (Nat.le_refl _))); clear hr5 hu5)
              | (go_at_call 23; (with_reducible refine (HFC.out _ B5.out R5.out).mono ?_); rintro x w6 ⟨rfl, hb⟩; have R6 := Lib.hid (R5.out.below hb R5.out.lt); have c0 := R6.out.k4.1; have c3 := R6.out.k4.2.2.2; have B6 := Lib.hid (B5.out.trans (hb.mono B5.out.size)); clear hb))
            go_loopw [102] (fun vi wx => ∃ (i : Nat), vi = .int .i64 (i : Int) ∧ i ≤ tn ∧ Hid (Below w6.heap.size w6 wx)) (fun vi _ => tn - (intOf vi).toNat)
            case atStart => exact ⟨0, rfl, Nat.zero_le _, Lib.hid (Below.refl _ _)⟩
            case round =>
              obtain ⟨i, rfl, hi, HBx⟩ := hrel
              obtain ⟨wx, rfl⟩ : ∃ x, x = wr := ⟨_, rfl⟩
              have BX := Lib.hid (B6.out.trans (HBx.out.mono B6.out.size))
              by_cases hit : i < tn
              · obtain ⟨tb, tf, tv, rfl, hx, hcell, -⟩ := LT.out.at intOk BX.out i hit
                have d1 : wx.cell? ⟨tb, tf + i, none⟩ = some (.int .i64 tv) := by have := hcell 0 (.int .i64 tv) rfl; rw [show tf + i * intE.k + 0 = tf + i by show tf + i * 1 + 0 = tf + i; omega] at this; exact this
                have i0 : (0 : Int) ≤ (i : Int) := by omega
                have i1 : (i : Int) < (tn : Int) := by omega
                clear hx hcell
                go_wp2_with fail
                go_roundw
                case rel => exact ⟨i + 1, by go_num, by omega, HBx⟩
                case measure => simp [intOf]; omega
              · obtain rfl : i = tn := by omega
                go_wp2_with fail
                go_roundw
                case rel => exact ⟨j + 1, by go_num, by omega, Lib.hid (HB10.out.trans (BX.out.mono HB10.out.size))⟩
                case measure => simp [intOf]; omega
        · obtain rfl : j = n8 := by omega
          have q1 : (j : Int) - (n9 : Int) = (gn : Int) := by omega
          have WZ := Lib.hid (show Below base w wq from BA.out.trans (HB10.out.mono ZA.out))
          go_wp2_with (go_at_call 18; (with_reducible refine (HA.out _ (by rw [HBASE.out]; exact WZ.out)).mono ?_); rintro x wb ⟨rfl, hb⟩; have Bb := Lib.hid (WZ.out.trans (hb.mono (Nat.le_trans ZA.out HB10.out.size))); clear hb)
          go_ret
          exact ⟨rfl, by rw [HBASE.out]; exact Bb.out⟩
end Go.Proofs.YtkfhppbmnjmnoaaGreatDoor.W
