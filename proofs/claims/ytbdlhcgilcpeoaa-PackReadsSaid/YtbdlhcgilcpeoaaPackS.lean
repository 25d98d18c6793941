/- THE LAW PackReads of layer 2 (pack). -/
import Derived.Test.YtbdlhcgilcpeoaaPackL
import Derived.Deep.RegionWith
import Derived.Deep.SlicePairs
namespace Go.Proofs.Ytbdlhcgilcpeoaa.W
open Go.ChangeShapes Go.WideShapes Go.ChangeAt Go.RowKit
open Go.Proofs.Ytbdlhcgilcpeoaa.P (mk lo hi enc tl gr up dec)

/-- A slice of pairs of numbers. -/
def Pairs (w : World) (a : Option Addr) (len : Nat) (f g : Nat → Int) : Prop :=
  len ≤ 9223372036854775807 ∧ (∀ i, i < len → ((Lit.int .i64 (f i)).wf = true ∧ (Lit.int .i64 (g i)).wf = true)) ∧
  (len = 0 ∨ ∃ b off, a = some ⟨b, off, none⟩ ∧ b < w.heap.size ∧ ∀ i, i < len → w.cell? ⟨b, off + i * 2, none⟩ = some (.int .i64 (f i)) ∧ w.cell? ⟨b, off + (i * 2 + 1), none⟩ = some (.int .i64 (g i)))

theorem pairs_open {H : Type} {enc : TypeId × Value → H} {w : World} {base : Nat} {spare : Nat → Bool} {held : Bool} {a : Option Addr} {len cap : Nat} {d : DataW H} {pl : List MemPlace}
    (h : DataW.Trod enc Try.prog w base spare held 41 (.slice a len cap) d pl) : ∃ f g, Pairs w a len f g := by
  obtain ⟨fuel, hf⟩ := h
  rcases Go.Deep.open_slice_pairs Try.underlying41 Try.underlying47 (by kernel_rfl) rfl rfl (by kernel_rfl) (by kernel_rfl) hf with ⟨hcs, -⟩ | ⟨x, len', cap', m, n, V0, V1, D0, D1, P0, P1, hcs, -, hl, hm, hmm, -, hx⟩
  · simp [Value.cells] at hcs
    obtain ⟨rfl, rfl, rfl⟩ := hcs
    exact ⟨fun _ => 0, fun _ => 0, by omega, fun i hi => by omega, .inl rfl⟩
  · simp [Value.cells] at hcs
    obtain ⟨rfl, rfl, rfl⟩ := hcs
    have hml : len ≤ m := by rw [hmm]; split <;> omega
    have each : ∀ i, i < len → ∃ q : Int × Int, w.cell? (x.add (i * 2)) = some (.int .i64 q.1) ∧ w.cell? (x.add (i * 2 + 1)) = some (.int .i64 q.2) ∧ (Lit.int .i64 q.1).wf = true ∧ (Lit.int .i64 q.2).wf = true := by
      intro i hi
      obtain ⟨c0, c1, t0, t1⟩ := hx i (by omega)
      obtain ⟨n0, e0, -, w0⟩ := DataW.trod_int Try.underlying3 t0
      obtain ⟨n1, e1, -, w1⟩ := DataW.trod_int Try.underlying3 t1
      simp at e0 e1
      exact ⟨(n0, n1), by rw [c0, e0], by rw [c1, e1], w0, w1⟩
    obtain ⟨q, hq⟩ := Go.Deep.choose_lt each
    refine ⟨fun i => (q i).1, fun i => (q i).2, by unfold maxLen at hm; omega, fun i hi => ⟨(hq i hi).2.2.1, (hq i hi).2.2.2⟩, ?_⟩
    by_cases h0 : len = 0
    · exact .inl h0
    · right
      obtain ⟨b, off, spot⟩ := x
      have hspot : spot = none := by simpa [Addr.add] using World.cell?_spot (hq 0 (by omega)).1
      subst hspot
      refine ⟨b, off, rfl, ?_, fun i hi => ?_⟩
      · exact World.block_lt_of_cell? w _ (by have := (hq 0 (by omega)).1; rw [Go.WideShapes.add_plain] at this; exact this)
      · have h1 := (hq i hi).1
        have h2 := (hq i hi).2.1
        rw [Go.WideShapes.add_plain] at h1 h2
        exact ⟨h1, h2⟩


theorem RP.lt {w : World} {p : Nat} {l : List UInt8} {e : Int} (h : RP w p l e) : p < w.heap.size := by
  obtain ⟨a, cap, hh, -⟩ := h.ex; exact heap_lt hh
theorem RR.lt {w : World} {p : Nat} {l : List UInt8} {e : Int} (h : RR w p l e) : p < w.heap.size := by
  obtain ⟨a, cap, hh, -⟩ := h.ex; exact heap_lt hh
theorem RP.mono {w w' : World} {p : Nat} {l : List UInt8} {e : Int} (h : RP w p l e) (hb : Below w.heap.size w w') : RP w' p l e := by
  have hlt := h.lt
  obtain ⟨a, cap, hh, hr⟩ := h.ex
  exact ⟨⟨a, cap, by rw [hb.block p hlt]; exact hh, hr.mono hb⟩, h.small, h.hnone⟩
theorem RR.mono {w w' : World} {p : Nat} {l : List UInt8} {e : Int} (h : RR w p l e) (hb : Below w.heap.size w w') : RR w' p l e := by
  have hlt := h.lt
  obtain ⟨a, cap, hh, hr⟩ := h.ex
  exact ⟨⟨a, cap, by rw [hb.block p hlt]; exact hh, hr.mono hb⟩, h.small, h.hnone⟩
theorem RP.drew {w : World} {p : Nat} {l : List UInt8} {e : Int} (h : RP w p l e) : RP w.drew p l e := h.mono (Below.refl _ _).drew
theorem RR.drew {w : World} {p : Nat} {l : List UInt8} {e : Int} (h : RR w p l e) : RR w.drew p l e := h.mono (Below.refl _ _).drew
/-- a reader stays where another one is written -/
theorem RP.other {w w' : World} {p q : Nat} {l l' : List UInt8} {e e' : Int} (h : RP w p l e) (hq : RR w q l' e') (hu : Upd w w' q) : RP w' p l e := by
  obtain ⟨a, cap, hh, hr⟩ := h.ex
  obtain ⟨a2, cap2, hh2, -⟩ := hq.ex
  have hpq : p ≠ q := by
    rintro rfl
    rw [hh] at hh2
    simp at hh2
  exact ⟨⟨a, cap, by rw [hu.block p hpq]; exact hh, hr.upd' hu (hr.apart hh2 (by intro x hx; simp [B] at hx))⟩, h.small, h.hnone⟩
theorem RR.other {w w' : World} {p q : Nat} {l l' : List UInt8} {e e' : Int} (h : RR w p l e) (hq : RP w q l' e') (hu : Upd w w' q) : RR w' p l e := by
  obtain ⟨a, cap, hh, hr⟩ := h.ex
  obtain ⟨a2, cap2, hh2, -⟩ := hq.ex
  have hpq : p ≠ q := by
    rintro rfl
    rw [hh] at hh2
    simp at hh2
  exact ⟨⟨a, cap, by rw [hu.block p hpq]; exact hh, hr.upd' hu (hr.apart hh2 (by intro x hx; simp [B] at hx))⟩, h.small, h.hnone⟩

set_option maxRecDepth 100000 in
set_option maxHeartbeats 8000000 in
theorem law_PackReads (a : Option Addr) (len cap : Nat) (zs : List Int) (a1 : Option Addr) (len1 cap1 : Nat) (f g : Nat → Int) (w : World) (w0 : IsRow .u8 w a len cap zs) (w1 : Pairs w a1 len1 f g) :
    Calls Try.prog 10 #[.slice a len cap, .slice a1 len1 cap1] w fun e w' => e = .returned (.bool true) ∧ Below w.heap.size w w' := by
  have hr := Rd.of_row w0
  obtain ⟨l, hl⟩ : ∃ l, (zs.take len).map (fun n => UInt8.ofNat n.toNat) = l := ⟨_, rfl⟩
  rw [hl] at hr
  clear hl w0
  have hle := hr.hle
  have hmax := hr.hmax
  have HR := Lib.hid hr
  have HLL := Lib.hid hr.hlen
  obtain ⟨hm1, hwf, hcl⟩ := w1
  have HW := Lib.hid hwf
  have HC := Lib.hid hcl
  clear hr hwf hcl
  by_cases h1 : (2000 : Int) < (len : Int)
  · go_enter Try.func10, Try.ntmps10
    go_wp2_with (go_at_call 32; refine (awake2 _).mono ?_; rintro e w' ⟨rfl, hb⟩)
    go_ret
    exact ⟨rfl, by assumption⟩
  · go_enter Try.func10, Try.ntmps10
    go_wp2_with fail
    refine (sclone a len cap l w HR.out (by omega)).mono ?_
    rintro e w1 ⟨v1, rfl, hf1, hb1⟩
    obtain ⟨ac, c1, hv1, hr1⟩ := hf1.form' len HLL.out
    rw [hv1]
    have HR1 := Lib.hid hr1
    have hs1 := hb1.size
    clear hf1 hv1 hr1
    go_wp2_with fail
    refine (popen _ _ _ _ w1 HR1.out (by omega)).mono ?_
    rintro e w2 ⟨p, rfl, hp, hrp, hb2⟩
    have hb2' := hb1.trans (hb2.mono hs1)
    have hwp : w.heap.size ≤ p := by omega
    clear hb2 hp hb1
    go_wp2_with fail
    refine (ropen _ _ _ _ w2 (HR.out.mono hb2') (by omega)).mono ?_
    rintro e w3 ⟨q, rfl, hq, hrq, hb3⟩
    have hrp3 := hrp.mono hb3
    have hb3' := hb2'.trans (hb3.mono hb2'.size)
    have hwq : w.heap.size ≤ q := by have := hb2'.size; omega
    have HP3 := Lib.hid hrp3
    have HQ3 := Lib.hid hrq
    clear hb3 hq hrp hb2' hrp3 hrq
    go_wp2_with fail
    go_loopw [21] (fun i wr => ∃ (k : Nat) (L : List UInt8) (e : Int), i = .int .i64 k ∧ k ≤ len1 ∧ Hid (RP wr p L e) ∧ Hid (RR wr q L e) ∧ Below w.heap.size w wr) (fun i _ => len1 - (intOf i).toNat)
    case atStart => exact ⟨0, l, 0, rfl, Nat.zero_le _, HP3, HQ3, hb3'⟩
    case round =>
      obtain ⟨k, L, er, rfl, hk, HP, HQ, hbr⟩ := hrel
      by_cases hlt : k < len1
      · obtain ⟨b, off, rfl, hbs, hcc⟩ := HC.out.resolve_left (by omega)
        obtain ⟨d0, d1⟩ := hcc k hlt
        obtain ⟨wf0, wf1⟩ := HW.out k hlt
        have c0 : wr.cell? ⟨b, off + k * 2, none⟩ = some (.int .i64 (f k)) := (hbr.cell (p := ⟨b, off + k * 2, none⟩) hbs).trans d0
        have c1 : wr.cell? ⟨b, off + k * 2 + 1, none⟩ = some (.int .i64 (g k)) := (hbr.cell (p := ⟨b, off + k * 2 + 1, none⟩) hbs).trans d1
        clear hcc d0 d1 wf0
        generalize f k = op at *
        generalize g k = n at *
        have hbW : Below w.heap.size w (wr.alloc (.cells #[.int .i64 op, .int .i64 n] 47)) := hbr.alloc hbr.size _
        have hpW : RP (wr.alloc (.cells #[.int .i64 op, .int .i64 n] 47)) p L er := HP.out.mono ((Below.refl _ _).alloc (Nat.le_refl _) _)
        have hqW : RR (wr.alloc (.cells #[.int .i64 op, .int .i64 n] 47)) q L er := HQ.out.mono ((Below.refl _ _).alloc (Nat.le_refl _) _)
        have ck : (wr.alloc (.cells #[.int .i64 op, .int .i64 n] 47)).heap[wr.heap.size]? = some (.cells #[.int .i64 op, .int .i64 n] 47 (0, 0)) := heap_alloc_new wr _
        have hpk : p ≠ wr.heap.size := Nat.ne_of_lt HP.out.lt
        have hqk : q ≠ wr.heap.size := Nat.ne_of_lt HQ.out.lt
        have HBW := Lib.hid hbW
        have HPW := Lib.hid hpW
        have HQW := Lib.hid hqW
        have CK := Lib.hid ck
        clear hbW hpW hqW ck
        by_cases h30 : (30 : Int) ≤ (k : Int)
        · go_wp2_with fail
          refine (awake2 _).mono ?_
          rintro e w' ⟨rfl, hb⟩
          go_wp2_with fail
          go_ret
          exact ⟨rfl, HBW.out.trans (hb.mono HBW.out.size)⟩
        · go_wp2_with fail
          all_goals
            generalize wr.alloc (.cells #[.int .i64 op, .int .i64 n] 47) = W at *
            generalize wr.heap.size = kb at *
            have hp := HPW.out
            have hq := HQW.out
            have hb := HBW.out
            have k1 := cell_at CK.out 1 _ rfl
          · have HN1 := Lib.hid (fun W' (h : RP W' p L er) => pnumR p n L er W' h)
            have HN2 := Lib.hid (fun W' (h : RR W' q L er) => rnumR q n L er W' h)
            go_region_with (first | (go_at_call 45; refine (HN1.out _ (by first | exact hp | exact hp.drew)).mono ?_; rintro e w4 ⟨rfl, hp4, hu4⟩; have hq4 := (by first | exact hq.other hp hu4 | exact hq.drew.other hp.drew hu4 : RR w4 q L er); have k4 := (by first | exact (hu4.cell (p := ⟨kb, 1, none⟩) (Ne.symm hpk)).trans k1 : w4.cell? ⟨kb, 1, none⟩ = some (.int .i64 n))) | (go_at_call 46; refine (HN2.out _ (by first | exact hq4 | exact hq4.drew)).mono ?_; rintro e w5 ⟨rfl, hq5, hu5⟩; have hp5 := (by first | exact hp4.other hq4 hu5 : RP w5 p _ _)))
            all_goals
              have hb5 : Below w.heap.size w w5 := (hb.trans (by first | exact hu4.below hwp | exact (Below.refl _ _).drew.trans (hu4.below hwp))).trans (by first | exact hu5.below hwq | exact (Below.refl _ _).drew.trans (hu5.below hwq))
              have HP5 := Lib.hid hp5
              have HQ5 := Lib.hid hq5
              have HB5 := Lib.hid hb5
              clear hp hq hb k1 hp4 hq4 hu4 hu5 hp5 hq5 hb5
              try clear k4
              go_wp2_with fail
              refine (pleft p _ _ _ (by first | exact HP5.out | exact HP5.out.drew)).mono ?_
              rintro e w6 ⟨rfl, rfl⟩
              go_wp2_with fail
              refine (rleft q _ _ _ (by first | exact HQ5.out | exact HQ5.out.drew)).mono ?_
              rintro e w6 ⟨rfl, rfl⟩
              go_wp2_with fail
              refine (perr p _ _ _ (by first | exact HP5.out | exact HP5.out.drew)).mono ?_
              rintro e w6 ⟨rfl, rfl⟩
              go_wp2_with fail
              refine (rerr q _ _ _ (by first | exact HQ5.out | exact HQ5.out.drew)).mono ?_
              rintro e w6 ⟨rfl, rfl⟩
              go_wp2_with fail
              refine (pend p _ _ _ (by first | exact HP5.out | exact HP5.out.drew)).mono ?_
              rintro e w6 ⟨rfl, rfl⟩
              go_wp2_with fail
              refine (rend q _ _ _ (by first | exact HQ5.out | exact HQ5.out.drew)).mono ?_
              rintro e w6 ⟨rfl, rfl⟩
              go_wp2_with fail
              go_roundw
              case rel => exact ⟨k + 1, _, _, by go_num, by omega, Lib.hid (by first | exact HP5.out | exact HP5.out.drew), Lib.hid (by first | exact HQ5.out | exact HQ5.out.drew), by first | exact HB5.out | exact HB5.out.drew⟩
              case measure => simp [intOf]; omega
          · have HN1 := Lib.hid (fun W' (h : RP W' p L er) => pnumR p n L er W' h)
            have HN2 := Lib.hid (fun W' (h : RR W' q L er) => rnumR q n L er W' h)
            go_region_with (first | (go_at_call 45; refine (HN1.out _ (by first | exact hp | exact hp.drew)).mono ?_; rintro e w4 ⟨rfl, hp4, hu4⟩; have hq4 := (by first | exact hq.other hp hu4 | exact hq.drew.other hp.drew hu4 : RR w4 q L er); have k4 := (by first | exact (hu4.cell (p := ⟨kb, 1, none⟩) (Ne.symm hpk)).trans k1 : w4.cell? ⟨kb, 1, none⟩ = some (.int .i64 n))) | (go_at_call 46; refine (HN2.out _ (by first | exact hq4 | exact hq4.drew)).mono ?_; rintro e w5 ⟨rfl, hq5, hu5⟩; have hp5 := (by first | exact hp4.other hq4 hu5 : RP w5 p _ _)))
            all_goals
              have hb5 : Below w.heap.size w w5 := (hb.trans (by first | exact hu4.below hwp | exact (Below.refl _ _).drew.trans (hu4.below hwp))).trans (by first | exact hu5.below hwq | exact (Below.refl _ _).drew.trans (hu5.below hwq))
              have HP5 := Lib.hid hp5
              have HQ5 := Lib.hid hq5
              have HB5 := Lib.hid hb5
              clear hp hq hb k1 hp4 hq4 hu4 hu5 hp5 hq5 hb5
              try clear k4
              go_wp2_with fail
              refine (pleft p _ _ _ (by first | exact HP5.out | exact HP5.out.drew)).mono ?_
              rintro e w6 ⟨rfl, rfl⟩
              go_wp2_with fail
              refine (rleft q _ _ _ (by first | exact HQ5.out | exact HQ5.out.drew)).mono ?_
              rintro e w6 ⟨rfl, rfl⟩
              go_wp2_with fail
              refine (perr p _ _ _ (by first | exact HP5.out | exact HP5.out.drew)).mono ?_
              rintro e w6 ⟨rfl, rfl⟩
              go_wp2_with fail
              refine (rerr q _ _ _ (by first | exact HQ5.out | exact HQ5.out.drew)).mono ?_
              rintro e w6 ⟨rfl, rfl⟩
              go_wp2_with fail
              refine (pend p _ _ _ (by first | exact HP5.out | exact HP5.out.drew)).mono ?_
              rintro e w6 ⟨rfl, rfl⟩
              go_wp2_with fail
              refine (rend q _ _ _ (by first | exact HQ5.out | exact HQ5.out.drew)).mono ?_
              rintro e w6 ⟨rfl, rfl⟩
              go_wp2_with fail
              go_roundw
              case rel => exact ⟨k + 1, _, _, by go_num, by omega, Lib.hid (by first | exact HP5.out | exact HP5.out.drew), Lib.hid (by first | exact HQ5.out | exact HQ5.out.drew), by first | exact HB5.out | exact HB5.out.drew⟩
              case measure => simp [intOf]; omega
          · have HN1 := Lib.hid (fun W' (h : RP W' p L er) => pnumR p n L er W' h)
            have HN2 := Lib.hid (fun W' (h : RR W' q L er) => rnumR q n L er W' h)
            go_region_with (first | (go_at_call 45; refine (HN1.out _ (by first | exact hp | exact hp.drew)).mono ?_; rintro e w4 ⟨rfl, hp4, hu4⟩; have hq4 := (by first | exact hq.other hp hu4 | exact hq.drew.other hp.drew hu4 : RR w4 q L er); have k4 := (by first | exact (hu4.cell (p := ⟨kb, 1, none⟩) (Ne.symm hpk)).trans k1 : w4.cell? ⟨kb, 1, none⟩ = some (.int .i64 n))) | (go_at_call 46; refine (HN2.out _ (by first | exact hq4 | exact hq4.drew)).mono ?_; rintro e w5 ⟨rfl, hq5, hu5⟩; have hp5 := (by first | exact hp4.other hq4 hu5 : RP w5 p _ _)))
            all_goals
              have hb5 : Below w.heap.size w w5 := (hb.trans (by first | exact hu4.below hwp | exact (Below.refl _ _).drew.trans (hu4.below hwp))).trans (by first | exact hu5.below hwq | exact (Below.refl _ _).drew.trans (hu5.below hwq))
              have HP5 := Lib.hid hp5
              have HQ5 := Lib.hid hq5
              have HB5 := Lib.hid hb5
              clear hp hq hb k1 hp4 hq4 hu4 hu5 hp5 hq5 hb5
              try clear k4
              go_wp2_with fail
              refine (pleft p _ _ _ (by first | exact HP5.out | exact HP5.out.drew)).mono ?_
              rintro e w6 ⟨rfl, rfl⟩
              go_wp2_with fail
              refine (rleft q _ _ _ (by first | exact HQ5.out | exact HQ5.out.drew)).mono ?_
              rintro e w6 ⟨rfl, rfl⟩
              go_wp2_with fail
              refine (perr p _ _ _ (by first | exact HP5.out | exact HP5.out.drew)).mono ?_
              rintro e w6 ⟨rfl, rfl⟩
              go_wp2_with fail
              refine (rerr q _ _ _ (by first | exact HQ5.out | exact HQ5.out.drew)).mono ?_
              rintro e w6 ⟨rfl, rfl⟩
              go_wp2_with fail
              refine (pend p _ _ _ (by first | exact HP5.out | exact HP5.out.drew)).mono ?_
              rintro e w6 ⟨rfl, rfl⟩
              go_wp2_with fail
              refine (rend q _ _ _ (by first | exact HQ5.out | exact HQ5.out.drew)).mono ?_
              rintro e w6 ⟨rfl, rfl⟩
              go_wp2_with fail
              go_roundw
              case rel => exact ⟨k + 1, _, _, by go_num, by omega, Lib.hid (by first | exact HP5.out | exact HP5.out.drew), Lib.hid (by first | exact HQ5.out | exact HQ5.out.drew), by first | exact HB5.out | exact HB5.out.drew⟩
              case measure => simp [intOf]; omega
          · have HN1 := Lib.hid (fun W' (h : RP W' p L er) => ptextR p n L er W' h)
            have HN2 := Lib.hid (fun W' (h : RR W' q L er) => rtextR q n L er W' h)
            go_region_with (first | (go_at_call 47; refine (HN1.out _ (by first | exact hp | exact hp.drew)).mono ?_; rintro e w4 ⟨rfl, hp4, hu4⟩; have hq4 := (by first | exact hq.other hp hu4 | exact hq.drew.other hp.drew hu4 : RR w4 q L er); have k4 := (by first | exact (hu4.cell (p := ⟨kb, 1, none⟩) (Ne.symm hpk)).trans k1 : w4.cell? ⟨kb, 1, none⟩ = some (.int .i64 n))) | (go_at_call 48; refine (HN2.out _ (by first | exact hq4 | exact hq4.drew)).mono ?_; rintro e w5 ⟨rfl, hq5, hu5⟩; have hp5 := (by first | exact hp4.other hq4 hu5 : RP w5 p _ _)))
            all_goals
              have hb5 : Below w.heap.size w w5 := (hb.trans (by first | exact hu4.below hwp | exact (Below.refl _ _).drew.trans (hu4.below hwp))).trans (by first | exact hu5.below hwq | exact (Below.refl _ _).drew.trans (hu5.below hwq))
              have HP5 := Lib.hid hp5
              have HQ5 := Lib.hid hq5
              have HB5 := Lib.hid hb5
              clear hp hq hb k1 hp4 hq4 hu4 hu5 hp5 hq5 hb5
              try clear k4
              go_wp2_with fail
              refine (pleft p _ _ _ (by first | exact HP5.out | exact HP5.out.drew)).mono ?_
              rintro e w6 ⟨rfl, rfl⟩
              go_wp2_with fail
              refine (rleft q _ _ _ (by first | exact HQ5.out | exact HQ5.out.drew)).mono ?_
              rintro e w6 ⟨rfl, rfl⟩
              go_wp2_with fail
              refine (perr p _ _ _ (by first | exact HP5.out | exact HP5.out.drew)).mono ?_
              rintro e w6 ⟨rfl, rfl⟩
              go_wp2_with fail
              refine (rerr q _ _ _ (by first | exact HQ5.out | exact HQ5.out.drew)).mono ?_
              rintro e w6 ⟨rfl, rfl⟩
              go_wp2_with fail
              refine (pend p _ _ _ (by first | exact HP5.out | exact HP5.out.drew)).mono ?_
              rintro e w6 ⟨rfl, rfl⟩
              go_wp2_with fail
              refine (rend q _ _ _ (by first | exact HQ5.out | exact HQ5.out.drew)).mono ?_
              rintro e w6 ⟨rfl, rfl⟩
              go_wp2_with fail
              go_roundw
              case rel => exact ⟨k + 1, _, _, by go_num, by omega, Lib.hid (by first | exact HP5.out | exact HP5.out.drew), Lib.hid (by first | exact HQ5.out | exact HQ5.out.drew), by first | exact HB5.out | exact HB5.out.drew⟩
              case measure => simp [intOf]; omega
          · have HN1 := Lib.hid (fun W' (h : RP W' p L er) => ptextR p n L er W' h)
            have HN2 := Lib.hid (fun W' (h : RR W' q L er) => rtextR q n L er W' h)
            go_region_with (first | (go_at_call 47; refine (HN1.out _ (by first | exact hp | exact hp.drew)).mono ?_; rintro e w4 ⟨rfl, hp4, hu4⟩; have hq4 := (by first | exact hq.other hp hu4 | exact hq.drew.other hp.drew hu4 : RR w4 q L er); have k4 := (by first | exact (hu4.cell (p := ⟨kb, 1, none⟩) (Ne.symm hpk)).trans k1 : w4.cell? ⟨kb, 1, none⟩ = some (.int .i64 n))) | (go_at_call 48; refine (HN2.out _ (by first | exact hq4 | exact hq4.drew)).mono ?_; rintro e w5 ⟨rfl, hq5, hu5⟩; have hp5 := (by first | exact hp4.other hq4 hu5 : RP w5 p _ _)))
            all_goals
              have hb5 : Below w.heap.size w w5 := (hb.trans (by first | exact hu4.below hwp | exact (Below.refl _ _).drew.trans (hu4.below hwp))).trans (by first | exact hu5.below hwq | exact (Below.refl _ _).drew.trans (hu5.below hwq))
              have HP5 := Lib.hid hp5
              have HQ5 := Lib.hid hq5
              have HB5 := Lib.hid hb5
              clear hp hq hb k1 hp4 hq4 hu4 hu5 hp5 hq5 hb5
              try clear k4
              go_wp2_with fail
              refine (pleft p _ _ _ (by first | exact HP5.out | exact HP5.out.drew)).mono ?_
              rintro e w6 ⟨rfl, rfl⟩
              go_wp2_with fail
              refine (rleft q _ _ _ (by first | exact HQ5.out | exact HQ5.out.drew)).mono ?_
              rintro e w6 ⟨rfl, rfl⟩
              go_wp2_with fail
              refine (perr p _ _ _ (by first | exact HP5.out | exact HP5.out.drew)).mono ?_
              rintro e w6 ⟨rfl, rfl⟩
              go_wp2_with fail
              refine (rerr q _ _ _ (by first | exact HQ5.out | exact HQ5.out.drew)).mono ?_
              rintro e w6 ⟨rfl, rfl⟩
              go_wp2_with fail
              refine (pend p _ _ _ (by first | exact HP5.out | exact HP5.out.drew)).mono ?_
              rintro e w6 ⟨rfl, rfl⟩
              go_wp2_with fail
              refine (rend q _ _ _ (by first | exact HQ5.out | exact HQ5.out.drew)).mono ?_
              rintro e w6 ⟨rfl, rfl⟩
              go_wp2_with fail
              go_roundw
              case rel => exact ⟨k + 1, _, _, by go_num, by omega, Lib.hid (by first | exact HP5.out | exact HP5.out.drew), Lib.hid (by first | exact HQ5.out | exact HQ5.out.drew), by first | exact HB5.out | exact HB5.out.drew⟩
              case measure => simp [intOf]; omega
          · refine (pyesR p L er _ hp).mono ?_
            rintro e w4 ⟨rfl, hp4, hu4⟩
            have hq4 := hq.other hp hu4
            go_wp2_with fail
            refine (ryesR q L er _ hq4).mono ?_
            rintro e w5 ⟨rfl, hq5, hu5⟩
            have hp5 := hp4.other hq4 hu5
            have hb5 : Below w.heap.size w w5 := (hb.trans (by first | exact hu4.below hwp | exact (Below.refl _ _).drew.trans (hu4.below hwp))).trans (by first | exact hu5.below hwq | exact (Below.refl _ _).drew.trans (hu5.below hwq))
            have HP5 := Lib.hid hp5
            have HQ5 := Lib.hid hq5
            have HB5 := Lib.hid hb5
            clear hp hq hb k1 hp4 hq4 hu4 hu5 hp5 hq5 hb5
            try clear k4
            go_wp2_with fail
            refine (pleft p _ _ _ (by first | exact HP5.out | exact HP5.out.drew)).mono ?_
            rintro e w6 ⟨rfl, rfl⟩
            go_wp2_with fail
            refine (rleft q _ _ _ (by first | exact HQ5.out | exact HQ5.out.drew)).mono ?_
            rintro e w6 ⟨rfl, rfl⟩
            go_wp2_with fail
            refine (perr p _ _ _ (by first | exact HP5.out | exact HP5.out.drew)).mono ?_
            rintro e w6 ⟨rfl, rfl⟩
            go_wp2_with fail
            refine (rerr q _ _ _ (by first | exact HQ5.out | exact HQ5.out.drew)).mono ?_
            rintro e w6 ⟨rfl, rfl⟩
            go_wp2_with fail
            refine (pend p _ _ _ (by first | exact HP5.out | exact HP5.out.drew)).mono ?_
            rintro e w6 ⟨rfl, rfl⟩
            go_wp2_with fail
            refine (rend q _ _ _ (by first | exact HQ5.out | exact HQ5.out.drew)).mono ?_
            rintro e w6 ⟨rfl, rfl⟩
            go_wp2_with fail
            go_roundw
            case rel => exact ⟨k + 1, _, _, by go_num, by omega, Lib.hid (by first | exact HP5.out | exact HP5.out.drew), Lib.hid (by first | exact HQ5.out | exact HQ5.out.drew), by first | exact HB5.out | exact HB5.out.drew⟩
            case measure => simp [intOf]; omega
          · refine (pyesR p L er _ hp).mono ?_
            rintro e w4 ⟨rfl, hp4, hu4⟩
            have hq4 := hq.other hp hu4
            go_wp2_with fail
            refine (ryesR q L er _ hq4).mono ?_
            rintro e w5 ⟨rfl, hq5, hu5⟩
            have hp5 := hp4.other hq4 hu5
            have hb5 : Below w.heap.size w w5 := (hb.trans (by first | exact hu4.below hwp | exact (Below.refl _ _).drew.trans (hu4.below hwp))).trans (by first | exact hu5.below hwq | exact (Below.refl _ _).drew.trans (hu5.below hwq))
            have HP5 := Lib.hid hp5
            have HQ5 := Lib.hid hq5
            have HB5 := Lib.hid hb5
            clear hp hq hb k1 hp4 hq4 hu4 hu5 hp5 hq5 hb5
            try clear k4
            go_wp2_with fail
            refine (pleft p _ _ _ (by first | exact HP5.out | exact HP5.out.drew)).mono ?_
            rintro e w6 ⟨rfl, rfl⟩
            go_wp2_with fail
            refine (rleft q _ _ _ (by first | exact HQ5.out | exact HQ5.out.drew)).mono ?_
            rintro e w6 ⟨rfl, rfl⟩
            go_wp2_with fail
            refine (perr p _ _ _ (by first | exact HP5.out | exact HP5.out.drew)).mono ?_
            rintro e w6 ⟨rfl, rfl⟩
            go_wp2_with fail
            refine (rerr q _ _ _ (by first | exact HQ5.out | exact HQ5.out.drew)).mono ?_
            rintro e w6 ⟨rfl, rfl⟩
            go_wp2_with fail
            refine (pend p _ _ _ (by first | exact HP5.out | exact HP5.out.drew)).mono ?_
            rintro e w6 ⟨rfl, rfl⟩
            go_wp2_with fail
            refine (rend q _ _ _ (by first | exact HQ5.out | exact HQ5.out.drew)).mono ?_
            rintro e w6 ⟨rfl, rfl⟩
            go_wp2_with fail
            go_roundw
            case rel => exact ⟨k + 1, _, _, by go_num, by omega, Lib.hid (by first | exact HP5.out | exact HP5.out.drew), Lib.hid (by first | exact HQ5.out | exact HQ5.out.drew), by first | exact HB5.out | exact HB5.out.drew⟩
            case measure => simp [intOf]; omega
          · refine (pfail p L er _ _ hp).mono ?_
            rintro e w4 ⟨rfl, hp4, hu4⟩
            have hq4 := hq.other hp hu4
            have k4 : w4.cell? ⟨kb, 1, none⟩ = some (.int .i64 n) := (hu4.cell (p := ⟨kb, 1, none⟩) (Ne.symm hpk)).trans k1
            go_wp2_with fail
            refine (rfail q L er _ _ hq4).mono ?_
            rintro e w5 ⟨rfl, hq5, hu5⟩
            have hp5 := hp4.other hq4 hu5
            have hb5 : Below w.heap.size w w5 := (hb.trans (by first | exact hu4.below hwp | exact (Below.refl _ _).drew.trans (hu4.below hwp))).trans (by first | exact hu5.below hwq | exact (Below.refl _ _).drew.trans (hu5.below hwq))
            have HP5 := Lib.hid hp5
            have HQ5 := Lib.hid hq5
            have HB5 := Lib.hid hb5
            clear hp hq hb k1 hp4 hq4 hu4 hu5 hp5 hq5 hb5
            try clear k4
            go_wp2_with fail
            refine (pleft p _ _ _ (by first | exact HP5.out | exact HP5.out.drew)).mono ?_
            rintro e w6 ⟨rfl, rfl⟩
            go_wp2_with fail
            refine (rleft q _ _ _ (by first | exact HQ5.out | exact HQ5.out.drew)).mono ?_
            rintro e w6 ⟨rfl, rfl⟩
            go_wp2_with fail
            refine (perr p _ _ _ (by first | exact HP5.out | exact HP5.out.drew)).mono ?_
            rintro e w6 ⟨rfl, rfl⟩
            go_wp2_with fail
            refine (rerr q _ _ _ (by first | exact HQ5.out | exact HQ5.out.drew)).mono ?_
            rintro e w6 ⟨rfl, rfl⟩
            go_wp2_with fail
            refine (pend p _ _ _ (by first | exact HP5.out | exact HP5.out.drew)).mono ?_
            rintro e w6 ⟨rfl, rfl⟩
            go_wp2_with fail
            refine (rend q _ _ _ (by first | exact HQ5.out | exact HQ5.out.drew)).mono ?_
            rintro e w6 ⟨rfl, rfl⟩
            go_wp2_with fail
            go_roundw
            case rel => exact ⟨k + 1, _, _, by go_num, by omega, Lib.hid (by first | exact HP5.out | exact HP5.out.drew), Lib.hid (by first | exact HQ5.out | exact HQ5.out.drew), by first | exact HB5.out | exact HB5.out.drew⟩
            case measure => simp [intOf]; omega
      · go_wp2_with fail
        refine (awake2 _).mono ?_
        rintro e w' ⟨rfl, hb⟩
        go_wp2_with fail
        go_ret
        exact ⟨rfl, hbr.trans (hb.mono hbr.size)⟩

end Go.Proofs.Ytbdlhcgilcpeoaa.W
