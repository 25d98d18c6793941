/- LAYER 19 (ledger): the law Lives, out of contracts. -/
import Derived.Test.YtiopcojkdglapaaLdD
set_option linter.unusedSimpArgs false
set_option linter.unusedVariables false
namespace Go.Proofs.Ytiopcojkdglapaa.W
open Go Go.ChangeShapes Go.WideShapes Go.ChangeAt Go.RowKit
open Go.Proofs.Ytiopcojkdglapaa.P (enc dec)

theorem ok_ldi {w : World} {v : Value} {l : Ld} (h : LdV w v l) (hok : OkL l) : LdI w v l := by
  have h1 := hok.q; have h2 := hok.u; have h3 := hok.h; have h4 := hok.n
  exact ⟨h, ⟨by omega, by omega⟩, ⟨by omega, by omega⟩, ⟨by omega, by omega⟩, ⟨by omega, by omega⟩⟩
theorem ld19_b (q : Int) : Try.prog.built 50 [(0, .int .i64 q), (3, .int .i64 1)] = some (ldC q 0 0 1 none 0 0).toArray := by kernel_rfl
theorem new_ok {q : Int} (h : 0 ≤ q ∧ q ≤ 1099511627776) : OkL ⟨q, 0, 0, 1, []⟩ := ⟨h, (show (0 : Int) ≤ 0 ∧ (0 : Int) ≤ 1099511627776 by decide), (show (0 : Int) ≤ 0 ∧ (0 : Int) ≤ 1099511627776 by decide), (show (1 : Int) ≤ 1 ∧ (1 : Int) ≤ 2147483648 by decide), by simp, rfl, rfl, by show (0 : Int) + 0 ≤ q; omega⟩
/-- a block that is younger than a list -/
theorem Ls.updlt {w0 w w' : World} {a : Option Addr} {n c : Nat} {L : List Hd} (h : Ls hdE w a n c L) (h0 : Ls hdE w0 a n c L) (hu : Upd w w' w0.heap.size) : Ls hdE w' a n c L := by
  refine ⟨h.hlen, h.hle, h.hmax, fun x hx => h.hfit x hx, h.hnil, ?_⟩
  rcases h.hcells with e | ⟨b, off, rfl, hlt, hc⟩
  · exact .inl e
  · rcases h0.hcells with e | ⟨b0, off0, e, hlt0, -⟩
    · exact .inl e
    · injection e with e
      injection e with e1 e2
      subst e1 e2
      exact .inr ⟨b, off, rfl, Nat.lt_of_lt_of_le hlt (by have := hu.size; omega), fun i x hi j v hj => by
        rw [World.cell?_of_block (a := ⟨b, off + i * hdE.k + j, none⟩) (hu.block b (Nat.ne_of_lt hlt0))]
        exact hc i x hi j v hj⟩
set_option maxRecDepth 100000 in
set_option maxHeartbeats 16000000 in
theorem lives_of19 (hP : LdP) (hC : LdCheckP 41) (quota : Int) (hq : SI64 quota) (a : Option Addr) (n c : Nat) (D : List Do19) (w : World) (h : Ls doE w a n c D) :
    Calls Try.prog 8 #[.int .i64 quota, .slice a n c] w fun e w' => e = .returned (.bool true) ∧ Below w.heap.size w w' := by
  have H := Lib.hid h
  have HL := Lib.hid h.hlen
  have hm := h.hmax
  have hle := h.hle
  have LZS := Lib.hid ld_size
  have LZ := Lib.hid ld_zero
  have DZS := Lib.hid do_size
  have DZ := Lib.hid do_zero
  have HA := Lib.hid (awake19 hP)
  have HD := Lib.hid (fun v x l d w a b c e => do_any19 hP v x l d w a b c e)
  have HC := Lib.hid hC
  clear hP hC h
  obtain ⟨U, hU⟩ : ∃ u, IntKind.u64.wrap quota = u := ⟨_, rfl⟩
  have hU0 : 0 ≤ U := by rw [← hU, IntKind.wrap_u64]; omega
  obtain ⟨Q, hQ⟩ : ∃ q, U % 1099511627777 = q := ⟨_, rfl⟩
  have hQ0 : 0 ≤ Q ∧ Q ≤ 1099511627776 := by omega
  have hQt : U.tmod 1099511627777 = Q := by rw [← hQ, Int.tmod_eq_emod_of_nonneg hU0]
  have hQw : IntKind.i64.wrap Q = Q := by rw [IntKind.wrap_i64]; omega
  have hQu : IntKind.u64.wrap Q = Q := by rw [IntKind.wrap_u64]; omega
  clear hQ
  go_enter Try.func8, Try.ntmps8
  have HN0 := Lib.hid (new_ok hQ0)
  go_wp2_with (first
    | ((with_reducible refine build_row (o := ⟨some 16, _, _, _, _, _⟩) rfl _ _ rfl (ldC Q 0 0 1 none 0 0) ?_ ?_); (focus (go_simp; exact ld19_b Q)))
    | ((with_reducible refine alloc_row (o := ⟨some 6, _, _, _, _, _⟩) rfl _ rfl _ LZ.out ?_); intro w1 hr hb hz; have RA1 := Lib.hid hr; have B1 := Lib.hid hb; have S1 := Lib.hid (show w.heap.size < w1.heap.size by omega); clear hr hb hz)
    | ((with_reducible refine store_row (o := ⟨none, _, _, _, _, _⟩) rfl _ (.tmp 6) _ rfl w.heap.size (ldC Q 0 0 1 none 0 0) ?_ ?_ 50 _ RA1.out ?_ ?_ ?_ ?_); (focus go_simp); (focus (first | (go_simp; done) | (go_simp; rfl))); (focus (exact LZS.out)); (focus rfl); (focus (exact ld_one _ _ _ _ _ _ _)); intro w2 hr hu; have RA2 := Lib.hid hr; have B2 := Lib.hid (B1.out.trans (hu.below (Nat.le_refl _))); have S2 := Lib.hid (show w2.heap.size = w1.heap.size by have := hu.size; omega); clear hr hu)
    | ((with_reducible refine load_row (o := ⟨some 17, _, _, _, _, _⟩) rfl _ _ rfl w.heap.size ?_ _ (ldC Q 0 0 1 none 0 0) _ RA2.out Try.underlying50 rfl ?_ ?_); (focus go_simp); (focus (exact LZS.out)))
    | ((with_reducible refine alloc_row (o := ⟨some 7, _, _, _, _, _⟩) rfl _ rfl _ LZ.out ?_); intro w3 hr hb hz; have RB3 := Lib.hid hr; have RA3 := Lib.hid (RA2.out.below hb RA2.out.lt); have B3 := Lib.hid (B2.out.trans (hb.mono B2.out.size)); clear hr hb hz)
    | ((with_reducible refine store_row (o := ⟨none, _, _, _, _, _⟩) rfl _ (.tmp 7) _ rfl w2.heap.size (ldC Q 0 0 1 none 0 0) ?_ ?_ 50 _ RB3.out ?_ ?_ ?_ ?_); (focus go_simp); (focus (first | (go_simp; done) | (go_simp; rfl))); (focus (exact LZS.out)); (focus rfl); (focus (exact ld_one _ _ _ _ _ _ _)); intro w4 hr hu; have RB4 := Lib.hid hr; have RA4 := Lib.hid (RA3.out.upd hu (Nat.ne_of_lt RA2.out.lt)); have B4 := Lib.hid (B3.out.trans (hu.below B2.out.size)); clear hr hu))
  go_loopw [20] (fun i wr => ∃ (k : Nat) (l : Ld) (a1 a2 : Option Addr) (n1 c1 n2 c2 : Nat), i = .int .i64 (k : Int) ∧ k ≤ n ∧ Hid (OkL l) ∧ Hid (Row wr w.heap.size 50 (ldC l.q l.u l.h l.n a1 n1 c1)) ∧ Hid (Row wr w2.heap.size 50 (ldC l.q l.u l.h l.n a2 n2 c2)) ∧ Hid (Ls hdE wr a1 n1 c1 l.L) ∧ Hid (Ls hdE wr a2 n2 c2 l.L) ∧ Hid (Below w.heap.size w wr)) (fun i _ => n - (intOf i).toNat)
  case atStart => exact ⟨0, ⟨Q, 0, 0, 1, []⟩, none, none, 0, 0, 0, 0, rfl, Nat.zero_le _, HN0, RA4, RB4, Lib.hid (Ls.nil _), Lib.hid (Ls.nil _), B4⟩
  case round =>
    obtain ⟨k, l, a1, a2, n1, c1, n2, c2, rfl, hk, OK, RA, RB, LA, LB, B⟩ := hrel
    by_cases hlt : k < n
    · obtain ⟨b, off, x, rfl, hx, hcell, hfx⟩ := H.out.at doOk B.out k hlt
      have XC := Lib.hid hcell
      have FX := Lib.hid hfx
      have g1 : (0 : Int) ≤ (k : Int) := by omega
      have g2 : (k : Int) < (n : Int) := by omega
      clear hx hcell hfx
      have ON := Lib.hid (on_ok OK.out x)
      have hle2 := ON.out.le
      have hu2 := ON.out.u
      have hh2 := ON.out.h
      have hq2 := ON.out.q
      have OKB := Lib.hid (ok_ld.2 ON.out)
      obtain ⟨l2, hl2⟩ : ∃ m, x.on l = m := ⟨_, rfl⟩
      rw [hl2] at ON hle2 hu2 hh2 hq2 OKB
      have HL2 := Lib.hid hl2
      clear hl2
      by_cases h60 : (60 : Int) ≤ (k : Int)
      · go_wp2_with (first
          | ((with_reducible refine load_cells (o := ⟨some 24, _, _, _, _, _⟩) rfl _ _ rfl b (off + k * 9) ?_ x.cells _ XC.out Try.underlying54 rfl ?_ ?_); (focus go_simp); (focus (exact DZS.out)))
          | ((with_reducible refine alloc_row (o := ⟨some 9, _, _, _, _, _⟩) rfl _ rfl _ DZ.out ?_); intro w5 hr hb hz; have RD5 := Lib.hid hr; have B5 := Lib.hid (B.out.trans (hb.mono B.out.size)); clear hr hb hz)
          | ((with_reducible refine store_row (o := ⟨none, _, _, _, _, _⟩) rfl _ (.tmp 9) _ rfl wr.heap.size x.cells ?_ ?_ 54 _ RD5.out ?_ ?_ ?_ ?_); (focus go_simp); (focus (first | (go_simp; done) | (go_simp; rfl))); (focus (exact DZS.out)); (focus rfl); (focus (exact doOk.one x)); intro w6 hr hu; have B6 := Lib.hid (B5.out.trans (hu.below B.out.size)); clear hr hu)
          | (go_at_call 43; (with_reducible refine (HA.out _).mono ?_); rintro e w7 ⟨rfl, hb⟩; have B7 := Lib.hid (B6.out.trans (hb.mono B6.out.size)); clear hb))
        go_ret
        exact ⟨by first | rfl | exact one (vbool (by simp)), B7.out⟩
      · go_wp2_with (first
          | ((with_reducible refine load_cells (o := ⟨some 24, _, _, _, _, _⟩) rfl _ _ rfl b (off + k * 9) ?_ x.cells _ XC.out Try.underlying54 rfl ?_ ?_); (focus go_simp); (focus (exact DZS.out)))
          | ((with_reducible refine alloc_row (o := ⟨some 9, _, _, _, _, _⟩) rfl _ rfl _ DZ.out ?_); intro w5 hr hb hz; have RD5 := Lib.hid hr; have RA5 := Lib.hid (RA.out.below hb RA.out.lt); have RB5 := Lib.hid (RB.out.below hb RB.out.lt); have LA5 := Lib.hid (LA.out.mono hdOk hb); have LB5 := Lib.hid (LB.out.mono hdOk hb); have B5 := Lib.hid (B.out.trans (hb.mono B.out.size)); clear hr hb hz)
          | ((with_reducible refine store_row (o := ⟨none, _, _, _, _, _⟩) rfl _ (.tmp 9) _ rfl wr.heap.size x.cells ?_ ?_ 54 _ RD5.out ?_ ?_ ?_ ?_); (focus go_simp); (focus (first | (go_simp; done) | (go_simp; rfl))); (focus (exact DZS.out)); (focus rfl); (focus (exact doOk.one x)); intro w6 hr hu; have RD6 := Lib.hid hr; have RA6 := Lib.hid (RA5.out.upd hu (Nat.ne_of_lt RA.out.lt)); have RB6 := Lib.hid (RB5.out.upd hu (Nat.ne_of_lt RB.out.lt)); have LA6 := Lib.hid (LA5.out.updlt LA.out hu); have LB6 := Lib.hid (LB5.out.updlt LB.out hu); have VA6 := Lib.hid (show LdV w6 (.agg (ldC l.q l.u l.h l.n a1 n1 c1).toArray) l from ⟨_, _, _, rfl, LA6.out⟩); have VB6 := Lib.hid (show LdV w6 (.agg (ldC l.q l.u l.h l.n a2 n2 c2).toArray) l from ⟨_, _, _, rfl, LB6.out⟩); have B6 := Lib.hid (B5.out.trans (hu.below B.out.size)); clear hr hu)
          | ((with_reducible refine load_row (o := ⟨some 28, _, _, _, _, _⟩) rfl _ _ rfl w.heap.size ?_ _ (ldC l.q l.u l.h l.n a1 n1 c1) _ RA6.out Try.underlying50 rfl ?_ ?_); (focus go_simp); (focus (exact LZS.out)))
          | ((with_reducible refine load_row (o := ⟨some 29, _, _, _, _, _⟩) rfl _ _ rfl w2.heap.size ?_ _ (ldC l.q l.u l.h l.n a2 n2 c2) _ RB6.out Try.underlying50 rfl ?_ ?_); (focus go_simp); (focus (exact LZS.out)))
          | ((with_reducible refine load_row (o := ⟨some 30, _, _, _, _, _⟩) rfl _ _ rfl wr.heap.size ?_ _ x.cells _ RD6.out Try.underlying54 rfl ?_ ?_); (focus go_simp); (focus (exact DZS.out)))
          | (go_at_call 45; (with_reducible refine (HD.out _ _ l x w6 VA6.out VB6.out OK.out FX.out).mono ?_); rw [HL2.out]; rintro e w7 ⟨v7, x7, rfl, ⟨a7, n7, c7, rfl, hl7⟩, ⟨a8, n8, c8, rfl, hl8⟩, hb⟩; have LA7 := Lib.hid hl7; have LB7 := Lib.hid hl8; have RA7 := Lib.hid (RA6.out.below hb RA6.out.lt); have RB7 := Lib.hid (RB6.out.below hb RB6.out.lt); have B7 := Lib.hid (B6.out.trans (hb.mono B6.out.size)); clear hl7 hl8 hb)
          | ((with_reducible refine store_row (o := ⟨none, _, _, _, _, _⟩) rfl _ (.tmp 6) _ rfl w.heap.size (ldC l2.q l2.u l2.h l2.n a7 n7 c7) ?_ ?_ 50 _ RA7.out ?_ ?_ ?_ ?_); (focus go_simp); (focus (first | (go_simp; done) | (go_simp; rfl))); (focus (exact LZS.out)); (focus rfl); (focus (exact ld_one _ _ _ _ _ _ _)); intro w8 hr hu; have RA8 := Lib.hid hr; have RB8 := Lib.hid (RB7.out.upd hu (Nat.ne_of_gt RA2.out.lt)); have LA8 := Lib.hid (LA7.out.upd5 RA7.out (show 5 ≤ 5 from Nat.le_refl 5) hu); have LB8 := Lib.hid (LB7.out.upd5 RA7.out (show 5 ≤ 5 from Nat.le_refl 5) hu); have B8 := Lib.hid (B7.out.trans (hu.below (Nat.le_refl _))); clear hr hu)
          | ((with_reducible refine store_row (o := ⟨none, _, _, _, _, _⟩) rfl _ (.tmp 7) _ rfl w2.heap.size (ldC l2.q l2.u l2.h l2.n a8 n8 c8) ?_ ?_ 50 _ RB8.out ?_ ?_ ?_ ?_); (focus go_simp); (focus (first | (go_simp; done) | (go_simp; rfl))); (focus (exact LZS.out)); (focus rfl); (focus (exact ld_one _ _ _ _ _ _ _)); intro w9 hr hu; have RB9 := Lib.hid hr; have RA9 := Lib.hid (RA8.out.upd hu (Nat.ne_of_lt RA2.out.lt)); have LA9 := Lib.hid (LA8.out.upd5 RB8.out (show 5 ≤ 5 from Nat.le_refl 5) hu); have LB9 := Lib.hid (LB8.out.upd5 RB8.out (show 5 ≤ 5 from Nat.le_refl 5) hu); have B9 := Lib.hid (B8.out.trans (hu.below B2.out.size)); have VI9 := Lib.hid (ok_ldi (show LdV w9 (.agg (ldC l2.q l2.u l2.h l2.n a7 n7 c7).toArray) l2 from ⟨_, _, _, rfl, LA9.out⟩) ON.out); clear hr hu)
          | ((with_reducible refine load_rowg (o := ⟨some 38, _, _, _, _, _⟩) 2 false 37 rfl _ _ rfl w.heap.size _ (ldC l2.q l2.u l2.h l2.n a7 n7 c7) _ RA9.out Try.underlying50 rfl ?_ ?_ ?_ ?_ ?_); (focus rfl); (focus go_simp); (focus go_simp); (focus (exact LZS.out)))
          | (go_at_call 41; (with_reducible refine (HC.out _ l2 w9 VI9.out).mono ?_); rw [OKB.out]; rintro e w10 ⟨rfl, hb⟩; have RA10 := Lib.hid (RA9.out.below hb RA9.out.lt); have RB10 := Lib.hid (RB9.out.below hb RB9.out.lt); have LA10 := Lib.hid (LA9.out.mono hdOk hb); have LB10 := Lib.hid (LB9.out.mono hdOk hb); have B10 := Lib.hid (B9.out.trans (hb.mono B9.out.size)); obtain ⟨d0, d1, d2, d3, d4⟩ := RA10.out.l5; clear hb))
        clear d0 d1 d2 d3 d4
        go_roundw
        case rel => exact ⟨k + 1, l2, a7, a8, n7, c7, n8, c8, vint (by omega), by omega, ON, RA10, RB10, LA10, LB10, B10⟩
        case measure => simp [intOf]; omega
    · obtain rfl : n = k := by omega
      go_wp2_with (go_at_call 43; (with_reducible refine (HA.out _).mono ?_); rintro e w7 ⟨rfl, hb⟩; have B7 := Lib.hid (B.out.trans (hb.mono B.out.size)); clear hb)
      go_ret
      exact ⟨by first | rfl | exact one (vbool (by simp)), B7.out⟩
end Go.Proofs.Ytiopcojkdglapaa.W
