/- LAYER 21 (revoke): calls as they come in; awake and play of the laws. -/
import Derived.Test.YtiopcojkdglapaaRvQ
import Derived.Test.YtiopcojkdglapaaLsC
import Derived.Test.YtiopcojkdglapaaLg
set_option linter.unusedSimpArgs false
set_option linter.unusedVariables false
namespace Go.Proofs.Ytiopcojkdglapaa.W
open Go Go.ChangeShapes Go.WideShapes Go.ChangeAt Go.RowKit
open Go.Proofs.Ytiopcojkdglapaa.S

structure Do21 where
  op : Int
  n : Int
@[reducible] def Do21.cells (d : Do21) : List Value := [.int .i64 d.op, .int .i64 d.n]
structure Do21.fit (d : Do21) : Prop where
  op : SI64 d.op
  n : SI64 d.n
@[reducible] def do2E : El Do21 := ⟨84, 133, 2, 16, .agg #[.int .i64 0, .int .i64 0], Do21.cells, fun _ s => s.fit⟩
theorem do2Ok : do2E.Ok Try.prog where
  und := Try.underlying84
  info := by kernel_rfl
  zs := rfl
  pos := by decide
  len := fun _ => rfl
  one := fun s v hv => by simp at hv; rcases hv with rfl | rfl <;> rfl
  mono := fun _ _ _ h _ => h
  small := by decide
theorem do2_size : (Try.prog.info? 133).map (·.size) = some 2 := by kernel_rfl
theorem do2_zero : (Try.prog.info? 133).map (·.zero) = some (some (.agg (Do21.cells ⟨0, 0⟩).toArray)) := by kernel_rfl
section
variable {H : Type} {enc : TypeId × Value → H} {w : World} {base : Nat} {held : Bool}
set_option maxRecDepth 100000 in
theorem do2_cells {fuel : Nat} {cs : List Value} {x : DataW H × List MemPlace} (h : DataW.trod enc Try.prog w base (fun _ => true) held fuel 133 cs = some x) : ∃ d : Do21, cs = d.cells ∧ d.fit := by
  obtain ⟨xs, n, hn, rfl, hl, hlen, hf⟩ := DataW.trod_struct Try.underlying133 h
  have hcl : Try.prog.cellsOf 133 = 2 := by kernel_rfl
  rw [hcl] at hl
  have f0 := hf 0 _ rfl
  have f1 := hf 1 _ rfl
  match cs, hl with
  | [v0, v1], _ =>
    have c1 : Try.prog.cellsOf 3 = 1 := by kernel_rfl
    match xs, hlen with
    | [x0, x1], _ =>
    simp [c1] at f0 f1
    obtain ⟨n0, e0, -, w0⟩ := DataW.trod_int Try.underlying3 f0
    obtain ⟨n1, e1, -, w1⟩ := DataW.trod_int Try.underlying3 f1
    simp at e0 e1
    exact ⟨⟨n0, n1⟩, by simp [Do21.cells, e0, e1], ⟨bd w0, bd w1⟩⟩
theorem dos_open21 {a : Option Addr} {len cap : Nat} {d : DataW H} {pl : List MemPlace} (h : DataW.Trod enc Try.prog w base (fun _ => true) held 84 (.slice a len cap) d pl) : ∃ L, Ls do2E w a len cap L := by
  obtain ⟨fuel, hf⟩ := h
  obtain ⟨a', n', c', L, hc, hL⟩ := ls_cells do2Ok (by kernel_rfl) (fun hx => do2_cells hx) hf
  simp [Value.cells] at hc
  obtain ⟨rfl, rfl, rfl⟩ := hc
  exact ⟨L, hL⟩
end
theorem Row.r2 {w : World} {g : Nat} {t : TypeId} {a b : Value} (h : Row w g t [a, b]) : w.cell? ⟨g, 0, none⟩ = some a ∧ w.cell? ⟨g, 1, none⟩ = some b := by
  refine ⟨?_, ?_⟩ <;> (rw [h.cellV]; rfl)
-- ---- plain
def Do21.on (d : Do21) (r : Rv) : Rv := if d.op = 0 ∨ d.op = 1 ∨ d.op = 2 then r.mint.1 else if d.op = 3 ∨ d.op = 4 ∨ d.op = 5 then (r.revoke d.n).1 else r.bump.1
def playR (r : Rv) (D : List Do21) : Rv := D.foldl (fun r d => d.on r) r
theorem on_ok21 {r : Rv} (h : r.ok = true) (d : Do21) : (d.on r).ok = true := by
  unfold Do21.on
  split
  · exact mint_ok h
  · split
    · exact revoke_ok h _
    · exact bump_ok h
theorem play_ok : ∀ (D : List Do21) {r : Rv}, r.ok = true → (playR r D).ok = true
  | [], _, h => h
  | d :: D, r, h => by show (playR (d.on r) D).ok = true; exact play_ok D (on_ok21 h d)
theorem play_next (r : Rv) (D : List Do21) (k : Nat) (d : Do21) (h : D[k]? = some d) : playR r (D.take (k + 1)) = d.on (playR r (D.take k)) := by
  obtain ⟨h1, h2⟩ := List.getElem?_eq_some_iff.1 h
  unfold playR
  rw [List.take_succ_eq_append_getElem h1, h2, List.foldl_append]; rfl
theorem rv_si {r : Rv} (h : r.ok = true) : SI64 r.ep ∧ SI64 r.nx := by
  have := Rv.ok_iff.1 h
  exact ⟨si_small this.1, si_small ⟨by omega, this.2.1.2⟩⟩
theorem rv_len {r : Rv} (h : r.ok = true) : r.ids.length ≤ 100 := by have := (Rv.ok_iff.1 h).2.2.1; omega
theorem sok : Rv.ok ⟨0, 2, []⟩ = true := by decide
/-- a value whose list lies in blocks of P -/
def RvP (P : Nat → Prop) (w : World) (v : Value) (r : Rv) : Prop := ∃ a n c, v = .agg (rvC r.ep r.nx a n c).toArray ∧ Ls intE w a n c r.ids ∧ SI64 r.ep ∧ SI64 r.nx ∧ (0 < n → ∀ b off, a = some ⟨b, off, none⟩ → P b)
set_option maxRecDepth 100000 in
set_option maxHeartbeats 8000000 in
theorem awake21 (w : World) : Calls Try.prog 57 #[] w fun e w' => e = .returned (.bool true) ∧ Below w.heap.size w w' := by
  have LZ := Lib.hid rv_zero
  have LZS := Lib.hid rv_size
  have HV0 : ∀ (v : Value) (r : Rv) (w : World) (h : RvV w v r) (q : Bool) (hq : r.valid 1 0 = q), Calls Try.prog 67 #[v, .int .i64 1, .int .i64 0] w fun x w' => x = .returned (.bool q) ∧ Below w.heap.size w w' := fun v r w h q hq => by rw [← hq]; exact prvalid v r 1 0 w h ⟨by decide, by decide⟩
  have HR0 : ∀ (v : Value) (w : World) (h : RvV w v ⟨0, 2, []⟩), Calls Try.prog 66 #[v, .int .i64 1] w fun x w' => ∃ v', x = .returned (.tuple #[v', .int .i64 0]) ∧ RvF w' w.heap.size v' ⟨0, 2, [1]⟩ ∧ Below w.heap.size w w' := fun v w h => prrevoke v ⟨0, 2, []⟩ 1 w h ⟨by decide, by decide⟩ (by simp)
  have HV := Lib.hid HV0
  have HR := Lib.hid HR0
  clear HV0 HR0
  have S0 := Lib.hid (show SI64 0 ∧ SI64 2 from ⟨⟨by decide, by decide⟩, ⟨by decide, by decide⟩⟩)
  go_enter Try.func57, Try.ntmps57
  go_wp2_with (first
    | (go_at_call 65; (with_reducible refine (prstart _).mono ?_); rintro x w1 ⟨rfl, hb⟩; have B1 := Lib.hid hb; clear hb)
    | ((with_reducible refine alloc_row (o := ⟨some 1, _, _, _, _, _⟩) rfl _ rfl _ LZ.out ?_); intro w2 hr hb hz; have R2 := Lib.hid hr; have B2 := Lib.hid (B1.out.trans (hb.mono B1.out.size)); clear hr hb hz)
    | ((with_reducible refine store_row (o := ⟨none, _, _, _, _, _⟩) rfl _ (.tmp 1) _ rfl w1.heap.size (rvC 0 2 none 0 0) ?_ ?_ 78 _ R2.out ?_ ?_ ?_ ?_); (focus go_simp); (focus (first | (go_simp; done) | (go_simp; rfl))); (focus (exact LZS.out)); (focus rfl); (focus (exact rv_one _ _ _ _ _)); intro w3 hr hu; have R3 := Lib.hid hr; have V3 := Lib.hid (show RvV w3 (.agg (rvC 0 2 none 0 0).toArray) ⟨0, 2, []⟩ from ⟨none, 0, 0, rfl, Ls.nil _, S0.out.1, S0.out.2⟩); have B3 := Lib.hid (B2.out.trans (hu.below B1.out.size)); clear hr hu)
    | ((with_reducible refine load_row (o := ⟨some 6, _, _, _, _, _⟩) rfl _ _ rfl w1.heap.size ?_ _ (rvC 0 2 none 0 0) _ R3.out Try.underlying78 rfl ?_ ?_); (focus go_simp); (focus (exact LZS.out)))
    | (go_at_call 66; (with_reducible refine (HR.out _ w3 V3.out).mono ?_); rintro x w4 ⟨v4, rfl, ⟨a4, n4, c4, rfl, hl, -, -, -⟩, hb⟩; have L4 := Lib.hid (show Ls intE w4 a4 n4 c4 [1] from hl); have R4 := Lib.hid (R3.out.below hb R3.out.lt); have B4 := Lib.hid (B3.out.trans (hb.mono B3.out.size)); have S4 := Lib.hid (Nat.lt_of_lt_of_le R3.out.lt hb.size); clear hl hb)
    | ((with_reducible refine alloc_row (o := ⟨some 2, _, _, _, _, _⟩) rfl _ rfl _ LZ.out ?_); intro w5 hr hb hz; have R5 := Lib.hid (R4.out.below hb R4.out.lt); have RX5 := Lib.hid hr; have L5 := Lib.hid (L4.out.mono intOk hb); have B5 := Lib.hid (B4.out.trans (hb.mono B4.out.size)); clear hr hb hz)
    | ((with_reducible refine store_row (o := ⟨none, _, _, _, _, _⟩) rfl _ (.tmp 2) _ rfl w4.heap.size (rvC 0 2 a4 n4 c4) ?_ ?_ 78 _ RX5.out ?_ ?_ ?_ ?_); (focus go_simp); (focus (first | (go_simp; done) | (go_simp; rfl))); (focus (exact LZS.out)); (focus rfl); (focus (exact rv_one _ _ _ _ _)); intro w6 hr hu; have RX6 := Lib.hid hr; have R6 := Lib.hid (R5.out.upd hu (Nat.ne_of_lt S4.out)); have L6 := Lib.hid (L5.out.young (fun h b off e => Nat.ne_of_lt (L4.out.older h b off e)) hu (fun x hx => L5.out.hfit x hx)); have VX6 := Lib.hid (show RvV w6 (.agg (rvC 0 2 a4 n4 c4).toArray) ⟨0, 2, [1]⟩ from ⟨a4, n4, c4, rfl, L6.out, S0.out.1, S0.out.2⟩); have V6 := Lib.hid (show RvV w6 (.agg (rvC 0 2 none 0 0).toArray) ⟨0, 2, []⟩ from ⟨none, 0, 0, rfl, Ls.nil _, S0.out.1, S0.out.2⟩); have B6 := Lib.hid (B5.out.trans (hu.below B4.out.size)); clear hr hu)
    | ((with_reducible refine load_row (o := ⟨some 10, _, _, _, _, _⟩) rfl _ _ rfl w1.heap.size ?_ _ (rvC 0 2 none 0 0) _ R6.out Try.underlying78 rfl ?_ ?_); (focus go_simp); (focus (exact LZS.out)))
    | (go_at_call 67; (with_reducible refine (HV.out _ ⟨0, 2, []⟩ w6 V6.out true ?_).mono ?_); (focus (decide)); rintro x w7 ⟨rfl, hb⟩; have RX7 := Lib.hid (RX6.out.below hb RX6.out.lt); have VX7 := Lib.hid (VX6.out.mono hb); have B7 := Lib.hid (B6.out.trans (hb.mono B6.out.size)); clear hb)
    | ((with_reducible refine load_rowg (o := ⟨some 17, _, _, _, _, _⟩) 6 true 16 rfl _ _ rfl w4.heap.size _ (rvC 0 2 a4 n4 c4) _ RX7.out Try.underlying78 rfl ?_ ?_ ?_ ?_ ?_); (focus rfl); (focus go_simp); (focus go_simp); (focus (exact LZS.out)))
    | (go_at_call 67; (with_reducible refine (HV.out _ ⟨0, 2, [1]⟩ w7 VX7.out false ?_).mono ?_); (focus (decide)); rintro x w8 ⟨rfl, hb⟩; have B8 := Lib.hid (B7.out.trans (hb.mono B7.out.size)); clear hb))
  go_ret
  exact ⟨by first | rfl | exact one (vbool (by simp)), B8.out⟩
set_option maxRecDepth 100000 in
set_option maxHeartbeats 16000000 in
theorem play21 (P : Nat → Prop) (v : Value) (r0 : Rv) (a : Option Addr) (n c : Nat) (D : List Do21) (w : World) (hv : RvP P w v r0) (hok : r0.ok = true) (hP : ∀ b, w.heap.size ≤ b → P b) (h : Ls do2E w a n c D) :
    Calls Try.prog 64 #[v, .slice a n c] w fun e w' => ∃ v', e = .returned v' ∧ RvP P w' v' (playR r0 (D.take 40)) ∧ Below w.heap.size w w' := by
  obtain ⟨a0, n0, c0, rfl, hl0, si1, si2, hp0⟩ := hv
  have H := Lib.hid h
  have HL := Lib.hid h.hlen
  have hm := h.hmax
  have hle := h.hle
  have L0 := Lib.hid hl0
  have HP0 := Lib.hid hp0
  have HW := Lib.hid hP
  have LZS := Lib.hid rv_size
  have LZ := Lib.hid rv_zero
  have DZS := Lib.hid do2_size
  have DZ := Lib.hid do2_zero
  have HOK := Lib.hid hok
  clear h hl0 hp0 hP hok si1 si2
  go_enter Try.func64, Try.ntmps64
  go_wp2_with (first
    | ((with_reducible refine box_row (o := ⟨some 2, _, _, _, _, _⟩) rfl _ _ rfl (rvC r0.ep r0.nx a0 n0 c0) rfl ?_); intro w1 hr hb hz; have R1 := Lib.hid hr; have B1 := Lib.hid hb; have L1 := Lib.hid (L0.out.mono intOk hb); have S1 := Lib.hid (show w.heap.size < w1.heap.size by omega); clear hr hb hz)
    | ((with_reducible refine alloc_row (o := ⟨some 4, _, _, _, _, _⟩) rfl _ rfl _ LZ.out ?_); intro w2 hr hb hz; have R42 := Lib.hid hr; have R22 := Lib.hid (R1.out.below hb R1.out.lt); have L2 := Lib.hid (L1.out.mono intOk hb); have B2 := Lib.hid (B1.out.trans (hb.mono B1.out.size)); clear hr hb hz))
  go_loopw [9] (fun i wr => ∃ (k : Nat) (r : Rv) (a' : Option Addr) (n' c' : Nat), i = .int .i64 (k : Int) ∧ k ≤ n ∧ k ≤ 40 ∧ Hid (playR r0 (D.take k) = r) ∧ Hid (Row wr w.heap.size 78 (rvC r.ep r.nx a' n' c')) ∧ Hid (Row wr w1.heap.size 78 (rvC 0 0 none 0 0)) ∧ Hid (Ls intE wr a' n' c' r.ids) ∧ Hid (0 < n' → ∀ b off, a' = some ⟨b, off, none⟩ → b ≠ w.heap.size ∧ b ≠ w1.heap.size) ∧ Hid (0 < n' → ∀ b off, a' = some ⟨b, off, none⟩ → P b) ∧ Hid (Below w.heap.size w wr)) (fun i _ => n - (intOf i).toNat)
  case atStart => exact ⟨0, r0, a0, n0, c0, rfl, Nat.zero_le _, Nat.zero_le _, Lib.hid rfl, R22, R42, L2, Lib.hid (fun h b off e => ⟨Nat.ne_of_lt (L0.out.older h b off e), Nat.ne_of_lt (Nat.lt_of_lt_of_le (L0.out.older h b off e) B1.out.size)⟩), HP0, B2⟩
  case round =>
    obtain ⟨k, r, a', n', c', rfl, hk, hk40, HN, R2, R4, LL, HNE, HPP, B⟩ := hrel
    have OK := Lib.hid (show r.ok = true by rw [← HN.out]; exact play_ok _ HOK.out)
    have SI := Lib.hid (rv_si OK.out)
    have HLEN := Lib.hid (rv_len OK.out)
    by_cases hlt : k < n
    · obtain ⟨b, off, x, rfl, hx, hcell, hfx⟩ := H.out.at do2Ok B.out k hlt
      have XC := Lib.hid hcell
      have HNX := Lib.hid (play_next r0 D k x hx)
      obtain ⟨op, xn⟩ := x
      have XN := Lib.hid (show SI64 xn from hfx.n)
      have g1 : (0 : Int) ≤ (k : Int) := by omega
      have g2 : (k : Int) < (n : Int) := by omega
      have hx' := hx
      clear hcell hfx
      by_cases h40 : 40 ≤ k
      · have g3 : (40 : Int) ≤ (k : Int) := by omega
        have HK := Lib.hid (show D.take 40 = D.take k by rw [show k = 40 by omega])
        go_wp2_with (first
          | ((with_reducible refine load_cells (o := ⟨some 13, _, _, _, _, _⟩) rfl _ _ rfl b (off + k * 2) ?_ (Do21.cells ⟨op, xn⟩) _ XC.out Try.underlying133 rfl ?_ ?_); (focus go_simp); (focus (exact DZS.out)))
          | ((with_reducible refine alloc_row (o := ⟨some 6, _, _, _, _, _⟩) rfl _ rfl _ DZ.out ?_); intro w5 hr hb hz; have RD5 := Lib.hid hr; have R25 := Lib.hid (R2.out.below hb R2.out.lt); have R45 := Lib.hid (R4.out.below hb R4.out.lt); have L5 := Lib.hid (LL.out.mono intOk hb); have B5 := Lib.hid (B.out.trans (hb.mono B.out.size)); clear hr hb hz)
          | ((with_reducible refine store_row (o := ⟨none, _, _, _, _, _⟩) rfl _ (.tmp 6) _ rfl wr.heap.size (Do21.cells ⟨op, xn⟩) ?_ ?_ 133 _ RD5.out ?_ ?_ ?_ ?_); (focus go_simp); (focus (first | (go_simp; done) | (go_simp; rfl))); (focus (exact DZS.out)); (focus rfl); (focus (exact do2Ok.one ⟨op, xn⟩)); intro w6 hr hu; have R26 := Lib.hid (R25.out.upd hu (Nat.ne_of_lt R2.out.lt)); have R46 := Lib.hid (R45.out.upd hu (Nat.ne_of_lt R4.out.lt)); have L6 := Lib.hid (L5.out.young (fun h b off e => Nat.ne_of_lt (LL.out.older h b off e)) hu (fun x hx => L5.out.hfit x hx)); have V6 := Lib.hid (show RvV w6 (.agg (rvC r.ep r.nx a' n' c').toArray) r from ⟨a', n', c', rfl, L6.out, SI.out.1, SI.out.2⟩); obtain ⟨e0, e1⟩ := hr.r2; have B6 := Lib.hid (B5.out.trans (hu.below B.out.size)); clear hr hu)
          | ((with_reducible refine load_row (o := ⟨some 45, _, _, _, _, _⟩) rfl _ _ rfl w.heap.size ?_ _ (rvC r.ep r.nx a' n' c') _ R26.out Try.underlying78 rfl ?_ ?_); (focus go_simp); (focus (exact LZS.out)))
          | ((with_reducible refine store_row (o := ⟨none, _, _, _, _, _⟩) rfl _ (.tmp 4) _ rfl w1.heap.size (rvC r.ep r.nx a' n' c') ?_ ?_ 78 _ R46.out ?_ ?_ ?_ ?_); (focus go_simp); (focus (first | (go_simp; done) | (go_simp; rfl))); (focus (exact LZS.out)); (focus rfl); (focus (exact rv_one _ _ _ _ _)); intro w9 hr hu; have R49 := Lib.hid hr; have L9 := Lib.hid (L6.out.young (fun h b off e => (HNE.out h b off e).2) hu (fun x hx => L6.out.hfit x hx)); have B9 := Lib.hid (B6.out.trans (hu.below B1.out.size)); clear hr hu))
        exact bodyPost_ret (results_cell_row rfl _ _ w1.heap.size 78 _ _ _ (by go_simp) R49.out Try.underlying78 rfl LZS.out) rfl ⟨_, rfl, ⟨a', n', c', by rw [HK.out, HN.out], by rw [HK.out, HN.out]; exact L9.out, by rw [HK.out, HN.out]; exact SI.out.1, by rw [HK.out, HN.out]; exact SI.out.2, HPP.out⟩, B9.out⟩
      · have g3 : ¬ ((40 : Int) ≤ (k : Int)) := by omega
        obtain ⟨r2, hr2⟩ : ∃ r2, Do21.on ⟨op, xn⟩ r = r2 := ⟨_, rfl⟩
        have HR2 := Lib.hid hr2
        have HN2 := Lib.hid (show playR r0 (D.take (k + 1)) = r2 by rw [HNX.out, HN.out]; exact hr2)
        clear hr2 hx hx'
        by_cases o0 : op = 0
        · subst o0
          have HM := Lib.hid (fun (v : Value) (r : Rv) (w : World) (h : RvV w v r) (hn : r.ids.length ≤ 100) => prmint v r w h hn)
          have HON := Lib.hid (show r.mint.1 = r2 by rw [← HR2.out]; first | rfl | (unfold Do21.on; rw [if_neg (show ¬ (op = 0 ∨ op = 1 ∨ op = 2) by omega), if_neg (show ¬ (op = 3 ∨ op = 4 ∨ op = 5) by omega)]))
          go_wp2_with (first
            | ((with_reducible refine load_cells (o := ⟨some 13, _, _, _, _, _⟩) rfl _ _ rfl b (off + k * 2) ?_ (Do21.cells ⟨0, xn⟩) _ XC.out Try.underlying133 rfl ?_ ?_); (focus go_simp); (focus (exact DZS.out)))
            | ((with_reducible refine alloc_row (o := ⟨some 6, _, _, _, _, _⟩) rfl _ rfl _ DZ.out ?_); intro w5 hr hb hz; have RD5 := Lib.hid hr; have R25 := Lib.hid (R2.out.below hb R2.out.lt); have R45 := Lib.hid (R4.out.below hb R4.out.lt); have L5 := Lib.hid (LL.out.mono intOk hb); have B5 := Lib.hid (B.out.trans (hb.mono B.out.size)); clear hr hb hz)
            | ((with_reducible refine store_row (o := ⟨none, _, _, _, _, _⟩) rfl _ (.tmp 6) _ rfl wr.heap.size (Do21.cells ⟨0, xn⟩) ?_ ?_ 133 _ RD5.out ?_ ?_ ?_ ?_); (focus go_simp); (focus (first | (go_simp; done) | (go_simp; rfl))); (focus (exact DZS.out)); (focus rfl); (focus (exact do2Ok.one ⟨0, xn⟩)); intro w6 hr hu; have R26 := Lib.hid (R25.out.upd hu (Nat.ne_of_lt R2.out.lt)); have R46 := Lib.hid (R45.out.upd hu (Nat.ne_of_lt R4.out.lt)); have L6 := Lib.hid (L5.out.young (fun h b off e => Nat.ne_of_lt (LL.out.older h b off e)) hu (fun x hx => L5.out.hfit x hx)); have V6 := Lib.hid (show RvV w6 (.agg (rvC r.ep r.nx a' n' c').toArray) r from ⟨a', n', c', rfl, L6.out, SI.out.1, SI.out.2⟩); obtain ⟨e0, e1⟩ := hr.r2; have B6 := Lib.hid (B5.out.trans (hu.below B.out.size)); clear hr hu)
            | ((with_reducible refine load_row (o := ⟨some 28, _, _, _, _, _⟩) rfl _ _ rfl w.heap.size ?_ _ (rvC r.ep r.nx a' n' c') _ R26.out Try.underlying78 rfl ?_ ?_); (focus go_simp); (focus (exact LZS.out)))
            | (go_at_call 69; (with_reducible refine (HM.out _ r w6 V6.out HLEN.out).mono ?_); rw [HON.out]; rintro e w7 ⟨v7, rfl, ⟨a7, n7, c7, rfl, hl, -, -, hp⟩, hb⟩; have L7 := Lib.hid hl; have HP7 := Lib.hid hp; have R27 := Lib.hid (R26.out.below hb R26.out.lt); have R47 := Lib.hid (R46.out.below hb R46.out.lt); have B7 := Lib.hid (B6.out.trans (hb.mono B6.out.size)); have S67 := Lib.hid B6.out.size; clear hl hp hb)
            | ((with_reducible refine store_row (o := ⟨none, _, _, _, _, _⟩) rfl _ (.tmp 2) _ rfl w.heap.size (rvC r2.ep r2.nx a7 n7 c7) ?_ ?_ 78 _ R27.out ?_ ?_ ?_ ?_); (focus go_simp); (focus (first | (go_simp; done) | (go_simp; rfl))); (focus (exact LZS.out)); (focus rfl); (focus (exact rv_one _ _ _ _ _)); intro w8 hr hu; have R28 := Lib.hid hr; have R48 := Lib.hid (R47.out.upd hu (Nat.ne_of_gt S1.out)); have L8 := Lib.hid (L7.out.young (fun h b off e => Nat.ne_of_gt (Nat.lt_of_lt_of_le R26.out.lt (HP7.out b off e))) hu (fun x hx => L7.out.hfit x hx)); have B8 := Lib.hid (B7.out.trans (hu.below (Nat.le_refl _))); have HP9 := Lib.hid (show ∀ b off, a7 = some ⟨b, off, none⟩ → w1.heap.size < b from fun b off e => Nat.lt_of_lt_of_le R46.out.lt (HP7.out b off e)); have HP8 := Lib.hid (show ∀ b off, a7 = some ⟨b, off, none⟩ → w.heap.size < b from fun b off e => Nat.lt_of_lt_of_le R26.out.lt (HP7.out b off e)); clear hr hu))
          skip
          go_roundw
          case rel => exact ⟨k + 1, r2, a7, n7, c7, vint (by omega), by omega, by omega, HN2, R28, R48, L8, Lib.hid (fun _ b off e => ⟨Nat.ne_of_gt (HP8.out b off e), Nat.ne_of_gt (HP9.out b off e)⟩), Lib.hid (fun _ b off e => HW.out b (Nat.le_of_lt (HP8.out b off e))), B8⟩
          case measure => simp [intOf]; omega
        by_cases o1 : op = 1
        · subst o1
          have HM := Lib.hid (fun (v : Value) (r : Rv) (w : World) (h : RvV w v r) (hn : r.ids.length ≤ 100) => prmint v r w h hn)
          have HON := Lib.hid (show r.mint.1 = r2 by rw [← HR2.out]; first | rfl | (unfold Do21.on; rw [if_neg (show ¬ (op = 0 ∨ op = 1 ∨ op = 2) by omega), if_neg (show ¬ (op = 3 ∨ op = 4 ∨ op = 5) by omega)]))
          go_wp2_with (first
            | ((with_reducible refine load_cells (o := ⟨some 13, _, _, _, _, _⟩) rfl _ _ rfl b (off + k * 2) ?_ (Do21.cells ⟨1, xn⟩) _ XC.out Try.underlying133 rfl ?_ ?_); (focus go_simp); (focus (exact DZS.out)))
            | ((with_reducible refine alloc_row (o := ⟨some 6, _, _, _, _, _⟩) rfl _ rfl _ DZ.out ?_); intro w5 hr hb hz; have RD5 := Lib.hid hr; have R25 := Lib.hid (R2.out.below hb R2.out.lt); have R45 := Lib.hid (R4.out.below hb R4.out.lt); have L5 := Lib.hid (LL.out.mono intOk hb); have B5 := Lib.hid (B.out.trans (hb.mono B.out.size)); clear hr hb hz)
            | ((with_reducible refine store_row (o := ⟨none, _, _, _, _, _⟩) rfl _ (.tmp 6) _ rfl wr.heap.size (Do21.cells ⟨1, xn⟩) ?_ ?_ 133 _ RD5.out ?_ ?_ ?_ ?_); (focus go_simp); (focus (first | (go_simp; done) | (go_simp; rfl))); (focus (exact DZS.out)); (focus rfl); (focus (exact do2Ok.one ⟨1, xn⟩)); intro w6 hr hu; have R26 := Lib.hid (R25.out.upd hu (Nat.ne_of_lt R2.out.lt)); have R46 := Lib.hid (R45.out.upd hu (Nat.ne_of_lt R4.out.lt)); have L6 := Lib.hid (L5.out.young (fun h b off e => Nat.ne_of_lt (LL.out.older h b off e)) hu (fun x hx => L5.out.hfit x hx)); have V6 := Lib.hid (show RvV w6 (.agg (rvC r.ep r.nx a' n' c').toArray) r from ⟨a', n', c', rfl, L6.out, SI.out.1, SI.out.2⟩); obtain ⟨e0, e1⟩ := hr.r2; have B6 := Lib.hid (B5.out.trans (hu.below B.out.size)); clear hr hu)
            | ((with_reducible refine load_row (o := ⟨some 28, _, _, _, _, _⟩) rfl _ _ rfl w.heap.size ?_ _ (rvC r.ep r.nx a' n' c') _ R26.out Try.underlying78 rfl ?_ ?_); (focus go_simp); (focus (exact LZS.out)))
            | (go_at_call 69; (with_reducible refine (HM.out _ r w6 V6.out HLEN.out).mono ?_); rw [HON.out]; rintro e w7 ⟨v7, rfl, ⟨a7, n7, c7, rfl, hl, -, -, hp⟩, hb⟩; have L7 := Lib.hid hl; have HP7 := Lib.hid hp; have R27 := Lib.hid (R26.out.below hb R26.out.lt); have R47 := Lib.hid (R46.out.below hb R46.out.lt); have B7 := Lib.hid (B6.out.trans (hb.mono B6.out.size)); have S67 := Lib.hid B6.out.size; clear hl hp hb)
            | ((with_reducible refine store_row (o := ⟨none, _, _, _, _, _⟩) rfl _ (.tmp 2) _ rfl w.heap.size (rvC r2.ep r2.nx a7 n7 c7) ?_ ?_ 78 _ R27.out ?_ ?_ ?_ ?_); (focus go_simp); (focus (first | (go_simp; done) | (go_simp; rfl))); (focus (exact LZS.out)); (focus rfl); (focus (exact rv_one _ _ _ _ _)); intro w8 hr hu; have R28 := Lib.hid hr; have R48 := Lib.hid (R47.out.upd hu (Nat.ne_of_gt S1.out)); have L8 := Lib.hid (L7.out.young (fun h b off e => Nat.ne_of_gt (Nat.lt_of_lt_of_le R26.out.lt (HP7.out b off e))) hu (fun x hx => L7.out.hfit x hx)); have B8 := Lib.hid (B7.out.trans (hu.below (Nat.le_refl _))); have HP9 := Lib.hid (show ∀ b off, a7 = some ⟨b, off, none⟩ → w1.heap.size < b from fun b off e => Nat.lt_of_lt_of_le R46.out.lt (HP7.out b off e)); have HP8 := Lib.hid (show ∀ b off, a7 = some ⟨b, off, none⟩ → w.heap.size < b from fun b off e => Nat.lt_of_lt_of_le R26.out.lt (HP7.out b off e)); clear hr hu))
          skip
          go_roundw
          case rel => exact ⟨k + 1, r2, a7, n7, c7, vint (by omega), by omega, by omega, HN2, R28, R48, L8, Lib.hid (fun _ b off e => ⟨Nat.ne_of_gt (HP8.out b off e), Nat.ne_of_gt (HP9.out b off e)⟩), Lib.hid (fun _ b off e => HW.out b (Nat.le_of_lt (HP8.out b off e))), B8⟩
          case measure => simp [intOf]; omega
        by_cases o2 : op = 2
        · subst o2
          have HM := Lib.hid (fun (v : Value) (r : Rv) (w : World) (h : RvV w v r) (hn : r.ids.length ≤ 100) => prmint v r w h hn)
          have HON := Lib.hid (show r.mint.1 = r2 by rw [← HR2.out]; first | rfl | (unfold Do21.on; rw [if_neg (show ¬ (op = 0 ∨ op = 1 ∨ op = 2) by omega), if_neg (show ¬ (op = 3 ∨ op = 4 ∨ op = 5) by omega)]))
          go_wp2_with (first
            | ((with_reducible refine load_cells (o := ⟨some 13, _, _, _, _, _⟩) rfl _ _ rfl b (off + k * 2) ?_ (Do21.cells ⟨2, xn⟩) _ XC.out Try.underlying133 rfl ?_ ?_); (focus go_simp); (focus (exact DZS.out)))
            | ((with_reducible refine alloc_row (o := ⟨some 6, _, _, _, _, _⟩) rfl _ rfl _ DZ.out ?_); intro w5 hr hb hz; have RD5 := Lib.hid hr; have R25 := Lib.hid (R2.out.below hb R2.out.lt); have R45 := Lib.hid (R4.out.below hb R4.out.lt); have L5 := Lib.hid (LL.out.mono intOk hb); have B5 := Lib.hid (B.out.trans (hb.mono B.out.size)); clear hr hb hz)
            | ((with_reducible refine store_row (o := ⟨none, _, _, _, _, _⟩) rfl _ (.tmp 6) _ rfl wr.heap.size (Do21.cells ⟨2, xn⟩) ?_ ?_ 133 _ RD5.out ?_ ?_ ?_ ?_); (focus go_simp); (focus (first | (go_simp; done) | (go_simp; rfl))); (focus (exact DZS.out)); (focus rfl); (focus (exact do2Ok.one ⟨2, xn⟩)); intro w6 hr hu; have R26 := Lib.hid (R25.out.upd hu (Nat.ne_of_lt R2.out.lt)); have R46 := Lib.hid (R45.out.upd hu (Nat.ne_of_lt R4.out.lt)); have L6 := Lib.hid (L5.out.young (fun h b off e => Nat.ne_of_lt (LL.out.older h b off e)) hu (fun x hx => L5.out.hfit x hx)); have V6 := Lib.hid (show RvV w6 (.agg (rvC r.ep r.nx a' n' c').toArray) r from ⟨a', n', c', rfl, L6.out, SI.out.1, SI.out.2⟩); obtain ⟨e0, e1⟩ := hr.r2; have B6 := Lib.hid (B5.out.trans (hu.below B.out.size)); clear hr hu)
            | ((with_reducible refine load_row (o := ⟨some 28, _, _, _, _, _⟩) rfl _ _ rfl w.heap.size ?_ _ (rvC r.ep r.nx a' n' c') _ R26.out Try.underlying78 rfl ?_ ?_); (focus go_simp); (focus (exact LZS.out)))
            | (go_at_call 69; (with_reducible refine (HM.out _ r w6 V6.out HLEN.out).mono ?_); rw [HON.out]; rintro e w7 ⟨v7, rfl, ⟨a7, n7, c7, rfl, hl, -, -, hp⟩, hb⟩; have L7 := Lib.hid hl; have HP7 := Lib.hid hp; have R27 := Lib.hid (R26.out.below hb R26.out.lt); have R47 := Lib.hid (R46.out.below hb R46.out.lt); have B7 := Lib.hid (B6.out.trans (hb.mono B6.out.size)); have S67 := Lib.hid B6.out.size; clear hl hp hb)
            | ((with_reducible refine store_row (o := ⟨none, _, _, _, _, _⟩) rfl _ (.tmp 2) _ rfl w.heap.size (rvC r2.ep r2.nx a7 n7 c7) ?_ ?_ 78 _ R27.out ?_ ?_ ?_ ?_); (focus go_simp); (focus (first | (go_simp; done) | (go_simp; rfl))); (focus (exact LZS.out)); (focus rfl); (focus (exact rv_one _ _ _ _ _)); intro w8 hr hu; have R28 := Lib.hid hr; have R48 := Lib.hid (R47.out.upd hu (Nat.ne_of_gt S1.out)); have L8 := Lib.hid (L7.out.young (fun h b off e => Nat.ne_of_gt (Nat.lt_of_lt_of_le R26.out.lt (HP7.out b off e))) hu (fun x hx => L7.out.hfit x hx)); have B8 := Lib.hid (B7.out.trans (hu.below (Nat.le_refl _))); have HP9 := Lib.hid (show ∀ b off, a7 = some ⟨b, off, none⟩ → w1.heap.size < b from fun b off e => Nat.lt_of_lt_of_le R46.out.lt (HP7.out b off e)); have HP8 := Lib.hid (show ∀ b off, a7 = some ⟨b, off, none⟩ → w.heap.size < b from fun b off e => Nat.lt_of_lt_of_le R26.out.lt (HP7.out b off e)); clear hr hu))
          skip
          go_roundw
          case rel => exact ⟨k + 1, r2, a7, n7, c7, vint (by omega), by omega, by omega, HN2, R28, R48, L8, Lib.hid (fun _ b off e => ⟨Nat.ne_of_gt (HP8.out b off e), Nat.ne_of_gt (HP9.out b off e)⟩), Lib.hid (fun _ b off e => HW.out b (Nat.le_of_lt (HP8.out b off e))), B8⟩
          case measure => simp [intOf]; omega
        by_cases o3 : op = 3
        · subst o3
          have HM := Lib.hid (fun (v : Value) (r : Rv) (id : Int) (w : World) (h : RvV w v r) (hid : SI64 id) (hn : r.ids.length ≤ 100) => prrevoke v r id w h hid hn)
          have HON := Lib.hid (show (r.revoke xn).1 = r2 by rw [← HR2.out]; first | rfl | (unfold Do21.on; rw [if_neg (show ¬ (op = 0 ∨ op = 1 ∨ op = 2) by omega), if_neg (show ¬ (op = 3 ∨ op = 4 ∨ op = 5) by omega)]))
          go_wp2_with (first
            | ((with_reducible refine load_cells (o := ⟨some 13, _, _, _, _, _⟩) rfl _ _ rfl b (off + k * 2) ?_ (Do21.cells ⟨3, xn⟩) _ XC.out Try.underlying133 rfl ?_ ?_); (focus go_simp); (focus (exact DZS.out)))
            | ((with_reducible refine alloc_row (o := ⟨some 6, _, _, _, _, _⟩) rfl _ rfl _ DZ.out ?_); intro w5 hr hb hz; have RD5 := Lib.hid hr; have R25 := Lib.hid (R2.out.below hb R2.out.lt); have R45 := Lib.hid (R4.out.below hb R4.out.lt); have L5 := Lib.hid (LL.out.mono intOk hb); have B5 := Lib.hid (B.out.trans (hb.mono B.out.size)); clear hr hb hz)
            | ((with_reducible refine store_row (o := ⟨none, _, _, _, _, _⟩) rfl _ (.tmp 6) _ rfl wr.heap.size (Do21.cells ⟨3, xn⟩) ?_ ?_ 133 _ RD5.out ?_ ?_ ?_ ?_); (focus go_simp); (focus (first | (go_simp; done) | (go_simp; rfl))); (focus (exact DZS.out)); (focus rfl); (focus (exact do2Ok.one ⟨3, xn⟩)); intro w6 hr hu; have R26 := Lib.hid (R25.out.upd hu (Nat.ne_of_lt R2.out.lt)); have R46 := Lib.hid (R45.out.upd hu (Nat.ne_of_lt R4.out.lt)); have L6 := Lib.hid (L5.out.young (fun h b off e => Nat.ne_of_lt (LL.out.older h b off e)) hu (fun x hx => L5.out.hfit x hx)); have V6 := Lib.hid (show RvV w6 (.agg (rvC r.ep r.nx a' n' c').toArray) r from ⟨a', n', c', rfl, L6.out, SI.out.1, SI.out.2⟩); obtain ⟨e0, e1⟩ := hr.r2; have B6 := Lib.hid (B5.out.trans (hu.below B.out.size)); clear hr hu)
            | ((with_reducible refine load_row (o := ⟨some 38, _, _, _, _, _⟩) rfl _ _ rfl w.heap.size ?_ _ (rvC r.ep r.nx a' n' c') _ R26.out Try.underlying78 rfl ?_ ?_); (focus go_simp); (focus (exact LZS.out)))
            | (go_at_call 66; (with_reducible refine (HM.out _ r _ w6 V6.out XN.out HLEN.out).mono ?_); rw [HON.out]; rintro e w7 ⟨v7, rfl, ⟨a7, n7, c7, rfl, hl, -, -, hp⟩, hb⟩; have L7 := Lib.hid hl; have HP7 := Lib.hid hp; have R27 := Lib.hid (R26.out.below hb R26.out.lt); have R47 := Lib.hid (R46.out.below hb R46.out.lt); have B7 := Lib.hid (B6.out.trans (hb.mono B6.out.size)); have S67 := Lib.hid B6.out.size; clear hl hp hb)
            | ((with_reducible refine store_row (o := ⟨none, _, _, _, _, _⟩) rfl _ (.tmp 2) _ rfl w.heap.size (rvC r2.ep r2.nx a7 n7 c7) ?_ ?_ 78 _ R27.out ?_ ?_ ?_ ?_); (focus go_simp); (focus (first | (go_simp; done) | (go_simp; rfl))); (focus (exact LZS.out)); (focus rfl); (focus (exact rv_one _ _ _ _ _)); intro w8 hr hu; have R28 := Lib.hid hr; have R48 := Lib.hid (R47.out.upd hu (Nat.ne_of_gt S1.out)); have L8 := Lib.hid (L7.out.young (fun h b off e => Nat.ne_of_gt (Nat.lt_of_lt_of_le R26.out.lt (HP7.out b off e))) hu (fun x hx => L7.out.hfit x hx)); have B8 := Lib.hid (B7.out.trans (hu.below (Nat.le_refl _))); have HP9 := Lib.hid (show ∀ b off, a7 = some ⟨b, off, none⟩ → w1.heap.size < b from fun b off e => Nat.lt_of_lt_of_le R46.out.lt (HP7.out b off e)); have HP8 := Lib.hid (show ∀ b off, a7 = some ⟨b, off, none⟩ → w.heap.size < b from fun b off e => Nat.lt_of_lt_of_le R26.out.lt (HP7.out b off e)); clear hr hu))
          skip
          go_roundw
          case rel => exact ⟨k + 1, r2, a7, n7, c7, vint (by omega), by omega, by omega, HN2, R28, R48, L8, Lib.hid (fun _ b off e => ⟨Nat.ne_of_gt (HP8.out b off e), Nat.ne_of_gt (HP9.out b off e)⟩), Lib.hid (fun _ b off e => HW.out b (Nat.le_of_lt (HP8.out b off e))), B8⟩
          case measure => simp [intOf]; omega
        by_cases o4 : op = 4
        · subst o4
          have HM := Lib.hid (fun (v : Value) (r : Rv) (id : Int) (w : World) (h : RvV w v r) (hid : SI64 id) (hn : r.ids.length ≤ 100) => prrevoke v r id w h hid hn)
          have HON := Lib.hid (show (r.revoke xn).1 = r2 by rw [← HR2.out]; first | rfl | (unfold Do21.on; rw [if_neg (show ¬ (op = 0 ∨ op = 1 ∨ op = 2) by omega), if_neg (show ¬ (op = 3 ∨ op = 4 ∨ op = 5) by omega)]))
          go_wp2_with (first
            | ((with_reducible refine load_cells (o := ⟨some 13, _, _, _, _, _⟩) rfl _ _ rfl b (off + k * 2) ?_ (Do21.cells ⟨4, xn⟩) _ XC.out Try.underlying133 rfl ?_ ?_); (focus go_simp); (focus (exact DZS.out)))
            | ((with_reducible refine alloc_row (o := ⟨some 6, _, _, _, _, _⟩) rfl _ rfl _ DZ.out ?_); intro w5 hr hb hz; have RD5 := Lib.hid hr; have R25 := Lib.hid (R2.out.below hb R2.out.lt); have R45 := Lib.hid (R4.out.below hb R4.out.lt); have L5 := Lib.hid (LL.out.mono intOk hb); have B5 := Lib.hid (B.out.trans (hb.mono B.out.size)); clear hr hb hz)
            | ((with_reducible refine store_row (o := ⟨none, _, _, _, _, _⟩) rfl _ (.tmp 6) _ rfl wr.heap.size (Do21.cells ⟨4, xn⟩) ?_ ?_ 133 _ RD5.out ?_ ?_ ?_ ?_); (focus go_simp); (focus (first | (go_simp; done) | (go_simp; rfl))); (focus (exact DZS.out)); (focus rfl); (focus (exact do2Ok.one ⟨4, xn⟩)); intro w6 hr hu; have R26 := Lib.hid (R25.out.upd hu (Nat.ne_of_lt R2.out.lt)); have R46 := Lib.hid (R45.out.upd hu (Nat.ne_of_lt R4.out.lt)); have L6 := Lib.hid (L5.out.young (fun h b off e => Nat.ne_of_lt (LL.out.older h b off e)) hu (fun x hx => L5.out.hfit x hx)); have V6 := Lib.hid (show RvV w6 (.agg (rvC r.ep r.nx a' n' c').toArray) r from ⟨a', n', c', rfl, L6.out, SI.out.1, SI.out.2⟩); obtain ⟨e0, e1⟩ := hr.r2; have B6 := Lib.hid (B5.out.trans (hu.below B.out.size)); clear hr hu)
            | ((with_reducible refine load_row (o := ⟨some 38, _, _, _, _, _⟩) rfl _ _ rfl w.heap.size ?_ _ (rvC r.ep r.nx a' n' c') _ R26.out Try.underlying78 rfl ?_ ?_); (focus go_simp); (focus (exact LZS.out)))
            | (go_at_call 66; (with_reducible refine (HM.out _ r _ w6 V6.out XN.out HLEN.out).mono ?_); rw [HON.out]; rintro e w7 ⟨v7, rfl, ⟨a7, n7, c7, rfl, hl, -, -, hp⟩, hb⟩; have L7 := Lib.hid hl; have HP7 := Lib.hid hp; have R27 := Lib.hid (R26.out.below hb R26.out.lt); have R47 := Lib.hid (R46.out.below hb R46.out.lt); have B7 := Lib.hid (B6.out.trans (hb.mono B6.out.size)); have S67 := Lib.hid B6.out.size; clear hl hp hb)
            | ((with_reducible refine store_row (o := ⟨none, _, _, _, _, _⟩) rfl _ (.tmp 2) _ rfl w.heap.size (rvC r2.ep r2.nx a7 n7 c7) ?_ ?_ 78 _ R27.out ?_ ?_ ?_ ?_); (focus go_simp); (focus (first | (go_simp; done) | (go_simp; rfl))); (focus (exact LZS.out)); (focus rfl); (focus (exact rv_one _ _ _ _ _)); intro w8 hr hu; have R28 := Lib.hid hr; have R48 := Lib.hid (R47.out.upd hu (Nat.ne_of_gt S1.out)); have L8 := Lib.hid (L7.out.young (fun h b off e => Nat.ne_of_gt (Nat.lt_of_lt_of_le R26.out.lt (HP7.out b off e))) hu (fun x hx => L7.out.hfit x hx)); have B8 := Lib.hid (B7.out.trans (hu.below (Nat.le_refl _))); have HP9 := Lib.hid (show ∀ b off, a7 = some ⟨b, off, none⟩ → w1.heap.size < b from fun b off e => Nat.lt_of_lt_of_le R46.out.lt (HP7.out b off e)); have HP8 := Lib.hid (show ∀ b off, a7 = some ⟨b, off, none⟩ → w.heap.size < b from fun b off e => Nat.lt_of_lt_of_le R26.out.lt (HP7.out b off e)); clear hr hu))
          skip
          go_roundw
          case rel => exact ⟨k + 1, r2, a7, n7, c7, vint (by omega), by omega, by omega, HN2, R28, R48, L8, Lib.hid (fun _ b off e => ⟨Nat.ne_of_gt (HP8.out b off e), Nat.ne_of_gt (HP9.out b off e)⟩), Lib.hid (fun _ b off e => HW.out b (Nat.le_of_lt (HP8.out b off e))), B8⟩
          case measure => simp [intOf]; omega
        by_cases o5 : op = 5
        · subst o5
          have HM := Lib.hid (fun (v : Value) (r : Rv) (id : Int) (w : World) (h : RvV w v r) (hid : SI64 id) (hn : r.ids.length ≤ 100) => prrevoke v r id w h hid hn)
          have HON := Lib.hid (show (r.revoke xn).1 = r2 by rw [← HR2.out]; first | rfl | (unfold Do21.on; rw [if_neg (show ¬ (op = 0 ∨ op = 1 ∨ op = 2) by omega), if_neg (show ¬ (op = 3 ∨ op = 4 ∨ op = 5) by omega)]))
          go_wp2_with (first
            | ((with_reducible refine load_cells (o := ⟨some 13, _, _, _, _, _⟩) rfl _ _ rfl b (off + k * 2) ?_ (Do21.cells ⟨5, xn⟩) _ XC.out Try.underlying133 rfl ?_ ?_); (focus go_simp); (focus (exact DZS.out)))
            | ((with_reducible refine alloc_row (o := ⟨some 6, _, _, _, _, _⟩) rfl _ rfl _ DZ.out ?_); intro w5 hr hb hz; have RD5 := Lib.hid hr; have R25 := Lib.hid (R2.out.below hb R2.out.lt); have R45 := Lib.hid (R4.out.below hb R4.out.lt); have L5 := Lib.hid (LL.out.mono intOk hb); have B5 := Lib.hid (B.out.trans (hb.mono B.out.size)); clear hr hb hz)
            | ((with_reducible refine store_row (o := ⟨none, _, _, _, _, _⟩) rfl _ (.tmp 6) _ rfl wr.heap.size (Do21.cells ⟨5, xn⟩) ?_ ?_ 133 _ RD5.out ?_ ?_ ?_ ?_); (focus go_simp); (focus (first | (go_simp; done) | (go_simp; rfl))); (focus (exact DZS.out)); (focus rfl); (focus (exact do2Ok.one ⟨5, xn⟩)); intro w6 hr hu; have R26 := Lib.hid (R25.out.upd hu (Nat.ne_of_lt R2.out.lt)); have R46 := Lib.hid (R45.out.upd hu (Nat.ne_of_lt R4.out.lt)); have L6 := Lib.hid (L5.out.young (fun h b off e => Nat.ne_of_lt (LL.out.older h b off e)) hu (fun x hx => L5.out.hfit x hx)); have V6 := Lib.hid (show RvV w6 (.agg (rvC r.ep r.nx a' n' c').toArray) r from ⟨a', n', c', rfl, L6.out, SI.out.1, SI.out.2⟩); obtain ⟨e0, e1⟩ := hr.r2; have B6 := Lib.hid (B5.out.trans (hu.below B.out.size)); clear hr hu)
            | ((with_reducible refine load_row (o := ⟨some 38, _, _, _, _, _⟩) rfl _ _ rfl w.heap.size ?_ _ (rvC r.ep r.nx a' n' c') _ R26.out Try.underlying78 rfl ?_ ?_); (focus go_simp); (focus (exact LZS.out)))
            | (go_at_call 66; (with_reducible refine (HM.out _ r _ w6 V6.out XN.out HLEN.out).mono ?_); rw [HON.out]; rintro e w7 ⟨v7, rfl, ⟨a7, n7, c7, rfl, hl, -, -, hp⟩, hb⟩; have L7 := Lib.hid hl; have HP7 := Lib.hid hp; have R27 := Lib.hid (R26.out.below hb R26.out.lt); have R47 := Lib.hid (R46.out.below hb R46.out.lt); have B7 := Lib.hid (B6.out.trans (hb.mono B6.out.size)); have S67 := Lib.hid B6.out.size; clear hl hp hb)
            | ((with_reducible refine store_row (o := ⟨none, _, _, _, _, _⟩) rfl _ (.tmp 2) _ rfl w.heap.size (rvC r2.ep r2.nx a7 n7 c7) ?_ ?_ 78 _ R27.out ?_ ?_ ?_ ?_); (focus go_simp); (focus (first | (go_simp; done) | (go_simp; rfl))); (focus (exact LZS.out)); (focus rfl); (focus (exact rv_one _ _ _ _ _)); intro w8 hr hu; have R28 := Lib.hid hr; have R48 := Lib.hid (R47.out.upd hu (Nat.ne_of_gt S1.out)); have L8 := Lib.hid (L7.out.young (fun h b off e => Nat.ne_of_gt (Nat.lt_of_lt_of_le R26.out.lt (HP7.out b off e))) hu (fun x hx => L7.out.hfit x hx)); have B8 := Lib.hid (B7.out.trans (hu.below (Nat.le_refl _))); have HP9 := Lib.hid (show ∀ b off, a7 = some ⟨b, off, none⟩ → w1.heap.size < b from fun b off e => Nat.lt_of_lt_of_le R46.out.lt (HP7.out b off e)); have HP8 := Lib.hid (show ∀ b off, a7 = some ⟨b, off, none⟩ → w.heap.size < b from fun b off e => Nat.lt_of_lt_of_le R26.out.lt (HP7.out b off e)); clear hr hu))
          skip
          go_roundw
          case rel => exact ⟨k + 1, r2, a7, n7, c7, vint (by omega), by omega, by omega, HN2, R28, R48, L8, Lib.hid (fun _ b off e => ⟨Nat.ne_of_gt (HP8.out b off e), Nat.ne_of_gt (HP9.out b off e)⟩), Lib.hid (fun _ b off e => HW.out b (Nat.le_of_lt (HP8.out b off e))), B8⟩
          case measure => simp [intOf]; omega
        have q0 : (op == 0) = false := by simpa using o0
        have q1 : (op == 1) = false := by simpa using o1
        have q2 : (op == 2) = false := by simpa using o2
        have q3 : (op == 3) = false := by simpa using o3
        have q4 : (op == 4) = false := by simpa using o4
        have q5 : (op == 5) = false := by simpa using o5
        have HM := Lib.hid (fun (v : Value) (r : Rv) (w : World) (h : RvV w v r) (hn : r.ids.length ≤ 100) => prbump v r w h hn)
        have HON := Lib.hid (show r.bump.1 = r2 by rw [← HR2.out]; first | rfl | (unfold Do21.on; rw [if_neg (show ¬ (op = 0 ∨ op = 1 ∨ op = 2) by omega), if_neg (show ¬ (op = 3 ∨ op = 4 ∨ op = 5) by omega)]))
        go_wp2_with (first
          | ((with_reducible refine load_cells (o := ⟨some 13, _, _, _, _, _⟩) rfl _ _ rfl b (off + k * 2) ?_ (Do21.cells ⟨op, xn⟩) _ XC.out Try.underlying133 rfl ?_ ?_); (focus go_simp); (focus (exact DZS.out)))
          | ((with_reducible refine alloc_row (o := ⟨some 6, _, _, _, _, _⟩) rfl _ rfl _ DZ.out ?_); intro w5 hr hb hz; have RD5 := Lib.hid hr; have R25 := Lib.hid (R2.out.below hb R2.out.lt); have R45 := Lib.hid (R4.out.below hb R4.out.lt); have L5 := Lib.hid (LL.out.mono intOk hb); have B5 := Lib.hid (B.out.trans (hb.mono B.out.size)); clear hr hb hz)
          | ((with_reducible refine store_row (o := ⟨none, _, _, _, _, _⟩) rfl _ (.tmp 6) _ rfl wr.heap.size (Do21.cells ⟨op, xn⟩) ?_ ?_ 133 _ RD5.out ?_ ?_ ?_ ?_); (focus go_simp); (focus (first | (go_simp; done) | (go_simp; rfl))); (focus (exact DZS.out)); (focus rfl); (focus (exact do2Ok.one ⟨op, xn⟩)); intro w6 hr hu; have R26 := Lib.hid (R25.out.upd hu (Nat.ne_of_lt R2.out.lt)); have R46 := Lib.hid (R45.out.upd hu (Nat.ne_of_lt R4.out.lt)); have L6 := Lib.hid (L5.out.young (fun h b off e => Nat.ne_of_lt (LL.out.older h b off e)) hu (fun x hx => L5.out.hfit x hx)); have V6 := Lib.hid (show RvV w6 (.agg (rvC r.ep r.nx a' n' c').toArray) r from ⟨a', n', c', rfl, L6.out, SI.out.1, SI.out.2⟩); obtain ⟨e0, e1⟩ := hr.r2; have B6 := Lib.hid (B5.out.trans (hu.below B.out.size)); clear hr hu)
          | ((with_reducible refine load_row (o := ⟨some 19, _, _, _, _, _⟩) rfl _ _ rfl w.heap.size ?_ _ (rvC r.ep r.nx a' n' c') _ R26.out Try.underlying78 rfl ?_ ?_); (focus go_simp); (focus (exact LZS.out)))
          | (go_at_call 122; (with_reducible refine (HM.out _ r w6 V6.out HLEN.out).mono ?_); rw [HON.out]; rintro e w7 ⟨v7, rfl, ⟨a7, n7, c7, rfl, hl, -, -, hp⟩, hb⟩; have L7 := Lib.hid hl; have HP7 := Lib.hid hp; have R27 := Lib.hid (R26.out.below hb R26.out.lt); have R47 := Lib.hid (R46.out.below hb R46.out.lt); have B7 := Lib.hid (B6.out.trans (hb.mono B6.out.size)); have S67 := Lib.hid B6.out.size; clear hl hp hb)
          | ((with_reducible refine store_row (o := ⟨none, _, _, _, _, _⟩) rfl _ (.tmp 2) _ rfl w.heap.size (rvC r2.ep r2.nx a7 n7 c7) ?_ ?_ 78 _ R27.out ?_ ?_ ?_ ?_); (focus go_simp); (focus (first | (go_simp; done) | (go_simp; rfl))); (focus (exact LZS.out)); (focus rfl); (focus (exact rv_one _ _ _ _ _)); intro w8 hr hu; have R28 := Lib.hid hr; have R48 := Lib.hid (R47.out.upd hu (Nat.ne_of_gt S1.out)); have L8 := Lib.hid (L7.out.young (fun h b off e => Nat.ne_of_gt (Nat.lt_of_lt_of_le R26.out.lt (HP7.out b off e))) hu (fun x hx => L7.out.hfit x hx)); have B8 := Lib.hid (B7.out.trans (hu.below (Nat.le_refl _))); have HP9 := Lib.hid (show ∀ b off, a7 = some ⟨b, off, none⟩ → w1.heap.size < b from fun b off e => Nat.lt_of_lt_of_le R46.out.lt (HP7.out b off e)); have HP8 := Lib.hid (show ∀ b off, a7 = some ⟨b, off, none⟩ → w.heap.size < b from fun b off e => Nat.lt_of_lt_of_le R26.out.lt (HP7.out b off e)); clear hr hu))
        skip
        go_roundw
        case rel => exact ⟨k + 1, r2, a7, n7, c7, vint (by omega), by omega, by omega, HN2, R28, R48, L8, Lib.hid (fun _ b off e => ⟨Nat.ne_of_gt (HP8.out b off e), Nat.ne_of_gt (HP9.out b off e)⟩), Lib.hid (fun _ b off e => HW.out b (Nat.le_of_lt (HP8.out b off e))), B8⟩
        case measure => simp [intOf]; omega
    · obtain rfl : n = k := by omega
      go_wp2_with (first
        | ((with_reducible refine load_row (o := ⟨some 45, _, _, _, _, _⟩) rfl _ _ rfl w.heap.size ?_ _ (rvC r.ep r.nx a' n' c') _ R2.out Try.underlying78 rfl ?_ ?_); (focus go_simp); (focus (exact LZS.out)))
        | ((with_reducible refine store_row (o := ⟨none, _, _, _, _, _⟩) rfl _ (.tmp 4) _ rfl w1.heap.size (rvC r.ep r.nx a' n' c') ?_ ?_ 78 _ R4.out ?_ ?_ ?_ ?_); (focus go_simp); (focus (first | (go_simp; done) | (go_simp; rfl))); (focus (exact LZS.out)); (focus rfl); (focus (exact rv_one _ _ _ _ _)); intro w9 hr hu; have R49 := Lib.hid hr; have L9 := Lib.hid (LL.out.young (fun h b off e => (HNE.out h b off e).2) hu (fun x hx => LL.out.hfit x hx)); have B9 := Lib.hid (B.out.trans (hu.below B1.out.size)); clear hr hu))
      have HT := Lib.hid (show D.take 40 = D.take n by rw [List.take_of_length_le (by rw [HL.out]; exact hk40), List.take_of_length_le (by rw [HL.out]; exact Nat.le_refl _)])
      exact bodyPost_ret (results_cell_row rfl _ _ w1.heap.size 78 _ _ _ (by go_simp) R49.out Try.underlying78 rfl LZS.out) rfl ⟨_, rfl, ⟨a', n', c', by rw [HT.out, HN.out], by rw [HT.out, HN.out]; exact L9.out, by rw [HT.out, HN.out]; exact SI.out.1, by rw [HT.out, HN.out]; exact SI.out.2, HPP.out⟩, B9.out⟩
end Go.Proofs.Ytiopcojkdglapaa.W
