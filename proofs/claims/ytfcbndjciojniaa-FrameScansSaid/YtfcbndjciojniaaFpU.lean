/- LAYER 10 (frame): the program's iterator of frames, by its contract. -/
import Derived.Test.YtfcbndjciojniaaFpT
import Derived.Test.YtfcbndjciojniaaRgf
set_option linter.unusedSimpArgs false
set_option linter.unusedVariables false
namespace Go.Proofs.Ytfcbndjciojniaa.W
open Go Go.ChangeShapes Go.WideShapes Go.ChangeAt Go.RowKit Go.Shelf
open Go.Proofs.Ytfcbndjciojniaa.P (enc dec)
attribute [local go_sem] Oper.semAt_some

/-- what a round hands: a slice, its bytes, how many bytes the frame has -/
abbrev Rx := Sv × List UInt8 × Nat
def encX (x : Rx) : Array Value := #[.slice x.1.1 x.1.2.1 x.1.2.2, .int .i64 (x.2.2 : Int)]
def NwX (s : List (List UInt8) × Nat) (x : Rx) (A0 A : World) : Prop := Rd A x.1.1 x.1.2.1 x.1.2.2 x.2.1 ∧ (∀ b off, x.1.1 = some ⟨b, off, none⟩ → A0.heap.size ≤ b ∧ b < A.heap.size) ∧ s.1.length ≤ 1000000 ∧ s.2 + x.2.2 ≤ 1000000
def nextX (s : List (List UInt8) × Nat) (x : Rx) : List (List UInt8) × Nat := (s.1 ++ [x.2.1], s.2 + x.2.2)
/-- how many bytes are left in the iterator's cell -/
def leftC (b1 : Nat) (W : World) : Nat := match W.cell? ⟨b1, 0, none⟩ with | some (.slice _ n _) => n | _ => 0

theorem Rd.bel {w w' : World} {a : Option Addr} {len cap n0 : Nat} {l : List UInt8} (h : Rd w a len cap l) (hb : Below n0 w w') (hn : len ≠ 0 → ∀ b off, a = some ⟨b, off, none⟩ → b < n0) : Rd w' a len cap l := by
  refine ⟨h.hlen, h.hle, h.hmax, h.hnil, ?_⟩
  rcases h.hcells with h0 | ⟨b, off, e, hlt, hc⟩
  · exact .inl h0
  · by_cases h0 : len = 0
    · exact .inl h0
    · exact .inr ⟨b, off, e, Nat.lt_of_lt_of_le hlt hb.size, fun i hi => (World.cell?_of_block (hb.block b (hn h0 b off e))).trans (hc i hi)⟩
set_option maxRecDepth 100000 in
set_option maxHeartbeats 4000000 in
theorem fiter (a : Option Addr) (len cap : Nat) (b : List UInt8) (b1 n0 : Nat) (w : World) (hr : Rd w a len cap b) (hold : len ≠ 0 → ∀ c off, a = some ⟨c, off, none⟩ → c < n0) (hmax : len ≤ 1000000) (hn0 : n0 ≤ b1) (hb1 : Row w b1 30 [.slice a len cap]) :
    IterC Try.prog 8 77 b1 n0 #[.pointer (some ⟨b1, 0, none⟩)] encX NwX nextX ([], 0) (fun s => s = scanF b) w := by
  intro l J W hbw hl hJ1 hJ2 hY h0
  have HR := Lib.hid (hr.mono hbw)
  have HROW := Lib.hid (show Row W b1 30 [.slice a len cap] from hb1.below hbw hb1.lt)
  have HLEN := Lib.hid hr.hlen
  obtain ⟨XL, XN, hX⟩ : ∃ x y, scanF b = (x, y) := ⟨_, _, rfl⟩
  have hst : scanF b = ([] ++ (scanG b (len + 1) 0).1, (scanG b (len + 1) 0).2) := by rw [List.nil_append, scanF, hr.hlen]
  rw [hX] at hst ⊢
  have HST := Lib.hid hst
  have HJ1 := Lib.hid hJ1
  have HJ2 := Lib.hid hJ2
  have HY := Lib.hid hY
  have HJ0 := Lib.hid h0
  clear hr hb1 hX hst hJ1 hJ2 hY h0 hbw
  refine callsIn_of_wp Try.func77 rfl trivial ?_ rfl
  simp only [Try.ntmps77, List.size_toArray, List.length_cons, List.length_nil, Nat.reduceAdd, Nat.reduceSub, Array.replicate_succ, Array.replicate_zero, List.push_toArray, List.append_toArray, List.nil_append, List.cons_append]
  gi_wp2
  gi_loopw [3] (fun _ wr => ∃ (p f : Nat) (Ls : List (List UInt8)) (ra : Option Addr) (rc : Nat), p ≤ len ∧ len - p < f ∧ Ls.length ≤ p ∧ Hid ((XL, XN) = (Ls ++ (scanG b f p).1, (scanG b f p).2)) ∧ Hid (J (Ls, p) wr) ∧ Hid (Row wr b1 30 [.slice ra (len - p) rc]) ∧ Hid (Rd wr ra (len - p) rc (b.drop p)) ∧ Hid (len - p ≠ 0 → ∀ c off, ra = some ⟨c, off, none⟩ → c < n0)) (fun _ wr => leftC b1 wr)
  case atStart => exact ⟨0, len + 1, [], a, cap, Nat.zero_le _, by omega, Nat.le_refl _, HST, HJ0, HROW, HR, Lib.hid hold⟩
  case round =>
    obtain ⟨p, f, Ls, ra, rc, hp, hf, hLs, HE, HJ, HRW, HRD, HO⟩ := hrel
    obtain ⟨g, rfl⟩ : ∃ g, f = g + 1 := ⟨f - 1, by omega⟩
    obtain ⟨x, m, e, hn⟩ : ∃ x m e, nextF (b.drop p) = (x, m, e) := ⟨_, _, _, rfl⟩
    have HE1 := HE.out
    unfold scanG at HE1
    rw [hn] at HE1
    dsimp only at HE1
    have HN := Lib.hid hn
    have c0 := HRW.out.k0
    obtain ⟨rl, hrl⟩ : ∃ rl, len - p = rl := ⟨_, rfl⟩
    rw [hrl] at c0 HRD HO
    have hrm : rl ≤ 1000000 := by omega
    have HRL := Lib.hid hrl
    have hrc := HRD.out.hle
    by_cases he : e = 0
    · subst he
      have hok := next_ok hn
      rw [List.length_drop, HLEN.out, hrl] at hok
      rw [if_neg (by simp)] at HE1
      have HE2 := Lib.hid (show (XL, XN) = ((Ls ++ [x]) ++ (scanG b g (p + m)).1, (scanG b g (p + m)).2) by rw [HE1, List.append_assoc]; rfl)
      have HOK := Lib.hid hok
      obtain ⟨xl, hxl⟩ : ∃ xl, x.length = xl := ⟨_, rfl⟩
      have HXL := Lib.hid hxl
      clear hn HE hok HE1 hxl
      gi_wp2_with (refine ⟨trivial, ?_⟩; gi_at_call 33; refine (callsIn_wide.2 (fnext_any ra rl rc (b.drop p) wr HRD.out hrm x m 0 HN.out)).mono ?_; rintro y w1 ⟨v1, rfl, hf1, hb1⟩; obtain ⟨a1, c1, hv1, hr1⟩ := hf1.form' xl HXL.out; subst hv1; obtain ⟨fn, tmps, assign, body, hy, hR⟩ := HY.out (Ls, p) ((a1, xl, c1), x, m) wr w1 HJ.out hb1 ⟨hr1, hf1.new, by show Ls.length ≤ 1000000; omega, by have := HOK.out; have := HRL.out; show p + m ≤ 1000000; omega⟩; dsimp only [encX] at hy; have B1 := Lib.hid hb1; clear hf1 hb1 hr1)
      refine hR.mono ?_
      rintro e W3 ⟨rfl, hJ3, hk3⟩
      have hml : m ≤ rl := HOK.out.2
      have hmc : m ≤ rc := by omega
      have R3 : Hid (Row W3 b1 30 [.slice ra rl rc]) := Lib.hid (by have h := HRW.out.below B1.out HRW.out.lt; rw [HRL.out] at h; exact hk3.cell.trans h)
      have RD3 : Hid (Rd W3 ra rl rc (b.drop p)) := Lib.hid ((HRD.out.mono B1.out).bel hk3.bel HO.out)
      have J3 : Hid (J (Ls ++ [x], p + m) W3) := Lib.hid hJ3
      have c3 := R3.out.k0
      have f3 := R3.out.frozen 0
      clear hR hy hJ3 hk3 c0
      gi_wp2
      have hrr := RD3.out.rest m hml
      obtain ⟨ra', hra'⟩ : ∃ ra', (if rc = m then ra else ra.map (fun x => x.add m)) = ra' := ⟨_, rfl⟩
      rw [hra'] at hrr
      have hold' : rl - m ≠ 0 → ∀ c off, ra' = some ⟨c, off, none⟩ → c < n0 := by
        intro h0 c off e
        rw [← hra', if_neg (by omega)] at e
        obtain ⟨yb, yo, e1, -, -⟩ := RD3.out.hcells.resolve_left (by omega)
        have h1 := HO.out (by omega) yb yo e1
        rw [e1, Option.map_some, Go.WideShapes.add_plain] at e
        simp only [Option.some.injEq, Addr.mk.injEq] at e
        rw [← e.1]; exact h1
      have R4 : Hid (Row (W3.setCell ⟨b1, 0, none⟩ (.slice ra' (rl - m) (rc - m))) b1 30 [.slice ra' (rl - m) (rc - m)]) := Lib.hid (R3.out.setV 0 _)
      have e0 : leftC b1 wr = rl := by unfold leftC; rw [HRW.out.k0]; exact HRL.out
      have e4 : leftC b1 (W3.setCell ⟨b1, 0, none⟩ (.slice ra' (rl - m) (rc - m))) = rl - m := by unfold leftC; rw [R4.out.k0]
      have hpm : len - (p + m) = rl - m := by rw [← HRL.out]; omega
      go_roundw
      all_goals rw [hra']
      case rel =>
        refine ⟨p + m, g, Ls ++ [x], ra', rc - m, by have := HOK.out; have := HRL.out; omega, by have := HOK.out; have := HRL.out; omega, by have := HOK.out; simp; omega, HE2, Lib.hid (HJ2.out _ _ _ J3.out), ?_, ?_, ?_⟩
        · rw [hpm]; exact R4
        · rw [hpm]
          rw [List.drop_drop] at hrr
          refine Lib.hid (hrr.upd' (Upd.setCell _ _ _ _) ?_)
          by_cases h0 : rl - m = 0
          · exact .inl h0
          · exact .inr fun c off e => by have := hold' h0 c off e; omega
        · rw [hpm]; exact Lib.hid hold'
      case measure => rw [e0, e4]; have := HOK.out; omega
    · rw [if_pos he] at HE1
      simp only [Prod.mk.injEq, List.append_nil] at HE1
      obtain ⟨rfl, rfl⟩ := HE1
      have hne : (e != 0) = true := by simpa using he
      clear hn HE he
      gi_wp2_with (refine ⟨trivial, ?_⟩; gi_at_call 33; refine (callsIn_wide.2 (fnext_any ra rl rc (b.drop XN) wr HRD.out hrm x m e HN.out)).mono ?_; rintro y w1 ⟨v1, rfl, hf1, hb1⟩; have J1 := Lib.hid (HJ1.out _ _ _ HJ.out hb1); clear hf1 hb1)
      refine ⟨fun _ h => (by cases h), ?_⟩
      gi_wp2
      first | go_end0 | (refine bodyPost_ret (results_none rfl _ _ _) rfl ?_)
      exact ⟨⟨_, rfl⟩, (XL, XN), rfl, J1.out⟩

/-- what the loop's own cells hold -/
structure ScX (w0 : World) (hB uB base : Nat) (s : List (List UInt8) × Nat) (W : World) : Prop where
  rh : ∃ va vc, Row W hB 62 [.slice va s.1.length vc] ∧ FrL W base (.slice va s.1.length vc) s.1
  ru : Row W uB 3 [.int .i64 (s.2 : Int)]
  bel : Below w0.heap.size w0 W
theorem ScX.up {w0 W W' : World} {hB uB base : Nat} {s : List (List UInt8) × Nat} (h : ScX w0 hB uB base s W) (hu : Up base W W') (hh : W'.heap[hB]? = W.heap[hB]?) (hv : W'.heap[uB]? = W.heap[uB]?) (hb : Below w0.heap.size W W') : ScX w0 hB uB base s W' := by
  obtain ⟨⟨va, vc, h1, h2⟩, h4, h5⟩ := h
  exact ⟨⟨va, vc, hh.trans h1, h2.up hu⟩, hv.trans h4, h5.trans hb⟩
theorem NwX.put {s : List (List UInt8) × Nat} {x : Rx} {A0 A : World} {l : Nat} {o : Obj} (h : NwX s x A0 A) (hl : l < A0.heap.size) : NwX s x A0 (A.putObj l o) := by
  obtain ⟨h1, h2, h3⟩ := h
  refine ⟨⟨h1.hlen, h1.hle, h1.hmax, h1.hnil, ?_⟩, fun b off e => ⟨(h2 b off e).1, by have := (h2 b off e).2; simpa using this⟩, h3⟩
  rcases h1.hcells with h0 | ⟨b, off, e, hlt, hc⟩
  · exact .inl h0
  · exact .inr ⟨b, off, e, by simpa using hlt, fun i hi => (World.cell?_of_block (World.putObj_heap_other (show b ≠ l by have := (h2 b off e).1; omega))).trans (hc i hi)⟩
end Go.Proofs.Ytfcbndjciojniaa.W
