/- LAYER 10 (frame): the program's Scan. -/
import Derived.Test.YtfcbndjciojniaaFpU
set_option linter.unusedSimpArgs false
set_option linter.unusedVariables false
namespace Go.Proofs.Ytfcbndjciojniaa.W
open Go Go.ChangeShapes Go.WideShapes Go.ChangeAt Go.RowKit Go.Shelf
open Go.Proofs.Ytfcbndjciojniaa.P (enc dec)
attribute [local go_sem] Oper.semAt_some

set_option maxRecDepth 100000 in
set_option maxHeartbeats 4000000 in
theorem fscan_in (a : Option Addr) (len cap : Nat) (b : List UInt8) (w : World) (hr : Rd w a len cap b) (hmax : len ≤ 1000000) :
    CallsIn Fence.wide 9 Try.prog 35 #[.slice a len cap] w fun y w' => ∃ v, y = .returned (.tuple #[v, .int .i64 ((scanF b).2 : Int)]) ∧ FrL w' w.heap.size v (scanF b).1 ∧ Below w.heap.size w w' := by
  have HF := Lib.hid (fun v => fframes a len cap v)
  have HRD := Lib.hid hr
  clear hr
  refine callsIn_of_wp_marks Try.func35 rfl trivial ?_ rfl
  simp only [Try.ntmps35, List.size_toArray, List.length_cons, List.length_nil, Nat.reduceAdd, Nat.reduceSub, Array.replicate_succ, Array.replicate_zero, List.push_toArray, List.append_toArray, List.nil_append, List.cons_append]
  gi_wp2_with (refine ⟨trivial, ?_⟩; gi_at_call 63; refine (callsIn_wide.2 (HF.out _)).mono ?_; rintro e w1 ⟨rfl, hr1, hb1, hz1⟩; have R1 := Lib.hid hr1; have B1 := Lib.hid hb1; have Z1 := Lib.hid hz1; clear hr1 hb1 hz1)
  have ra0 : Row (w.alloc (.cells #[.slice none 0 0] 62)) w.heap.size 62 [.slice none 0 0] := Row.new _ _ _
  have ra : Row ((w.alloc (.cells #[.slice none 0 0] 62)).alloc (.cells #[.int .i64 0] 3)) w.heap.size 62 [.slice none 0 0] := ra0.alloc _
  have rb : Row ((w.alloc (.cells #[.slice none 0 0] 62)).alloc (.cells #[.int .i64 0] 3)) (w.heap.size + 1) 3 [.int .i64 0] := by
    have := Row.new (w.alloc (.cells #[.slice none 0 0] 62)) 3 [.int .i64 0]; rwa [World.size_alloc] at this
  have hb0 : Below w.heap.size w ((w.alloc (.cells #[.slice none 0 0] 62)).alloc (.cells #[.int .i64 0] 3)) := ((Below.refl _ w).alloc (Nat.le_refl _) _).alloc (by simp) _
  have hz0 : ((w.alloc (.cells #[.slice none 0 0] 62)).alloc (.cells #[.int .i64 0] 3)).heap.size = w.heap.size + 2 := by simp
  obtain ⟨W0, hW0⟩ : ∃ W0, (w.alloc (.cells #[.slice none 0 0] 62)).alloc (.cells #[.int .i64 0] 3) = W0 := ⟨_, rfl⟩
  rw [hW0] at ra rb hb0 hz0 R1 B1 Z1
  rw [hz0] at R1 Z1
  have RA := Lib.hid (ra.below B1.out ra.lt)
  have RB := Lib.hid (rb.below B1.out rb.lt)
  have BB := Lib.hid (hb0.trans (B1.out.mono (by omega)))
  have hz1 := Z1.out
  clear ra0 ra rb hb0 hz0 hW0 B1 Z1
  refine wpIn_rangeFunc_cell (P := Try.prog) (k := 8) (gf := 77) (lb := #[.pointer (some ⟨w.heap.size + 1 + 1, 0, none⟩)]) (b1 := w.heap.size + 2) (n0 := w.heap.size) rfl (enters_of Try.func77 (by kernel_rfl) rfl) (by omega) (by omega) (encs := encX) (Nw := NwX) (next := nextX) (s0 := ([], 0)) (S := fun s => s = scanF b) (fun _ => rfl)
    (fiter a len cap b (w.heap.size + 2) w.heap.size w1 (HRD.out.mono BB.out) (fun h0 c off e => by obtain ⟨yb, yo, e1, h1, -⟩ := HRD.out.hcells.resolve_left h0; rw [e1] at e; cases e; exact h1) hmax (by omega) R1.out)
    (ScX w w.heap.size (w.heap.size + 1) (w.heap.size + 5)) ?h1 ?h2 ?h3 ?hn ?h0
    (fun x => { tmps := #[.slice a len cap, undef, .slice none 0 0, .int .i64 0, .pointer (some ⟨w.heap.size, 0, none⟩), .pointer (some ⟨w.heap.size + 1, 0, none⟩), .slice x.1.1 x.1.2.1 x.1.2.2, .int .i64 (x.2.2 : Int), .slice a len cap, .func (.func 77) #[] #[.pointer (some ⟨w.heap.size + 1 + 1, 0, none⟩)], .slice x.1.1 x.1.2.1 x.1.2.2, .int .i64 (x.2.2 : Int), undef, undef, undef, undef, undef, undef, undef, undef, undef], defers := [] }) ?assign ?body ?done
  case h1 =>
    intro s A B h hb
    obtain ⟨va, vc, q1, q2⟩ := h.rh
    exact h.up (Up.of_below hb) (hb.block _ q1.lt) (hb.block _ h.ru.lt) (hb.mono h.bel.size)
  case h2 =>
    intro s A v h
    exact h.up (Up.setCell _ _ _ _ _ (by omega)) (heap_setCell_other A ⟨w.heap.size + 2, 0, none⟩ _ v (by simp)) (heap_setCell_other A ⟨w.heap.size + 2, 0, none⟩ _ v (by simp)) ((Upd.setCell A (w.heap.size + 2) 0 v).below (by omega))
  case h3 =>
    intro s A l o h hl1 hl2
    exact h.up (Up.putObj _ _ _ _ (by omega)) (World.putObj_heap_other (by omega)) (World.putObj_heap_other (by omega)) (below_putObj (by omega))
  case hn =>
    intro s x A0 A l o h hl hs
    exact h.put (by omega)
  case h0 => exact ⟨⟨none, 0, RA.out, FrL.nil _ _⟩, RB.out, BB.out⟩
  case assign =>
    intro l x W K hK
    simp only [encX]
    gi_wp2
    exact hK
  case body =>
    rintro l ⟨Ls, p⟩ ⟨⟨xa, xn, xc⟩, xb, m⟩ A0 W hA0 hW hsz hle hlow hnw
    obtain ⟨⟨va, vc, q1, q2⟩, q3, q4⟩ := hW
    obtain ⟨⟨va0, vc0, z1, z2⟩, -, -⟩ := hA0
    dsimp only at q1 q2 q3 z1 z2
    obtain ⟨n1, n2, n3, n4⟩ := hnw
    dsimp only at n1 n2 n3 n4
    have hvv : (Value.slice va Ls.length vc).ownBlock = (Value.slice va0 Ls.length vc0).ownBlock := by
      have e := (hlow w.heap.size (by omega)).symm.trans q1
      have e2 := Row.unique (show Row A0 w.heap.size 62 [.slice va Ls.length vc] from e) z1
      injection e2 with e3
      rw [e3]
    have hown : ∀ c off, xa = some ⟨c, off, none⟩ → (w.heap.size + 5 ≤ c ∧ c < W.heap.size) ∧ some c ≠ (Value.slice va Ls.length vc).ownBlock := fun c off e => ⟨⟨by have := (n2 c off e).1; omega, (n2 c off e).2⟩, by rw [hvv]; exact z2.block c (n2 c off e).1⟩
    have HOWN := Lib.hid hown
    have Q1 := Lib.hid q1
    have Q2 := Lib.hid q2
    have Q3 := Lib.hid q3
    have Q4 := Lib.hid q4
    have N1 := Lib.hid n1
    have HW5 := Lib.hid (show w.heap.size + 5 ≤ W.heap.size by omega)
    have HLs := Lib.hid n3
    have c1 := q1.k0
    have hwp : wrap64 ((p : Int) + (m : Int)) = (p : Int) + (m : Int) := by unfold wrap64; omega
    have hwp2 : IntKind.i64.wrap ((p : Int) + (m : Int)) = (p : Int) + (m : Int) := by rw [IntKind.wrap_i64]; omega
    clear hvv hown q1 q2 q3 q4 n1 n2 n3 n4 z1 z2 hlow hle hsz
    gi_wp2_with (gi_at_builtin; ((refine append_frl_in rfl _ _ rfl (w.heap.size + 5) (.slice va Ls.length vc) Ls ?_ ?_ W.heap.size 1 ?_ (xa, xn, xc) xb ?_ ?_ ?_ ?_ ?_ ?_); (focus (first | rfl | go_simp)); (focus (exact Q2.out.kept ((Below.refl _ W).alloc (Nat.le_refl _) _))); (focus (first | rfl | go_simp)); (focus (exact cell_of_row _ W.heap.size 0 _ 30 _ (heap_alloc_new W _))); (focus (exact N1.out.mono ((Below.refl _ _).alloc (Nat.le_refl _) _))); (focus (exact fun c off e => ⟨⟨(HOWN.out c off e).1.1, by have := (HOWN.out c off e).1.2; simp; omega⟩, (HOWN.out c off e).2⟩)); (focus (exact HLs.out)); (focus (have := HW5.out; simp; omega)); intro va' vc' w5 hf5 hb5; have F5 := Lib.hid hf5; have D5 := Lib.hid hb5; have G1 := Lib.hid (show Row w5 w.heap.size 62 [.slice va Ls.length vc] from (hb5.block _ (by omega)).trans (Q1.out.alloc _)); have G3 := Lib.hid (show Row w5 (w.heap.size + 1) 3 [.int .i64 (p : Int)] from (hb5.block _ (by omega)).trans (Q3.out.alloc _)); have c5 := G1.out.k0; have f5 := G1.out.frozen 0; have c6 := G3.out.k0; have f6 := G3.out.frozen 0; clear hf5 hb5 c1))
    have hsz5 : w.heap.size + 5 ≤ W.heap.size := HW5.out
    have DA : Below (w.heap.size + 5) W w5 := ((Below.refl _ W).alloc hsz5 _).trans D5.out
    have u1 := Upd.setCell w5 w.heap.size 0 (.slice va' (Ls.length + 1) vc')
    have u2 := Upd.setCell (w5.setCell ⟨w.heap.size, 0, none⟩ (.slice va' (Ls.length + 1) vc')) (w.heap.size + 1) 0 (.int .i64 ((p : Int) + (m : Int)))
    have DB : Below w.heap.size W ((w5.setCell ⟨w.heap.size, 0, none⟩ (.slice va' (Ls.length + 1) vc')).setCell ⟨w.heap.size + 1, 0, none⟩ (.int .i64 ((p : Int) + (m : Int)))) := ((DA.mono (by omega)).trans (u1.below (Nat.le_refl _))).trans (u2.below (by omega))
    have hkeep : ∀ j, w.heap.size + 2 ≤ j → j < w.heap.size + 5 → ((w5.setCell ⟨w.heap.size, 0, none⟩ (.slice va' (Ls.length + 1) vc')).setCell ⟨w.heap.size + 1, 0, none⟩ (.int .i64 ((p : Int) + (m : Int)))).heap[j]? = W.heap[j]? := fun j h1 h2 => ((u2.block j (by omega)).trans (u1.block j (by omega))).trans (DA.block j h2)
    refine ⟨⟨⟨va', vc', ?_, ?_⟩, ?_, Q4.out.trans DB⟩, ⟨hkeep _ (Nat.le_refl _) (by omega), DB⟩, fun j o h1 h2 ho _ => (hkeep j (by omega) (by omega)).trans ho⟩
    · show Row _ _ _ [.slice va' (Ls ++ [xb]).length vc']
      rw [List.length_append]
      exact (G1.out.setV 0 _).upd u2 (by omega)
    · show FrL _ _ (.slice va' (Ls ++ [xb]).length vc') (Ls ++ [xb])
      rw [List.length_append]
      exact (F5.out.up (Up.setCell _ _ _ _ _ (by omega))).up (Up.setCell _ _ _ _ _ (by omega))
    · show Row _ _ _ [.int .i64 ((p + m : Nat) : Int)]
      rw [Int.natCast_add]
      exact (G3.out.upd u1 (by omega)).setV 0 _
  case done =>
    rintro s W rfl hS hK
    obtain ⟨va, vc, q1, q2⟩ := hS.rh
    have c1 := q1.k0
    have c2 := hS.ru.k0
    have Q2 := Lib.hid q2
    have QB := Lib.hid hS.bel
    have HK := Lib.hid hK
    gi_wp2
    clear q1 q2 hS
    gi_region
    all_goals gi_wp2
    refine ⟨by simp, .inl ⟨_, _, rfl, run_takeDeferred HK.out, ?_⟩⟩
    refine ⟨_, results_tmp2 rfl _ _ _, _, rfl, ?_, ?_⟩
    · exact (Q2.out.up ((Up.of_below (Below.refl _ W).drew).trans (Up.putObj _ _ _ _ (by omega)))).base (by omega)
    · exact (QB.out.drew).trans (below_putObj (by omega))
theorem fscan_any (a : Option Addr) (len cap : Nat) (b : List UInt8) (w : World) (hr : Rd w a len cap b) (hmax : len ≤ 1000000) :
    Calls Try.prog 35 #[.slice a len cap] w fun y w' => ∃ v, y = .returned (.tuple #[v, .int .i64 ((scanF b).2 : Int)]) ∧ FrL w' w.heap.size v (scanF b).1 ∧ Below w.heap.size w w' :=
  callsIn_wide.1 (fscan_in a len cap b w hr hmax)
end Go.Proofs.Ytfcbndjciojniaa.W
