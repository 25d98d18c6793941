/- LAYER 11 (record): the law's few, fewSaved; slices.Clone of entries. -/
import Derived.Test.YtbcaphkbjeejhaaRcAz
import Derived.Test.YtbcaphkbjeejhaaRcA
set_option linter.unusedSimpArgs false
set_option linter.unusedVariables false
namespace Go.Proofs.Ytbcaphkbjeejhaa.W
open Go Go.ChangeShapes Go.WideShapes Go.ChangeAt Go.RowKit

def fewB (r : Rc) : Bool := decide (r.n ≤ 131172) && decide (r.e.n ≤ 5000)
theorem ch2b : ∀ b0 b1 : Bool, (b0 = false) ∨ (b0 = true ∧ b1 = false) ∨ (b0 = true ∧ b1 = true) := by intro b0 b1; cases b0 <;> cases b1 <;> simp
set_option maxRecDepth 100000 in
set_option maxHeartbeats 4000000 in
theorem rfew (r : Rc) (w : World) : Calls Try.prog 19 #[.agg r.cells.toArray] w fun x w' => x = .returned (.bool (fewB r)) ∧ Below w.heap.size w w' := by
  obtain ⟨k, t, v, ⟨ix, tm, kd, a, n, c⟩, i, f, sa, sn, sc⟩ := r
  obtain ⟨b0, h0⟩ : ∃ b, decide (sn ≤ 131172) = b := ⟨_, rfl⟩
  obtain ⟨b1, h1⟩ : ∃ b, decide (n ≤ 5000) = b := ⟨_, rfl⟩
  have HX := Lib.hid (show fewB ⟨k, t, v, ⟨ix, tm, kd, a, n, c⟩, i, f, sa, sn, sc⟩ = (b0 && b1) by unfold fewB; rw [h0, h1])
  have h0' : decide ((sn : Int) ≤ 131172) = b0 := by rw [← h0, decide_eq_decide]; omega
  have h1' : decide ((n : Int) ≤ 5000) = b1 := by rw [← h1, decide_eq_decide]; omega
  unfold Rc.cells
  dsimp only
  clear h0 h1
  rcases ch2b b0 b1 with rfl | ⟨rfl, rfl⟩ | ⟨rfl, rfl⟩
  all_goals
    go_enter Try.func19, Try.ntmps19
    go_wp2_with (first
      | (with_reducible refine box_row (o := ⟨some 1, _, _, _, _, _⟩) rfl _ _ rfl [.int .i64 k, .int .i64 t, .int .i64 v, .int .i64 ix, .int .i64 tm, .int .i64 kd, .slice a n c, .int .i64 i, .int .i64 f, .slice sa sn sc] rfl ?_; intro w1 hr1 hb1 hz1; obtain ⟨c0, c1, c2, c3, c4, c5, c6, c7, c8, c9⟩ := hr1.q10; have B1 := Lib.hid hb1; clear hr1 hb1 hz1))
    go_ret
    exact ⟨one (vbool (by rw [HX.out]; simp)), B1.out⟩
theorem rfewL (r : Rc) (w : World) : Calls Try.prog 19 #[.agg #[.int .i64 r.k, .int .i64 r.t, .int .i64 r.v, .int .i64 r.e.ix, .int .i64 r.e.tm, .int .i64 r.e.kd, .slice r.e.a r.e.n r.e.c, .int .i64 r.i, .int .i64 r.f, .slice r.a r.n r.c]] w fun x w' => x = .returned (.bool (fewB r)) ∧ Below w.heap.size w w' := rfew r w

def fewSV (s : Sv) (L : List (En × List UInt8)) : Bool := decide (L.length ≤ 60) && (L.all (fun p => decide (p.1.n ≤ 300)) && decide (s.n ≤ 3000))
theorem fewSV_spec {s : Sv} {L : List (En × List UInt8)} (h : fewSV s L = true) : L.length ≤ 60 ∧ (∀ p ∈ L, p.1.n ≤ 300) ∧ s.n ≤ 3000 := by
  unfold fewSV at h
  simp at h
  exact ⟨h.1, fun p hp => h.2.1 p.1 p.2 hp, h.2.2⟩
theorem all_next {α : Type} (L : List α) (P : α → Bool) (k : Nat) (d x : α) (hk : k < L.length) (hx : L.getD k d = x) (h : (L.take k).all P = true) (hp : P x = true) : (L.take (k + 1)).all P = true := by
  have h1 : L.take (k + 1) = L.take k ++ [x] := by
    rw [List.take_succ_eq_append_getElem hk, ← hx]
    simp [List.getD_eq_getElem?_getD, hk]
  rw [h1, List.all_append, h]; simp [hp]
theorem all_not {α : Type} (L : List α) (P : α → Bool) (k : Nat) (d x : α) (hk : k < L.length) (hx : L.getD k d = x) (hp : P x = false) : L.all P = false := by
  rw [List.all_eq_false]
  refine ⟨L[k], List.getElem_mem hk, ?_⟩
  have : L[k] = x := by rw [← hx]; simp [List.getD_eq_getElem?_getD, hk]
  rw [this, hp]; simp
set_option maxRecDepth 100000 in
set_option maxHeartbeats 8000000 in
theorem fewS (s : Sv) (d : List UInt8) (L : List (En × List UInt8)) (w : World) (h : SvF w s d L) : Calls Try.prog 9 #[.agg s.cells.toArray] w fun x w' => x = .returned (.bool (fewSV s L)) ∧ Below w.heap.size w w' := by
  obtain ⟨t, v, b, bt, f, a, n, c, ea, en, ec⟩ := s
  have HE := Lib.hid h.es
  have HL := Lib.hid h.es.hlen
  have EZ := Lib.hid en_zero
  have ES := Lib.hid en_size
  obtain ⟨V, hV⟩ : ∃ V, fewSV ⟨t, v, b, bt, f, a, n, c, ea, en, ec⟩ L = V := ⟨_, rfl⟩
  rw [hV]
  unfold fewSV at hV
  have HV := Lib.hid hV
  unfold Sv.cells
  dsimp only at HE HL HV ⊢
  clear h hV
  go_enter Try.func9, Try.ntmps9
  go_wp2_with (first
    | (with_reducible refine box_row (o := ⟨some 1, _, _, _, _, _⟩) rfl _ _ rfl [.int .i64 t, .int .i64 v, .int .i64 b, .int .i64 bt, .int .i64 f, .slice a n c, .slice ea en ec] rfl ?_; intro w1 hr1 hb1 hz1; have S1 := Lib.hid hr1; have B1 := Lib.hid hb1; obtain ⟨c0, c1, c2, c3, c4, c5, c6⟩ := hr1.q7; clear hr1 hb1 hz1))
  clear c0 c1 c2 c3 c4 c5 c6
  go_loopw [8] (fun i wr => ∃ k : Nat, i = .int .i64 (k : Int) ∧ k ≤ en ∧ k ≤ 60 ∧ Hid ((L.take k).all (fun p => decide (p.1.n ≤ 300)) = true) ∧ Hid (Below w1.heap.size w1 wr)) (fun i _ => en - (intOf i).toNat)
  case atStart => exact ⟨0, rfl, Nat.zero_le _, Nat.zero_le _, Lib.hid rfl, Lib.hid (Below.refl _ _)⟩
  case round =>
    obtain ⟨k, rfl, hk, hk60, P, B⟩ := hrel
    obtain ⟨c0, c1, c2, c3, c4, c5, c6⟩ := (S1.out.below B.out S1.out.lt).q7
    by_cases hlt : k < en
    · have E1 := HE.out.mono B1.out
      obtain ⟨x1, o1, rfl, hx1, hf1, hk1⟩ := E1.at B.out k hlt
      have hnx := fun hp => all_next L (fun p => decide (p.1.n ≤ 300)) k Ez _ hk1 rfl P.out hp
      have hno := fun hp => all_not L (fun p => decide (p.1.n ≤ 300)) k Ez _ hk1 rfl hp
      obtain ⟨⟨⟨ix, tm, kd, qa, qn, qc⟩, ql⟩, hq⟩ : ∃ y, L.getD k Ez = y := ⟨_, rfl⟩
      rw [hq] at hx1 hnx hno
      dsimp only at hx1 hnx hno
      have X1 := Lib.hid hx1
      have HNX := Lib.hid hnx
      have HNO := Lib.hid hno
      have g1 : (0 : Int) ≤ (k : Int) := by omega
      have g2 : (k : Int) < (en : Int) := by omega
      clear hx1 hf1 hq hk1 hnx hno E1
      by_cases h60 : k = 60
      · have h60' : (k : Int) ≥ 60 := by omega
        have HF := Lib.hid (show V = false by rw [← HV.out, decide_eq_false (by rw [HL.out]; omega)]; rfl)
        have h60i : (60 : Int) ≤ (k : Int) := by omega
        clear h60 h60'
        go_wp2_with (first
          | ((with_reducible refine load_cells (o := ⟨some 12, _, _, _, _, _⟩) rfl _ _ rfl x1 (o1 + k * 4) ?_ (En.cells ⟨ix, tm, kd, qa, qn, qc⟩) _ X1.out Try.underlying27 rfl ?_ ?_); (focus go_simp); (focus (exact ES.out)))
              | ((with_reducible refine alloc_row (o := ⟨some 4, _, _, _, _, _⟩) rfl _ rfl _ EZ.out ?_); intro w2 hr hb hz; have A2 := Lib.hid hr; have B2 := Lib.hid (B.out.trans (hb.mono B.out.size)); clear hr hb hz c0 c1 c2 c3 c4 c5 c6)
              | ((with_reducible refine store_row (o := ⟨none, _, _, _, _, _⟩) rfl _ (.tmp 4) _ rfl wr.heap.size (En.cells ⟨ix, tm, kd, qa, qn, qc⟩) ?_ ?_ 27 _ A2.out ?_ ?_ (cells_one _) ?_); (focus go_simp); (focus (first | (go_simp; done) | (go_simp; rfl))); (focus (exact ES.out)); (focus rfl); intro w3 hr hu; have B3 := Lib.hid (B2.out.trans (hu.below B.out.size)); obtain ⟨e0, e1, e2, e3⟩ := hr.q4; clear hr hu))
        go_ret
        exact ⟨one (vbool (by rw [HF.out])), B1.out.trans (B3.out.mono B1.out.size)⟩
      · have h59 : (k : Int) < 60 := by omega
        by_cases h300 : (300 : Int) < (qn : Int)
        · have HF := Lib.hid (show V = false by rw [← HV.out, HNO.out (decide_eq_false (by omega))]; simp)
          go_wp2_with (first
            | ((with_reducible refine load_cells (o := ⟨some 12, _, _, _, _, _⟩) rfl _ _ rfl x1 (o1 + k * 4) ?_ (En.cells ⟨ix, tm, kd, qa, qn, qc⟩) _ X1.out Try.underlying27 rfl ?_ ?_); (focus go_simp); (focus (exact ES.out)))
              | ((with_reducible refine alloc_row (o := ⟨some 4, _, _, _, _, _⟩) rfl _ rfl _ EZ.out ?_); intro w2 hr hb hz; have A2 := Lib.hid hr; have B2 := Lib.hid (B.out.trans (hb.mono B.out.size)); clear hr hb hz c0 c1 c2 c3 c4 c5 c6)
              | ((with_reducible refine store_row (o := ⟨none, _, _, _, _, _⟩) rfl _ (.tmp 4) _ rfl wr.heap.size (En.cells ⟨ix, tm, kd, qa, qn, qc⟩) ?_ ?_ 27 _ A2.out ?_ ?_ (cells_one _) ?_); (focus go_simp); (focus (first | (go_simp; done) | (go_simp; rfl))); (focus (exact ES.out)); (focus rfl); intro w3 hr hu; have B3 := Lib.hid (B2.out.trans (hu.below B.out.size)); obtain ⟨e0, e1, e2, e3⟩ := hr.q4; clear hr hu))
          go_ret
          exact ⟨one (vbool (by rw [HF.out])), B1.out.trans (B3.out.mono B1.out.size)⟩
        · have HN := Lib.hid (HNX.out (decide_eq_true (by omega)))
          go_wp2_with (first
            | ((with_reducible refine load_cells (o := ⟨some 12, _, _, _, _, _⟩) rfl _ _ rfl x1 (o1 + k * 4) ?_ (En.cells ⟨ix, tm, kd, qa, qn, qc⟩) _ X1.out Try.underlying27 rfl ?_ ?_); (focus go_simp); (focus (exact ES.out)))
              | ((with_reducible refine alloc_row (o := ⟨some 4, _, _, _, _, _⟩) rfl _ rfl _ EZ.out ?_); intro w2 hr hb hz; have A2 := Lib.hid hr; have B2 := Lib.hid (B.out.trans (hb.mono B.out.size)); clear hr hb hz c0 c1 c2 c3 c4 c5 c6)
              | ((with_reducible refine store_row (o := ⟨none, _, _, _, _, _⟩) rfl _ (.tmp 4) _ rfl wr.heap.size (En.cells ⟨ix, tm, kd, qa, qn, qc⟩) ?_ ?_ 27 _ A2.out ?_ ?_ (cells_one _) ?_); (focus go_simp); (focus (first | (go_simp; done) | (go_simp; rfl))); (focus (exact ES.out)); (focus rfl); intro w3 hr hu; have B3 := Lib.hid (B2.out.trans (hu.below B.out.size)); obtain ⟨e0, e1, e2, e3⟩ := hr.q4; clear hr hu))
          go_roundw
          case rel => exact ⟨k + 1, vint (by omega), by omega, by omega, HN, B3⟩
          case measure => simp [intOf]; omega
    · obtain rfl : en = k := by omega
      have hp := P.out
      rw [List.take_of_length_le (by rw [HL.out]; exact Nat.le_refl _)] at hp
      have HF := Lib.hid (show V = decide ((n : Int) ≤ 3000) by
        rw [← HV.out, hp, decide_eq_true (by rw [HL.out]; exact hk60)]
        by_cases h3 : n ≤ 3000
        · rw [decide_eq_true h3, decide_eq_true (show (n : Int) ≤ 3000 by omega)]; rfl
        · rw [decide_eq_false h3, decide_eq_false (show ¬ (n : Int) ≤ 3000 by omega)]; rfl)
      clear hp
      go_wp2_with fail
      go_ret
      exact ⟨one (vbool (by rw [HF.out])), B1.out.trans (B.out.mono B1.out.size)⟩
theorem flat_in {w : World} {a : Option Addr} {n c : Nat} {L : List (En × List UInt8)} (h : Ents w a n c L) (x off : Nat) (ha : a = some ⟨x, off, none⟩) : ∀ j u, (flat (L.map (·.1)))[j]? = some u → w.cell? ((⟨x, off, none⟩ : Addr).add j) = some u := by
  intro j u hj
  have hjl : j < L.length * 4 := by
    have := (List.getElem?_eq_some_iff.1 hj).1
    rw [flat_len, List.length_map] at this; exact this
  obtain ⟨k, i, hk, hi, rfl⟩ : ∃ k i, k < L.length ∧ i < 4 ∧ j = k * 4 + i := ⟨j / 4, j % 4, by omega, by omega, by omega⟩
  rw [flat_get _ k i (by simpa using hk) hi] at hj
  have he : (L.map (·.1)).getD k En.zero = (L.getD k Ez).1 := by simp [List.getD_eq_getElem?_getD, hk]
  rw [he] at hj
  rcases h.hcells with h0 | ⟨b, o, hb, -, hc⟩
  · have := h.hlen; omega
  · rw [ha] at hb
    obtain ⟨rfl, rfl⟩ : x = b ∧ off = o := by have := Option.some.inj hb; exact ⟨congrArg Addr.block this, congrArg Addr.off this⟩
    rw [Go.WideShapes.add_plain, ← Nat.add_assoc]
    exact hc k (by rw [← h.hlen]; exact hk) i u hj
theorem ents_own {w : World} {base : Nat} {v : Value} {n : Nat} {L : List (En × List UInt8)} (h : w.ownsRow base 27 4 v n (flat (L.map (·.1)))) (hl : L.length = n) (hm : n ≤ 1000000) (hf : ∀ p ∈ L, EnF w p.1 p.2) :
    ∃ a c, v = .slice a n c ∧ Ents w a n c L := by
  have hc := fun g hg => h.cells (g := g) hg
  rcases h.2 with ⟨rfl, hn⟩ | ⟨g, cap, cur, rfl, hg, hh, hnc, hcm, hcs, htk⟩
  · have h0 : n = 0 := by omega
    subst h0
    exact ⟨none, 0, rfl, hl, by omega, by omega, hf, fun _ => rfl, .inl rfl⟩
  · refine ⟨_, cap, rfl, hl, hnc, by unfold maxLen at hcm; omega, hf, (fun h => by cases h), .inr ⟨g, 0, rfl, (Array.getElem?_eq_some_iff.1 hh).1, fun i hi j u hj => ?_⟩⟩
    have hj4 : j < 4 := (List.getElem?_eq_some_iff.1 hj).1
    have h1 := hc g rfl (i * 4 + j) u (by
      rw [flat_get _ i j (by rw [List.length_map]; omega) hj4, ← hj]
      have : (L.map (·.1)).getD i En.zero = (L.getD i Ez).1 := by simp [List.getD_eq_getElem?_getD, show i < L.length by omega]
      rw [this])
    rw [Go.WideShapes.add_plain, ← Nat.add_assoc] at h1
    exact h1
theorem own0 (w : World) : (w.alloc (.cells #[] 27)).ownsRow w.heap.size 27 4 (.slice (some ⟨w.heap.size, 0, none⟩) 0 0) 0 (flat []) :=
  ⟨rfl, .inr ⟨w.heap.size, 0, #[], rfl, Nat.le_refl _, heap_alloc_new w _, Nat.le_refl _, Nat.zero_le _, rfl, rfl⟩⟩
set_option maxRecDepth 100000 in
set_option maxHeartbeats 4000000 in
theorem eclone (a : Option Addr) (n c : Nat) (L : List (En × List UInt8)) (w : World) (h : Ents w a n c L) (hm : n ≤ 1000000) :
    Calls Try.prog 11 #[.slice a n c] w fun x w' => ∃ a' c', x = .returned (.slice a' n c') ∧ Ents w' a' n c' L ∧ Below w.heap.size w w' := by
  have hnil := fun (w : World) (a : Option Addr) (n c : Nat) => Lib.run_eql_slice_nil (P := Try.prog) w 23 27 a n c 0 0 Try.underlying23
  have H := Lib.hid h
  have HL := Lib.hid h.hlen
  rcases a with _ | ad
  · have h0 := h.hnil rfl
    have h1 := h.hle
    obtain rfl : n = 0 := by omega
    subst h0
    clear h h1
    go_enter Try.func11, Try.ntmps11
    go_wp2_with fail
    go_ret
    exact ⟨none, 0, rfl, H.out, Below.refl _ _⟩
  · obtain ⟨i0, hi, hz0, hz1, hz2⟩ := info_parts infoEn
    have HI := Lib.hid hi
    have Z0 := Lib.hid hz0
    have Z1 := Lib.hid hz1
    have Z2 := Lib.hid hz2
    clear hi hz0 hz1 hz2
    have HFL : Hid (∀ j u, (flat (L.map (·.1)))[j]? = some u → w.cell? (ad.add j) = some u) := Lib.hid (by
      rcases n with _ | n
      · have : L = [] := List.eq_nil_of_length_eq_zero HL.out
        subst this
        intro j u hj; simp [flat] at hj
      · rcases H.out.hcells with h0 | ⟨b, o, hb, -, -⟩
        · omega
        · have := Option.some.inj hb
          subst this
          exact flat_in H.out b o rfl)
    clear h
    go_enter Try.func11, Try.ntmps11
    have B1 := Lib.hid ((Below.refl w.heap.size w).alloc (Nat.le_refl _) (.cells #[] 27))
    go_wp2_with (first
      | (at_builtin; refine append_at rfl _ _ 23 27 rfl w.heap.size i0 _ 4 48 Try.underlying23 HI.out Z0.out Z1.out Z2.out rfl (by decide) _ 0 (flat []) (by go_simp) (own0 w) ad n c (flat (L.map (·.1))) (by go_simp) (by rw [flat_len, List.length_map, HL.out]) (fun j u hj => by rw [B1.out.cell (World.block_lt_of_cell? w _ (HFL.out j u hj))]; exact HFL.out j u hj) (flat_one _) (by unfold maxLen; omega) (by omega) B1.out.size ?_; intro v2 w2 ho hg hv; rw [Nat.zero_add, show flat [] ++ flat (L.map (·.1)) = flat (L.map (·.1)) from rfl] at ho; have B2 := Lib.hid ((B1.out.trans ((Below.refl _ _).grown hg B1.out.size (fun k hk => (by have h9 := hk; simp [Value.ownBlock] at h9; omega))))); obtain ⟨ra, rc, hv2, hE⟩ := ents_own ho HL.out hm (fun p hp => (H.out.hfit p hp).mono B2.out); subst hv2; have E2 := Lib.hid hE; clear ho hg hv hE))
    go_ret
    exact ⟨ra, rc, rfl, E2.out, B2.out⟩
set_option maxRecDepth 100000 in
set_option maxHeartbeats 4000000 in
theorem lclos (e g : En) (l m : List UInt8) (w : World) (he : Rd w e.a e.n e.c l) (hg : Rd w g.a g.n g.c m) : Calls Try.prog 17 #[.agg e.cells.toArray, .agg g.cells.toArray] w fun x w' => x = .returned (.bool (sameE e g l m)) ∧ Below w.heap.size w w' := by
  have HE := Lib.hid he
  have HG := Lib.hid hg
  have ES := Lib.hid en_size
  clear he hg
  go_enter Try.func17, Try.ntmps17
  go_wp2_with (first
    | (with_reducible refine box_row (o := ⟨some 2, _, _, _, _, _⟩) rfl _ _ rfl e.cells rfl ?_; intro w1 hr1 hb1 hz1; have S1 := Lib.hid hr1; have B1 := Lib.hid hb1; clear hr1 hb1 hz1)
    | (with_reducible refine box_row (o := ⟨some 3, _, _, _, _, _⟩) rfl _ _ rfl g.cells rfl ?_; intro w2 hr2 hb2 hz2; have R2 := Lib.hid hr2; have S2 := Lib.hid (S1.out.below hb2 S1.out.lt); have B2 := Lib.hid (B1.out.trans (hb2.mono B1.out.size)); clear hr2 hb2 hz2)
    | ((with_reducible refine load_row (o := ⟨some 5, _, _, _, _, _⟩) rfl _ _ rfl w.heap.size ?_ _ e.cells _ S2.out Try.underlying27 rfl ?_ ?_); (focus go_simp); (focus (exact ES.out)))
    | ((with_reducible refine load_row (o := ⟨some 6, _, _, _, _, _⟩) rfl _ _ rfl w1.heap.size ?_ _ g.cells _ R2.out Try.underlying27 rfl ?_ ?_); (focus go_simp); (focus (exact ES.out)))
    | (go_at_call 18; (with_reducible refine (usameE e g l m w2 ?_ ?_).mono ?_); (focus (exact HE.out.mono B2.out)); (focus (exact HG.out.mono B2.out)); rintro x w3 ⟨rfl, hb⟩; have B3 := Lib.hid (B2.out.trans (hb.mono B2.out.size)); clear hb))
  go_ret
  exact ⟨rfl, B3.out⟩
set_option maxRecDepth 100000 in
set_option maxHeartbeats 8000000 in
theorem eqEntsL (a a' : Option Addr) (n c n' c' : Nat) (L M : List (En × List UInt8)) (w : World) (h1 : Ents w a n c L) (h2 : Ents w a' n' c' M) (hl : n ≤ 1000000) :
    Calls Try.prog 16 #[.slice a n c, .slice a' n' c', .func (.func 17) #[] #[]] w fun x w' => x = .returned (.bool (decide (L.map pe = M.map pe))) ∧ Below w.heap.size w w' := by
  have H1 := Lib.hid h1
  have H2 := Lib.hid h2
  have HL1 := Lib.hid h1.hlen
  have HL2 := Lib.hid h2.hlen
  have EZ := Lib.hid en_zero
  have ES := Lib.hid en_size
  obtain ⟨V, hV⟩ : ∃ V, decide (L.map pe = M.map pe) = V := ⟨_, rfl⟩
  rw [hV]
  have HV := Lib.hid hV
  clear h1 h2 hV
  by_cases hnn : n = n'
  · subst hnn
    go_enter Try.func16, Try.ntmps16
    go_wp2_with fail
    go_loopw [17] (fun i wr => ∃ k : Nat, i = .int .i64 (k : Int) ∧ k ≤ n ∧ Hid ((L.take k).map pe = (M.take k).map pe) ∧ Hid (Below w.heap.size w wr)) (fun i _ => n - (intOf i).toNat)
    case atStart => exact ⟨0, rfl, Nat.zero_le _, Lib.hid rfl, Lib.hid (Below.refl _ _)⟩
    case round =>
      obtain ⟨k, rfl, hk, P, B⟩ := hrel
      by_cases hlt : k < n
      · obtain ⟨x1, o1, rfl, hx1, hf1, hk1⟩ := H1.out.at B.out k hlt
        obtain ⟨x2, o2, rfl, hx2, hf2, hk2⟩ := H2.out.at B.out k hlt
        have hstep := map_take_next L M k hk1 hk2 P.out
        have hne := map_ne L M k hk1 hk2
        obtain ⟨⟨e1, l1⟩, hq1⟩ : ∃ y, L.getD k Ez = y := ⟨_, rfl⟩
        obtain ⟨⟨e2, l2⟩, hq2⟩ : ∃ y, M.getD k Ez = y := ⟨_, rfl⟩
        rw [hq1, hq2] at hstep hne
        rw [hq1] at hx1 hf1
        rw [hq2] at hx2 hf2
        dsimp only at hx1 hf1 hx2 hf2
        have X1 := Lib.hid hx1
        have X2 := Lib.hid hx2
        have F1 := Lib.hid hf1
        have F2 := Lib.hid hf2
        have SP := Lib.hid (same_pe e1 e2 l1 l2)
        have g1 : (0 : Int) ≤ (k : Int) := by omega
        have g2 : (k : Int) < (n : Int) := by omega
        clear hx1 hx2 hf1 hf2 hq1 hq2 hk1 hk2
        by_cases heq : pe (e1, l1) = pe (e2, l2)
        · have HN := Lib.hid (hstep heq)
          have SV := Lib.hid (show sameE e1 e2 l1 l2 = true by rw [SP.out]; exact decide_eq_true heq)
          clear hstep hne heq
          go_wp2_with (first
            | ((with_reducible refine load_cells (o := ⟨some 21, _, _, _, _, _⟩) rfl _ _ rfl x1 (o1 + k * 4) ?_ e1.cells _ X1.out Try.underlying27 rfl ?_ ?_); (focus go_simp); (focus (exact ES.out)))
            | ((with_reducible refine alloc_row (o := ⟨some 8, _, _, _, _, _⟩) rfl _ rfl _ EZ.out ?_); intro w1 hr hb hz; have A1 := Lib.hid hr; have B1 := Lib.hid hb; clear hr hb hz)
            | ((with_reducible refine store_row (o := ⟨none, _, _, _, _, _⟩) rfl _ (.tmp 8) _ rfl wr.heap.size e1.cells ?_ ?_ 27 _ A1.out ?_ ?_ (cells_one _) ?_); (focus go_simp); (focus (first | (go_simp; done) | (go_simp; rfl))); (focus (exact ES.out)); (focus rfl); intro w2 hr hu; have A2 := Lib.hid hr; have B2 := Lib.hid (B1.out.trans (hu.below (Nat.le_refl _))); clear hr hu)
            | ((with_reducible refine load_cells (o := ⟨some 25, _, _, _, _, _⟩) rfl _ _ rfl x2 (o2 + k * 4) ?_ e2.cells _ (fun j v hj => by rw [B2.out.cell (p := ⟨x2, o2 + k * 4 + j, none⟩) (World.block_lt_of_cell? wr _ (X2.out j v hj))]; exact X2.out j v hj) Try.underlying27 rfl ?_ ?_); (focus go_simp); (focus (exact ES.out)))
            | ((with_reducible refine alloc_row (o := ⟨some 9, _, _, _, _, _⟩) rfl _ rfl _ EZ.out ?_); intro w3 hr hb hz; have C3 := Lib.hid hr; have A3 := Lib.hid (A2.out.below hb A2.out.lt); have L3 := Lib.hid (show wr.heap.size < w2.heap.size from A2.out.lt); have B3 := Lib.hid (B2.out.trans (hb.mono B2.out.size)); clear hr hb hz)
            | ((with_reducible refine store_row (o := ⟨none, _, _, _, _, _⟩) rfl _ (.tmp 9) _ rfl w2.heap.size e2.cells ?_ ?_ 27 _ C3.out ?_ ?_ (cells_one _) ?_); (focus go_simp); (focus (first | (go_simp; done) | (go_simp; rfl))); (focus (exact ES.out)); (focus rfl); intro w4 hr hu; have C4 := Lib.hid hr; have A4 := Lib.hid (A3.out.upd hu (Nat.ne_of_lt L3.out)); have B4 := Lib.hid (B3.out.trans (hu.below B2.out.size)); clear hr hu)
            | ((with_reducible refine load_row (o := ⟨some 27, _, _, _, _, _⟩) rfl _ _ rfl wr.heap.size ?_ _ e1.cells _ A4.out Try.underlying27 rfl ?_ ?_); (focus go_simp); (focus (exact ES.out)))
            | ((with_reducible refine load_row (o := ⟨some 28, _, _, _, _, _⟩) rfl _ _ rfl w2.heap.size ?_ _ e2.cells _ C4.out Try.underlying27 rfl ?_ ?_); (focus go_simp); (focus (exact ES.out)))
            | (go_at_call 17; refine (lclos e1 e2 l1 l2 w4 (F1.out.rd.mono B4.out) (F2.out.rd.mono B4.out)).mono ?_; rw [SV.out]; rintro e w5 ⟨rfl, hb5⟩; have B5 := Lib.hid ((B.out.trans (B4.out.mono B.out.size)).trans (hb5.mono (Nat.le_trans B.out.size B4.out.size))); clear hb5))
          go_roundw
          case rel => exact ⟨k + 1, vint (by omega), by omega, HN, B5⟩
          case measure => simp [intOf]; omega
        · have HN := Lib.hid (hne heq)
          have SV := Lib.hid (show sameE e1 e2 l1 l2 = false by rw [SP.out]; exact decide_eq_false heq)
          clear hstep hne heq
          go_wp2_with (first
            | ((with_reducible refine load_cells (o := ⟨some 21, _, _, _, _, _⟩) rfl _ _ rfl x1 (o1 + k * 4) ?_ e1.cells _ X1.out Try.underlying27 rfl ?_ ?_); (focus go_simp); (focus (exact ES.out)))
            | ((with_reducible refine alloc_row (o := ⟨some 8, _, _, _, _, _⟩) rfl _ rfl _ EZ.out ?_); intro w1 hr hb hz; have A1 := Lib.hid hr; have B1 := Lib.hid hb; clear hr hb hz)
            | ((with_reducible refine store_row (o := ⟨none, _, _, _, _, _⟩) rfl _ (.tmp 8) _ rfl wr.heap.size e1.cells ?_ ?_ 27 _ A1.out ?_ ?_ (cells_one _) ?_); (focus go_simp); (focus (first | (go_simp; done) | (go_simp; rfl))); (focus (exact ES.out)); (focus rfl); intro w2 hr hu; have A2 := Lib.hid hr; have B2 := Lib.hid (B1.out.trans (hu.below (Nat.le_refl _))); clear hr hu)
            | ((with_reducible refine load_cells (o := ⟨some 25, _, _, _, _, _⟩) rfl _ _ rfl x2 (o2 + k * 4) ?_ e2.cells _ (fun j v hj => by rw [B2.out.cell (p := ⟨x2, o2 + k * 4 + j, none⟩) (World.block_lt_of_cell? wr _ (X2.out j v hj))]; exact X2.out j v hj) Try.underlying27 rfl ?_ ?_); (focus go_simp); (focus (exact ES.out)))
            | ((with_reducible refine alloc_row (o := ⟨some 9, _, _, _, _, _⟩) rfl _ rfl _ EZ.out ?_); intro w3 hr hb hz; have C3 := Lib.hid hr; have A3 := Lib.hid (A2.out.below hb A2.out.lt); have L3 := Lib.hid (show wr.heap.size < w2.heap.size from A2.out.lt); have B3 := Lib.hid (B2.out.trans (hb.mono B2.out.size)); clear hr hb hz)
            | ((with_reducible refine store_row (o := ⟨none, _, _, _, _, _⟩) rfl _ (.tmp 9) _ rfl w2.heap.size e2.cells ?_ ?_ 27 _ C3.out ?_ ?_ (cells_one _) ?_); (focus go_simp); (focus (first | (go_simp; done) | (go_simp; rfl))); (focus (exact ES.out)); (focus rfl); intro w4 hr hu; have C4 := Lib.hid hr; have A4 := Lib.hid (A3.out.upd hu (Nat.ne_of_lt L3.out)); have B4 := Lib.hid (B3.out.trans (hu.below B2.out.size)); clear hr hu)
            | ((with_reducible refine load_row (o := ⟨some 27, _, _, _, _, _⟩) rfl _ _ rfl wr.heap.size ?_ _ e1.cells _ A4.out Try.underlying27 rfl ?_ ?_); (focus go_simp); (focus (exact ES.out)))
            | ((with_reducible refine load_row (o := ⟨some 28, _, _, _, _, _⟩) rfl _ _ rfl w2.heap.size ?_ _ e2.cells _ C4.out Try.underlying27 rfl ?_ ?_); (focus go_simp); (focus (exact ES.out)))
            | (go_at_call 17; refine (lclos e1 e2 l1 l2 w4 (F1.out.rd.mono B4.out) (F2.out.rd.mono B4.out)).mono ?_; rw [SV.out]; rintro e w5 ⟨rfl, hb5⟩; have B5 := Lib.hid ((B.out.trans (B4.out.mono B.out.size)).trans (hb5.mono (Nat.le_trans B.out.size B4.out.size))); clear hb5))
          go_ret
          exact ⟨one (vbool (by rw [← HV.out]; exact (decide_eq_false HN.out).symm)), B5.out⟩
      · obtain rfl : n = k := by omega
        have h9 := P.out
        rw [List.take_of_length_le (by rw [HL1.out]; exact Nat.le_refl _), List.take_of_length_le (by rw [HL2.out]; exact Nat.le_refl _)] at h9
        have P9 := Lib.hid h9
        clear h9
        go_wp2_with fail
        go_ret
        exact ⟨one (vbool (by rw [← HV.out]; exact (decide_eq_true P9.out).symm)), B.out⟩
  · have hne : ((n : Int) == (n' : Int)) = false := by simp; omega
    have HF := Lib.hid (show ¬ L.map pe = M.map pe from fun h => hnn (by have := congrArg List.length h; simp at this; rw [HL1.out, HL2.out] at this; exact this))
    go_enter Try.func16, Try.ntmps16
    go_wp2_with fail
    go_ret
    exact ⟨one (vbool (by rw [← HV.out]; exact (decide_eq_false HF.out).symm)), Below.refl _ _⟩
theorem Ents.blk {w : World} {a : Option Addr} {n c : Nat} {L : List (En × List UInt8)} (h : Ents w a n c L) : n ≠ 0 → ∀ b off, a = some ⟨b, off, none⟩ → b ≠ w.heap.size := by
  intro hn b off e
  rcases h.hcells with h0 | ⟨b', o', rfl, hlt, -⟩
  · omega
  · have : b' = b := congrArg Addr.block (Option.some.inj e)
    rw [← this]; exact Nat.ne_of_lt hlt
theorem Ents.put {w w' : World} {a : Option Addr} {n c g : Nat} {t : TypeId} {L : List (En × List UInt8)} {C : List Value} (h : Ents w a n c L) (hq : Row w g t C) (hnb : NB C) (hu : Upd w w' g) (hne : n ≠ 0 → ∀ b off, a = some ⟨b, off, none⟩ → b ≠ g) : Ents w' a n c L := by
  refine ⟨h.hlen, h.hle, h.hmax, fun p hp => EnF.put (h.hfit p hp) hq hnb hu, h.hnil, ?_⟩
  rcases h.hcells with h0 | ⟨b, o, rfl, hlt, hc⟩
  · exact .inl h0
  · by_cases hn : n = 0
    · exact .inl hn
    · right
      have hbg := hne hn b o rfl
      refine ⟨b, o, rfl, by rw [hu.size]; exact hlt, fun i hi j v hj => ?_⟩
      rw [hu.cell (p := ⟨b, o + i * 4 + j, none⟩) hbg]; exact hc i hi j v hj
theorem SvF.put {w w' : World} {s : Sv} {d : List UInt8} {L : List (En × List UInt8)} {g : Nat} {z : Sv} (h : SvF w s d L) (hq : Row w g 25 z.cells) (hu : Upd w w' g) (hne : s.en ≠ 0 → ∀ b off, s.ea = some ⟨b, off, none⟩ → b ≠ g) : SvF w' s d L :=
  ⟨h.t, h.v, h.b, h.bt, h.f, h.rd.put hq (NB_sv z) hu, h.es.put hq (NB_sv z) hu hne⟩
end Go.Proofs.Ytbcaphkbjeejhaa.W
