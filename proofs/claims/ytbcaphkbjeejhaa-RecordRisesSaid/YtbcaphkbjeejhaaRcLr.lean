/- LAYER 11 (record): the law Rises. -/
import Derived.Test.YtbcaphkbjeejhaaRcLa
set_option linter.unusedSimpArgs false
set_option linter.unusedVariables false
namespace Go.Proofs.Ytbcaphkbjeejhaa.W
open Go Go.ChangeShapes Go.WideShapes Go.ChangeAt Go.RowKit

/-- numbers that rise by one -/
def rises : Int → List (Int × Int × Int × List UInt8) → Prop
  | _, [] => True
  | b, x :: l => x.1 = b + 1 ∧ rises (b + 1) l
theorem rises_gt : ∀ (l : List (Int × Int × Int × List UInt8)) (b : Int), rises b l → ∀ x ∈ l, b < x.1
  | [], _, _, x, hx => by cases hx
  | y :: l, b, h, x, hx => by
    rcases List.mem_cons.1 hx with rfl | hx
    · have := h.1; omega
    · have := rises_gt l (b + 1) h.2 x hx; omega
theorem rises_base : ∀ (l : List (Int × Int × Int × List UInt8)) (b i : Int), rises b l → b ≤ i → rises i (l.filter (fun x => !decide (x.1 ≤ i)))
  | [], _, _, _, _ => trivial
  | y :: l, b, i, h, hi => by
    by_cases hy : y.1 ≤ i
    · rw [List.filter_cons_of_neg (by simp [hy])]
      exact rises_base l (b + 1) i h.2 (by have := h.1; omega)
    · have hb : i = b := by have := h.1; omega
      subst hb
      rw [List.filter_cons_of_pos (by simp [hy]), List.filter_eq_self.2]
      · exact h
      · intro x hx
        have := rises_gt l (i + 1) h.2 x hx
        simp; omega
theorem rises_cut : ∀ (l : List (Int × Int × Int × List UInt8)) (b i : Int), rises b l → b < i → rises b (l.filter (fun x => !decide (i ≤ x.1)))
  | [], _, _, _, _ => trivial
  | y :: l, b, i, h, hi => by
    by_cases hy : i ≤ y.1
    · have h1 : (y :: l).filter (fun x => !decide (i ≤ x.1)) = [] := by
        rw [List.filter_eq_nil_iff]
        intro x hx
        have hx2 : i ≤ x.1 := by
          rcases List.mem_cons.1 hx with rfl | hx
          · exact hy
          · have := rises_gt l (b + 1) h.2 x hx
            have := h.1; omega
        simp [hx2]
      rw [h1]; trivial
    · rw [List.filter_cons_of_pos (by simp [hy])]
      exact ⟨h.1, rises_cut l (b + 1) i h.2 (by have := h.1; omega)⟩
theorem rises_last : ∀ (l : List (Int × Int × Int × List UInt8)) (b : Int), rises b l → (l.getLast?.map (·.1)).getD b = b + l.length
  | [], b, _ => by simp
  | [y], b, h => by simp [h.1]
  | y :: z :: l, b, h => by
    have := rises_last (z :: l) (b + 1) h.2
    rw [List.getLast?_cons_cons]
    have h1 : ((z :: l).getLast?.map (·.1)).getD b = ((z :: l).getLast?.map (·.1)).getD (b + 1) := by
      rw [List.getLast?_cons]; rfl
    rw [h1, this]; simp; omega
theorem rises_app : ∀ (l : List (Int × Int × Int × List UInt8)) (b : Int) (x : Int × Int × Int × List UInt8), rises b l → x.1 = b + l.length + 1 → rises b (l ++ [x])
  | [], b, x, _, hx => ⟨by simpa using hx, trivial⟩
  | y :: l, b, x, h, hx => ⟨h.1, rises_app l (b + 1) x h.2 (by rw [hx]; simp; omega)⟩
theorem rises_get : ∀ (l : List (Int × Int × Int × List UInt8)) (b : Int) (j : Nat) (hj : j < l.length), rises b l → (l[j]).1 = b + 1 + j
  | [], _, j, hj, _ => by simp at hj
  | y :: l, b, 0, _, h => by simpa using h.1
  | y :: l, b, j + 1, hj, h => by
    have := rises_get l (b + 1) j (by simpa using hj) h.2
    rw [List.getElem_cons_succ, this]; push_cast; omega
/-- what the law keeps -/
structure PB (k : Nat) (q : Ps) : Prop where
  l : q.l.length ≤ k
  d : q.d.length ≤ 140000
  x : ∀ x ∈ q.l, x.2.2.2.length ≤ 5000
  b : 0 ≤ q.b ∧ q.b ≤ 2147483648
  r : rises q.b q.l
theorem PB.step {k : Nat} {q : Ps} {r : Rc} {l p : List UInt8} (h : PB k q) (hl : l.length ≤ 5000) (hp : p.length ≤ 140000) : PB (k + 1) (q.app r l p).1 := by
  unfold Ps.app
  split
  · exact ⟨Nat.le_succ_of_le h.l, h.d, h.x, h.b, h.r⟩
  rename_i hck
  have hck0 : chkR r l p = 0 := by rcases chkR_zero r l p with h | h <;> simp_all
  obtain ⟨hk, h3, h1⟩ := chkR_kind hck0
  split
  · exact ⟨Nat.le_succ_of_le h.l, h.d, h.x, h.b, h.r⟩
  rename_i hfo
  have hfo' : q.foll r = true := by simpa using hfo
  unfold Ps.foll at hfo'
  unfold Ps.go
  dsimp only
  rcases hk with hk | hk | hk | hk
  · rw [if_pos hk] at hfo' ⊢
    have hbi := of_decide_eq_true hfo'
    have hi := h1 hk
    exact ⟨Nat.le_succ_of_le (Nat.le_trans (List.length_filter_le _ _) h.l), hp, fun x hx => h.x x (List.mem_filter.1 hx).1, ⟨by have := h.b.1; show 0 ≤ r.i; omega, by show r.i ≤ _; omega⟩, rises_base q.l q.b r.i h.r hbi⟩
  · rw [if_neg (by omega), if_pos hk]
    exact ⟨Nat.le_succ_of_le h.l, h.d, h.x, h.b, h.r⟩
  · rw [if_neg (by omega), if_pos hk] at hfo'
    rw [if_neg (by omega), if_neg (by omega), if_pos hk]
    have he : r.e.ix - 1 = q.last := by simpa using hfo'
    unfold Ps.last at he
    rw [rises_last q.l q.b h.r] at he
    refine ⟨by show (q.l ++ _).length ≤ _; rw [List.length_append]; have := h.l; simp; omega, h.d, fun x hx => ?_, h.b, rises_app q.l q.b _ h.r (by show r.e.ix = _; omega)⟩
    rcases List.mem_append.1 hx with hx | hx
    · exact h.x x hx
    · rw [List.mem_singleton.1 hx]; exact hl
  · rw [if_neg (by omega), if_neg (by omega), if_pos hk] at hfo'
    rw [if_neg (by omega), if_neg (by omega), if_neg (by omega)]
    exact ⟨Nat.le_succ_of_le (Nat.le_trans (List.length_filter_le _ _) h.l), h.d, fun x hx => h.x x (List.mem_filter.1 hx).1, h.b, rises_cut q.l q.b r.i h.r (of_decide_eq_true hfo')⟩
theorem Rcs.at {w wr : World} {a : Option Addr} {n c : Nat} {L : List (Rc × List UInt8 × List UInt8)} (h : Rcs w a n c L) (hb : Below w.heap.size w wr) (k : Nat) (hk : k < n) :
    ∃ x off, a = some ⟨x, off, none⟩ ∧ (∀ j v, (L.getD k Rcz).1.cells[j]? = some v → wr.cell? ⟨x, off + k * 10 + j, none⟩ = some v) ∧ RcF wr (L.getD k Rcz).1 (L.getD k Rcz).2.1 (L.getD k Rcz).2.2 := by
  rcases h.hcells with h0 | ⟨x, off, rfl, hx, hcell⟩
  · omega
  have hk2 : k < L.length := by rw [h.hlen]; exact hk
  refine ⟨x, off, rfl, fun j v hj => ?_, ?_⟩
  · rw [hb.cell (p := ⟨x, off + k * 10 + j, none⟩) hx]; exact hcell k hk j v hj
  · have : L.getD k Rcz = L[k] := by simp [List.getD_eq_getElem?_getD, hk2]
    rw [this]
    exact (h.hfit _ (List.getElem_mem hk2)).mono hb
theorem NB_rc (r : Rc) : NB r.cells := by
  intro x hx
  simp [Rc.cells, B] at hx
theorem RcF.put {w w' : World} {r : Rc} {l p : List UInt8} {g : Nat} {t : TypeId} {C : List Value} (h : RcF w r l p) (hq : Row w g t C) (hnb : NB C) (hu : Upd w w' g) : RcF w' r l p := ⟨h.k, h.t, h.v, h.e.put hq hnb hu, h.i, h.f, h.rd.put hq hnb hu⟩
theorem SvF.put' {w w' : World} {s : Sv} {d : List UInt8} {L : List (En × List UInt8)} {g : Nat} {t : TypeId} {C : List Value} (h : SvF w s d L) (hq : Row w g t C) (hnb : NB C) (hu : Upd w w' g) (hne : s.en ≠ 0 → ∀ b off, s.ea = some ⟨b, off, none⟩ → b ≠ g) : SvF w' s d L :=
  ⟨h.t, h.v, h.b, h.bt, h.f, h.rd.put hq hnb hu, h.es.put hq hnb hu hne⟩
theorem rc_zero' : (Try.prog.info? 29).map (·.zero) = some (some (.agg (Rc.cells ⟨0, 0, 0, En.zero, 0, 0, none, 0, 0⟩).toArray)) := by kernel_rfl
theorem PB.of {w : World} {s : Sv} {d : List UInt8} {L : List (En × List UInt8)} {k : Nat} {q : Ps} (h : PB k q) (hs : SvF w s d L) (he : s.ps d L = q) : s.n ≤ 140737488355000 ∧ s.en = q.l.length ∧ (∀ p ∈ L, p.1.n ≤ 140737488355000) := by
  subst he
  have h1 := h.d
  have h2 := hs.rd.hlen
  have h3 := hs.es.hlen
  refine ⟨by show s.n ≤ _; have : d.length ≤ 140000 := h1; omega, by show s.en = (L.map pe).length; rw [List.length_map, h3], fun p hp => ?_⟩
  have h4 := h.x (pe p) (List.mem_map_of_mem hp)
  have h5 := (hs.es.hfit p hp).rd.hlen
  have h6 : p.2.length ≤ 5000 := h4
  omega
theorem PB.ix {w : World} {s : Sv} {d : List UInt8} {L : List (En × List UInt8)} {k : Nat} {q : Ps} (h : PB k q) (hs : SvF w s d L) (he : s.ps d L = q) (j : Nat) (hj : j < s.en) : (L.getD j Ez).1.ix = s.b + 1 + j := by
  subst he
  have hj2 : j < (L.map pe).length := by rw [List.length_map, hs.es.hlen]; exact hj
  have h1 := rises_get _ _ j hj2 h.r
  have hj3 : j < L.length := by simpa using hj2
  rw [List.getElem_map] at h1
  have h2 : L.getD j Ez = L[j] := by simp [List.getD_eq_getElem?_getD, hj3]
  rw [h2]; exact h1
theorem few_len {w : World} {r : Rc} {l p : List UInt8} (hr : RcF w r l p) (h : fewB r = true) : l.length ≤ 5000 ∧ p.length ≤ 140000 := by
  unfold fewB at h
  simp at h
  have h1 := hr.rd.hlen
  have h2 := hr.e.rd.hlen
  omega
set_option maxRecDepth 100000 in
set_option maxHeartbeats 16000000 in
theorem law_RecordRises (a : Option Addr) (n c : Nat) (R : List (Rc × List UInt8 × List UInt8)) (w : World) (wr0 : Rcs w a n c R) :
    Calls Try.prog 4 #[.slice a n c] w fun x w' => x = .returned (.bool true) ∧ Below w.heap.size w w' := by
  have H := Lib.hid wr0
  have SS := Lib.hid sv_size
  have RS := Lib.hid rc_size
  have SZ := Lib.hid sv_zero
  have RZ := Lib.hid rc_zero'
  have EZ := Lib.hid en_zero
  have ES := Lib.hid en_size
  have hn := wr0.hmax
  clear wr0
  go_enter Try.func4, Try.ntmps4
  go_wp2_with (first
    | ((with_reducible refine alloc_row (o := ⟨some 3, _, _, _, _, _⟩) rfl _ rfl _ SZ.out ?_); intro w1 hr hb hz; have S1 := Lib.hid hr; have B1 := Lib.hid hb; clear hr hb hz))
  have I1 : Hid (SvF w1 svZ [] []) := Lib.hid ⟨⟨by decide, by decide⟩, ⟨by decide, by decide⟩, ⟨by decide, by decide⟩, ⟨by decide, by decide⟩, ⟨by decide, by decide⟩, Rd_nil _, Ents.nil _⟩
  have Q1 : Hid (PB 0 (svZ.ps [] [])) := Lib.hid ⟨Nat.zero_le _, Nat.zero_le _, (by intro x hx; cases hx), by decide, trivial⟩
  go_loopw [10] (fun i wr => ∃ (k : Nat) (s : Sv) (d : List UInt8) (L : List (En × List UInt8)), i = .int .i64 (k : Int) ∧ k ≤ n ∧ k ≤ 30 ∧ Hid (Row wr w.heap.size 25 s.cells) ∧ Hid (SvF wr s d L) ∧ Hid (PB k (s.ps d L)) ∧ Hid (∀ b off, s.ea = some ⟨b, off, none⟩ → w.heap.size < b) ∧ Hid (Below w.heap.size w wr)) (fun i _ => n - (intOf i).toNat)
  case atStart => exact ⟨0, svZ, [], [], rfl, Nat.zero_le _, Nat.zero_le _, S1, I1, Q1, Lib.hid (fun _ _ e => by cases e), B1⟩
  case round =>
    obtain ⟨k, s, d, L, rfl, hk, hk30, HS, HI, HP, HA, HB⟩ := hrel
    by_cases hlt : k < n
    · obtain ⟨x1, o1, rfl, hx1, hr1⟩ := H.out.at HB.out k hlt
      obtain ⟨⟨r, l, p⟩, hq⟩ : ∃ y, R.getD k Rcz = y := ⟨_, rfl⟩
      rw [hq] at hx1 hr1
      dsimp only at hx1 hr1
      have X1 := Lib.hid hx1
      have F1 := Lib.hid hr1
      have g1 : (0 : Int) ≤ (k : Int) := by omega
      have g2 : (k : Int) < (n : Int) := by omega
      obtain ⟨fb, hfb⟩ : ∃ b, fewB r = b := ⟨_, rfl⟩
      have FB := Lib.hid hfb
      clear hx1 hr1 hq hfb
      have WL := Lib.hid (show w.heap.size < wr.heap.size from HS.out.lt)
      by_cases h30 : k = 30
      · have h30' : (30 : Int) ≤ (k : Int) := by omega
        clear h30
        go_wp2_with (first
          | ((with_reducible refine load_cells (o := ⟨some 14, _, _, _, _, _⟩) rfl _ _ rfl x1 (o1 + k * 10) ?_ r.cells _ X1.out Try.underlying29 rfl ?_ ?_); (focus go_simp); (focus (exact RS.out)))
                | ((with_reducible refine alloc_row (o := ⟨some 5, _, _, _, _, _⟩) rfl _ rfl _ RZ.out ?_); intro w2 hr hb hz; have A2 := Lib.hid hr; have S2 := Lib.hid (HS.out.below hb HS.out.lt); have I2 := Lib.hid (HI.out.mono hb); have F2 := Lib.hid (F1.out.mono hb); have B2 := Lib.hid (HB.out.trans (hb.mono HB.out.size)); have E2 := Lib.hid HI.out.es.blk; clear hr hb hz)
                | ((with_reducible refine store_row (o := ⟨none, _, _, _, _, _⟩) rfl _ (.tmp 5) _ rfl wr.heap.size r.cells ?_ ?_ 29 _ A2.out ?_ ?_ ?_ ?_); (focus go_simp); (focus (first | (go_simp; done) | (go_simp; rfl))); (focus (exact RS.out)); (focus rfl); (focus (exact rc_one _)); intro w3 hr hu; have R3 := Lib.hid hr; have S3 := Lib.hid (S2.out.upd hu (Nat.ne_of_lt WL.out)); have I3 := Lib.hid (I2.out.put' A2.out (NB_rc _) hu E2.out); have F3 := Lib.hid (F2.out.put A2.out (NB_rc _) hu); have B3 := Lib.hid (B2.out.trans (hu.below (Nat.le_of_lt WL.out))); obtain ⟨d0, d1, d2, d3, d4, d5, d6, d7, d8, d9⟩ := R3.out.q10; clear hr hu)
          | (go_at_call 10; (with_reducible refine (awake11 w3).mono ?_); rintro x wz ⟨rfl, hb⟩; have Bz := Lib.hid (B3.out.trans (hb.mono B3.out.size)); clear hb))
        go_ret
        exact ⟨rfl, Bz.out⟩
      · have h30' : (k : Int) < 30 := by omega
        rcases fb with _ | _
        · go_wp2_with (first
            | ((with_reducible refine load_cells (o := ⟨some 14, _, _, _, _, _⟩) rfl _ _ rfl x1 (o1 + k * 10) ?_ r.cells _ X1.out Try.underlying29 rfl ?_ ?_); (focus go_simp); (focus (exact RS.out)))
                | ((with_reducible refine alloc_row (o := ⟨some 5, _, _, _, _, _⟩) rfl _ rfl _ RZ.out ?_); intro w2 hr hb hz; have A2 := Lib.hid hr; have S2 := Lib.hid (HS.out.below hb HS.out.lt); have I2 := Lib.hid (HI.out.mono hb); have F2 := Lib.hid (F1.out.mono hb); have B2 := Lib.hid (HB.out.trans (hb.mono HB.out.size)); have E2 := Lib.hid HI.out.es.blk; clear hr hb hz)
                | ((with_reducible refine store_row (o := ⟨none, _, _, _, _, _⟩) rfl _ (.tmp 5) _ rfl wr.heap.size r.cells ?_ ?_ 29 _ A2.out ?_ ?_ ?_ ?_); (focus go_simp); (focus (first | (go_simp; done) | (go_simp; rfl))); (focus (exact RS.out)); (focus rfl); (focus (exact rc_one _)); intro w3 hr hu; have R3 := Lib.hid hr; have S3 := Lib.hid (S2.out.upd hu (Nat.ne_of_lt WL.out)); have I3 := Lib.hid (I2.out.put' A2.out (NB_rc _) hu E2.out); have F3 := Lib.hid (F2.out.put A2.out (NB_rc _) hu); have B3 := Lib.hid (B2.out.trans (hu.below (Nat.le_of_lt WL.out))); obtain ⟨d0, d1, d2, d3, d4, d5, d6, d7, d8, d9⟩ := R3.out.q10; clear hr hu)
            | (go_at_call 19; (with_reducible refine (rfewL r w3).mono ?_); rw [FB.out]; rintro x w4 ⟨rfl, hb⟩; have R4 := Lib.hid (R3.out.below hb R3.out.lt); have S4 := Lib.hid (S3.out.below hb S3.out.lt); have I4 := Lib.hid (I3.out.mono hb); have F4 := Lib.hid (F3.out.mono hb); have B4 := Lib.hid (B3.out.trans (hb.mono B3.out.size)); clear hb)
            | (go_at_call 10; (with_reducible refine (awake11 w4).mono ?_); rintro x wz ⟨rfl, hb⟩; have Bz := Lib.hid (B4.out.trans (hb.mono B4.out.size)); clear hb))
          go_ret
          exact ⟨rfl, Bz.out⟩
        · obtain ⟨hl5, hp5⟩ := few_len F1.out FB.out
          obtain ⟨hsn, hse, hbg⟩ := HP.out.of HI.out rfl
          have hen : s.en ≤ 1000000 := by have := HP.out.l; omega
          obtain ⟨Q, hQ⟩ : ∃ Q, (s.ps d L).app r l p = Q := ⟨_, rfl⟩
          have HQ := Lib.hid hQ
          have HPN := HP.out.step (r := r) hl5 hp5
          rw [hQ] at HPN
          have HP2 := Lib.hid HPN
          clear hQ hl5 hp5 hse HPN
          go_wp2_with (first
            | ((with_reducible refine load_cells (o := ⟨some 14, _, _, _, _, _⟩) rfl _ _ rfl x1 (o1 + k * 10) ?_ r.cells _ X1.out Try.underlying29 rfl ?_ ?_); (focus go_simp); (focus (exact RS.out)))
                | ((with_reducible refine alloc_row (o := ⟨some 5, _, _, _, _, _⟩) rfl _ rfl _ RZ.out ?_); intro w2 hr hb hz; have A2 := Lib.hid hr; have S2 := Lib.hid (HS.out.below hb HS.out.lt); have I2 := Lib.hid (HI.out.mono hb); have F2 := Lib.hid (F1.out.mono hb); have B2 := Lib.hid (HB.out.trans (hb.mono HB.out.size)); have E2 := Lib.hid HI.out.es.blk; clear hr hb hz)
                | ((with_reducible refine store_row (o := ⟨none, _, _, _, _, _⟩) rfl _ (.tmp 5) _ rfl wr.heap.size r.cells ?_ ?_ 29 _ A2.out ?_ ?_ ?_ ?_); (focus go_simp); (focus (first | (go_simp; done) | (go_simp; rfl))); (focus (exact RS.out)); (focus rfl); (focus (exact rc_one _)); intro w3 hr hu; have R3 := Lib.hid hr; have S3 := Lib.hid (S2.out.upd hu (Nat.ne_of_lt WL.out)); have I3 := Lib.hid (I2.out.put' A2.out (NB_rc _) hu E2.out); have F3 := Lib.hid (F2.out.put A2.out (NB_rc _) hu); have B3 := Lib.hid (B2.out.trans (hu.below (Nat.le_of_lt WL.out))); obtain ⟨d0, d1, d2, d3, d4, d5, d6, d7, d8, d9⟩ := R3.out.q10; clear hr hu)
            | (go_at_call 19; (with_reducible refine (rfewL r w3).mono ?_); rw [FB.out]; rintro x w4 ⟨rfl, hb⟩; have R4 := Lib.hid (R3.out.below hb R3.out.lt); have S4 := Lib.hid (S3.out.below hb S3.out.lt); have I4 := Lib.hid (I3.out.mono hb); have F4 := Lib.hid (F3.out.mono hb); have B4 := Lib.hid (B3.out.trans (hb.mono B3.out.size)); clear hb)
            | ((with_reducible refine load_row (o := ⟨some 23, _, _, _, _, _⟩) rfl _ _ rfl w.heap.size ?_ _ s.cells _ S4.out Try.underlying25 rfl ?_ ?_); (focus go_simp); (focus (exact SS.out)))
            | ((with_reducible refine load_row (o := ⟨some 24, _, _, _, _, _⟩) rfl _ _ rfl wr.heap.size ?_ _ r.cells _ R4.out Try.underlying29 rfl ?_ ?_); (focus go_simp); (focus (exact RS.out)))
            | (go_at_call 12; (with_reducible refine (rapply s d L r l p w4 ?_ ?_ hsn hen hbg).mono ?_); (focus (exact I4.out)); (focus (exact F4.out)); rw [HQ.out]; rintro x w5 ⟨s', d', L', rfl, hx, hex, hfr, hb⟩; have I5 := Lib.hid hx; have EX := Lib.hid hex; have FR := Lib.hid hfr; have S5 := Lib.hid (S4.out.below hb S4.out.lt); have L5 := Lib.hid (show w.heap.size < w4.heap.size from S4.out.lt); have B5 := Lib.hid (B4.out.trans (hb.mono B4.out.size)); clear hx hex hfr hb d0 d1 d2 d3 d4 d5 d6 d7 d8 d9)
            | ((with_reducible refine store_row (o := ⟨none, _, _, _, _, _⟩) rfl _ (.tmp 3) _ rfl w.heap.size s'.cells ?_ ?_ 25 _ S5.out ?_ ?_ (sv_one _) ?_); (focus go_simp); (focus (first | (go_simp; done) | (go_simp; rfl))); (focus (exact SS.out)); (focus rfl); intro w6 hr hu; have S6 := Lib.hid hr; have A6 : Hid (∀ b off, s'.ea = some ⟨b, off, none⟩ → w.heap.size < b) := Lib.hid (fun b off e => (FR.out b off e).elim (fun h => Nat.lt_of_lt_of_le L5.out h) (fun h => HA.out b off (h ▸ e))); have I6 := Lib.hid (I5.out.put (z := s) S5.out hu (fun _ b off e => Nat.ne_of_gt (A6.out b off e))); have B6 := Lib.hid (B5.out.trans (hu.below (Nat.le_refl _))); obtain ⟨c0, c1, c2, c3, c4, c5, c6⟩ := S6.out.q7; clear hr hu))
          clear c0 c1 c2 c3 c4 c5 c6
          have hpx := HP2.out.l
          have hpb := HP2.out.b
          have hse := (HP2.out.of I6.out EX.out).2.1
          have hsb : s'.b = Q.1.b := by rw [← EX.out]; rfl
          have hse2 : s'.en ≤ 31 := by omega
          have hb0 : 0 ≤ s'.b ∧ s'.b ≤ 2147483648 := by rw [hsb]; exact hpb
          clear hpx hpb hse hsb
          go_loopw [31] (fun i wv => ∃ j : Nat, i = .int .i64 (j : Int) ∧ j ≤ s'.en ∧ Hid (Below w6.heap.size w6 wv)) (fun i _ => s'.en - (intOf i).toNat)
          case atStart => exact ⟨0, rfl, Nat.zero_le _, Lib.hid (Below.refl _ _)⟩
          case round =>
            obtain ⟨j, rfl, hj, V⟩ := hrel
            obtain ⟨c0, c1, c2, c3, c4, c5, c6⟩ := (S6.out.below V.out S6.out.lt).q7
            by_cases hjl : j < s'.en
            · obtain ⟨x2, o2, he2, hx2, -, -⟩ := I6.out.es.at V.out j hjl
              have hix := HP2.out.ix I6.out EX.out j hjl
              obtain ⟨⟨⟨ix, tm, kd, qa, qn, qc⟩, ql⟩, hq⟩ : ∃ y, L'.getD j Ez = y := ⟨_, rfl⟩
              rw [hq] at hx2 hix
              dsimp only at hx2 hix
              have X2 := Lib.hid hx2
              rw [he2] at c6
              have g3 : (0 : Int) ≤ (j : Int) := by omega
              have g4 : (j : Int) < (s'.en : Int) := by omega
              have gw1 : IntKind.i64.wrap (s'.b + 1) = s'.b + 1 := by rw [IntKind.wrap_i64]; omega
              have gw2 : IntKind.i64.wrap (s'.b + 1 + (j : Int)) = s'.b + 1 + (j : Int) := by rw [IntKind.wrap_i64]; omega
              subst hix
              clear hx2 hq
              go_wp2_with (first
                | ((with_reducible refine load_cells (o := ⟨some 35, _, _, _, _, _⟩) rfl _ _ rfl x2 (o2 + j * 4) ?_ (En.cells ⟨s'.b + 1 + (j : Int), tm, kd, qa, qn, qc⟩) _ X2.out Try.underlying27 rfl ?_ ?_); (focus (first | (go_simp; done) | (rw [he2]; go_simp; done) | (simp [he2]; go_simp))); (focus (exact ES.out)))
                | ((with_reducible refine alloc_row (o := ⟨some 7, _, _, _, _, _⟩) rfl _ rfl _ EZ.out ?_); intro v2 hr hb hz; have A2 := Lib.hid hr; have V2 := Lib.hid (V.out.trans (hb.mono V.out.size)); have W2 := Lib.hid hb; clear hr hb hz c0 c1 c2 c3 c4 c5 c6)
                | ((with_reducible refine store_row (o := ⟨none, _, _, _, _, _⟩) rfl _ (.tmp 7) _ rfl wr.heap.size (En.cells ⟨s'.b + 1 + (j : Int), tm, kd, qa, qn, qc⟩) ?_ ?_ 27 _ A2.out ?_ ?_ (cells_one _) ?_); (focus go_simp); (focus (first | (go_simp; done) | (go_simp; rfl))); (focus (exact ES.out)); (focus rfl); intro v3 hr hu; have V3 := Lib.hid (V2.out.trans (hu.below V.out.size)); obtain ⟨e0, e1, e2, e3⟩ := hr.q4; obtain ⟨c0, c1, c2, c3, c4, c5, c6⟩ := (S6.out.below V3.out S6.out.lt).q7; clear hr hu))
              go_roundw
              case rel =>
                refine ⟨_, _, _, _, ⟨j + 1, ?_, by omega⟩, rfl, rfl, rfl, rfl⟩
                exact vint (by omega)
              case measure => simp [intOf]; omega
            · obtain rfl : j = s'.en := by omega
              go_wp2_with fail
              go_roundw
              case rel =>
                exact ⟨k + 1, s', d', L', vint (by omega), by omega, by omega, Lib.hid (S6.out.below V.out S6.out.lt), Lib.hid (I6.out.mono V.out), Lib.hid (by rw [EX.out]; exact HP2.out), A6, Lib.hid (B6.out.trans (V.out.mono B6.out.size))⟩
              case measure => simp [intOf]; omega
    · obtain rfl : k = n := by omega
      go_wp2_with (first
        | (go_at_call 10; (with_reducible refine (awake11 wr).mono ?_); rintro x wz ⟨rfl, hb⟩; have Bz := Lib.hid (HB.out.trans (hb.mono HB.out.size)); clear hb))
      go_ret
      exact ⟨rfl, Bz.out⟩
end Go.Proofs.Ytbcaphkbjeejhaa.W
