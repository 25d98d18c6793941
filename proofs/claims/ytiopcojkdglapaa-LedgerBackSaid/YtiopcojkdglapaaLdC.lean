/- LAYER 19 (ledger): Check of the reference. -/
import Derived.Test.YtiopcojkdglapaaLdU
set_option linter.unusedSimpArgs false
set_option linter.unusedVariables false
namespace Go.Proofs.Ytiopcojkdglapaa.W
open Go Go.ChangeShapes Go.WideShapes Go.ChangeAt Go.RowKit
open Go.Proofs.Ytiopcojkdglapaa.P (enc dec)

def behH (p : Option Int) (s : Hd) : Bool := match p with | none => true | some i => decide (i < s.id)
theorem chkH_cons (n : Int) (p : Option Int) (s : Hd) (L : List Hd) : chkH n p (s :: L) = (s.ok && (decide (s.id < n) && (behH p s && chkH n (some s.id) L))) := by
  cases p <;> rfl
theorem chkH_snoc (n : Int) : ∀ (L : List Hd) (p : Option Int) (s : Hd), chkH n p (L ++ [s]) = (chkH n p L && (s.ok && (decide (s.id < n) && behH ((L.getLast?.map (·.id)).or p) s)))
  | [], p, s => by simp [chkH_cons, show ∀ p, chkH n p [] = true from fun _ => rfl]
  | x :: L, p, s => by
    rw [List.cons_append, chkH_cons, chkH_cons, chkH_snoc n L (some x.id) s]
    have : ((x :: L).getLast?.map (·.id)).or p = (L.getLast?.map (·.id)).or (some x.id) := by
      cases L with
      | nil => simp
      | cons y L => simp [List.getLast?_cons]
    rw [this]
    simp only [Bool.and_assoc]
theorem chkH_take (n : Int) (L : List Hd) (p : Option Int) (k : Nat) (h : chkH n p L = true) : chkH n p (L.take k) = true := chkH_sub L _ p p (List.take_sublist k L) h (fun i e => ⟨i, e, Int.le_refl _⟩)
theorem chkH_next (n : Int) (L : List Hd) (k : Nat) (s : Hd) (hs : L[k]? = some s) : chkH n none (L.take (k + 1)) = (chkH n none (L.take k) && (s.ok && (decide (s.id < n) && behH (if k = 0 then none else L[k - 1]?.map (·.id)) s))) := by
  have hk : k < L.length := (List.getElem?_eq_some_iff.1 hs).1
  have h1 : L.take (k + 1) = L.take k ++ [s] := by
    rw [List.take_succ_eq_append_getElem hk]
    rw [List.getElem?_eq_getElem hk] at hs
    rw [Option.some.inj hs]
  rw [h1, chkH_snoc]
  congr 3
  rcases k with _ | k
  · simp
  · have : (L.take (k + 1)).getLast? = L[k]? := by
      rw [List.getLast?_eq_getElem?, List.length_take, Nat.min_eq_left (by omega)]
      simp
    rw [this, if_neg (by omega)]
    simp only [Nat.add_sub_cancel, Option.or_none]
theorem sumH_next (L : List Hd) (k : Nat) (s : Hd) (hs : L[k]? = some s) : sumH (L.take (k + 1)) = sumH (L.take k) + s.by' := by
  have hk : k < L.length := (List.getElem?_eq_some_iff.1 hs).1
  rw [List.take_succ_eq_append_getElem hk, sumH_app]
  rw [List.getElem?_eq_getElem hk] at hs
  rw [Option.some.inj hs]
  simp [sumH]
theorem sumH_most (n : Int) (L : List Hd) (h : chkH n none L = true) : 0 ≤ sumH L ∧ sumH L ≤ (L.length : Int) * 1099511627776 := by
  have hm := chkH_mem L none h
  clear h
  induction L with
  | nil => simp [sumH]
  | cons s L ih =>
    have h1 := (hm s (by simp)).1.by'
    have h2 := ih (fun x hx => hm x (by simp [hx]))
    rw [sumH_cons]
    simp only [List.length_cons]
    omega
theorem bs5 : ∀ b0 b1 b2 b3 b4 : Bool, ((b0 = false) ∨ (b0 = true ∧ b1 = false) ∨ (b0 = true ∧ b1 = true ∧ b2 = false) ∨ (b0 = true ∧ b1 = true ∧ b2 = true ∧ b3 = false) ∨ (b0 = true ∧ b1 = true ∧ b2 = true ∧ b3 = true ∧ b4 = false)) ∨ (b0 = true ∧ b1 = true ∧ b2 = true ∧ b3 = true ∧ b4 = true) := by
  intro b0 b1 b2 b3 b4
  cases b0 <;> cases b1 <;> cases b2 <;> cases b3 <;> cases b4 <;> simp
set_option maxRecDepth 100000 in
set_option maxHeartbeats 16000000 in
theorem ycheck (q u h' nx : Int) (a : Option Addr) (n c : Nat) (L : List Hd) (w : World) (h : Ls hdE w a n c L) (hq : SI64 q) (hu : SI64 u) (hh : SI64 h') (hn : SI64 nx) :
    Calls Try.prog 42 #[.agg (ldC q u h' nx a n c).toArray] w fun x w' => x = .returned (.bool (Ld.ok ⟨q, u, h', nx, L⟩)) ∧ Below w.heap.size w w' := by
  have H := Lib.hid h
  have HL := Lib.hid h.hlen
  have hm := h.hmax
  have hle := h.hle
  have SZ := Lib.hid hd_size
  have MZ := Lib.hid hd_zero
  obtain ⟨V, hV⟩ : ∃ V, Ld.ok ⟨q, u, h', nx, L⟩ = V := ⟨_, rfl⟩
  rw [hV]
  obtain ⟨b0, h0⟩ : ∃ b, in64 q 0 1099511627776 = b := ⟨_, rfl⟩
  obtain ⟨b1, h1⟩ : ∃ b, in64 u 0 1099511627776 = b := ⟨_, rfl⟩
  obtain ⟨b2, h2⟩ : ∃ b, in64 h' 0 1099511627776 = b := ⟨_, rfl⟩
  obtain ⟨b3, h3⟩ : ∃ b, in64 nx 1 2147483648 = b := ⟨_, rfl⟩
  obtain ⟨b4, h4⟩ : ∃ b, decide (L.length ≤ 8) = b := ⟨_, rfl⟩
  have HV := Lib.hid (show (b0 && (b1 && (b2 && (b3 && (b4 && (chkH nx none L && (decide (sumH L = h') && decide (u + h' ≤ q)))))))) = V by rw [← hV]; unfold Ld.ok T40 T31; dsimp only; rw [h0, h1, h2, h3, h4])
  have h4' : decide (n ≤ 8) = b4 := by rw [← h4, HL.out]
  have H0 := Lib.hid h0
  have H1 := Lib.hid h1
  have H2 := Lib.hid h2
  have H3 := Lib.hid h3
  clear h hV h0 h1 h2 h3 h4
  rcases bs5 b0 b1 b2 b3 b4 with hbad | ⟨rfl, rfl, rfl, rfl, rfl⟩
  · rcases hbad with rfl | ⟨rfl, rfl⟩ | ⟨rfl, rfl, rfl⟩ | ⟨rfl, rfl, rfl, rfl⟩ | ⟨rfl, rfl, rfl, rfl, rfl⟩
    all_goals
      (first | (have g8 : (n : Int) ≤ 8 := by have := of_decide_eq_true h4'; omega) | (have g8 : ¬ (n : Int) ≤ 8 := by (have := of_decide_eq_false h4'; omega)) | skip)
      clear hq hu hh hn
      go_enter Try.func42, Try.ntmps42
      go_wp2_with (first
        | ((with_reducible refine box_row (o := ⟨some 1, _, _, _, _, _⟩) rfl _ _ rfl (ldC q u h' nx a n c) rfl ?_); intro w0 hr hb hz; obtain ⟨c0, c1, c2, c3, c4⟩ := hr.l5; have B0 := Lib.hid hb; clear hr hb hz)
        | (go_at_call 94; with_reducible refine (yin q 0 1099511627776 _).mono ?_; rw [H0.out]; rintro x w' ⟨rfl, rfl⟩)
        | (go_at_call 94; with_reducible refine (yin u 0 1099511627776 _).mono ?_; rw [H1.out]; rintro x w' ⟨rfl, rfl⟩)
        | (go_at_call 94; with_reducible refine (yin h' 0 1099511627776 _).mono ?_; rw [H2.out]; rintro x w' ⟨rfl, rfl⟩)
        | (go_at_call 94; with_reducible refine (yin nx 1 2147483648 _).mono ?_; rw [H3.out]; rintro x w' ⟨rfl, rfl⟩))
      go_ret
      exact ⟨one (vbool (by rw [← HV.out]; simp)), B0.out⟩
  · have g8 : (n : Int) ≤ 8 := by have := of_decide_eq_true h4'; omega
    have g8n : n ≤ 8 := by omega
    have hv0 : in64 q 0 1099511627776 = true := H0.out
    have hv1 : in64 u 0 1099511627776 = true := H1.out
    have hv2 : in64 h' 0 1099511627776 = true := H2.out
    have Q0 := Lib.hid (in64_iff.1 hv0)
    have Q1 := Lib.hid (in64_iff.1 hv1)
    have Q2 := Lib.hid (in64_iff.1 hv2)
    clear hv0 hv1 hv2 h4' hq hu hh hn
    go_enter Try.func42, Try.ntmps42
    go_wp2_with (first
      | ((with_reducible refine box_row (o := ⟨some 1, _, _, _, _, _⟩) rfl _ _ rfl (ldC q u h' nx a n c) rfl ?_); intro w0 hr hb hz; have R0 := Lib.hid hr; obtain ⟨c0, c1, c2, c3, c4⟩ := hr.l5; have B0 := Lib.hid hb; clear hr hb hz)
      | (go_at_call 94; with_reducible refine (yin q 0 1099511627776 _).mono ?_; rw [H0.out]; rintro x w' ⟨rfl, rfl⟩)
      | (go_at_call 94; with_reducible refine (yin u 0 1099511627776 _).mono ?_; rw [H1.out]; rintro x w' ⟨rfl, rfl⟩)
      | (go_at_call 94; with_reducible refine (yin h' 0 1099511627776 _).mono ?_; rw [H2.out]; rintro x w' ⟨rfl, rfl⟩)
      | (go_at_call 94; with_reducible refine (yin nx 1 2147483648 _).mono ?_; rw [H3.out]; rintro x w' ⟨rfl, rfl⟩))
    clear c0 c1 c2 c3 c4
    go_loopw [3, 4] (fun s i wr => ∃ k : Nat, i = .int .i64 (k : Int) ∧ k ≤ n ∧ s = .int .i64 (sumH (L.take k)) ∧ Hid (chkH nx none (L.take k) = true) ∧ Hid (Below w.heap.size w wr) ∧ Hid (Row wr w.heap.size 50 (ldC q u h' nx a n c))) (fun _ i _ => n - (intOf i).toNat)
    case atStart => exact ⟨0, rfl, Nat.zero_le _, rfl, Lib.hid rfl, B0, R0⟩
    case round =>
      obtain ⟨k, rfl, hk, rfl, P, B, RL⟩ := hrel
      have SM := Lib.hid (sumH_most nx _ P.out)
      have hsm := SM.out
      have htl : (L.take k).length ≤ 8 := by rw [List.length_take, HL.out]; omega
      obtain ⟨sm, hs⟩ : ∃ s, sumH (L.take k) = s := ⟨_, rfl⟩
      rw [hs] at hsm ⊢
      have hsb : 0 ≤ sm ∧ sm ≤ 8 * 1099511627776 := ⟨hsm.1, by have := hsm.2; have : ((L.take k).length : Int) ≤ 8 := (by omega); omega⟩
      have HSM := Lib.hid hs
      clear hs hsm SM htl
      obtain ⟨c0, c1, c2, c3, c4⟩ := RL.out.l5
      by_cases hlt : k < n
      · obtain ⟨b, off, x, rfl, hx, hcell, hfx⟩ := H.out.at hdOk B.out k hlt
        obtain ⟨i1, i2, i3, i4, i5, sp⟩ := x
        have XC := Lib.hid hcell
        have HX := Lib.hid hx
        have FX := Lib.hid hfx
        have hnx := chkH_next nx L k _ hx
        have hsn := sumH_next L k _ hx
        rw [P.out, Bool.true_and] at hnx
        rw [HSM.out] at hsn
        have hsn : sumH (L.take (k + 1)) = sm + i3 := hsn
        have HS := Lib.hid hsn
        have hbad : chkH nx none (L.take (k + 1)) = false → V = false := fun h => by
          rw [← HV.out]
          cases hc : chkH nx none L
          · rfl
          · rw [chkH_take nx L none (k + 1) hc] at h; cases h
        obtain ⟨ok, hok⟩ : ∃ b, Hd.ok ⟨i1, i2, i3, i4, i5, sp⟩ = b := ⟨_, rfl⟩
        rw [hok] at hnx
        have HOK := Lib.hid hok
        have g1 : (0 : Int) ≤ (k : Int) := by omega
        have g2 : (k : Int) < (n : Int) := by omega
        clear hx hcell hfx hsn c0 c1 c2 c3
        rcases ok with _ | _
        · have HF := Lib.hid (hbad (by rw [hnx]; rfl))
          clear hnx hbad
          go_wp2_with (first
            | ((with_reducible refine load_cells (o := ⟨some 45, _, _, _, _, _⟩) rfl _ _ rfl b (off + k * 6) ?_ [.int .i64 i1, .int .i64 i2, .int .i64 i3, .int .i64 i4, .int .i64 i5, .string sp] _ XC.out Try.underlying52 rfl ?_ ?_); (focus go_simp); (focus (exact SZ.out)))
            | ((with_reducible refine alloc_row (o := ⟨some 5, _, _, _, _, _⟩) rfl _ rfl _ MZ.out ?_); intro w5 hr hb hz; have R5 := Lib.hid hr; have RL5 := Lib.hid (RL.out.below hb RL.out.lt); have B5R := Lib.hid hb; have B5 := Lib.hid (B.out.trans (hb.mono B.out.size)); clear hr hb hz)
            | ((with_reducible refine store_row (o := ⟨none, _, _, _, _, _⟩) rfl _ (.tmp 5) _ rfl wr.heap.size [.int .i64 i1, .int .i64 i2, .int .i64 i3, .int .i64 i4, .int .i64 i5, .string sp] ?_ ?_ 52 _ R5.out ?_ ?_ ?_ ?_); (focus go_simp); (focus (first | (go_simp; done) | (go_simp; rfl))); (focus (exact SZ.out)); (focus rfl); (focus (exact hd_one ⟨i1, i2, i3, i4, i5, sp⟩)); intro w6 hr2 hu2; have R6 := Lib.hid hr2; have RL6 := Lib.hid (RL5.out.upd hu2 (Nat.ne_of_lt RL.out.lt)); have B6R := Lib.hid (B5R.out.trans (hu2.below (Nat.le_refl _))); have B6 := Lib.hid (B5.out.trans (hu2.below B.out.size)); obtain ⟨c60, c61, c62, c63, c64, c65⟩ := hr2.h6; have c60 := Lib.hid c60; have c62 := Lib.hid c62; clear c4; obtain ⟨c0, c1, c2, c3, c4⟩ := RL6.out.l5; have c3 := Lib.hid c3; have c4 := Lib.hid c4; clear hr2 hu2 c0 c1 c2 c61 c63 c64 c65))
          refine region_h (fun v => Below w6.heap.size w6 v) (by kernel_rfl) (by kernel_rfl) (Below.refl _ _).drew ?_
          obtain ⟨wd, hwd⟩ : ∃ wd, w6.drew = wd := ⟨_, rfl⟩
          have D0 : Hid (Below w6.heap.size w6 wd) := Lib.hid (by rw [← hwd]; exact (Below.refl _ _).drew)
          rw [hwd]
          clear hwd
          (refine h_read 0 rfl (by kernel_rfl) (by kernel_rfl) (h_free rfl) ?_ ?_ ?_; rotate_left; (focus (intro v hv; refine run_cells 52 (.tmp 5) ?_ wr.heap.size 0 ?_ [.int .i64 i1, .int .i64 i2, .int .i64 i3, .int .i64 i4, .int .i64 i5, .string sp] _ (fun j' u hj => by rw [hv.cell (p := ⟨wr.heap.size, 0 + j', none⟩) R6.out.lt, Nat.zero_add, R6.out.cellV]; exact hj) Try.underlying52 rfl hd_size; (focus rfl); go_simp)); go_simp)
          (refine h_call 1 rfl (by kernel_rfl) (h_free rfl) 95 ?_ ?_ ?_; rotate_left; (focus (go_simp; rfl)))
          refine (yone ⟨i1, i2, i3, i4, i5, sp⟩ wd FX.out).mono ?_
          rw [HOK.out]
          rintro x w7 ⟨rfl, hb7⟩
          have J7 := Lib.hid (D0.out.trans (hb7.mono D0.out.size))
          clear hb7
          refine ⟨_, rfl, J7.out, ?_⟩
          go_simp
          (refine h_read 2 rfl (by kernel_rfl) (by kernel_rfl) (h_free rfl) ?_ ?_ ?_; rotate_left; (focus (intro v hv; go_simp; rfl)); go_simp)
          (refine h_read 3 rfl (by kernel_rfl) (by kernel_rfl) (h_free rfl) ?_ ?_ ?_; rotate_left; (focus (intro v hv; go_simp; rfl)); go_simp)
          (refine h_skip 4 rfl (by kernel_rfl) (by kernel_rfl) ?_ ?_; (focus (go_simp; first | done | (intro h; cases h) | simp)); go_simp)
          (refine h_skip 5 rfl (by kernel_rfl) (by kernel_rfl) ?_ ?_; (focus (go_simp; first | done | (intro h; cases h) | simp)); go_simp)
          (refine h_skip 6 rfl (by kernel_rfl) (by kernel_rfl) ?_ ?_; (focus (go_simp; first | done | (intro h; cases h) | simp)); go_simp)
          (refine h_skip 7 rfl (by kernel_rfl) (by kernel_rfl) ?_ ?_; (focus (go_simp; first | done | (intro h; cases h) | simp)); go_simp)
          (refine h_skip 8 rfl (by kernel_rfl) (by kernel_rfl) ?_ ?_; (focus (go_simp; first | done | (intro h; cases h) | simp)); go_simp)
          (refine h_read 9 rfl (by kernel_rfl) (by kernel_rfl) (h_free rfl) ?_ ?_ ?_; rotate_left; (focus (intro v hv; go_simp; rfl)); go_simp)
          (refine h_read 10 rfl (by kernel_rfl) (by kernel_rfl) (h_free rfl) ?_ ?_ ?_; rotate_left; (focus (intro v hv; go_simp; rfl)); go_simp)
          (refine h_skip 11 rfl (by kernel_rfl) (by kernel_rfl) ?_ ?_; (focus (go_simp; first | done | (intro h; cases h) | simp)); go_simp)
          (refine h_skip 12 rfl (by kernel_rfl) (by kernel_rfl) ?_ ?_; (focus (go_simp; first | done | (intro h; cases h) | simp)); go_simp)
          (refine h_skip 13 rfl (by kernel_rfl) (by kernel_rfl) ?_ ?_; (focus (go_simp; first | done | (intro h; cases h) | simp)); go_simp)
          (refine h_skip 14 rfl (by kernel_rfl) (by kernel_rfl) ?_ ?_; (focus (go_simp; first | done | (intro h; cases h) | simp)); go_simp)
          (refine h_skip 15 rfl (by kernel_rfl) (by kernel_rfl) ?_ ?_; (focus (go_simp; first | done | (intro h; cases h) | simp)); go_simp)
          (refine h_skip 16 rfl (by kernel_rfl) (by kernel_rfl) ?_ ?_; (focus (go_simp; first | done | (intro h; cases h) | simp)); go_simp)
          (refine h_skip 17 rfl (by kernel_rfl) (by kernel_rfl) ?_ ?_; (focus (go_simp; first | done | (intro h; cases h) | simp)); go_simp)
          (refine h_skip 18 rfl (by kernel_rfl) (by kernel_rfl) ?_ ?_; (focus (go_simp; first | done | (intro h; cases h) | simp)); go_simp)
          (refine h_skip 19 rfl (by kernel_rfl) (by kernel_rfl) ?_ ?_; (focus (go_simp; first | done | (intro h; cases h) | simp)); go_simp)
          (refine h_skip 20 rfl (by kernel_rfl) (by kernel_rfl) ?_ ?_; (focus (go_simp; first | done | (intro h; cases h) | simp)); go_simp)
          (refine h_skip 21 rfl (by kernel_rfl) (by kernel_rfl) ?_ ?_; (focus (go_simp; first | done | (intro h; cases h) | simp)); go_simp)
          (refine h_skip 22 rfl (by kernel_rfl) (by kernel_rfl) ?_ ?_; (focus (go_simp; first | done | (intro h; cases h) | simp)); go_simp)
          (refine h_skip 23 rfl (by kernel_rfl) (by kernel_rfl) ?_ ?_; (focus (go_simp; first | done | (intro h; cases h) | simp)); go_simp)
          (refine h_skip 24 rfl (by kernel_rfl) (by kernel_rfl) ?_ ?_; (focus (go_simp; first | done | (intro h; cases h) | simp)); go_simp)
          (refine h_read 25 rfl (by kernel_rfl) (by kernel_rfl) (h_free rfl) ?_ ?_ ?_; rotate_left; (focus (intro v hv; go_simp; rfl)); go_simp)
          refine h_done (by kernel_rfl) ?_
          go_wp2_with fail
          go_ret
          exact ⟨one (vbool (by rw [HF.out])), B6.out.trans (J7.out.mono B6.out.size)⟩
        · have hiok := (ok_hd.1 hok).by'
          have hib : 0 ≤ i3 ∧ i3 ≤ 1099511627776 := hiok
          clear hok hiok
          by_cases hid : i1 < nx
          · have hnx1 : chkH nx none (L.take (k + 1)) = behH (if k = 0 then none else L[k - 1]?.map (·.id)) ⟨i1, i2, i3, i4, i5, sp⟩ := by rw [hnx]; simp [hid]
            have gid : ¬ (nx ≤ i1) := by omega
            clear hnx
            rcases k with _ | m
            · have HN := Lib.hid (hnx1.trans rfl)
              clear hnx1 hbad
              have z1 : ¬ (0 : Int) < ((0 : Nat) : Int) := by omega
              go_wp2_with (first
                | ((with_reducible refine load_cells (o := ⟨some 45, _, _, _, _, _⟩) rfl _ _ rfl b (off + 0 * 6) ?_ [.int .i64 i1, .int .i64 i2, .int .i64 i3, .int .i64 i4, .int .i64 i5, .string sp] _ XC.out Try.underlying52 rfl ?_ ?_); (focus go_simp); (focus (exact SZ.out)))
                | ((with_reducible refine alloc_row (o := ⟨some 5, _, _, _, _, _⟩) rfl _ rfl _ MZ.out ?_); intro w5 hr hb hz; have R5 := Lib.hid hr; have RL5 := Lib.hid (RL.out.below hb RL.out.lt); have B5R := Lib.hid hb; have B5 := Lib.hid (B.out.trans (hb.mono B.out.size)); clear hr hb hz)
                | ((with_reducible refine store_row (o := ⟨none, _, _, _, _, _⟩) rfl _ (.tmp 5) _ rfl wr.heap.size [.int .i64 i1, .int .i64 i2, .int .i64 i3, .int .i64 i4, .int .i64 i5, .string sp] ?_ ?_ 52 _ R5.out ?_ ?_ ?_ ?_); (focus go_simp); (focus (first | (go_simp; done) | (go_simp; rfl))); (focus (exact SZ.out)); (focus rfl); (focus (exact hd_one ⟨i1, i2, i3, i4, i5, sp⟩)); intro w6 hr2 hu2; have R6 := Lib.hid hr2; have RL6 := Lib.hid (RL5.out.upd hu2 (Nat.ne_of_lt RL.out.lt)); have B6R := Lib.hid (B5R.out.trans (hu2.below (Nat.le_refl _))); have B6 := Lib.hid (B5.out.trans (hu2.below B.out.size)); obtain ⟨c60, c61, c62, c63, c64, c65⟩ := hr2.h6; have c60 := Lib.hid c60; have c62 := Lib.hid c62; clear c4; obtain ⟨c0, c1, c2, c3, c4⟩ := RL6.out.l5; have c3 := Lib.hid c3; have c4 := Lib.hid c4; clear hr2 hu2 c0 c1 c2 c61 c63 c64 c65))
              refine region_h (fun v => Below w6.heap.size w6 v) (by kernel_rfl) (by kernel_rfl) (Below.refl _ _).drew ?_
              obtain ⟨wd, hwd⟩ : ∃ wd, w6.drew = wd := ⟨_, rfl⟩
              have D0 : Hid (Below w6.heap.size w6 wd) := Lib.hid (by rw [← hwd]; exact (Below.refl _ _).drew)
              rw [hwd]
              clear hwd
              (refine h_read 0 rfl (by kernel_rfl) (by kernel_rfl) (h_free rfl) ?_ ?_ ?_; rotate_left; (focus (intro v hv; refine run_cells 52 (.tmp 5) ?_ wr.heap.size 0 ?_ [.int .i64 i1, .int .i64 i2, .int .i64 i3, .int .i64 i4, .int .i64 i5, .string sp] _ (fun j' u hj => by rw [hv.cell (p := ⟨wr.heap.size, 0 + j', none⟩) R6.out.lt, Nat.zero_add, R6.out.cellV]; exact hj) Try.underlying52 rfl hd_size; (focus rfl); go_simp)); go_simp)
              (refine h_call 1 rfl (by kernel_rfl) (h_free rfl) 95 ?_ ?_ ?_; rotate_left; (focus (go_simp; rfl)))
              refine (yone ⟨i1, i2, i3, i4, i5, sp⟩ wd FX.out).mono ?_
              rw [HOK.out]
              rintro x w7 ⟨rfl, hb7⟩
              have J7 := Lib.hid (D0.out.trans (hb7.mono D0.out.size))
              clear hb7
              refine ⟨_, rfl, J7.out, ?_⟩
              go_simp
              (refine h_read 2 rfl (by kernel_rfl) (by kernel_rfl) (h_free rfl) ?_ ?_ ?_; rotate_left; (focus (intro v hv; go_simp; rfl)); go_simp)
              (refine h_read 3 rfl (by kernel_rfl) (by kernel_rfl) (h_free rfl) ?_ ?_ ?_; rotate_left; (focus (intro v hv; go_simp; rfl)); go_simp)
              (refine h_read 4 rfl (by kernel_rfl) (by kernel_rfl) ?_ ?_ ?_ ?_; (focus (go_simp; done)); rotate_left; (focus (intro v hv; go_simp; rfl)); go_simp)
              (refine h_read 5 rfl (by kernel_rfl) (by kernel_rfl) ?_ ?_ ?_ ?_; (focus (go_simp; done)); rotate_left; (focus (intro v hv; have q0 := (hv.cell (p := ⟨wr.heap.size, 0, none⟩) R6.out.lt).trans c60.out; have q1 := (hv.cell (p := ⟨w.heap.size, 3, none⟩) RL6.out.lt).trans c3.out; have q2 := (hv.cell (p := ⟨w.heap.size, 4, none⟩) RL6.out.lt).trans c4.out; go_simp; rfl)); go_simp)
              (refine h_read 6 rfl (by kernel_rfl) (by kernel_rfl) ?_ ?_ ?_ ?_; (focus (go_simp; done)); rotate_left; (focus (intro v hv; go_simp; rfl)); go_simp)
              (refine h_read 7 rfl (by kernel_rfl) (by kernel_rfl) ?_ ?_ ?_ ?_; (focus (go_simp; done)); rotate_left; (focus (intro v hv; have q0 := (hv.cell (p := ⟨wr.heap.size, 0, none⟩) R6.out.lt).trans c60.out; have q1 := (hv.cell (p := ⟨w.heap.size, 3, none⟩) RL6.out.lt).trans c3.out; have q2 := (hv.cell (p := ⟨w.heap.size, 4, none⟩) RL6.out.lt).trans c4.out; go_simp; rfl)); go_simp)
              (refine h_read 8 rfl (by kernel_rfl) (by kernel_rfl) ?_ ?_ ?_ ?_; (focus (go_simp; done)); rotate_left; (focus (intro v hv; go_simp; rfl)); go_simp)
              (refine h_read 9 rfl (by kernel_rfl) (by kernel_rfl) (h_free rfl) ?_ ?_ ?_; rotate_left; (focus (intro v hv; go_simp; rfl)); go_simp)
              (refine h_read 10 rfl (by kernel_rfl) (by kernel_rfl) (h_free rfl) ?_ ?_ ?_; rotate_left; (focus (intro v hv; go_simp; rfl)); go_simp)
              (refine h_read 11 rfl (by kernel_rfl) (by kernel_rfl) ?_ ?_ ?_ ?_; (focus (go_simp; done)); rotate_left; (focus (intro v hv; go_simp; rfl)); go_simp)
              (refine h_read 12 rfl (by kernel_rfl) (by kernel_rfl) ?_ ?_ ?_ ?_; (focus (go_simp; done)); rotate_left; (focus (intro v hv; go_simp; rfl)); go_simp)
              (refine h_read 13 rfl (by kernel_rfl) (by kernel_rfl) ?_ ?_ ?_ ?_; (focus (go_simp; done)); rotate_left; (focus (intro v hv; go_simp; rfl)); go_simp)
              (refine h_skip 14 rfl (by kernel_rfl) (by kernel_rfl) ?_ ?_; (focus (go_simp; first | done | (intro h; cases h) | simp)); go_simp)
              (refine h_skip 15 rfl (by kernel_rfl) (by kernel_rfl) ?_ ?_; (focus (go_simp; first | done | (intro h; cases h) | simp)); go_simp)
              (refine h_skip 16 rfl (by kernel_rfl) (by kernel_rfl) ?_ ?_; (focus (go_simp; first | done | (intro h; cases h) | simp)); go_simp)
              (refine h_skip 17 rfl (by kernel_rfl) (by kernel_rfl) ?_ ?_; (focus (go_simp; first | done | (intro h; cases h) | simp)); go_simp)
              (refine h_skip 18 rfl (by kernel_rfl) (by kernel_rfl) ?_ ?_; (focus (go_simp; first | done | (intro h; cases h) | simp)); go_simp)
              (refine h_skip 19 rfl (by kernel_rfl) (by kernel_rfl) ?_ ?_; (focus (go_simp; first | done | (intro h; cases h) | simp)); go_simp)
              (refine h_skip 20 rfl (by kernel_rfl) (by kernel_rfl) ?_ ?_; (focus (go_simp; first | done | (intro h; cases h) | simp)); go_simp)
              (refine h_skip 21 rfl (by kernel_rfl) (by kernel_rfl) ?_ ?_; (focus (go_simp; first | done | (intro h; cases h) | simp)); go_simp)
              (refine h_skip 22 rfl (by kernel_rfl) (by kernel_rfl) ?_ ?_; (focus (go_simp; first | done | (intro h; cases h) | simp)); go_simp)
              (refine h_skip 23 rfl (by kernel_rfl) (by kernel_rfl) ?_ ?_; (focus (go_simp; first | done | (intro h; cases h) | simp)); go_simp)
              (refine h_read 24 rfl (by kernel_rfl) (by kernel_rfl) ?_ ?_ ?_ ?_; (focus (go_simp; done)); rotate_left; (focus (intro v hv; go_simp; rfl)); go_simp)
              (refine h_read 25 rfl (by kernel_rfl) (by kernel_rfl) (h_free rfl) ?_ ?_ ?_; rotate_left; (focus (intro v hv; go_simp; rfl)); go_simp)
              refine h_done (by kernel_rfl) ?_
              have d2 := (J7.out.cell (p := ⟨wr.heap.size, 2, none⟩) R6.out.lt).trans c62.out
              go_wp2_with fail
              go_roundw
              case rel => exact ⟨0 + 1, vint (by omega), by omega, by rw [HS.out], HN, Lib.hid (B6.out.trans (J7.out.mono B6.out.size)), Lib.hid (RL6.out.below J7.out RL6.out.lt)⟩
              case measure => simp [intOf]; omega
            · obtain ⟨b2, o2, y, hab, hy, hcy, -⟩ := H.out.at hdOk B.out m (by omega)
              obtain ⟨rfl, rfl⟩ : b = b2 ∧ off = o2 := by injection hab with hab; injection hab with e1 e2; exact ⟨e1, e2⟩
              have E0r := Lib.hid (show wr.cell? ⟨b, off + m * 6, none⟩ = some (.int .i64 y.id) from hcy 0 _ rfl)
              rw [if_neg (by omega), Nat.add_sub_cancel, hy] at hnx1
              have hnx2 : chkH nx none (L.take (m + 1 + 1)) = decide (y.id < i1) := hnx1
              obtain ⟨yi, hyi⟩ : ∃ v, y.id = v := ⟨_, rfl⟩
              rw [hyi] at hnx2 E0r
              have g3 : (0 : Int) ≤ (m : Int) := by omega
              have g4 : (m : Int) < (n : Int) := by omega
              have g5 : (0 : Int) < ((m + 1 : Nat) : Int) := by omega
              have hwr : IntKind.i64.wrap (m : Int) = (m : Int) := by rw [IntKind.wrap_i64]; omega
              clear hnx1 hcy hy hab hyi
              by_cases hlt2 : yi < i1
              · have HN := Lib.hid (show chkH nx none (L.take (m + 1 + 1)) = true by rw [hnx2]; simp [hlt2])
                have gl : ¬ (i1 ≤ yi) := by omega
                clear hnx2 hbad
                go_wp2_with (first
                  | ((with_reducible refine load_cells (o := ⟨some 45, _, _, _, _, _⟩) rfl _ _ rfl b (off + (m + 1) * 6) ?_ [.int .i64 i1, .int .i64 i2, .int .i64 i3, .int .i64 i4, .int .i64 i5, .string sp] _ XC.out Try.underlying52 rfl ?_ ?_); (focus go_simp); (focus (exact SZ.out)))
                  | ((with_reducible refine alloc_row (o := ⟨some 5, _, _, _, _, _⟩) rfl _ rfl _ MZ.out ?_); intro w5 hr hb hz; have R5 := Lib.hid hr; have RL5 := Lib.hid (RL.out.below hb RL.out.lt); have B5R := Lib.hid hb; have B5 := Lib.hid (B.out.trans (hb.mono B.out.size)); clear hr hb hz)
                  | ((with_reducible refine store_row (o := ⟨none, _, _, _, _, _⟩) rfl _ (.tmp 5) _ rfl wr.heap.size [.int .i64 i1, .int .i64 i2, .int .i64 i3, .int .i64 i4, .int .i64 i5, .string sp] ?_ ?_ 52 _ R5.out ?_ ?_ ?_ ?_); (focus go_simp); (focus (first | (go_simp; done) | (go_simp; rfl))); (focus (exact SZ.out)); (focus rfl); (focus (exact hd_one ⟨i1, i2, i3, i4, i5, sp⟩)); intro w6 hr2 hu2; have R6 := Lib.hid hr2; have RL6 := Lib.hid (RL5.out.upd hu2 (Nat.ne_of_lt RL.out.lt)); have B6R := Lib.hid (B5R.out.trans (hu2.below (Nat.le_refl _))); have B6 := Lib.hid (B5.out.trans (hu2.below B.out.size)); obtain ⟨c60, c61, c62, c63, c64, c65⟩ := hr2.h6; have c60 := Lib.hid c60; have c62 := Lib.hid c62; clear c4; obtain ⟨c0, c1, c2, c3, c4⟩ := RL6.out.l5; have c3 := Lib.hid c3; have c4 := Lib.hid c4; clear hr2 hu2 c0 c1 c2 c61 c63 c64 c65))
                have E0 := Lib.hid ((B6R.out.cell (p := ⟨b, off + m * 6, none⟩) (World.block_lt_of_cell? wr _ E0r.out)).trans E0r.out)
                refine region_h (fun v => Below w6.heap.size w6 v) (by kernel_rfl) (by kernel_rfl) (Below.refl _ _).drew ?_
                obtain ⟨wd, hwd⟩ : ∃ wd, w6.drew = wd := ⟨_, rfl⟩
                have D0 : Hid (Below w6.heap.size w6 wd) := Lib.hid (by rw [← hwd]; exact (Below.refl _ _).drew)
                rw [hwd]
                clear hwd
                (refine h_read 0 rfl (by kernel_rfl) (by kernel_rfl) (h_free rfl) ?_ ?_ ?_; rotate_left; (focus (intro v hv; refine run_cells 52 (.tmp 5) ?_ wr.heap.size 0 ?_ [.int .i64 i1, .int .i64 i2, .int .i64 i3, .int .i64 i4, .int .i64 i5, .string sp] _ (fun j' u hj => by rw [hv.cell (p := ⟨wr.heap.size, 0 + j', none⟩) R6.out.lt, Nat.zero_add, R6.out.cellV]; exact hj) Try.underlying52 rfl hd_size; (focus rfl); go_simp)); go_simp)
                (refine h_call 1 rfl (by kernel_rfl) (h_free rfl) 95 ?_ ?_ ?_; rotate_left; (focus (go_simp; rfl)))
                refine (yone ⟨i1, i2, i3, i4, i5, sp⟩ wd FX.out).mono ?_
                rw [HOK.out]
                rintro x w7 ⟨rfl, hb7⟩
                have J7 := Lib.hid (D0.out.trans (hb7.mono D0.out.size))
                clear hb7
                refine ⟨_, rfl, J7.out, ?_⟩
                go_simp
                (refine h_read 2 rfl (by kernel_rfl) (by kernel_rfl) (h_free rfl) ?_ ?_ ?_; rotate_left; (focus (intro v hv; go_simp; rfl)); go_simp)
                (refine h_read 3 rfl (by kernel_rfl) (by kernel_rfl) (h_free rfl) ?_ ?_ ?_; rotate_left; (focus (intro v hv; go_simp; rfl)); go_simp)
                (refine h_read 4 rfl (by kernel_rfl) (by kernel_rfl) ?_ ?_ ?_ ?_; (focus (go_simp; done)); rotate_left; (focus (intro v hv; go_simp; rfl)); go_simp)
                (refine h_read 5 rfl (by kernel_rfl) (by kernel_rfl) ?_ ?_ ?_ ?_; (focus (go_simp; done)); rotate_left; (focus (intro v hv; have q0 := (hv.cell (p := ⟨wr.heap.size, 0, none⟩) R6.out.lt).trans c60.out; have q1 := (hv.cell (p := ⟨w.heap.size, 3, none⟩) RL6.out.lt).trans c3.out; have q2 := (hv.cell (p := ⟨w.heap.size, 4, none⟩) RL6.out.lt).trans c4.out; have q3 := (hv.cell (p := ⟨b, off + m * 6, none⟩) (World.block_lt_of_cell? w6 _ E0.out)).trans E0.out; go_simp; rfl)); go_simp)
                (refine h_read 6 rfl (by kernel_rfl) (by kernel_rfl) ?_ ?_ ?_ ?_; (focus (go_simp; done)); rotate_left; (focus (intro v hv; go_simp; rfl)); go_simp)
                (refine h_read 7 rfl (by kernel_rfl) (by kernel_rfl) ?_ ?_ ?_ ?_; (focus (go_simp; done)); rotate_left; (focus (intro v hv; have q0 := (hv.cell (p := ⟨wr.heap.size, 0, none⟩) R6.out.lt).trans c60.out; have q1 := (hv.cell (p := ⟨w.heap.size, 3, none⟩) RL6.out.lt).trans c3.out; have q2 := (hv.cell (p := ⟨w.heap.size, 4, none⟩) RL6.out.lt).trans c4.out; have q3 := (hv.cell (p := ⟨b, off + m * 6, none⟩) (World.block_lt_of_cell? w6 _ E0.out)).trans E0.out; go_simp; rfl)); go_simp)
                (refine h_read 8 rfl (by kernel_rfl) (by kernel_rfl) ?_ ?_ ?_ ?_; (focus (go_simp; done)); rotate_left; (focus (intro v hv; go_simp; rfl)); go_simp)
                (refine h_read 9 rfl (by kernel_rfl) (by kernel_rfl) (h_free rfl) ?_ ?_ ?_; rotate_left; (focus (intro v hv; go_simp; rfl)); go_simp)
                (refine h_read 10 rfl (by kernel_rfl) (by kernel_rfl) (h_free rfl) ?_ ?_ ?_; rotate_left; (focus (intro v hv; go_simp; rfl)); go_simp)
                (refine h_read 11 rfl (by kernel_rfl) (by kernel_rfl) ?_ ?_ ?_ ?_; (focus (go_simp; done)); rotate_left; (focus (intro v hv; go_simp; rfl)); go_simp)
                (refine h_read 12 rfl (by kernel_rfl) (by kernel_rfl) ?_ ?_ ?_ ?_; (focus (go_simp; done)); rotate_left; (focus (intro v hv; go_simp; rfl)); go_simp)
                (refine h_read 13 rfl (by kernel_rfl) (by kernel_rfl) ?_ ?_ ?_ ?_; (focus (go_simp; done)); rotate_left; (focus (intro v hv; go_simp; rfl)); go_simp)
                (refine h_read 14 rfl (by kernel_rfl) (by kernel_rfl) ?_ ?_ ?_ ?_; (focus (go_simp; done)); rotate_left; (focus (intro v hv; go_simp; rfl)); go_simp)
                (refine h_read 15 rfl (by kernel_rfl) (by kernel_rfl) ?_ ?_ ?_ ?_; (focus (go_simp; done)); rotate_left; (focus (intro v hv; have q0 := (hv.cell (p := ⟨wr.heap.size, 0, none⟩) R6.out.lt).trans c60.out; have q1 := (hv.cell (p := ⟨w.heap.size, 3, none⟩) RL6.out.lt).trans c3.out; have q2 := (hv.cell (p := ⟨w.heap.size, 4, none⟩) RL6.out.lt).trans c4.out; have q3 := (hv.cell (p := ⟨b, off + m * 6, none⟩) (World.block_lt_of_cell? w6 _ E0.out)).trans E0.out; go_simp; rfl)); go_simp)
                (refine h_read 16 rfl (by kernel_rfl) (by kernel_rfl) ?_ ?_ ?_ ?_; (focus (go_simp; done)); rotate_left; (focus (intro v hv; go_simp; rfl)); go_simp)
                (refine h_read 17 rfl (by kernel_rfl) (by kernel_rfl) ?_ ?_ ?_ ?_; (focus (go_simp; done)); rotate_left; (focus (intro v hv; go_simp; rfl)); go_simp)
                (refine h_read 18 rfl (by kernel_rfl) (by kernel_rfl) ?_ ?_ ?_ ?_; (focus (go_simp; done)); rotate_left; (focus (intro v hv; go_simp; rfl)); go_simp)
                (refine h_read 19 rfl (by kernel_rfl) (by kernel_rfl) ?_ ?_ ?_ ?_; (focus (go_simp; done)); rotate_left; (focus (intro v hv; go_simp; rfl)); go_simp)
                (refine h_read 20 rfl (by kernel_rfl) (by kernel_rfl) ?_ ?_ ?_ ?_; (focus (go_simp; done)); rotate_left; (focus (intro v hv; have q0 := (hv.cell (p := ⟨wr.heap.size, 0, none⟩) R6.out.lt).trans c60.out; have q1 := (hv.cell (p := ⟨w.heap.size, 3, none⟩) RL6.out.lt).trans c3.out; have q2 := (hv.cell (p := ⟨w.heap.size, 4, none⟩) RL6.out.lt).trans c4.out; have q3 := (hv.cell (p := ⟨b, off + m * 6, none⟩) (World.block_lt_of_cell? w6 _ E0.out)).trans E0.out; go_simp; rfl)); go_simp)
                (refine h_read 21 rfl (by kernel_rfl) (by kernel_rfl) ?_ ?_ ?_ ?_; (focus (go_simp; done)); rotate_left; (focus (intro v hv; go_simp; rfl)); go_simp)
                (refine h_read 22 rfl (by kernel_rfl) (by kernel_rfl) ?_ ?_ ?_ ?_; (focus (go_simp; done)); rotate_left; (focus (intro v hv; have q0 := (hv.cell (p := ⟨wr.heap.size, 0, none⟩) R6.out.lt).trans c60.out; have q1 := (hv.cell (p := ⟨w.heap.size, 3, none⟩) RL6.out.lt).trans c3.out; have q2 := (hv.cell (p := ⟨w.heap.size, 4, none⟩) RL6.out.lt).trans c4.out; have q3 := (hv.cell (p := ⟨b, off + m * 6, none⟩) (World.block_lt_of_cell? w6 _ E0.out)).trans E0.out; go_simp; rfl)); go_simp)
                (refine h_read 23 rfl (by kernel_rfl) (by kernel_rfl) ?_ ?_ ?_ ?_; (focus (go_simp; done)); rotate_left; (focus (intro v hv; go_simp; rfl)); go_simp)
                (refine h_read 24 rfl (by kernel_rfl) (by kernel_rfl) ?_ ?_ ?_ ?_; (focus (go_simp; done)); rotate_left; (focus (intro v hv; go_simp; rfl)); go_simp)
                (refine h_read 25 rfl (by kernel_rfl) (by kernel_rfl) (h_free rfl) ?_ ?_ ?_; rotate_left; (focus (intro v hv; go_simp; rfl)); go_simp)
                refine h_done (by kernel_rfl) ?_
                have d2 := (J7.out.cell (p := ⟨wr.heap.size, 2, none⟩) R6.out.lt).trans c62.out
                go_wp2_with fail
                go_roundw
                case rel => exact ⟨(m + 1) + 1, vint (by omega), by omega, by rw [HS.out], HN, Lib.hid (B6.out.trans (J7.out.mono B6.out.size)), Lib.hid (RL6.out.below J7.out RL6.out.lt)⟩
                case measure => simp [intOf]; omega
              · have HF := Lib.hid (hbad (by rw [hnx2]; simp [hlt2]))
                have gl : i1 ≤ yi := by omega
                clear hnx2 hbad
                go_wp2_with (first
                  | ((with_reducible refine load_cells (o := ⟨some 45, _, _, _, _, _⟩) rfl _ _ rfl b (off + (m + 1) * 6) ?_ [.int .i64 i1, .int .i64 i2, .int .i64 i3, .int .i64 i4, .int .i64 i5, .string sp] _ XC.out Try.underlying52 rfl ?_ ?_); (focus go_simp); (focus (exact SZ.out)))
                  | ((with_reducible refine alloc_row (o := ⟨some 5, _, _, _, _, _⟩) rfl _ rfl _ MZ.out ?_); intro w5 hr hb hz; have R5 := Lib.hid hr; have RL5 := Lib.hid (RL.out.below hb RL.out.lt); have B5R := Lib.hid hb; have B5 := Lib.hid (B.out.trans (hb.mono B.out.size)); clear hr hb hz)
                  | ((with_reducible refine store_row (o := ⟨none, _, _, _, _, _⟩) rfl _ (.tmp 5) _ rfl wr.heap.size [.int .i64 i1, .int .i64 i2, .int .i64 i3, .int .i64 i4, .int .i64 i5, .string sp] ?_ ?_ 52 _ R5.out ?_ ?_ ?_ ?_); (focus go_simp); (focus (first | (go_simp; done) | (go_simp; rfl))); (focus (exact SZ.out)); (focus rfl); (focus (exact hd_one ⟨i1, i2, i3, i4, i5, sp⟩)); intro w6 hr2 hu2; have R6 := Lib.hid hr2; have RL6 := Lib.hid (RL5.out.upd hu2 (Nat.ne_of_lt RL.out.lt)); have B6R := Lib.hid (B5R.out.trans (hu2.below (Nat.le_refl _))); have B6 := Lib.hid (B5.out.trans (hu2.below B.out.size)); obtain ⟨c60, c61, c62, c63, c64, c65⟩ := hr2.h6; have c60 := Lib.hid c60; have c62 := Lib.hid c62; clear c4; obtain ⟨c0, c1, c2, c3, c4⟩ := RL6.out.l5; have c3 := Lib.hid c3; have c4 := Lib.hid c4; clear hr2 hu2 c0 c1 c2 c61 c63 c64 c65))
                have E0 := Lib.hid ((B6R.out.cell (p := ⟨b, off + m * 6, none⟩) (World.block_lt_of_cell? wr _ E0r.out)).trans E0r.out)
                refine region_h (fun v => Below w6.heap.size w6 v) (by kernel_rfl) (by kernel_rfl) (Below.refl _ _).drew ?_
                obtain ⟨wd, hwd⟩ : ∃ wd, w6.drew = wd := ⟨_, rfl⟩
                have D0 : Hid (Below w6.heap.size w6 wd) := Lib.hid (by rw [← hwd]; exact (Below.refl _ _).drew)
                rw [hwd]
                clear hwd
                (refine h_read 0 rfl (by kernel_rfl) (by kernel_rfl) (h_free rfl) ?_ ?_ ?_; rotate_left; (focus (intro v hv; refine run_cells 52 (.tmp 5) ?_ wr.heap.size 0 ?_ [.int .i64 i1, .int .i64 i2, .int .i64 i3, .int .i64 i4, .int .i64 i5, .string sp] _ (fun j' u hj => by rw [hv.cell (p := ⟨wr.heap.size, 0 + j', none⟩) R6.out.lt, Nat.zero_add, R6.out.cellV]; exact hj) Try.underlying52 rfl hd_size; (focus rfl); go_simp)); go_simp)
                (refine h_call 1 rfl (by kernel_rfl) (h_free rfl) 95 ?_ ?_ ?_; rotate_left; (focus (go_simp; rfl)))
                refine (yone ⟨i1, i2, i3, i4, i5, sp⟩ wd FX.out).mono ?_
                rw [HOK.out]
                rintro x w7 ⟨rfl, hb7⟩
                have J7 := Lib.hid (D0.out.trans (hb7.mono D0.out.size))
                clear hb7
                refine ⟨_, rfl, J7.out, ?_⟩
                go_simp
                (refine h_read 2 rfl (by kernel_rfl) (by kernel_rfl) (h_free rfl) ?_ ?_ ?_; rotate_left; (focus (intro v hv; go_simp; rfl)); go_simp)
                (refine h_read 3 rfl (by kernel_rfl) (by kernel_rfl) (h_free rfl) ?_ ?_ ?_; rotate_left; (focus (intro v hv; go_simp; rfl)); go_simp)
                (refine h_read 4 rfl (by kernel_rfl) (by kernel_rfl) ?_ ?_ ?_ ?_; (focus (go_simp; done)); rotate_left; (focus (intro v hv; go_simp; rfl)); go_simp)
                (refine h_read 5 rfl (by kernel_rfl) (by kernel_rfl) ?_ ?_ ?_ ?_; (focus (go_simp; done)); rotate_left; (focus (intro v hv; have q0 := (hv.cell (p := ⟨wr.heap.size, 0, none⟩) R6.out.lt).trans c60.out; have q1 := (hv.cell (p := ⟨w.heap.size, 3, none⟩) RL6.out.lt).trans c3.out; have q2 := (hv.cell (p := ⟨w.heap.size, 4, none⟩) RL6.out.lt).trans c4.out; have q3 := (hv.cell (p := ⟨b, off + m * 6, none⟩) (World.block_lt_of_cell? w6 _ E0.out)).trans E0.out; go_simp; rfl)); go_simp)
                (refine h_read 6 rfl (by kernel_rfl) (by kernel_rfl) ?_ ?_ ?_ ?_; (focus (go_simp; done)); rotate_left; (focus (intro v hv; go_simp; rfl)); go_simp)
                (refine h_read 7 rfl (by kernel_rfl) (by kernel_rfl) ?_ ?_ ?_ ?_; (focus (go_simp; done)); rotate_left; (focus (intro v hv; have q0 := (hv.cell (p := ⟨wr.heap.size, 0, none⟩) R6.out.lt).trans c60.out; have q1 := (hv.cell (p := ⟨w.heap.size, 3, none⟩) RL6.out.lt).trans c3.out; have q2 := (hv.cell (p := ⟨w.heap.size, 4, none⟩) RL6.out.lt).trans c4.out; have q3 := (hv.cell (p := ⟨b, off + m * 6, none⟩) (World.block_lt_of_cell? w6 _ E0.out)).trans E0.out; go_simp; rfl)); go_simp)
                (refine h_read 8 rfl (by kernel_rfl) (by kernel_rfl) ?_ ?_ ?_ ?_; (focus (go_simp; done)); rotate_left; (focus (intro v hv; go_simp; rfl)); go_simp)
                (refine h_read 9 rfl (by kernel_rfl) (by kernel_rfl) (h_free rfl) ?_ ?_ ?_; rotate_left; (focus (intro v hv; go_simp; rfl)); go_simp)
                (refine h_read 10 rfl (by kernel_rfl) (by kernel_rfl) (h_free rfl) ?_ ?_ ?_; rotate_left; (focus (intro v hv; go_simp; rfl)); go_simp)
                (refine h_read 11 rfl (by kernel_rfl) (by kernel_rfl) ?_ ?_ ?_ ?_; (focus (go_simp; done)); rotate_left; (focus (intro v hv; go_simp; rfl)); go_simp)
                (refine h_read 12 rfl (by kernel_rfl) (by kernel_rfl) ?_ ?_ ?_ ?_; (focus (go_simp; done)); rotate_left; (focus (intro v hv; go_simp; rfl)); go_simp)
                (refine h_read 13 rfl (by kernel_rfl) (by kernel_rfl) ?_ ?_ ?_ ?_; (focus (go_simp; done)); rotate_left; (focus (intro v hv; go_simp; rfl)); go_simp)
                (refine h_read 14 rfl (by kernel_rfl) (by kernel_rfl) ?_ ?_ ?_ ?_; (focus (go_simp; done)); rotate_left; (focus (intro v hv; go_simp; rfl)); go_simp)
                (refine h_read 15 rfl (by kernel_rfl) (by kernel_rfl) ?_ ?_ ?_ ?_; (focus (go_simp; done)); rotate_left; (focus (intro v hv; have q0 := (hv.cell (p := ⟨wr.heap.size, 0, none⟩) R6.out.lt).trans c60.out; have q1 := (hv.cell (p := ⟨w.heap.size, 3, none⟩) RL6.out.lt).trans c3.out; have q2 := (hv.cell (p := ⟨w.heap.size, 4, none⟩) RL6.out.lt).trans c4.out; have q3 := (hv.cell (p := ⟨b, off + m * 6, none⟩) (World.block_lt_of_cell? w6 _ E0.out)).trans E0.out; go_simp; rfl)); go_simp)
                (refine h_read 16 rfl (by kernel_rfl) (by kernel_rfl) ?_ ?_ ?_ ?_; (focus (go_simp; done)); rotate_left; (focus (intro v hv; go_simp; rfl)); go_simp)
                (refine h_read 17 rfl (by kernel_rfl) (by kernel_rfl) ?_ ?_ ?_ ?_; (focus (go_simp; done)); rotate_left; (focus (intro v hv; go_simp; rfl)); go_simp)
                (refine h_read 18 rfl (by kernel_rfl) (by kernel_rfl) ?_ ?_ ?_ ?_; (focus (go_simp; done)); rotate_left; (focus (intro v hv; go_simp; rfl)); go_simp)
                (refine h_read 19 rfl (by kernel_rfl) (by kernel_rfl) ?_ ?_ ?_ ?_; (focus (go_simp; done)); rotate_left; (focus (intro v hv; go_simp; rfl)); go_simp)
                (refine h_read 20 rfl (by kernel_rfl) (by kernel_rfl) ?_ ?_ ?_ ?_; (focus (go_simp; done)); rotate_left; (focus (intro v hv; have q0 := (hv.cell (p := ⟨wr.heap.size, 0, none⟩) R6.out.lt).trans c60.out; have q1 := (hv.cell (p := ⟨w.heap.size, 3, none⟩) RL6.out.lt).trans c3.out; have q2 := (hv.cell (p := ⟨w.heap.size, 4, none⟩) RL6.out.lt).trans c4.out; have q3 := (hv.cell (p := ⟨b, off + m * 6, none⟩) (World.block_lt_of_cell? w6 _ E0.out)).trans E0.out; go_simp; rfl)); go_simp)
                (refine h_read 21 rfl (by kernel_rfl) (by kernel_rfl) ?_ ?_ ?_ ?_; (focus (go_simp; done)); rotate_left; (focus (intro v hv; go_simp; rfl)); go_simp)
                (refine h_read 22 rfl (by kernel_rfl) (by kernel_rfl) ?_ ?_ ?_ ?_; (focus (go_simp; done)); rotate_left; (focus (intro v hv; have q0 := (hv.cell (p := ⟨wr.heap.size, 0, none⟩) R6.out.lt).trans c60.out; have q1 := (hv.cell (p := ⟨w.heap.size, 3, none⟩) RL6.out.lt).trans c3.out; have q2 := (hv.cell (p := ⟨w.heap.size, 4, none⟩) RL6.out.lt).trans c4.out; have q3 := (hv.cell (p := ⟨b, off + m * 6, none⟩) (World.block_lt_of_cell? w6 _ E0.out)).trans E0.out; go_simp; rfl)); go_simp)
                (refine h_read 23 rfl (by kernel_rfl) (by kernel_rfl) ?_ ?_ ?_ ?_; (focus (go_simp; done)); rotate_left; (focus (intro v hv; go_simp; rfl)); go_simp)
                (refine h_read 24 rfl (by kernel_rfl) (by kernel_rfl) ?_ ?_ ?_ ?_; (focus (go_simp; done)); rotate_left; (focus (intro v hv; go_simp; rfl)); go_simp)
                (refine h_read 25 rfl (by kernel_rfl) (by kernel_rfl) (h_free rfl) ?_ ?_ ?_; rotate_left; (focus (intro v hv; go_simp; rfl)); go_simp)
                refine h_done (by kernel_rfl) ?_
                go_wp2_with fail
                go_ret
                exact ⟨one (vbool (by rw [HF.out])), B6.out.trans (J7.out.mono B6.out.size)⟩
          · have HF := Lib.hid (hbad (by rw [hnx]; simp [hid]))
            have gid : nx ≤ i1 := by omega
            clear hnx hbad
            go_wp2_with (first
              | ((with_reducible refine load_cells (o := ⟨some 45, _, _, _, _, _⟩) rfl _ _ rfl b (off + k * 6) ?_ [.int .i64 i1, .int .i64 i2, .int .i64 i3, .int .i64 i4, .int .i64 i5, .string sp] _ XC.out Try.underlying52 rfl ?_ ?_); (focus go_simp); (focus (exact SZ.out)))
              | ((with_reducible refine alloc_row (o := ⟨some 5, _, _, _, _, _⟩) rfl _ rfl _ MZ.out ?_); intro w5 hr hb hz; have R5 := Lib.hid hr; have RL5 := Lib.hid (RL.out.below hb RL.out.lt); have B5R := Lib.hid hb; have B5 := Lib.hid (B.out.trans (hb.mono B.out.size)); clear hr hb hz)
              | ((with_reducible refine store_row (o := ⟨none, _, _, _, _, _⟩) rfl _ (.tmp 5) _ rfl wr.heap.size [.int .i64 i1, .int .i64 i2, .int .i64 i3, .int .i64 i4, .int .i64 i5, .string sp] ?_ ?_ 52 _ R5.out ?_ ?_ ?_ ?_); (focus go_simp); (focus (first | (go_simp; done) | (go_simp; rfl))); (focus (exact SZ.out)); (focus rfl); (focus (exact hd_one ⟨i1, i2, i3, i4, i5, sp⟩)); intro w6 hr2 hu2; have R6 := Lib.hid hr2; have RL6 := Lib.hid (RL5.out.upd hu2 (Nat.ne_of_lt RL.out.lt)); have B6R := Lib.hid (B5R.out.trans (hu2.below (Nat.le_refl _))); have B6 := Lib.hid (B5.out.trans (hu2.below B.out.size)); obtain ⟨c60, c61, c62, c63, c64, c65⟩ := hr2.h6; have c60 := Lib.hid c60; have c62 := Lib.hid c62; clear c4; obtain ⟨c0, c1, c2, c3, c4⟩ := RL6.out.l5; have c3 := Lib.hid c3; have c4 := Lib.hid c4; clear hr2 hu2 c0 c1 c2 c61 c63 c64 c65))
            refine region_h (fun v => Below w6.heap.size w6 v) (by kernel_rfl) (by kernel_rfl) (Below.refl _ _).drew ?_
            obtain ⟨wd, hwd⟩ : ∃ wd, w6.drew = wd := ⟨_, rfl⟩
            have D0 : Hid (Below w6.heap.size w6 wd) := Lib.hid (by rw [← hwd]; exact (Below.refl _ _).drew)
            rw [hwd]
            clear hwd
            (refine h_read 0 rfl (by kernel_rfl) (by kernel_rfl) (h_free rfl) ?_ ?_ ?_; rotate_left; (focus (intro v hv; refine run_cells 52 (.tmp 5) ?_ wr.heap.size 0 ?_ [.int .i64 i1, .int .i64 i2, .int .i64 i3, .int .i64 i4, .int .i64 i5, .string sp] _ (fun j' u hj => by rw [hv.cell (p := ⟨wr.heap.size, 0 + j', none⟩) R6.out.lt, Nat.zero_add, R6.out.cellV]; exact hj) Try.underlying52 rfl hd_size; (focus rfl); go_simp)); go_simp)
            (refine h_call 1 rfl (by kernel_rfl) (h_free rfl) 95 ?_ ?_ ?_; rotate_left; (focus (go_simp; rfl)))
            refine (yone ⟨i1, i2, i3, i4, i5, sp⟩ wd FX.out).mono ?_
            rw [HOK.out]
            rintro x w7 ⟨rfl, hb7⟩
            have J7 := Lib.hid (D0.out.trans (hb7.mono D0.out.size))
            clear hb7
            refine ⟨_, rfl, J7.out, ?_⟩
            go_simp
            (refine h_read 2 rfl (by kernel_rfl) (by kernel_rfl) (h_free rfl) ?_ ?_ ?_; rotate_left; (focus (intro v hv; go_simp; rfl)); go_simp)
            (refine h_read 3 rfl (by kernel_rfl) (by kernel_rfl) (h_free rfl) ?_ ?_ ?_; rotate_left; (focus (intro v hv; go_simp; rfl)); go_simp)
            (refine h_read 4 rfl (by kernel_rfl) (by kernel_rfl) ?_ ?_ ?_ ?_; (focus (go_simp; done)); rotate_left; (focus (intro v hv; go_simp; rfl)); go_simp)
            (refine h_read 5 rfl (by kernel_rfl) (by kernel_rfl) ?_ ?_ ?_ ?_; (focus (go_simp; done)); rotate_left; (focus (intro v hv; have q0 := (hv.cell (p := ⟨wr.heap.size, 0, none⟩) R6.out.lt).trans c60.out; have q1 := (hv.cell (p := ⟨w.heap.size, 3, none⟩) RL6.out.lt).trans c3.out; have q2 := (hv.cell (p := ⟨w.heap.size, 4, none⟩) RL6.out.lt).trans c4.out; go_simp; rfl)); go_simp)
            (refine h_read 6 rfl (by kernel_rfl) (by kernel_rfl) ?_ ?_ ?_ ?_; (focus (go_simp; done)); rotate_left; (focus (intro v hv; go_simp; rfl)); go_simp)
            (refine h_read 7 rfl (by kernel_rfl) (by kernel_rfl) ?_ ?_ ?_ ?_; (focus (go_simp; done)); rotate_left; (focus (intro v hv; have q0 := (hv.cell (p := ⟨wr.heap.size, 0, none⟩) R6.out.lt).trans c60.out; have q1 := (hv.cell (p := ⟨w.heap.size, 3, none⟩) RL6.out.lt).trans c3.out; have q2 := (hv.cell (p := ⟨w.heap.size, 4, none⟩) RL6.out.lt).trans c4.out; go_simp; rfl)); go_simp)
            (refine h_read 8 rfl (by kernel_rfl) (by kernel_rfl) ?_ ?_ ?_ ?_; (focus (go_simp; done)); rotate_left; (focus (intro v hv; go_simp; rfl)); go_simp)
            (refine h_read 9 rfl (by kernel_rfl) (by kernel_rfl) (h_free rfl) ?_ ?_ ?_; rotate_left; (focus (intro v hv; go_simp; rfl)); go_simp)
            (refine h_read 10 rfl (by kernel_rfl) (by kernel_rfl) (h_free rfl) ?_ ?_ ?_; rotate_left; (focus (intro v hv; go_simp; rfl)); go_simp)
            (refine h_skip 11 rfl (by kernel_rfl) (by kernel_rfl) ?_ ?_; (focus (go_simp; first | done | (intro h; cases h) | simp)); go_simp)
            (refine h_skip 12 rfl (by kernel_rfl) (by kernel_rfl) ?_ ?_; (focus (go_simp; first | done | (intro h; cases h) | simp)); go_simp)
            (refine h_skip 13 rfl (by kernel_rfl) (by kernel_rfl) ?_ ?_; (focus (go_simp; first | done | (intro h; cases h) | simp)); go_simp)
            (refine h_skip 14 rfl (by kernel_rfl) (by kernel_rfl) ?_ ?_; (focus (go_simp; first | done | (intro h; cases h) | simp)); go_simp)
            (refine h_skip 15 rfl (by kernel_rfl) (by kernel_rfl) ?_ ?_; (focus (go_simp; first | done | (intro h; cases h) | simp)); go_simp)
            (refine h_skip 16 rfl (by kernel_rfl) (by kernel_rfl) ?_ ?_; (focus (go_simp; first | done | (intro h; cases h) | simp)); go_simp)
            (refine h_skip 17 rfl (by kernel_rfl) (by kernel_rfl) ?_ ?_; (focus (go_simp; first | done | (intro h; cases h) | simp)); go_simp)
            (refine h_skip 18 rfl (by kernel_rfl) (by kernel_rfl) ?_ ?_; (focus (go_simp; first | done | (intro h; cases h) | simp)); go_simp)
            (refine h_skip 19 rfl (by kernel_rfl) (by kernel_rfl) ?_ ?_; (focus (go_simp; first | done | (intro h; cases h) | simp)); go_simp)
            (refine h_skip 20 rfl (by kernel_rfl) (by kernel_rfl) ?_ ?_; (focus (go_simp; first | done | (intro h; cases h) | simp)); go_simp)
            (refine h_skip 21 rfl (by kernel_rfl) (by kernel_rfl) ?_ ?_; (focus (go_simp; first | done | (intro h; cases h) | simp)); go_simp)
            (refine h_skip 22 rfl (by kernel_rfl) (by kernel_rfl) ?_ ?_; (focus (go_simp; first | done | (intro h; cases h) | simp)); go_simp)
            (refine h_skip 23 rfl (by kernel_rfl) (by kernel_rfl) ?_ ?_; (focus (go_simp; first | done | (intro h; cases h) | simp)); go_simp)
            (refine h_skip 24 rfl (by kernel_rfl) (by kernel_rfl) ?_ ?_; (focus (go_simp; first | done | (intro h; cases h) | simp)); go_simp)
            (refine h_read 25 rfl (by kernel_rfl) (by kernel_rfl) (h_free rfl) ?_ ?_ ?_; rotate_left; (focus (intro v hv; go_simp; rfl)); go_simp)
            refine h_done (by kernel_rfl) ?_
            go_wp2_with fail
            go_ret
            exact ⟨one (vbool (by rw [HF.out])), B6.out.trans (J7.out.mono B6.out.size)⟩
      · obtain rfl : n = k := by omega
        have hp := P.out
        rw [List.take_of_length_le (by rw [HL.out]; exact Nat.le_refl _)] at hp
        have hsm := HSM.out
        rw [List.take_of_length_le (by rw [HL.out]; exact Nat.le_refl _)] at hsm
        have HF := Lib.hid (show V = (decide (sm = h') && decide (u + h' ≤ q)) by
          rw [← HV.out, hp, hsm]; simp)
        have q0 := Q0.out
        have q1 := Q1.out
        have q2 := Q2.out
        clear hp hsm
        by_cases e1 : sm = h'
        · by_cases e2 : u + h' ≤ q
          all_goals
            go_wp2_with fail
            go_ret
            exact ⟨one (vbool (by rw [HF.out]; simp [e1, e2])), B.out⟩
        · go_wp2_with fail
          go_ret
          exact ⟨one (vbool (by rw [HF.out]; simp [e1])), B.out⟩
end Go.Proofs.Ytiopcojkdglapaa.W
