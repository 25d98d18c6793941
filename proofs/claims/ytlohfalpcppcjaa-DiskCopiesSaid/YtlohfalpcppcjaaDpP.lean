/- LAYER 9 (disk): the program's Copy. -/
import Derived.Test.YtlohfalpcppcjaaDpV
set_option linter.unusedSimpArgs false
set_option linter.unusedVariables false
namespace Go.Proofs.Ytlohfalpcppcjaa.W
open Go Go.ChangeShapes Go.WideShapes Go.ChangeAt Go.RowKit

/-- STORE of several cells into a row. -/
theorem store_part2 {P : Program} {w : World} {ops : Array Oper} {rest : List Oper} {o : Oper} {a : Act} {Q : Exit → Act → World → Prop} (hgd : o.guard = none) (ty : TypeId) (x y : Operand) (ho : o.op = .store ty x y)
    (g off : Nat) (C : List Value) (hx : a.eval x = .pointer (some ⟨g, off, none⟩)) (hy : a.eval y = .agg C.toArray) (h1 : ∀ v ∈ C, v.oneCell' = true)
    (t : TypeId) (L : List Value) (hg : Row w g t L) (hi : (P.info? ty).map (·.size) = some C.length) (hfit : off + C.length ≤ L.length)
    (h : ∀ w', Row w' g t (splice L off C) → Upd w w' g → wpList P ops Q rest (a.put o.dst undef) w') : wpList P ops Q (o :: rest) a w := by
  refine wpList_plain hgd fun K hK => ?_
  have hrun := run_storeCells_at (P := P) g off t C 0 L.toArray w hg (by simp; omega) (by simpa using h1)
  unfold Oper.wp execOp
  cases hq : P.info? ty with
  | none => simp [hq] at hi
  | some i =>
    have hs : i.size = C.length := by simpa [hq] using hi
    have hv : (Value.agg C.toArray).cells = C.toArray := rfl
    simp [ho, hx, hy, Instr.storeAt, Instr.sureAddr, storeVar, sizeOf, typeInfo, hq, hs, hv, hrun, Result.andThen]
    refine hK _ _ (h _ ?_ (Upd.setRow _ _ _))
    unfold Row
    rw [setRow_heap w g _ _ _ _ hg]
    congr 2
theorem splice2 (a b : Value) : ∀ (L : List Value) (k : Nat), k + 2 ≤ L.length → splice L k [a, b] = (L.set k a).set (k + 1) b
  | [], _, h => by simp at h
  | [_], _, h => by simp at h
  | x :: y :: t, 0, _ => by simp [splice]
  | x :: y :: t, k + 1, h => by
    have ih := splice2 a b (y :: t) k (by simpa using h)
    have e : splice (x :: y :: t) (k + 1) [a, b] = x :: splice (y :: t) k [a, b] := by simp [splice, show k + 1 + 2 = k + 2 + 1 by omega]
    rw [e, ih]; rfl
theorem PX.widen {w : World} {p g : Nat} {L : List Value} {vs : List Sv} {S : Nat → Prop} {d : DSt} (h : PX w p g L vs S d) (S' : Nat → Prop) (hS : ∀ b, S b → S' b) (hlt : ∀ b, S' b → b < w.heap.size) : PX w p g L vs S' d :=
  { h with sp := hS _ h.sp, sg := hS _ h.sg, sv := fun i b hi e => hS b (h.sv i b hi e), lt := hlt }
/-- what has been copied so far -/
def cpN (d : DSt) : Nat → DSt
  | 0 => ⟨List.replicate d.B.length [], List.replicate d.B.length 0, d.most⟩
  | k + 1 => { (cpN d k) with B := (cpN d k).B.set k (d.B.getD k []), s := (cpN d k).s.set k (d.s.getD k 0) }
theorem cpN_at (d : DSt) : ∀ k, k ≤ d.B.length → (cpN d k).most = d.most ∧ (cpN d k).B.length = d.B.length ∧ (cpN d k).s.length = d.B.length ∧ (∀ i, i < k → (cpN d k).B.getD i [] = d.B.getD i [] ∧ (cpN d k).s.getD i 0 = d.s.getD i 0)
  | 0, _ => ⟨rfl, by simp [cpN], by simp [cpN], fun i hi => absurd hi (Nat.not_lt_zero i)⟩
  | k + 1, hk => by
    obtain ⟨h0, h1, h2, h3⟩ := cpN_at d k (by omega)
    unfold cpN
    refine ⟨h0, by simp [h1], by simp [h2], fun i hi => ?_⟩
    dsimp only
    rw [getD_set _ _ _ _ _ (by omega), getD_set _ _ _ _ _ (by omega)]
    by_cases hik : i = k
    · subst hik; rw [if_pos rfl, if_pos rfl]; exact ⟨rfl, rfl⟩
    · rw [if_neg hik, if_neg hik]; exact h3 i (by omega)
theorem list_getD {α : Type} (l l' : List α) (x : α) (h : l.length = l'.length) (he : ∀ i, i < l.length → l.getD i x = l'.getD i x) : l = l' := by
  apply List.ext_getElem h
  intro i h1 h2
  have := he i h1
  rw [show l.getD i x = l[i] by simp [h1], show l'.getD i x = l'[i] by simp [h2]] at this
  exact this
theorem cpN_all (d : DSt) (h : d.s.length = d.B.length) : cpN d d.B.length = d := by
  obtain ⟨h0, h1, h2, h3⟩ := cpN_at d d.B.length (Nat.le_refl _)
  obtain ⟨B, s, most⟩ := d
  dsimp only at h0 h1 h2 h3 h ⊢
  obtain ⟨x, e⟩ : ∃ x, cpN ⟨B, s, most⟩ B.length = x := ⟨_, rfl⟩
  rw [e] at h0 h1 h2 h3 ⊢
  obtain ⟨B', s', most'⟩ := x
  dsimp only at h0 h1 h2 h3
  rw [h0, list_getD B' B [] h1 fun i hi => (h3 i (by omega)).1, list_getD s' s 0 (by omega) fun i hi => (h3 i (by omega)).2]
theorem slot_zero : (Try.prog.info? 64).map (·.zero) = some (some (.agg [.slice none 0 0, .int .i64 0].toArray)) := by kernel_rfl
theorem slot_size : (Try.prog.info? 64).map (·.size) = some 2 := by kernel_rfl
theorem slot_one (x : Option Addr) (n m : Nat) (a : Int) : ∀ v ∈ ([.slice x n m, .int .i64 a] : List Value), v.oneCell' = true := by
  intro v hv
  simp at hv
  rcases hv with rfl | rfl <;> rfl

set_option maxRecDepth 100000 in
set_option maxHeartbeats 4000000 in
theorem dcopy (p g : Nat) (L : List Value) (vs : List Sv) (S : Nat → Prop) (d : DSt) (w : World) (h : PX w p g L vs S d) :
    Calls Try.prog 20 #[.pointer (some ⟨p, 0, none⟩)] w fun e w' => ∃ q S', e = .returned (.pointer (some ⟨q, 0, none⟩)) ∧ PD w' q S' d ∧ Below w.heap.size w w' ∧ ∀ k, S' k → w.heap.size ≤ k := by
  have HX := Lib.hid h
  have HR := Lib.hid (dready p _ true _ _ w h.rp h.p0)
  have SZ := Lib.hid slot_zero
  have SS := Lib.hid slot_size
  have hn16 := h.n16
  have hm0 := h.most0
  obtain ⟨n, hnn⟩ : ∃ n, d.B.length = n := ⟨_, rfl⟩
  obtain ⟨room, hroom⟩ : ∃ room : Nat, d.most = room := ⟨d.most.toNat, by omega⟩
  obtain ⟨x0, x1, x2⟩ := h.rp.t3
  rw [hnn] at hn16 x2
  rw [hroom] at x1 hm0
  have HNN := Lib.hid hnn
  have HRO := Lib.hid hroom
  have X1 := Lib.hid x1
  have X2 := Lib.hid x2
  clear h hnn hroom x0 x1 x2
  go_enter Try.func20, Try.ntmps20
  go_wp2_with (go_at_call 35; refine HR.out.mono ?_; rintro e w1 ⟨rfl, rfl⟩)
  have D0 : Hid (Below w.heap.size w w.drew) := Lib.hid (Below.refl _ _).drew
  refine region_h (fun v => Below w.heap.size w v) (by kernel_rfl) (by kernel_rfl) D0.out ?_
  obtain ⟨wd, hwd⟩ : ∃ wd, w.drew = wd := ⟨_, rfl⟩
  rw [hwd] at D0 ⊢
  clear hwd
  (refine h_read 0 rfl (by kernel_rfl) (by kernel_rfl) (h_free rfl) ?_ ?_ ?_; rotate_left; (focus (intro v hv; go_simp; rfl)); go_simp)
  (refine h_read 1 rfl (by kernel_rfl) (by kernel_rfl) (h_free rfl) ?_ ?_ ?_; rotate_left; (focus (intro v hv; go_simp; rfl)); go_simp)
  (refine h_read 2 rfl (by kernel_rfl) (by kernel_rfl) (h_free rfl) ?_ ?_ ?_; rotate_left; (focus (intro v hv; go_simp; rfl)); go_simp)
  (refine h_read 3 rfl (by kernel_rfl) (by kernel_rfl) (h_free rfl) ?_ ?_ ?_; rotate_left; (focus (intro v hv; have x1 := (hv.cell (p := ⟨p, 1, none⟩) HX.out.rp.lt).trans X1.out; have x2 := (hv.cell (p := ⟨p, 2, none⟩) HX.out.rp.lt).trans X2.out; go_simp; rfl)); go_simp)
  (refine h_read 4 rfl (by kernel_rfl) (by kernel_rfl) (h_free rfl) ?_ ?_ ?_; rotate_left; (focus (intro v hv; go_simp; rfl)); go_simp)
  (refine h_read 5 rfl (by kernel_rfl) (by kernel_rfl) (h_free rfl) ?_ ?_ ?_; rotate_left; (focus (intro v hv; go_simp; rfl)); go_simp)
  (refine h_read 6 rfl (by kernel_rfl) (by kernel_rfl) (h_free rfl) ?_ ?_ ?_; rotate_left; (focus (intro v hv; go_simp; rfl)); go_simp)
  (refine h_read 7 rfl (by kernel_rfl) (by kernel_rfl) (h_free rfl) ?_ ?_ ?_; rotate_left; (focus (intro v hv; have x1 := (hv.cell (p := ⟨p, 1, none⟩) HX.out.rp.lt).trans X1.out; have x2 := (hv.cell (p := ⟨p, 2, none⟩) HX.out.rp.lt).trans X2.out; go_simp; rfl)); go_simp)
  (refine h_read 8 rfl (by kernel_rfl) (by kernel_rfl) (h_free rfl) ?_ ?_ ?_; rotate_left; (focus (intro v hv; go_simp; rfl)); go_simp)
  (refine h_list 9 rfl (by kernel_rfl) ?_; intro K hK)
  refine make_wide rfl _ _ _ rfl 64 #[.slice none 0 0, .int .i64 0] 2 32 (by kernel_rfl) (by kernel_rfl) (n : Int) n (by go_simp) (by go_simp) rfl (by omega) (by omega) (by omega) ?_
  intro w1 hr1 hb1 hz1
  have R1 := Lib.hid hr1
  have Z1 := Lib.hid hz1
  have B1 := Lib.hid (D0.out.trans (hb1.mono D0.out.size))
  clear hr1 hb1 hz1
  go_wp2_with fail
  refine hK _ _ B1.out ?_
  clear hK K
  (refine h_read 10 rfl (by kernel_rfl) (by kernel_rfl) (h_free rfl) ?_ ?_ ?_; rotate_left; (focus (intro v hv; go_simp; rfl)); go_simp)
  (refine h_list 11 rfl (by kernel_rfl) ?_; intro K hK)
  refine box_row (o := ⟨some 20, _, _, _, _, _⟩) rfl _ _ rfl [.bool true, .int .i64 (room : Int), .slice (some ⟨wd.heap.size, 0, none⟩) n n] (by go_simp) ?_
  intro w2 hr2 hb2 hz2
  have R2 := Lib.hid hr2
  have Z2 := Lib.hid hz2
  have BB2 := Lib.hid (B1.out.trans (hb2.mono B1.out.size))
  have PX0 : Hid (PX w2 w1.heap.size wd.heap.size (madeCells #[.slice none 0 0, .int .i64 0] (n * 2)).toList (List.replicate n (none, 0, 0)) (fun b => w.heap.size ≤ b ∧ b < w2.heap.size) (cpN d 0)) := by
    have M := made2 (.slice none 0 0) (.int .i64 0) n
    have z1 := Z1.out
    have z2 := Z2.out
    have zd := D0.out.size
    have e0 : cpN d 0 = ⟨List.replicate n [], List.replicate n 0, d.most⟩ := by unfold cpN; rw [HNN.out]
    rw [e0]
    refine Lib.hid { rp := ?_, rg := R1.out.below hb2 R1.out.lt, ll := by simpa using M.1, lb := ?_, ls := ?_, lv := by simp, lS := by simp, ow := ?_, sep := ?_, pg := by omega, p0 := trivial, sp := ⟨by omega, by omega⟩, sg := ⟨by omega, by omega⟩, sv := ?_, lt := fun k hk => hk.2, n16 := by simpa using hn16, len := fun i => ?_, most0 := HX.out.most0, sure := ?_ }
    · dsimp only; rw [HRO.out]; simpa using R2.out
    · intro i hi
      rw [vs_rep]; exact M.2.1 i (by simpa using hi)
    · intro i hi
      dsimp only
      rw [getD_rep, M.2.2 i (by simpa using hi)]
    · intro i hi
      dsimp only
      rw [vs_rep, getD_rep]
      exact Fr.nil _ _
    · intro i j b hi hj e
      rw [vs_rep] at e
      cases e
    · intro i b hi e
      rw [vs_rep] at e
      cases e
    · dsimp only; rw [getD_rep]; simp
    · intro i hi
      dsimp only
      rw [getD_rep, getD_rep]; simp
  clear hr2 hb2 hz2
  go_wp2_with fail
  refine hK _ _ BB2.out ?_
  clear hK K
  (refine h_read 12 rfl (by kernel_rfl) (by kernel_rfl) (h_free rfl) ?_ ?_ ?_; rotate_left; (focus (intro v hv; go_simp; rfl)); go_simp)
  refine h_done (by kernel_rfl) ?_
  have x2 := (BB2.out.cell (p := ⟨p, 2, none⟩) HX.out.rp.lt).trans X2.out
  go_wp2_with fail
  clear x2
  go_loopw [26] (fun i wr => ∃ (k : Nat) (L2 : List Value) (vs2 : List Sv), i = .int .i64 (k : Int) ∧ k ≤ n ∧ Hid (PX wr w1.heap.size wd.heap.size L2 vs2 (fun b => w.heap.size ≤ b ∧ b < wr.heap.size) (cpN d k)) ∧ Hid (Below w.heap.size w wr)) (fun i _ => n - (intOf i).toNat)
  case atStart => exact ⟨0, _, _, rfl, Nat.zero_le _, PX0, BB2⟩
  case round =>
    obtain ⟨k, L2, vs2, rfl, hk, C, B⟩ := hrel
    by_cases hlt : k < n
    · have hk' : k < d.B.length := by rw [HNN.out]; exact hlt
      obtain ⟨va, vc, hv, xb, hrk⟩ := (HX.out.mono B.out).at k hk'
      have xs := (HX.out.mono B.out).cs k hk'
      have hlen := HX.out.len k
      have hs1 := HX.out.sure k hk'
      obtain ⟨cn0, cn1, cn2, -⟩ := cpN_at d k (by omega)
      rw [HNN.out] at cn1 cn2
      obtain ⟨lk, hlk⟩ : ∃ lk, d.B.getD k [] = lk := ⟨_, rfl⟩
      obtain ⟨su, hsu⟩ : ∃ su, d.s.getD k 0 = su := ⟨_, rfl⟩
      obtain ⟨m, hm⟩ : ∃ m, lk.length = m := ⟨_, rfl⟩
      have HST : Hid (cpN d (k + 1) = { (cpN d k) with B := (cpN d k).B.set k lk, s := (cpN d k).s.set k su }) := Lib.hid (by rw [← hlk, ← hsu]; rfl)
      rw [hlk, hm] at xb hrk hlen hs1
      rw [hsu] at xs hs1
      have HCE : Hid (∀ j v, ([.slice va m vc, .int .i64 su] : List Value)[j]? = some v → wr.cell? ⟨g, k * 2 + j, none⟩ = some v) := Lib.hid (fun j v hj => by
        rcases j with _ | _ | j
        · simp at hj; subst hj; exact xb
        · simp at hj; subst hj; exact xs
        · simp at hj)
      have HRK := Lib.hid hrk
      have HM := Lib.hid hm
      have CN1 := Lib.hid cn1
      have CN2 := Lib.hid cn2
      have CP2 := C.out.rp.t3.2.2
      rw [CN1.out] at CP2
      have Y2 := Lib.hid CP2
      clear hv xb hrk xs hlk hsu hm cn0 cn1 cn2 CP2
      go_wp2_with (first
        | ((with_reducible refine load_cells (o := ⟨some 30, _, _, _, _, _⟩) rfl _ _ rfl g (k * 2) ?_ [.slice va m vc, .int .i64 su] _ HCE.out Try.underlying64 ?_ ?_ ?_); (focus go_simp); (focus rfl); (focus (exact SS.out)))
        | ((with_reducible refine alloc_row (o := ⟨some 5, _, _, _, _, _⟩) rfl _ rfl _ SZ.out ?_); intro w2 hr2 hb2 hz2; have R2 := Lib.hid hr2; have B2 := Lib.hid hb2; clear hr2 hb2 hz2)
        | ((with_reducible refine store_row (o := ⟨none, _, _, _, _, _⟩) rfl _ (.tmp 5) _ rfl wr.heap.size [.slice va m vc, .int .i64 su] ?_ ?_ 64 _ R2.out ?_ ?_ ?_ ?_); (focus go_simp); (focus go_simp); (focus (exact SS.out)); (focus rfl); (focus (exact slot_one _ _ _ _)); intro w3 hr3 hu3; have R3 := Lib.hid hr3; have B3 := Lib.hid (B2.out.trans (hu3.below (Nat.le_refl _))); clear hr3 hu3))
      have D4 : Hid (Below w3.heap.size w3 w3.drew) := Lib.hid (Below.refl _ _).drew
      refine region_t (fun v => Below w3.heap.size w3 v) 12 (by kernel_rfl) (by kernel_rfl) (by kernel_rfl) D4.out ?_
      obtain ⟨w4, hw4⟩ : ∃ w4, w3.drew = w4 := ⟨_, rfl⟩
      rw [hw4] at D4 ⊢
      clear hw4
      (refine t_read 0 rfl (by kernel_rfl) (by kernel_rfl) (by kernel_rfl) (t_free rfl) ?_ ?_ ?_; rotate_left; (focus (intro v hv; go_simp; rfl)); go_simp)
      (refine t_read 1 rfl (by kernel_rfl) (by kernel_rfl) (by kernel_rfl) (t_free rfl) ?_ ?_ ?_; rotate_left; (focus (intro v hv; go_simp; rfl)); go_simp)
      (refine t_read 2 rfl (by kernel_rfl) (by kernel_rfl) (by kernel_rfl) (t_free rfl) ?_ ?_ ?_; rotate_left; (focus (intro v hv; go_simp; rfl)); go_simp)
      (refine t_read 3 rfl (by kernel_rfl) (by kernel_rfl) (by kernel_rfl) (t_free rfl) ?_ ?_ ?_; rotate_left; (focus (intro v hv; have y2 := (B3.out.trans (hv.mono B3.out.size)).cell (p := ⟨w1.heap.size, 2, none⟩) C.out.rp.lt |>.trans Y2.out; have s0 := (hv.cell (p := ⟨wr.heap.size, 0, none⟩) R3.out.lt).trans R3.out.k0; have s1 := (hv.cell (p := ⟨wr.heap.size, 1, none⟩) R3.out.lt).trans (R3.out.cellV 1); go_simp; rfl)); go_simp)
      (refine t_read 4 rfl (by kernel_rfl) (by kernel_rfl) (by kernel_rfl) (t_free rfl) ?_ ?_ ?_; rotate_left; (focus (intro v hv; go_simp; rfl)); go_simp)
      (refine t_read 5 rfl (by kernel_rfl) (by kernel_rfl) (by kernel_rfl) (t_free rfl) ?_ ?_ ?_; rotate_left; (focus (intro v hv; go_simp; rfl)); go_simp)
      (refine t_read 6 rfl (by kernel_rfl) (by kernel_rfl) (by kernel_rfl) (t_free rfl) ?_ ?_ ?_; rotate_left; (focus (intro v hv; have y2 := (B3.out.trans (hv.mono B3.out.size)).cell (p := ⟨w1.heap.size, 2, none⟩) C.out.rp.lt |>.trans Y2.out; have s0 := (hv.cell (p := ⟨wr.heap.size, 0, none⟩) R3.out.lt).trans R3.out.k0; have s1 := (hv.cell (p := ⟨wr.heap.size, 1, none⟩) R3.out.lt).trans (R3.out.cellV 1); go_simp; rfl)); go_simp)
      (refine t_read 8 rfl (by kernel_rfl) (by kernel_rfl) (by kernel_rfl) (t_free rfl) ?_ ?_ ?_; rotate_left; (focus (intro v hv; go_simp; rfl)); go_simp)
      (refine t_read 9 rfl (by kernel_rfl) (by kernel_rfl) (by kernel_rfl) (t_free rfl) ?_ ?_ ?_; rotate_left; (focus (intro v hv; have y2 := (B3.out.trans (hv.mono B3.out.size)).cell (p := ⟨w1.heap.size, 2, none⟩) C.out.rp.lt |>.trans Y2.out; have s0 := (hv.cell (p := ⟨wr.heap.size, 0, none⟩) R3.out.lt).trans R3.out.k0; have s1 := (hv.cell (p := ⟨wr.heap.size, 1, none⟩) R3.out.lt).trans (R3.out.cellV 1); go_simp; rfl)); go_simp)
      (refine t_call 7 rfl (by kernel_rfl) rfl (t_free rfl) 39 ?_ ?_ ?_; rotate_left; (focus (go_simp; rfl)))
      refine (bclone va m vc lk w4 (HRK.out.mono ((B3.out.trans (D4.out.mono B3.out.size)))) (by omega)).mono ?_
      rintro e w5 ⟨v5, rfl, hf5, hb5⟩
      obtain ⟨a5, c5, hv5, hr5⟩ := hf5.form' m HM.out
      subst hv5
      have F5 := Lib.hid hf5
      have B5 := Lib.hid (D4.out.trans (hb5.mono D4.out.size))
      clear hf5 hb5 hr5
      refine ⟨_, rfl, B5.out, ?_⟩
      go_simp
      (refine t_read 10 rfl (by kernel_rfl) (by kernel_rfl) (by kernel_rfl) (t_free rfl) ?_ ?_ ?_; rotate_left; (focus (intro v hv; go_simp; rfl)); go_simp)
      (refine t_read 11 rfl (by kernel_rfl) (by kernel_rfl) (by kernel_rfl) (t_free rfl) ?_ ?_ ?_; rotate_left; (focus (intro v hv; go_simp; rfl)); go_simp)
      (refine t_last 12 rfl (by kernel_rfl) rfl (by kernel_rfl) (by kernel_rfl) ?_; intro K hK)
      have C5 := C.out.mono (B3.out.trans (B5.out.mono B3.out.size))
      have hll := C5.ll
      rw [CN1.out] at hll
      refine store_part2 rfl _ _ _ rfl wd.heap.size (k * 2) [.slice a5 m c5, .int .i64 su] (by go_simp) (by go_simp) (slot_one _ _ _ _) 64 _ C5.rg SS.out (by simp; omega) ?_
      intro w6 hr6 hu6
      rw [splice2 _ _ _ _ (by omega)] at hr6
      refine hK _ _ ?_
      have hk2 : k < (cpN d k).B.length := by rw [CN1.out]; exact hlt
      have C3 := C.out.mono B3.out
      have PP := C3.put (w' := w6) k hk2 (a5, m, c5) lk su ((Ft.of_below B5.out).trans (Ft.of_upd hu6 (.inl rfl))) hr6 (by simp) (by rw [List.getElem?_set_ne (by omega), List.getElem?_set_self (by omega)]; rfl) (by rw [List.getElem?_set_self (by rw [List.length_set]; omega)])
        (fun i h1 h2 => by rw [List.getElem?_set_ne (Ne.symm h2), List.getElem?_set_ne (Ne.symm h1)]) (((F5.out.base (Nat.zero_le _)).ftb (Ft.of_upd (F := fun b => b = wd.heap.size) hu6 rfl) fun b e e2 => F5.out.ne C5.rg (by decide) (e2 ▸ e)))
        (fun b e => .inr (Nat.le_trans D4.out.size (World.ownsRow.lt F5.out b e).1)) (by rw [HM.out]; exact hlen) (by rw [HM.out]; exact hs1)
      have B6 := Lib.hid ((B.out.trans ((B3.out.trans (B5.out.mono B3.out.size)).mono B.out.size)).trans (hu6.below D0.out.size))
      have C6 : Hid (PX w6 w1.heap.size wd.heap.size _ _ (fun b => w.heap.size ≤ b ∧ b < w6.heap.size) (cpN d (k + 1))) := Lib.hid (by
        rw [HST.out]
        refine PP.1.widen (fun b => w.heap.size ≤ b ∧ b < w6.heap.size) (fun b hb => ⟨?_, PP.1.lt b hb⟩) (fun b hb => hb.2)
        rcases hb with hb | e
        · exact hb.1
        · exact Nat.le_trans (Nat.le_trans B.out.size (Nat.le_trans B3.out.size D4.out.size)) (World.ownsRow.lt F5.out b e).1)
      clear PP C3 C5 hll hr6 hu6 hk2
      go_simp
      go_wp2_with fail
      go_roundw
      case rel => exact ⟨k + 1, _, _, vint (by omega), by omega, C6, B6⟩
      case measure => simp [intOf]; omega
    · obtain rfl : n = k := by omega
      go_wp2_with fail
      go_ret
      refine ⟨_, fun b => w.heap.size ≤ b ∧ b < wr.heap.size, rfl, ⟨wd.heap.size, L2, vs2, ?_⟩, B.out, fun b hb => hb.1⟩
      have := C.out
      rw [← HNN.out, cpN_all d HX.out.lS] at this
      exact this
end Go.Proofs.Ytlohfalpcppcjaa.W
