/- LAYER 29 (place): IndexFunc, DeleteFunc of ints by the closure of Others; Others, Has of both. -/
import Derived.Test.YthbbiiegbddpdaaDoorPlH
import Derived.Test.YthbbiiegbddpdaaDoorIzI
set_option linter.unusedSimpArgs false
set_option linter.unusedVariables false
namespace Go.Proofs.YthbbiiegbddpdaaDoor.W
open Go Go.ChangeShapes Go.WideShapes Go.ChangeAt Go.RowKit
open Go.Proofs.YthbbiiegbddpdaaDoor.S
open Go.Proofs.YthbbiiegbddpdaaDoor.P (enc dec shaL shaL_len)

theorem int_zero1 : (Tryd.prog.info? 3).map (·.zero) = some (some (.int .i64 0)) := by kernel_rfl
theorem clear_cell {P : Program} {w : World} {ops : Array Oper} {rest : List Oper} {o : Oper} {a : Act} {Q : Exit → Act → World → Prop} (hgd : o.guard = none) (d : Operand) (T : TypeId)
    (ho : o.op = .call { callee := .builtin .clear, args := #[d], argTypes := #[T] }) (ety : TypeId) (z : Value) (Z : Array Value) (hzc : z.cells = Z) (g off n c : Nat) (t : TypeId) (L : List Value)
    (hd : a.eval d = .slice (some ⟨g, off, none⟩) (n + 1) c)
    (hu : P.underlying T = some (.slice ety)) (hz : (P.info? ety).map (·.zero) = some (some z))
    (hg : Row w g t L) (hfit : off + (n + 1) * Z.size ≤ L.length) (h1 : ∀ v ∈ (madeCells Z ((n + 1) * Z.size)).toList, v.oneCell' = true)
    (h : ∀ w', Row w' g t (splice L off (madeCells Z ((n + 1) * Z.size)).toList) → Upd w w' g → wpList P ops Q rest (a.put o.dst (.tuple #[])) w') : wpList P ops Q (o :: rest) a w := by
  have hst := run_storeCells_at (P := P) g off t (madeCells Z ((n + 1) * Z.size)).toList 0 L.toArray w hg (by simpa [size_madeCells] using hfit) h1
  have hrun : (Builtin.clear_ #[T] o.type #[.slice (some ⟨g, off, none⟩) (n + 1) c]).run P w = .ok (.tuple #[]) (w.setRow g (splice L off (madeCells Z ((n + 1) * Z.size)).toList).toArray) := by
    cases hq : P.info? ety with
    | none => simp [hq] at hz
    | some i =>
      have hi : i.zero = some z := by simpa [hq] using hz
      have hzc2 : (Builtin.zeroCells z.cells (n + 1)) = madeCells Z ((n + 1) * Z.size) := by rw [hzc]; rfl
      simp only [Builtin.clear_, run_underlying hu, zeroValue, typeInfo, hq, hi]
      simp [run_underlying hu, zeroValue, typeInfo, hq, hi, hzc2, hst, splice]
  refine wpList_plain hgd fun K hK => ?_
  unfold Oper.wp
  simp [execOp, ho, resolve, invoke, builtin, hd, hrun, Result.andThen]
  refine hK _ _ (h _ ?_ (Upd.setRow _ _ _))
  unfold Row
  rw [setRow_heap w g _ _ _ _ hg]
def isP (me y : Int) : Bool := decide (y = me)
theorem plnot (y me : Int) (g : Nat) (w : World) (h : Row w g 3 [.int .i64 me]) : Calls Tryd.prog 31 #[.int .i64 y, .pointer (some ⟨g, 0, none⟩)] w fun e w' => e = .returned (.bool (isP me y)) ∧ w = w' := by
  have k0 := h.k0
  clear h
  go_enter Tryd.func31, Tryd.ntmps31
  go_wp2
  all_goals (go_ret; exact ⟨one (vbool (by unfold isP; first | done | rfl | (simp; done) | simp_all)), rfl⟩)
theorem nodP_si (s : ByteArray) (n : Int) : ∀ x ∈ nodP s n, SI64 x := fun x hx => ordP_si s n x (List.mem_of_mem_take hx)
set_option maxRecDepth 100000 in
set_option maxHeartbeats 8000000 in
theorem plidx (y : Int) (g : Nat) (a : Option Addr) (n c : Nat) (L : List Int) (w : World) (h : Ls intE w a n c L) (hg : Row w g 3 [.int .i64 y]) :
    Calls Tryd.prog 41 #[.slice a n c, .func (.func 31) #[] #[.pointer (some ⟨g, 0, none⟩)]] w fun x w' => x = .returned (.int .i64 (idxI (isP y) L)) ∧ Below w.heap.size w w' := by
  have H := Lib.hid h
  have HL := Lib.hid h.hlen
  have HG := Lib.hid hg
  have hm := h.hmax
  have hle := h.hle
  have SZ := Lib.hid int_size
  obtain ⟨V, hV⟩ : ∃ V, idxI (isP y) L = V := ⟨_, rfl⟩
  rw [hV]
  have HV := Lib.hid hV
  clear h hV hg
  go_enter Tryd.func41, Tryd.ntmps41
  go_wp2_with fail
  go_loopw [8] (fun i wr => ∃ k : Nat, i = .int .i64 (k : Int) ∧ k ≤ n ∧ Hid (∀ i, i < k → ∀ x, L[i]? = some x → (isP y) x = false) ∧ Hid (Below w.heap.size w wr)) (fun i _ => n - (intOf i).toNat)
  case atStart => exact ⟨0, rfl, Nat.zero_le _, Lib.hid (fun i h => absurd h (by omega)), Lib.hid (Below.refl _ _)⟩
  case round =>
    obtain ⟨k, rfl, hk, HP, B⟩ := hrel
    by_cases hlt : k < n
    · obtain ⟨b, off, x, rfl, hx, hcell, hft⟩ := H.out.at intOk B.out k hlt
      have XC := Lib.hid hcell
      have HX := Lib.hid hx
      have HFT := Lib.hid hft
      have HR := Lib.hid (HG.out.below B.out HG.out.lt)
      obtain ⟨q, hq⟩ : ∃ q, (isP y) x = q := ⟨_, rfl⟩
      have HQ := Lib.hid hq
      have HC := Lib.hid (plnot x y g wr HR.out)
      rw [hq] at HC
      have g1 : (0 : Int) ≤ (k : Int) := by omega
      have g2 : (k : Int) < (n : Int) := by omega
      have c0 : wr.cell? ⟨b, off + k, none⟩ = some (.int .i64 x) := by have := hcell 0 _ rfl; simpa using this
      clear hx hcell hq hft
      cases q
      · go_wp2_with (first
          | (go_at_call 31; refine HC.out.mono ?_; rintro z w5 ⟨rfl, rfl⟩))
        go_roundw
        case rel =>
          refine ⟨k + 1, vint (by omega), by omega, Lib.hid ?_, B⟩
          intro i hi x hx
          by_cases h : i < k
          · exact HP.out i h x hx
          · obtain rfl : i = k := by omega
            rw [HX.out] at hx; injection hx with hx; subst hx; exact HQ.out
        case measure => simp [intOf]; omega
      · have HZ := Lib.hid (show V = (k : Int) by rw [← HV.out]; exact idxI_at (isP y) L k _ HX.out HQ.out HP.out)
        go_wp2_with (first
          | (go_at_call 31; refine HC.out.mono ?_; rintro z w5 ⟨rfl, rfl⟩))
        go_ret
        exact ⟨one (vint (by rw [HZ.out])), B.out⟩
    · obtain rfl : n = k := by omega
      have HZ := Lib.hid (show V = -1 by rw [← HV.out]; exact idxI_no (isP y) L (fun i x hx => HP.out i (by rw [← HL.out]; exact (List.getElem?_eq_some_iff.1 hx).1) x hx))
      go_wp2_with fail
      go_ret
      exact ⟨one (vint (by rw [HZ.out])), B.out⟩
set_option maxRecDepth 100000 in
set_option maxHeartbeats 16000000 in
theorem pldel (me : Int) (g0 base n : Nat) (v : Value) (L : List Int) (w : World) (h : LsO intE w base v L) (hn : L.length = n) (hf : ∀ x ∈ L, intE.fit w x) (hg : Row w g0 3 [.int .i64 me]) (hne : v.ownBlock ≠ some g0) (hbw : base ≤ w.heap.size) :
    Calls Tryd.prog 30 #[v, .func (.func 31) #[] #[.pointer (some ⟨g0, 0, none⟩)]] w fun x w' => ∃ v', x = .returned v' ∧ LsO intE w' base v' (L.filter (fun x => !((isP me) x))) ∧ Kp v w w' ∧ Below base w w' := by
  rcases h.owr intOk with ⟨rfl, rfl⟩ | ⟨g, c, Z, rfl, hb, ho⟩
  · have HI := Lib.hid (plidx me g0 none 0 0 [] w (Ls.nil w) hg)
    clear h hf hg hne hn
    go_enter Tryd.func30, Tryd.ntmps30
    go_wp2_with (go_at_call 41; (with_reducible refine HI.out.mono ?_); rintro x w1 ⟨rfl, hb1⟩; have B1 := Lib.hid hb1; clear hb1)
    go_ret
    exact ⟨_, rfl, LsO.nil _ _, fun k hk _ => B1.out.block k hk, B1.out.mono hbw⟩
  rw [hn] at ho ⊢
  have hls := ho.ls intOk hf
  have HI := Lib.hid (plidx me g0 (some ⟨g, 0, none⟩) n c L w hls hg)
  have hnc := ho.hnc
  have hcm := ho.hcm
  have HN := Lib.hid hn
  have HO := Lib.hid ho
  have HG := Lib.hid hg
  have HF := Lib.hid hf
  have hgg : g0 ≠ g := fun e => hne (by rw [e]; rfl)
  have SZ := Lib.hid int_size
  have EZ := Lib.hid int_zero1
  have hcm2 : c ≤ 9223372036854775807 := by unfold maxLen at hcm; omega
  rcases idxI_or (isP me) L with ⟨hz, hall⟩ | ⟨k, y, hz, hk, hy, hpk, hbef⟩
  · rw [hz] at HI
    have HFL := Lib.hid (show L.filter (fun x => !((isP me) x)) = L from List.filter_eq_self.2 (fun x hx => by rw [hall x hx]; rfl))
    clear h hf hg hne hz hall ho hn hls
    go_enter Tryd.func30, Tryd.ntmps30
    go_wp2_with (go_at_call 41; (with_reducible refine HI.out.mono ?_); rintro x w1 ⟨rfl, hb1⟩; have B1 := Lib.hid hb1; clear hb1)
    go_ret
    refine ⟨_, rfl, ?_, fun k hk _ => B1.out.block k hk, B1.out.mono hbw⟩
    rw [HFL.out]
    have h1 := (HO.out.below B1.out).lso intOk hb n (Nat.le_refl _)
    rw [List.take_of_length_le (by rw [HN.out]; exact Nat.le_refl _)] at h1
    exact h1
  rw [hz] at HI
  rw [hn] at hk
  have HK := Lib.hid (show L.take k = (L.take (k + 1)).filter (fun x => !((isP me) x)) by
    rw [take_nextS L k _ y hy, all_keptS L k _ (fun i hi x hx => by rw [hbef i hi x hx]; rfl), if_neg (by rw [hpk]; decide), List.append_nil])
  have gk : (((k : Int)) == -1) = false := by rw [beq_eq_false_iff_ne]; omega
  have gw : IntKind.i64.wrap ((k : Int) + 1) = ((k + 1 : Nat) : Int) := by rw [IntKind.wrap_i64]; omega
  clear h hf hg hne hz ho hn hls hpk hbef hy
  go_enter Tryd.func30, Tryd.ntmps30
  go_wp2_with (go_at_call 41; (with_reducible refine HI.out.mono ?_); rintro x w1 ⟨rfl, hb1⟩; have G1 := Lib.hid (HO.out.below hb1); have R1 := Lib.hid (HG.out.below hb1 HG.out.lt); have W1 := Lib.hid (Gw.of_below (g := g) hb1); clear hb1)
  go_loopw [5, 6] (fun a b wr => ∃ (m j : Nat) (R : List Int), a = .int .i64 (m : Int) ∧ b = .int .i64 (j : Int) ∧ m < j ∧ j ≤ n ∧ Hid (R.length = n) ∧ Hid (R.take m = (L.take j).filter (fun x => !((isP me) x))) ∧ Hid (R.drop j = L.drop j) ∧ Hid (OwR intE wr g n c R Z) ∧ Hid (Row wr g0 3 [.int .i64 me]) ∧ Hid (Gw g w wr)) (fun _ b _ => n - (intOf b).toNat)
  case atStart => exact ⟨k, k + 1, L, rfl, vint (by omega), Nat.lt_succ_self _, by omega, HN, HK, Lib.hid rfl, G1, R1, W1⟩
  case round =>
    obtain ⟨m, j, R, rfl, rfl, hmj, hj, HL, HT, HD, HR, HB, HW⟩ := hrel
    by_cases hlt : j < n
    · obtain ⟨e, he⟩ : ∃ e, L[j]? = some e := ⟨_, List.getElem?_eq_getElem (by rw [HN.out]; exact hlt)⟩
      have hre : R[j]? = some e := by rw [at_dropS HD.out]; exact he
      have hfe : intE.fit w e := HF.out e (List.mem_of_getElem? he)
      obtain ⟨q, hq⟩ : ∃ q, (isP me) e = q := ⟨_, rfl⟩
      have HQ := Lib.hid hq
      have HC1 := Lib.hid (show ∀ i v, (intE.cells e)[i]? = some v → wr.cell? ⟨g, j * 1 + i, none⟩ = some v from fun i v hi => by
        have hik : i < 1 := (List.getElem?_eq_some_iff.1 hi).1
        have hjn : j < R.length := by rw [HL.out]; exact hlt
        have h1 := flatE_at intOk R j i e hre hik
        rw [HR.out.row.cellV, List.getElem?_append_left (by rw [flatE_len intOk]; show j * 1 + i < R.length * 1; omega)]
        exact h1.trans hi)
      have HNX := Lib.hid (take_nextS L j (fun x => !((isP me) x)) e he)
      have HC := Lib.hid (show ∀ w7, Below w.heap.size w w7 ∨ True → Row w7 g0 3 [.int .i64 me] → Calls Tryd.prog 31 #[.int .i64 e, .pointer (some ⟨g0, 0, none⟩)] w7 fun x w' => x = .returned (.bool q) ∧ w7 = w' from fun w7 _ hr => by rw [← hq]; exact plnot e me g0 w7 hr)
      have g1 : (0 : Int) ≤ (j : Int) := by omega
      have g2 : (j : Int) < (n : Int) := by omega
      have g3 : (0 : Int) ≤ (m : Int) := by omega
      have g4 : (m : Int) < (n : Int) := by omega
      have gm : IntKind.i64.wrap ((m : Int) + 1) = ((m + 1 : Nat) : Int) := by rw [IntKind.wrap_i64]; omega
      clear he hq hre hfe
      have c0 : wr.cell? ⟨g, j, none⟩ = some (.int .i64 e) := by have := HC1.out 0 _ rfl; simpa using this
      have HRR := Lib.hid HR.out.row
      cases q
      · go_wp2_with (first
          | (go_at_call 31; (with_reducible refine (HC.out wr (.inr trivial) HB.out).mono ?_); rintro x w8 ⟨rfl, rfl⟩)
          | ((with_reducible refine store_cell (o := ⟨none, _, _, _, _, _⟩) rfl _ _ _ rfl g m (.int .i64 e) ?_ ?_ rfl rfl 3 _ HRR.out SZ.out ?_ ?_); (focus (first | (go_simp; done) | (go_simp; rfl))); (focus (first | (go_simp; done) | (go_simp; rfl))); (focus (rw [HR.out.hl]; show m < c * 1; omega)); intro w9 hr hu; have G9 := Lib.hid (HR.out.set intOk m e (by omega) (by show Row w9 g 3 (splice _ (m * 1) [.int .i64 e]); rw [Nat.mul_one, splice1 _ _ _ (by rw [HR.out.hl]; show m < c * 1; omega)]; exact hr)); have R9 := Lib.hid (HB.out.upd hu hgg); have W9 := Lib.hid (HW.out.trans (Gw.upd hu)); clear hr hu))
        go_roundw
        case rel =>
          refine ⟨m + 1, j + 1, R.set m e, vint (by omega), vint (by omega), by omega, by omega, Lib.hid (by rw [List.length_set]; exact HL.out), Lib.hid ?_, Lib.hid ?_, G9, R9, W9⟩
          · rw [set_takeS R m e (by rw [HL.out]; omega), HT.out, HNX.out, if_pos (by rw [HQ.out]; rfl)]
          · rw [List.drop_set_of_lt (by omega)]; exact drop_nextS HD.out
        case measure => simp [intOf]; omega
      · go_wp2_with (go_at_call 31; (with_reducible refine (HC.out wr (.inr trivial) HB.out).mono ?_); rintro x w8 ⟨rfl, rfl⟩)
        go_roundw
        case rel =>
          refine ⟨m, j + 1, R, rfl, vint (by omega), by omega, by omega, HL, Lib.hid ?_, Lib.hid (drop_nextS HD.out), HR, HB, HW⟩
          rw [HNX.out, if_neg (by rw [HQ.out]; simp), List.append_nil]; exact HT.out
        case measure => simp [intOf]; omega
    · obtain rfl : j = n := by omega
      have g3 : (0 : Int) ≤ (m : Int) := by omega
      have g4 : (m : Int) ≤ (j : Int) := by omega
      have g5 : m ≤ j := by omega
      have g6 : (j : Int) ≤ (c : Int) := by omega
      have g7 : (m : Int) ≤ (c : Int) := by omega
      obtain ⟨p, hp⟩ : ∃ p, j - m = p + 1 := ⟨j - m - 1, by omega⟩
      have HFX := Lib.hid (show L.take j = L from List.take_of_length_le (by rw [HN.out]; exact Nat.le_refl _))
      go_wp2_with (first
        | ((with_reducible refine clear_cell rfl (.tmp 38) _ rfl 3 (.int .i64 0) #[.int .i64 0] rfl g m p (c - m) _ _ ?_ Tryd.underlying24 ?_ HR.out.row ?_ ?_ ?_); (focus (first | (go_simp; done) | (go_simp; simp [hp]; done) | (go_simp; rw [hp]))); (focus (exact EZ.out)); (focus (rw [HR.out.hl]; show m + (p + 1) * 1 ≤ c * 1; omega)); (focus (exact made_one intOk (0 : Int) _ rfl _)); intro w5 hr hu; have G5 := Lib.hid (HR.out.clr intOk m p (0 : Int) _ rfl hp (by show Row w5 g 3 (splice _ (m * 1) _); rw [Nat.mul_one]; exact hr)); have W5 := Lib.hid (HW.out.trans (Gw.upd hu)); clear hr hu))
      go_ret
      refine ⟨_, rfl, ?_, fun k hk hn => W5.out.block k hk (fun e => hn (by rw [e]; rfl)), W5.out.below hb hbw⟩
      have h1 := G5.out.lso intOk hb m g5
      rw [List.take_append_of_le_length (by rw [List.length_take, HL.out]; omega), List.take_take, Nat.min_self, HT.out, HFX.out] at h1
      exact h1
set_option maxRecDepth 100000 in
set_option maxHeartbeats 8000000 in
theorem plothers (s : ByteArray) (n me : Int) (w : World) (hK : Ks w) (hs : s.size ≤ 1000) (hn : SI64 n) :
    Calls Tryd.prog 14 #[.string s, .int .i64 n, .int .i64 me] w fun e w' => ∃ v, e = .returned v ∧ LsO intE w' w.heap.size v ((nodP s n).filter (fun x => !(isP me x))) ∧ Below w.heap.size w w' := by
  have HK := Lib.hid hK
  have HC := Lib.hid (fun w' (hb : Below w.heap.size w w') => plnodes s n w' (HK.out.below hb HK.out.pos) hs hn)
  obtain ⟨L, hL⟩ : ∃ L, nodP s n = L := ⟨_, rfl⟩
  rw [hL] at HC ⊢
  have HSI := Lib.hid (show ∀ x ∈ L, SI64 x by rw [← hL]; exact nodP_si s n)
  clear hL hs hn hK
  go_enter Tryd.func14, Tryd.ntmps14
  go_wp2_with (first
    | ((with_reducible refine box_cell (o := ⟨some 5, _, _, _, _, _⟩) rfl _ _ rfl (.int .i64 me) ?_ rfl ?_); (focus (first | (go_simp; done) | (go_simp; rfl))); intro w1 hr hb hz; have R1 := Lib.hid hr; have B1 := Lib.hid hb; clear hr hb hz)
    | (go_at_call 10; (with_reducible refine (HC.out _ B1.out).mono ?_); rintro x w2 ⟨v, rfl, hl, hb⟩; have L2 := Lib.hid hl; have R2 := Lib.hid (R1.out.below hb R1.out.lt); have B2 := Lib.hid (B1.out.trans (hb.mono B1.out.size)); have S1 := Lib.hid hb.size; have SR := Lib.hid R1.out.lt; clear hl hb)
    | (go_at_call 30; have HD := pldel me w.heap.size w1.heap.size _ v L w2 L2.out rfl HSI.out R2.out (fun e => by have h1 := (World.ownsRow.lt L2.out) _ e; have h2 := SR.out; omega) S1.out; (with_reducible refine HD.mono ?_); clear HD; rintro x w3 ⟨v3, rfl, hl, -, hb⟩; have L3 := Lib.hid hl; have B3 := Lib.hid (B2.out.trans (hb.mono B1.out.size)); clear hl hb))
  go_ret
  exact ⟨_, rfl, L3.out.base B1.out.size, B3.out⟩
set_option maxRecDepth 100000 in
set_option maxHeartbeats 8000000 in
theorem plhas (s : ByteArray) (n me : Int) (w : World) (hK : Ks w) (hs : s.size ≤ 1000) (hn : SI64 n) :
    Calls Tryd.prog 12 #[.string s, .int .i64 n, .int .i64 me] w fun e w' => e = .returned (.bool (decide (me ∈ nodP s n))) ∧ Below w.heap.size w w' := by
  have HC := Lib.hid (plnodes s n w hK hs hn)
  obtain ⟨L, hL⟩ : ∃ L, nodP s n = L := ⟨_, rfl⟩
  rw [hL] at HC ⊢
  have HSI := Lib.hid (show ∀ x ∈ L, SI64 x by rw [← hL]; exact nodP_si s n)
  clear hL hs hn hK
  go_enter Tryd.func12, Tryd.ntmps12
  go_wp2_with (first
    | (go_at_call 10; (with_reducible refine HC.out.mono ?_); rintro x w2 ⟨v, rfl, hl, hb⟩; obtain ⟨a, c, rfl, hls, -⟩ := hl.ls intOk HSI.out; have L2 := Lib.hid hls.sl; have B2 := Lib.hid hb; clear hl hb hls)
    | (go_at_call 29; (with_reducible refine (icontains me _ _ _ L _ L2.out).mono ?_); rintro x w3 ⟨rfl, rfl⟩))
  go_ret
  exact ⟨rfl, B2.out⟩
end Go.Proofs.YthbbiiegbddpdaaDoor.W
