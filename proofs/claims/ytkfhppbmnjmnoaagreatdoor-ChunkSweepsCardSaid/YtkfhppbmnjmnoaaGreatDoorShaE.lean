/- CONTRACTS of layer 3 (sha): a hash: what is written, what is asked. CONTRACTS of layer 3 (sha): a hash's sum; the sum of a text. WHAT IS LAID of layer 3 (sha), and THE LAWS ShaNobody and ShaPads. THE LAW ShaParts: in whatever parts a text is written, its sum is the same. -/
import Derived.Test.YtkfhppbmnjmnoaaGreatDoorShaB
import Derived.Test.YtkfhppbmnjmnoaaGreatDoorShaD
import Derived.Test.YtkfhppbmnjmnoaaGreatDoorArr
import Derived.Test.YtkfhppbmnjmnoaaGreatDoorBss
import Derived.Lib.LaidTab
import Derived.Lay
import Derived.Deep.Matrix
set_option linter.unusedSimpArgs false
set_option linter.unusedVariables false
namespace Go.Proofs.YtkfhppbmnjmnoaaGreatDoor.W
open Go.ChangeShapes Go.WideShapes Go.ChangeAt Go.RowKit
open Go.Proofs.YtkfhppbmnjmnoaaGreatDoor.P

theorem Ks.gw {g : Nat} {w w' : World} (h : Ks w) (k : Gw g w w') (hg : g ≠ 0) : Ks w' :=
  ⟨Nat.lt_of_lt_of_le h.1 k.size, fun j v hj => by rw [k.cell h.1 (Ne.symm hg)]; exact h.2 j v hj⟩

/-- LOAD of an array out of cells, in a region's head that only reads. -/
theorem quiet_load {P : Program} {ops : Array Oper} {C : World → Prop} {Q : Act → Prop} {rest : List Oper} {o : Oper} {a : Act} (hgd : o.guard = none) (ty : TypeId) (x : Operand) (ho : o.op = .load ty x)
    (g off : Nat) (hx : a.eval x = .pointer (some ⟨g, off, none⟩)) (L : List Value) (d : TypeDesc) (hc : ∀ w, C w → ∀ j v, L[j]? = some v → w.cell? ⟨g, off + j, none⟩ = some v)
    (hu : P.underlying ty = some d) (hd : (match d with | .struct _ | .array _ _ => true | _ => false) = true) (hi : (P.info? ty).map (·.size) = some L.length)
    (h : wpQuiet P ops C Q rest (a.put o.dst (.agg L.toArray))) : wpQuiet P ops C Q (o :: rest) a := by
  unfold wpQuiet
  rw [if_pos (by simp [Region.wanted, hgd])]
  refine ⟨.agg L.toArray, fun w hw => ?_, h⟩
  have hl : (loadCells ⟨g, off, none⟩ L.length).run P w = .ok L.toArray w := run_loadCells_list (P := P) w ⟨g, off, none⟩ L (fun j v hv => by rw [Go.WideShapes.add_plain]; exact hc w hw j v hv)
  have hagg : (isAgg ty).run P w = .ok true w := by
    unfold isAgg
    rw [Sem.run_bind, run_underlying hu w]
    cases d <;> simp_all
  unfold Oper.quietAt execOp
  cases hq : P.info? ty with
  | none => simp [hq] at hi
  | some i =>
    have hs : i.size = L.length := by simpa [hq] using hi
    simp [ho, hx, Instr.loadAt, Instr.sureAddr, loadVar, Sem.run_bind, hagg, sizeOf, typeInfo, hq, hs, hl, Result.andThen, Oper.quietUpon]

/-- STORE of an array into a part of a row. -/
theorem store_part {P : Program} {w : World} {ops : Array Oper} {rest : List Oper} {o : Oper} {a : Act} {Q : Exit → Act → World → Prop} (hgd : o.guard = none) (ty : TypeId) (x y : Operand) (ho : o.op = .store ty x y)
    (g off : Nat) (cells : List Value) (hx : a.eval x = .pointer (some ⟨g, off, none⟩)) (hy : a.eval y = .agg cells.toArray)
    (t : TypeId) (L : List Value) (hg : Row w g t L) (hi : (P.info? ty).map (·.size) = some cells.length) (hfit : off + cells.length ≤ L.length) (h1 : ∀ v ∈ cells, v.oneCell' = true)
    (h : ∀ w', Row w' g t (splice L off cells) → Upd w w' g → wpList P ops Q rest (a.put o.dst undef) w') : wpList P ops Q (o :: rest) a w := by
  refine wpList_plain hgd fun K hK => ?_
  have hrun := run_storeCells_at (P := P) g off t cells 0 L.toArray w hg (by simpa using hfit) h1
  unfold Oper.wp execOp
  cases hq : P.info? ty with
  | none => simp [hq] at hi
  | some i =>
    have hs : i.size = cells.length := by simpa [hq] using hi
    simp [ho, hx, hy, Instr.storeAt, Instr.sureAddr, storeVar, sizeOf, typeInfo, hq, hs, Value.cells, hrun, Result.andThen]
    refine hK _ _ (h _ ?_ (Upd.setRow _ _ _))
    unfold Row
    rw [setRow_heap w g _ _ _ _ hg]
    congr 2


/-- A CALL by its contract, in such a head: what it hands back does not hang on the world. -/
theorem quiet_call {P : Program} {ops : Array Oper} {C : World → Prop} {Q : Act → Prop} {rest : List Oper} {o : Oper} {a : Act} (hgd : o.guard = none) (f : FuncId) (args : Array Value)
    (hrun : ∀ w, (execOp a.eval o).run P w = .ok (.enter f args) w) (v : Value) (hc : ∀ w, C w → Calls P f args w fun e w' => e = .returned v ∧ C w')
    (h : wpQuiet P ops C Q rest (a.put o.dst v)) : wpQuiet P ops C Q (o :: rest) a := by
  unfold wpQuiet
  rw [if_pos (by simp [Region.wanted, hgd])]
  refine ⟨v, fun w hw => ?_, h⟩
  unfold Oper.quietAt
  rw [hrun w]
  exact ⟨rfl, hc w hw⟩
/-- Any operation by its run equation, in such a head. -/
theorem quiet_val {P : Program} {ops : Array Oper} {C : World → Prop} {Q : Act → Prop} {rest : List Oper} {o : Oper} {a : Act} (hgd : o.guard = none) (v : Value)
    (hrun : ∀ w, (execOp a.eval o).run P w = .ok (.value v) w) (h : wpQuiet P ops C Q rest (a.put o.dst v)) : wpQuiet P ops C Q (o :: rest) a := by
  unfold wpQuiet
  rw [if_pos (by simp [Region.wanted, hgd])]
  refine ⟨v, fun w hw => ?_, h⟩
  unfold Oper.quietAt
  rw [hrun w]
  exact ⟨rfl, rfl⟩

/-- a hash's cells -/
def hc (hs : List UInt32) (rest : List UInt8) (n : Nat) : List Value := hs.map U ++ (rest.map B ++ [.int .i64 (n : Int), .bool true])
/-- a hash, into which l was written -/
def HT (w : World) (g : Nat) (l : List UInt8) : Prop := ∃ hs rest, St l hs rest ∧ Row w g 113 (hc hs rest l.length)
theorem HT.lt {w : World} {g : Nat} {l : List UInt8} (h : HT w g l) : g < w.heap.size := by obtain ⟨_, _, -, h⟩ := h; exact h.lt
theorem HT.below {w w' : World} {g base : Nat} {l : List UInt8} (h : HT w g l) (hb : Below base w w') (hg : g < base) : HT w' g l := by obtain ⟨hs, rest, a, b⟩ := h; exact ⟨hs, rest, a, b.below hb hg⟩
theorem HT.gw {w w' : World} {g g' : Nat} {l : List UInt8} (h : HT w g l) (hb : Gw g' w w') (hg : g ≠ g') : HT w' g l := by obtain ⟨hs, rest, a, b⟩ := h; exact ⟨hs, rest, a, b.gw hb hg⟩

theorem sizeH : (Tryz.prog.info? 113).map (·.size) = some 74 := by kernel_rfl

set_option maxRecDepth 100000 in
set_option maxHeartbeats 1000000 in
theorem new_any (w : World) : Calls Tryz.prog 82 #[] w fun e w' => ∃ g, e = .returned (.pointer (some ⟨g, 0, none⟩)) ∧ w.heap.size ≤ g ∧ HT w' g [] ∧ Below w.heap.size w w' := by
  have HBU : Hid (Tryz.prog.built 113 [(0, .agg (H0.map U).toArray), (3, .bool true)] = some (hc H0 (List.replicate 64 0) 0).toArray) := Lib.hid (by kernel_rfl)
  obtain ⟨LZ, hLZ⟩ : ∃ x, hc H0 (List.replicate 64 0) 0 = x := ⟨_, rfl⟩
  rw [hLZ] at HBU
  have HLZ := Lib.hid hLZ
  clear hLZ
  go_enter Tryz.func82, Tryz.ntmps82
  go_wp2_with (first
    | (go_at_call 93; refine (start_any _).mono ?_; rintro e w1 ⟨rfl, hb1⟩)
    | (refine build_row (o := ⟨some 2, .build _ _, _, _, _, _⟩) rfl _ _ rfl LZ (by go_simp; with_reducible exact HBU.out) ?_)
    | (with_reducible refine box_row (o := ⟨some 3, _, _, _, _, _⟩) rfl _ _ rfl LZ rfl ?_; intro w2 hr2 hb2 hz2; have HR2 := Lib.hid hr2; clear hr2 hz2))
  go_ret
  have hs := hb1.size
  exact ⟨_, rfl, hs, ⟨H0, List.replicate 64 0, St.zero, by rw [← HLZ.out] at HR2; exact HR2.out⟩, hb1.trans (hb2.mono hs)⟩

/-- where things lie in a hash -/
theorem hc_len (hs : List UInt32) (rest : List UInt8) (n : Nat) (h8 : hs.length = 8) (hr : rest.length = 64) : (hc hs rest n).length = 74 := by simp [hc, h8, hr]
theorem hc_word (hs : List UInt32) (rest : List UInt8) (n j : Nat) (h8 : hs.length = 8) (hj : j < 8) : (hc hs rest n)[j]? = some (U (hs.getD j 0)) := by
  rw [hc, List.getElem?_append_left (by simp [h8]; omega)]; simp [h8, hj]
theorem hc_byte (hs : List UInt32) (rest : List UInt8) (n j : Nat) (h8 : hs.length = 8) (hr : rest.length = 64) (hj : j < 64) : (hc hs rest n)[8 + j]? = some (B (rest.getD j 0)) := by
  rw [hc, List.getElem?_append_right (by simp [h8]), List.getElem?_append_left (by simp [h8, hr]; omega)]; simp [h8, hr, hj]
theorem hc_size (hs : List UInt32) (rest : List UInt8) (n : Nat) (h8 : hs.length = 8) (hr : rest.length = 64) : (hc hs rest n)[72]? = some (.int .i64 (n : Int)) := by
  rw [hc, List.getElem?_append_right (by simp [h8]), List.getElem?_append_right (by simp [h8, hr])]; simp [h8, hr]
theorem hc_made (hs : List UInt32) (rest : List UInt8) (n : Nat) (h8 : hs.length = 8) (hr : rest.length = 64) : (hc hs rest n)[73]? = some (.bool true) := by
  rw [hc, List.getElem?_append_right (by simp [h8]), List.getElem?_append_right (by simp [h8, hr])]; simp [h8, hr]
theorem hc_grow (hs : List UInt32) (rest : List UInt8) (n m : Nat) (h8 : hs.length = 8) (hr : rest.length = 64) : (hc hs rest n).set 72 (.int .i64 (m : Int)) = hc hs rest m := by
  unfold hc
  rw [List.set_append_right _ _ (by simp [h8]), List.set_append_right _ _ (by simp [h8, hr])]; simp [h8, hr]
theorem hc_ins (hs : List UInt32) (rest : List UInt8) (n r : Nat) (y : List UInt8) (h8 : hs.length = 8) (hr : rest.length = 64) (hy : r + y.length ≤ 64) : splice (hc hs rest n) (8 + r) (y.map B) = hc hs (ins rest r y) n := by
  unfold hc splice ins
  have e1 : (hs.map U).length = 8 := by simp [h8]
  rw [List.take_append, List.drop_append, e1, List.take_of_length_le (by omega), show (hs.map U).drop (8 + r + (y.map B).length) = [] from List.drop_eq_nil_of_le (by simp [h8]; omega), show 8 + r - 8 = r by omega, List.length_map, show 8 + r + y.length - 8 = r + y.length by omega,
    List.take_append_of_le_length (by simp [hr]; omega), List.drop_append_of_le_length (by simp [hr]; omega)]
  simp [List.map_take, List.map_drop]
theorem hc_words (hs hs' : List UInt32) (rest : List UInt8) (n : Nat) (h8 : hs.length = 8) (h8' : hs'.length = 8) : splice (hc hs rest n) 0 (hs'.map U) = hc hs' rest n := by
  unfold hc splice
  rw [List.take_zero, List.nil_append, Nat.zero_add, List.length_map, h8', List.drop_append_of_le_length (by simp [h8]), List.drop_eq_nil_of_le (by simp [h8]), List.nil_append]

set_option maxRecDepth 100000 in
set_option maxHeartbeats 4000000 in
theorem write_any (g : Nat) (a : Option Addr) (len cap : Nat) (x l : List UInt8) (w : World) (hK : Ks w) (hg0 : g ≠ 0) (hh : HT w g l) (hr : Rd w a len cap x) (hap : len ≠ 0 → ∀ b off, a = some ⟨b, off, none⟩ → b ≠ g) (hmax : l.length + len ≤ 140737488355328) :
    Calls Tryz.prog 83 #[.pointer (some ⟨g, 0, none⟩), .slice a len cap] w fun e w' => e = .returned (.tuple #[]) ∧ HT w' g (l ++ x) ∧ Gw g w w' := by
  have hle := hr.hle
  have hcm := hr.hmax
  have hlen := hr.hlen
  obtain ⟨hs0, rest0, hst0, hrow0⟩ := hh
  have cm := hrow0.cellV 73
  rw [hc_made _ _ _ hst0.len8 hst0.len] at cm
  have HST0 := Lib.hid hst0
  have HROW0 := Lib.hid hrow0
  have HK := Lib.hid hK
  have HLEN := Lib.hid hlen
  have HAP := Lib.hid hap
  have HRD := Lib.hid hr
  clear hst0 hrow0 hK hlen hap hr
  go_enter Tryz.func83, Tryz.ntmps83
  go_wp2_with fail
  go_loopw [1] (fun sl wr => ∃ (j n' c' : Nat) (a' : Option Addr) (hs : List UInt32) (rest : List UInt8), sl = .slice a' n' c' ∧ n' ≤ len ∧ Hid (j + n' = len) ∧ Hid (n' ≠ 0 → ∃ b off, a = some ⟨b, off, none⟩ ∧ a' = some ⟨b, off + j, none⟩ ∧ c' + j = cap) ∧ Hid (St (l ++ x.take j) hs rest) ∧ Hid (Row wr g 113 (hc hs rest (l.length + j))) ∧ Hid (Gw g w wr)) (fun sl _ => (match sl with | .slice _ m _ => m | _ => 0))
  case atStart =>
    refine ⟨0, len, cap, a, hs0, rest0, rfl, Nat.le_refl _, Lib.hid (by omega), Lib.hid ?_, Lib.hid (by simpa using HST0.out), HROW0, Lib.hid (Gw.refl _ _)⟩
    intro h
    obtain ⟨b, off, hab, -, -⟩ := HRD.out.lt_of h
    exact ⟨b, off, hab, by rw [hab]; rfl, by omega⟩
  case round =>
    obtain ⟨j, n', c', a', hs, rest, rfl, hn, HJ, HA, HST, HROW, HGW⟩ := hrel
    by_cases h0 : n' = 0
    · subst h0
      go_wp2_with fail
      go_end0
      have hj := HJ.out
      have hst := HST.out
      have hrow := HROW.out
      rw [List.take_of_length_le (by rw [HLEN.out]; omega)] at hst
      refine ⟨rfl, ⟨hs, rest, hst, ?_⟩, HGW.out⟩
      rw [List.length_append, HLEN.out, show l.length + len = l.length + j by omega]; exact hrow
    · obtain ⟨b, off, hab, rfl, hcj⟩ := HA.out h0
      obtain ⟨b', off', hab', hblt, hcell⟩ := HRD.out.lt_of (by omega)
      obtain ⟨rfl, rfl⟩ : b' = b ∧ off' = off := by rw [hab] at hab'; simpa using hab'.symm
      have hbg := HAP.out (by omega) b' off' hab
      have hjn := HJ.out
      obtain ⟨L, hL⟩ : ∃ L, l.length + j = L := ⟨_, rfl⟩
      obtain ⟨r, hr⟩ : ∃ r, L % 64 = r := ⟨_, rfl⟩
      have hr64 : r < 64 := by omega
      have er : (L : Int).tmod 64 = (r : Int) := by rw [Int.tmod_eq_emod_of_nonneg (by omega)]; omega
      have hrow := HROW.out
      rw [hL] at hrow
      have cs := hrow.cellV 72
      rw [hc_size _ _ _ HST.out.len8 HST.out.len] at cs
      have hsl := fun W => run_sliceAt_low (P := Tryz.prog) W 79 5 64 g 8 r Tryz.underlying79 sizeB hr64
      have hnp : (0 : Int) < (n' : Int) := by omega
      have HROW' := Lib.hid hrow
      have HCELL := Lib.hid hcell
      have HBG := Lib.hid hbg
      have HAB := Lib.hid hab
      have HCJ := Lib.hid hcj
      have HL := Lib.hid hL
      have HR := Lib.hid hr
      clear hrow hcell hbg hab hab' hcj hL hr hjn HROW
      go_wp2_with fail
      refine wp_region_tail 10 (by kernel_rfl) (by kernel_rfl) ?_
      simp only [List.take_succ_cons, List.take_zero, List.drop_succ_cons, List.drop_zero]
      repeat (quiet_step (fail))
      refine wpQuiet_nil ?_
      rintro _ ⟨nq, rfl⟩
      have HROWq := Lib.hid (HROW'.out.drewN nq)
      have HGWq := Lib.hid (HGW.out.trans (Gw.drewN wr nq))
      clear HROW' HGW cs er hsl
      generalize wr.drewN nq = wq at *
      obtain ⟨m, hm⟩ : ∃ m, Nat.min n' (64 - r) = m := ⟨_, rfl⟩
      have hm1 : 1 ≤ m ∧ m ≤ n' ∧ m ≤ 64 - r ∧ (m = n' ∨ m = 64 - r) := by simp only [Nat.min_def] at hm; split at hm <;> omega
      obtain ⟨y, hy⟩ : ∃ y, (x.drop j).take m = y := ⟨_, rfl⟩
      have hyl : y.length = m := by rw [← hy]; simp [HLEN.out]; have := HJ.out; omega
      have hjn := HJ.out
      have hcells : ∀ i v, (y.map B)[i]? = some v → wq.cell? ⟨b', off' + j + i, none⟩ = some v := by
        intro i v hi
        have hil : i < y.length := by have := (List.getElem?_eq_some_iff.1 hi).1; simpa using this
        rw [HGWq.out.cell hblt HBG.out, Nat.add_assoc, HCELL.out (j + i) (by omega), ← hi, ← hy]
        have h1 : j + i < x.length := by rw [HLEN.out]; omega
        simp [show i < m by omega, h1]
      have HYL := Lib.hid hyl
      have HY := Lib.hid hy
      have hins := hc_ins hs rest L r y HST.out.len8 HST.out.len (by omega)
      have hlenc := hc_len hs rest L HST.out.len8 HST.out.len
      refine copy_row rfl _ _ _ _ rfl g (8 + r) (off' + j) b' (64 - r) (64 - r) n' c' (by go_simp) (by go_simp) 5 Tryz.underlying30 sizeB 113 (hc hs rest L) HROWq.out (y.map B) (by rw [List.length_map, hyl, hm]) (by rw [List.length_map, hlenc]; omega) (B_one y) hcells ?_
      intro w2 hr2 hu2
      rw [hins] at hr2
      rw [List.length_map, hyl]
      have HR2 := Lib.hid hr2
      have HG2 := Lib.hid (HGWq.out.trans (Gw.upd hu2))
      have hlen2 : (ins rest r y).length = 64 := ins_len _ _ _ HST.out.len (by omega)
      have c72 := hr2.cellV 72
      rw [hc_size _ _ _ HST.out.len8 hlen2] at c72
      have f72 := hr2.frozen 72
      have HLEN2 := Lib.hid hlen2
      clear hr2 hu2 hcells hins hlenc hyl hy hm HROWq HGWq hlen2
      obtain ⟨L2, hL2⟩ : ∃ L2, L + m = L2 := ⟨_, rfl⟩
      have eL2 : (L : Int) + (m : Int) = (L2 : Int) := by omega
      have hLmax : L + n' ≤ 140737488355328 := by have := HL.out; omega
      have hL2max : L2 ≤ 140737488355328 := by omega
      have HL2 := Lib.hid hL2
      have HM1 := Lib.hid hm1
      have hmle : (m : Int) ≤ (n' : Int) := by omega
      have hmn : (m : Int) ≤ (n' : Int) := by omega
      clear hL2 hm1 hLmax hjn
      have hTl : (l ++ x.take j).length = L := by have := HL.out; have := HLEN.out; have := HJ.out; simp; omega
      have hTy : l ++ x.take j ++ y = l ++ x.take (j + m) := by rw [← HY.out, List.take_add, List.append_assoc]
      have hTr : (l ++ x.take j).length % 64 = r := by rw [hTl]; exact HR.out
      have HNA : Hid (n' - m ≠ 0 → ∃ b off, a = some ⟨b, off, none⟩ ∧ (if c' = m then some ⟨b', off' + j, none⟩ else some ⟨b', off' + j + m, none⟩ : Option Addr) = some ⟨b, off + (j + m), none⟩ ∧ c' - m + (j + m) = cap) := by
        refine Lib.hid fun h => ⟨b', off', HAB.out, ?_, ?_⟩
        · have h1 := HCJ.out
          have h2 := HJ.out
          have h3 := HM1.out
          rw [if_neg (by omega), Nat.add_assoc]
        · have h1 := HCJ.out
          have h2 := HJ.out
          have h3 := HM1.out
          omega
      have HJ2 : Hid (j + m + (n' - m) = len) := Lib.hid (by have := HJ.out; have := HM1.out; omega)
      have hset := HR2.out.setV 72 (.int .i64 (L2 : Int))
      rw [hc_grow _ _ _ _ HST.out.len8 HLEN2.out] at hset
      have HSET := Lib.hid hset
      have HGS := Lib.hid (HG2.out.trans (Gw.upd (Upd.setCell w2 g 72 (.int .i64 (L2 : Int)))))
      have hLL : l.length + (j + m) = L2 := by have := HL.out; have := HL2.out; omega
      by_cases hf : r + m = 64
      · have hst := HST.out.fill y (by rw [hTr, HYL.out]; exact hf) (by rw [HYL.out]; exact HM1.out.1)
        rw [hTr, hTy] at hst
        have HST2 := Lib.hid hst
        have HLL := Lib.hid hLL
        have HW8 := Lib.hid HST.out.len8
        have eT : (L2 : Int).tmod 64 = 0 := by rw [Int.tmod_eq_emod_of_nonneg (by omega)]; have := HR.out; have := HL2.out; omega
        clear hset hst hTl hTy hTr hLL hf
        go_wp2_with fail
        all_goals
          have HKW := Lib.hid ((HK.out.gw HGS.out hg0))
          clear c72 f72
          generalize w2.setCell ⟨g, 72, none⟩ (.int .i64 (L2 : Int)) = w3 at *
          obtain ⟨re, hre⟩ : ∃ re, ins rest r y = re := ⟨_, rfl⟩
          rw [hre] at HSET HST2 HLEN2
          clear hre
          have hcw : ∀ v, Below w3.heap.size w3 v → ∀ i u, (hs.map U)[i]? = some u → v.cell? ⟨g, 0 + i, none⟩ = some u := by
            intro v hv i u hi
            have hi8 : i < hs.length := by have := (List.getElem?_eq_some_iff.1 hi).1; simpa using this
            rw [Nat.zero_add, (HSET.out.below hv HSET.out.lt).cellV, hc_word _ _ _ _ HW8.out (by rw [← HW8.out]; exact hi8), ← hi]
            simp [hi8]
          have hcb : ∀ v, Below w3.heap.size w3 v → ∀ i u, (re.map B)[i]? = some u → v.cell? ⟨g, 8 + i, none⟩ = some u := by
            intro v hv i u hi
            have hi8 : i < re.length := by have := (List.getElem?_eq_some_iff.1 hi).1; simpa using this
            rw [(HSET.out.below hv HSET.out.lt).cellV, hc_byte _ _ _ _ HW8.out HLEN2.out (by rw [← HLEN2.out]; exact hi8), ← hi]
            simp [hi8]
          have HS8 := Lib.hid (show (Tryz.prog.info? 77).map (·.size) = some (hs.map U).length by rw [List.length_map, HW8.out]; exact size8)
          have HS64 := Lib.hid (show (Tryz.prog.info? 79).map (·.size) = some (re.map B).length by rw [List.length_map, HLEN2.out]; exact size64b)
          have HCW := Lib.hid hcw
          have HCB := Lib.hid hcb
          clear hcw hcb
          refine wp_region_quiet_tail (C := fun v => Below w3.heap.size w3 v) 12 (by kernel_rfl) (by kernel_rfl) (Below.refl _ _).drew ?_
          simp only [List.take_succ_cons, List.take_zero, List.drop_succ_cons, List.drop_zero]
          refine quiet_val rfl (.pointer (some ⟨g, 0, none⟩)) (fun _ => by go_simp) ?_
          refine quiet_val rfl (.pointer (some ⟨g, 0, none⟩)) (fun _ => by go_simp) ?_
          refine quiet_val rfl (.pointer (some ⟨g, 0, none⟩)) (fun _ => by go_simp) ?_
          refine quiet_val rfl (.pointer (some ⟨g, 0, none⟩)) (fun _ => by go_simp) ?_
          refine quiet_load rfl _ _ rfl g 0 (by go_simp) (hs.map U) (.array 8 76) HCW.out Tryz.underlying77 rfl HS8.out ?_
          refine quiet_val rfl (.pointer (some ⟨g, 0, none⟩)) (fun _ => by go_simp) ?_
          refine quiet_val rfl (.pointer (some ⟨g, 0, none⟩)) (fun _ => by go_simp) ?_
          refine quiet_val rfl (.pointer (some ⟨g, 8, none⟩)) (fun _ => by go_simp) ?_
          refine quiet_load rfl _ _ rfl g 8 (by go_simp) (re.map B) (.array 64 5) HCB.out Tryz.underlying79 rfl HS64.out ?_
          refine quiet_call rfl 94 #[.agg (hs.map U).toArray, .agg (re.map B).toArray] (fun _ => by go_simp) (.agg ((blk hs re).map U).toArray) (fun v hv => (block_any hs re HW8.out HLEN2.out v (HKW.out.below hv HKW.out.pos)).mono fun e v' ⟨he, hb⟩ => ⟨he, hv.trans (hb.mono hv.size)⟩) ?_
          refine quiet_val rfl (.pointer (some ⟨g, 0, none⟩)) (fun _ => by go_simp) ?_
          refine quiet_val rfl (.pointer (some ⟨g, 0, none⟩)) (fun _ => by go_simp) ?_
          refine wpQuiet_nil ?_
          intro w4 hb4
          have hrow4 := HSET.out.below hb4 HSET.out.lt
          have hl8 := blk_len hs re HW8.out
          refine store_part rfl _ _ _ rfl g 0 ((blk hs re).map U) (by go_simp) (by go_simp) 113 _ hrow4 (by rw [List.length_map, hl8]; exact size8) (by rw [List.length_map, hl8, hc_len _ _ _ HW8.out HLEN2.out]; omega) (U_one _) ?_
          intro w5 hr5 hu5
          rw [hc_words _ _ _ _ HW8.out hl8] at hr5
          have HR5 : Hid (Row w5 g 113 (hc (blk hs re) re (l.length + (j + m)))) := by rw [HLL.out]; exact Lib.hid hr5
          have HG5 := Lib.hid ((HGS.out.trans (Gw.of_below hb4)).trans (Gw.upd hu5))
          obtain ⟨bh, hbh⟩ : ∃ bh, blk hs re = bh := ⟨_, rfl⟩
          rw [hbh] at HR5 HST2
          clear hrow4 hl8 hr5 hu5 hb4 HCW HCB
          simp only [hbh]
          clear hbh
          go_simp
          go_wp2_with fail
          go_roundw
          case rel => exact ⟨j + m, n' - m, _, _, bh, re, rfl, by omega, HJ2, Lib.hid (fun h => by have := HNA.out h; simpa [*] using this), HST2, HR5, HG5⟩
          case measure => have := HM1.out.1; simp; omega
      · obtain ⟨r2, hr2⟩ : ∃ r2, r + m = r2 := ⟨_, rfl⟩
        have eT : (L2 : Int).tmod 64 = (r2 : Int) := by rw [Int.tmod_eq_emod_of_nonneg (by omega)]; have := HR.out; have := HL2.out; have := HM1.out; omega
        have hr20 : ((r2 : Int) == 0) = false := by have := HM1.out.1; simp; omega
        have hst := HST.out.part y (by rw [hTr, HYL.out]; have := HM1.out; omega)
        rw [hTr, hTy] at hst
        rw [← hLL] at HSET
        have HST2 := Lib.hid hst
        have HSET2 : Hid (Row (w2.setCell ⟨g, 72, none⟩ (.int .i64 (L2 : Int))) g 113 (hc hs (ins rest r y) (l.length + (j + m)))) := by rw [hLL] at HSET ⊢; exact HSET
        clear hset hst hTl hTy hTr hLL hf hr2
        go_wp2_with fail
        go_roundw
        case rel => exact ⟨j + m, n' - m, c' - m, _, hs, ins rest r y, rfl, by omega, HJ2, HNA, HST2, HSET2, HGS⟩
        case measure => have := HM1.out.1; simp; omega

/-- a hash that no call made -/
def HZ (w : World) (g : Nat) : Prop := w.cell? ⟨g, 73, none⟩ = some (.bool false)
theorem write_nil (v : Value) (w : World) : Calls Tryz.prog 83 #[.pointer none, v] w fun e w' => e = .returned (.tuple #[]) ∧ w = w' := by
  go_enter Tryz.func83, Tryz.ntmps83
  go_wp2_with fail
  exact bodyPost_ret (v := .tuple #[]) (results_none rfl _ _ _) rfl ⟨rfl, rfl⟩
theorem write_zero (g : Nat) (v : Value) (w : World) (h : HZ w g) : Calls Tryz.prog 83 #[.pointer (some ⟨g, 0, none⟩), v] w fun e w' => e = .returned (.tuple #[]) ∧ w = w' := by
  unfold HZ at h
  go_enter Tryz.func83, Tryz.ntmps83
  go_wp2_with fail
  exact bodyPost_ret (v := .tuple #[]) (results_none rfl _ _ _) rfl ⟨rfl, rfl⟩
theorem sum_nil (w : World) : Calls Tryz.prog 84 #[.pointer none] w fun e w' => e = .returned (.string ByteArray.empty) ∧ w = w' := by
  go_enter Tryz.func84, Tryz.ntmps84
  go_wp2_with fail
  go_ret
  exact ⟨rfl, rfl⟩
theorem sum_zero (g : Nat) (w : World) (h : HZ w g) : Calls Tryz.prog 84 #[.pointer (some ⟨g, 0, none⟩)] w fun e w' => e = .returned (.string ByteArray.empty) ∧ w = w' := by
  unfold HZ at h
  go_enter Tryz.func84, Tryz.ntmps84
  go_wp2_with fail
  go_ret
  exact ⟨rfl, rfl⟩
end Go.Proofs.YtkfhppbmnjmnoaaGreatDoor.W

namespace Go.Proofs.YtkfhppbmnjmnoaaGreatDoor.W
open Go.ChangeShapes Go.WideShapes Go.ChangeAt Go.RowKit
open Go.Proofs.YtkfhppbmnjmnoaaGreatDoor.P

theorem zero32 : (Tryz.prog.info? 114).map (·.zero) = some (some (.agg ((List.replicate 32 (0 : UInt8)).map B).toArray)) := by kernel_rfl
def HL0 : List Value := (List.replicate 8 (U 0)) ++ (List.replicate 64 (B 0) ++ [.int .i64 0, .bool false])
theorem zeroH : (Tryz.prog.info? 113).map (·.zero) = some (some (.agg HL0.toArray)) := by kernel_rfl
theorem Row.rd {w : World} {g : Nat} {t : TypeId} {L : List UInt8} (h : Row w g t (L.map B)) (n : Nat) (hn : L.length = n) (hm : n ≤ 9223372036854775807) : Rd w (some ⟨g, 0, none⟩) n n L :=
  ⟨hn, Nat.le_refl _, hm, (fun h => by cases h), .inr ⟨g, 0, rfl, h.lt, fun i hi => by rw [Nat.zero_add]; exact h.cell 0 i (by omega)⟩⟩
theorem hc_one (hs : List UInt32) (rest : List UInt8) (n : Nat) : ∀ v ∈ hc hs rest n, v.oneCell' = true := by
  intro v hv
  simp only [hc, List.mem_append, List.mem_cons, List.not_mem_nil, or_false] at hv
  rcases hv with h | h | rfl | rfl
  · exact U_one _ v h
  · exact B_one _ v h
  · rfl
  · rfl

set_option maxRecDepth 100000 in
set_option maxHeartbeats 4000000 in
theorem sum_any (g : Nat) (l : List UInt8) (w : World) (hK : Ks w) (_hg0 : g ≠ 0) (hh : HT w g l) (hmax : l.length ≤ 140737488351232) :
    Calls Tryz.prog 84 #[.pointer (some ⟨g, 0, none⟩)] w fun e w' => e = .returned (.string (str (shaL l))) ∧ Below w.heap.size w w' := by
  have hglt := hh.lt
  obtain ⟨hs0, rest0, hst0, hrow0⟩ := hh
  have cm := hrow0.cellV 73
  rw [hc_made _ _ _ hst0.len8 hst0.len] at cm
  have cs := hrow0.cellV 72
  rw [hc_size _ _ _ hst0.len8 hst0.len] at cs
  obtain ⟨C0, hC0⟩ : ∃ x, hc hs0 rest0 l.length = x := ⟨_, rfl⟩
  have hC74 : C0.length = 74 := by rw [← hC0]; exact hc_len _ _ _ hst0.len8 hst0.len
  have hone : ∀ v ∈ C0, v.oneCell' = true := by rw [← hC0]; exact hc_one _ _ _
  rw [hC0] at hrow0
  have HST0 := Lib.hid hst0
  have HROW0 := Lib.hid hrow0
  have HK := Lib.hid hK
  have HC0 := Lib.hid hC0
  have HSZ := Lib.hid (show (Tryz.prog.info? 113).map (·.size) = some C0.length by rw [hC74]; exact sizeH)
  obtain ⟨Z0, hZ0⟩ : ∃ x, HL0 = x := ⟨_, rfl⟩
  have HZ0 := Lib.hid (show (Tryz.prog.info? 113).map (·.zero) = some (some (.agg Z0.toArray)) by rw [← hZ0]; exact zeroH)
  have HZL := Lib.hid (show Z0.length = C0.length by rw [hC74, ← hZ0]; rfl)
  have HONE := Lib.hid hone
  obtain ⟨pl, hpl⟩ : ∃ x, padL l.length = x := ⟨_, rfl⟩
  obtain ⟨pn, hpn⟩ : ∃ x, pl.length = x := ⟨_, rfl⟩
  have hpn73 : pn ≤ 80 := by rw [← hpn, ← hpl, padL_len]; have := zn_lt l.length; omega
  have HPL := Lib.hid hpl
  have HPN := Lib.hid hpn
  have HCL : Hid (padL (cl (l.length : Int)) = pl) := Lib.hid (by rw [cl_nat l.length (by omega), hpl])
  clear hst0 hrow0 hK hC0 hone hZ0 hC74 hpl hpn
  go_enter Tryz.func84, Tryz.ntmps84
  go_wp2_with (first
    | (with_reducible refine load_row (o := ⟨some 17, _, _, _, _, _⟩) rfl _ _ rfl _ rfl 113 _ _ HROW0.out Tryz.underlying113 rfl HSZ.out ?_)
    | (with_reducible refine alloc_row (o := ⟨some 3, _, _, _, _, _⟩) rfl _ rfl _ HZ0.out ?_; intro w1 hr1 hb1 hz1; have HR1 := Lib.hid hr1; clear hr1; have HZ1 := Lib.hid hz1; clear hz1)
    | (with_reducible refine store_row (o := ⟨none, .store 113 _ _, _, _, _, _⟩) rfl _ _ _ rfl _ _ rfl rfl 113 _ HR1.out HSZ.out HZL.out HONE.out ?_; intro w2 hr2 hu2; have HR2 := Lib.hid hr2; clear hr2
       have hne : g ≠ w.heap.size := by omega
       have cs2 := (hu2.cell (p := ⟨g, 72, none⟩) hne).trans ((hb1.cell (p := ⟨g, 72, none⟩) hglt).trans cs)
       have hbl2 : Below w.heap.size w w2 := hb1.trans (hu2.below (Nat.le_refl _))
       have HZ2 := Lib.hid (show w2.heap.size = w.heap.size + 1 by rw [hu2.size, HZ1.out])
       clear hne)
    | (go_at_call 95; refine (pad_any (l.length : Int) w2).mono ?_; rw [HCL.out]; rintro e w3 ⟨rfl, hp3, hb3, hz3⟩
       have HP3 := Lib.hid (hp3.rd (by have := HPN.out; omega))
       rw [HPN.out]
       rw [HPN.out] at HP3
       have HT2 : Hid (HT w3 w.heap.size l) := Lib.hid ⟨hs0, rest0, HST0.out, by rw [HC0.out]; exact HR2.out.below hb3 (by have := HZ2.out; omega)⟩
       have HK3 := Lib.hid (HK.out.below (hbl2.trans (hb3.mono (by have := HZ2.out; omega))) (HK.out.pos))
       have HB3 := Lib.hid (hbl2.trans (hb3.mono (by have := HZ2.out; omega)))
       have HGX := Lib.hid (show w.heap.size ≠ 0 ∧ w2.heap.size ≠ w.heap.size ∧ w.heap.size ≤ w3.heap.size by have := HK.out.pos; have := HZ2.out; omega)
       have HAP : Hid (pn ≠ 0 → ∀ b off, (some ⟨w2.heap.size, 0, none⟩ : Option Addr) = some ⟨b, off, none⟩ → b ≠ w.heap.size) := Lib.hid (by intro _ b off h; cases h; exact HGX.out.2.1)
       have HMX : Hid (l.length + pn ≤ 140737488355328) := Lib.hid (by omega)
       clear hp3 hb3 hz3)
    | (go_at_call 83; ((with_reducible refine (write_any w.heap.size (some ⟨w2.heap.size, 0, none⟩) pn pn pl l w3 HK3.out HGX.out.1 HT2.out HP3.out HAP.out HMX.out).mono ?_); rintro e w4 ⟨rfl, hh4, hg4⟩)
       have HH4 := Lib.hid hh4
       have HG4 := Lib.hid (HB3.out.trans (hg4.below (Nat.le_refl _) HGX.out.2.2))
       clear hh4 hg4)
    | (with_reducible refine alloc_row (o := ⟨some 4, _, _, _, _, _⟩) rfl _ rfl _ zero32 ?_; intro w5 hr5 hb5 hz5; have HR5 := Lib.hid hr5; clear hr5))
  obtain ⟨hsF, restF, hst4, hrow4⟩ := HH4.out
  have hDs : dig hsF = shaL l := by
    have h := hst4
    rw [← HPL.out] at h
    exact h.sum
  have h8 := hst4.len8
  have h64 := hst4.len
  obtain ⟨CF, hCF⟩ : ∃ x, hc hsF restF (l ++ pl).length = x := ⟨_, rfl⟩
  have hcell : ∀ q, q < 8 → CF[q]? = some (U (hsF.getD q 0)) := fun q hq => by rw [← hCF]; exact hc_word _ _ _ _ h8 hq
  rw [hCF] at hrow4
  have HRF := Lib.hid (hrow4.below hb5 hrow4.lt)
  have HCELL := Lib.hid hcell
  obtain ⟨D, hD⟩ : ∃ D, dig hsF = D := ⟨_, rfl⟩
  have hDl : D.length = 32 := by rw [← hD, dig_len, h8]
  have hDg : ∀ q r, q < 8 → r < 4 → D.getD (4 * q + r) 0 = UInt8.ofNat ((hsF.getD q 0).toNat / 2 ^ (24 - 8 * r)) := fun q r hq hr => by rw [← hD]; exact dig_get hsF q r (by omega) hr
  rw [hD] at hDs
  have HDL := Lib.hid hDl
  have HDG := Lib.hid hDg
  have HDS := Lib.hid hDs
  have HBL5 := Lib.hid (HG4.out.trans (hb5.mono HG4.out.size))
  have HR50 := Lib.hid (show Row w5 w4.heap.size 114 ((bz D 32 0).map B) by rw [bz_zero]; exact HR5.out)
  have HSX := Lib.hid (show w.heap.size < w4.heap.size from hrow4.lt)
  clear hst4 hrow4 hDs h8 h64 hCF hcell hD hDl hDg hb5 HR5 hz5 cs2 cs cm hu2 hb1 hbl2
  generalize w4.heap.size = g5 at *
  go_loopw [24] (fun i wr => ∃ k : Nat, i = .int .i64 k ∧ k ≤ 32 ∧ Hid (Row wr g5 114 ((bz D 32 k).map B)) ∧ Hid (Row wr w.heap.size 113 CF) ∧ Hid (Below w.heap.size w wr)) (fun i _ => 32 - (intOf i).toNat)
  case atStart => exact ⟨0, rfl, by omega, HR50, HRF, HBL5⟩
  case round =>
    obtain ⟨k, rfl, hk, HP, HQ, HBR⟩ := hrel
    by_cases hlt : k < 32
    · obtain ⟨q, r, hq, hr, hkq⟩ : ∃ q r, q < 8 ∧ r < 4 ∧ k = 4 * q + r := ⟨k / 4, k % 4, by omega, by omega, by omega⟩
      have cq := HQ.out.cellV q
      rw [HCELL.out q hq] at cq
      have ck := HP.out.cell 0 k (by rw [bz_len _ _ _ HDL.out hk]; exact hlt)
      have fk := HP.out.frozen k
      have hset := HP.out.set k (D.getD k 0)
      rw [bz_set _ _ _ HDL.out hlt] at hset
      have hval := HDG.out q r hq hr
      rw [← hkq] at hval
      obtain ⟨x, hx⟩ : ∃ x, hsF.getD q 0 = x := ⟨_, rfl⟩
      rw [hx] at cq hval
      have hby : (x.toNat : Int) / 2 ^ (24 - 8 * r) % 256 = ((D.getD k 0).toNat : Int) := by
        rw [hval, UInt8.toNat_ofNat', Int.natCast_emod, Int.natCast_ediv, Int.natCast_pow]; rfl
      have e4 : (k : Int) / 4 = (q : Int) := by omega
      have e5 : (k : Int) % 4 = (r : Int) := by omega
      generalize (bz D 32 k).getD k 0 = old at *
      obtain ⟨y, hy⟩ : ∃ y, D.getD k 0 = y := ⟨_, rfl⟩
      rw [hy] at hset hby
      have HSET := Lib.hid hset
      have HBY := Lib.hid hby
      have HQ2 := Lib.hid (HQ.out.upd (Upd.setCell wr g5 k (B y)) (by have := HSX.out; omega))
      have HB2 := Lib.hid (HBR.out.trans ((Upd.setCell wr g5 k (B y)).below (by have := HSX.out; omega)))
      unfold U at cq
      unfold B at ck
      clear hset hby hval hx hy hkq
      go_wp2_with fail
      rw [HBY.out]
      go_roundw
      case rel => exact ⟨k + 1, by go_num, by omega, HSET, HQ2, HB2⟩
      case measure => simp [intOf]; omega
    · obtain rfl : k = 32 := by omega
      have hp := HP.out
      rw [bz_full _ _ HDL.out] at hp
      have hrd := Row.rd hp 32 HDL.out (by omega)
      have hcv := conv_rd hrd
      have HCV := Lib.hid hcv
      clear hp hrd hcv
      have hcv2 : (Go.convert 30 9 (.slice (some ⟨g5, 0, none⟩) 32 32)).run Tryz.prog wr = .ok (.string (str D)) wr := HCV.out
      go_wp2_with fail
      go_ret
      exact ⟨one (by rw [HDS.out]; rfl), HBR.out⟩

set_option maxHeartbeats 1000000 in
theorem shasum_any (a : Option Addr) (len cap : Nat) (l : List UInt8) (w : World) (hK : Ks w) (hr : Rd w a len cap l) (hmax : len ≤ 140737488351232) :
    Calls Tryz.prog 57 #[.slice a len cap] w fun e w' => e = .returned (.string (str (shaL l))) ∧ Below w.heap.size w w' := by
  have HK := Lib.hid hK
  have HR := Lib.hid hr
  have hlen := hr.hlen
  have HLEN := Lib.hid hlen
  clear hK hr hlen
  go_enter Tryz.func57, Tryz.ntmps57
  go_wp2_with fail
  refine (new_any w).mono ?_
  rintro e w1 ⟨g, rfl, hg, hh1, hb1⟩
  have HK1 := Lib.hid (HK.out.below hb1 HK.out.pos)
  have HH1 := Lib.hid hh1
  have HR1 := Lib.hid (HR.out.mono hb1)
  have HAP : Hid (len ≠ 0 → ∀ b off, a = some ⟨b, off, none⟩ → b ≠ g) := by
    refine Lib.hid fun h b off e => ?_
    obtain ⟨b', off', e', hlt, -⟩ := HR.out.lt_of h
    rw [e] at e'
    cases e'
    omega
  have HG := Lib.hid hg
  have HG0 := Lib.hid (show g ≠ 0 by have := HK.out.pos; omega)
  have HMX := Lib.hid (show ([] : List UInt8).length + len ≤ 140737488355328 by simp; omega)
  have HB1 := Lib.hid hb1
  have HLN := Lib.hid (show ([] ++ l).length ≤ 140737488351232 by have := HLEN.out; simp; omega)
  clear hh1 hb1 hg
  go_wp2_with (first
    | (go_at_call 83; ((with_reducible refine (write_any g a len cap l [] w1 HK1.out HG0.out HH1.out HR1.out HAP.out HMX.out).mono ?_); rintro e w2 ⟨rfl, hh2, hg2⟩)
       have HH2 := Lib.hid hh2
       have HK2 := Lib.hid (HK1.out.gw hg2 HG0.out)
       have HB2 := Lib.hid (HB1.out.trans (hg2.below HG.out HB1.out.size))
       clear hh2 hg2)
    | (go_at_call 84; ((with_reducible refine (sum_any g ([] ++ l) w2 HK2.out HG0.out HH2.out HLN.out).mono ?_); rintro e w3 ⟨rfl, hb3⟩)))
  go_ret
  exact ⟨rfl, HB2.out.trans (hb3.mono HB2.out.size)⟩
end Go.Proofs.YtkfhppbmnjmnoaaGreatDoor.W

namespace Go.Proofs.YtkfhppbmnjmnoaaGreatDoor.W
open Go.ChangeShapes Go.WideShapes Go.ChangeAt Go.RowKit
open Go.Proofs.YtkfhppbmnjmnoaaGreatDoor.P

def laidS : List (String × DataW Unit) := [("bailey/sha.constants", Rows.laid_bailey_sha_constants)]
theorem ks_of_laid {W : World} (h : laidMet Tryz.prog laidS W) : Ks W := by
  have hT : Lib.TabIs Tryz.prog W "bailey/sha.constants" .u32 (Kc.map fun x => (x.toNat : Int)) :=
    Lib.tabIs_of_head (rest := []) (g := 0) (t := 99) (e := 76) (n := 64) (by kernel_rfl) (by kernel_rfl) Tryz.underlying99 Tryz.underlying76 (by kernel_rfl) (by kernel_rfl) h
  have hc : ∀ i, i < 64 → W.cell? ⟨0, i, none⟩ = some (.int .u32 ((Kc.map fun x => (x.toNat : Int)).getD i 0)) := fun i hi => hT.cell (by kernel_rfl) i (by simpa [Kc_len] using hi)
  refine ⟨World.block_lt_of_cell? W _ (hc 0 (by decide)), fun j v hj => ?_⟩
  have hj64 : j < 64 := by have := (List.getElem?_eq_some_iff.1 hj).1; simpa [Kc_len] using this
  rw [hc j hj64, ← hj]
  have hk : j < Kc.length := by rw [Kc_len]; exact hj64
  simp [U, hk]



end Go.Proofs.YtkfhppbmnjmnoaaGreatDoor.W

namespace Go.Proofs.YtkfhppbmnjmnoaaGreatDoor.W
open Go.ChangeShapes Go.WideShapes Go.ChangeAt Go.RowKit
open Go.Proofs.YtkfhppbmnjmnoaaGreatDoor.P

theorem Fr.gw {w w' : World} {base g : Nat} {v : Value} {l : List UInt8} (h : Fr w base v l) (k : Gw g w w') (hg : g < base) : Fr w' base v l := by
  have hlt := World.ownsRow.lt h
  obtain ⟨h1, h2⟩ := h
  refine ⟨h1, ?_⟩
  rcases h2 with h2 | ⟨q, cap, cur, rfl, hq, hh, r⟩
  · exact .inl h2
  · exact .inr ⟨q, cap, cur, rfl, hq, by rw [k.block q (hlt q rfl).2 (by omega)]; exact hh, r⟩
/-- a store into a block that is newer than the world w -/
theorem Gw.newer {g q : Nat} {w w' w'' : World} (h : Gw g w w') (hu : Upd w' w'' q) (hq : w.heap.size ≤ q) : Gw g w w'' :=
  ⟨hu.os.trans h.os, hu.tape.trans h.tape, hu.output.trans h.output, by rw [hu.size]; exact h.size, fun k hk hg => by rw [hu.block k (by omega)]; exact h.block k hk hg⟩


end Go.Proofs.YtkfhppbmnjmnoaaGreatDoor.W
