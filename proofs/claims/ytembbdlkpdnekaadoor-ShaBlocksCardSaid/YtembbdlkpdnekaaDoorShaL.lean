/- THE LAW ShaBlocks: any block of any words, of both, is the same; so is what a sum begins with. -/
import Derived.Test.YtembbdlkpdnekaaDoorShaK
import Derived.Test.YtembbdlkpdnekaaDoorShaC
import Derived.DeepKeys
import Derived.Test.YtembbdlkpdnekaaDoorOpen
namespace Go.Proofs.YtembbdlkpdnekaaDoor.W
open Go.ChangeShapes Go.WideShapes Go.ChangeAt Go.RowKit
open Go.Proofs.YtembbdlkpdnekaaDoor.P

theorem eq8 (L : List UInt32) (h : L.length = 8) (w : World) : (Op.equalIn 10000 23 (.agg (L.map U).toArray) (.agg (L.map U).toArray)).run Tryd.prog w = .ok true w := by
  match L, h with
  | [x0, x1, x2, x3, x4, x5, x6, x7], _ =>
    have hk : Tryd.prog.keyLits 3 23 (Value.agg (([x0, x1, x2, x3, x4, x5, x6, x7] : List UInt32).map U).toArray).cells.toList = some ([x0, x1, x2, x3, x4, x5, x6, x7].map fun x => Lit.int .u32 (x.toNat : Int)) := by
      have e : ∀ x : UInt32, (Lit.int .u32 (x.toNat : Int)).wf = true := fun x => by
        have := lt32 x
        simp [Lit.wf, IntKind.min, IntKind.max, IntKind.bits, IntKind.signed]; omega
      have c8 : Tryd.prog.cellsOf 23 = 8 := by kernel_rfl
      have c1 : Tryd.prog.cellsOf 22 = 1 := by kernel_rfl
      have r8 : List.range 8 = [0, 1, 2, 3, 4, 5, 6, 7] := rfl
      simp [Program.keyLits, U, Value.cells, Tryd.underlying23, Tryd.underlying22, c8, c1, r8, e]
    obtain ⟨r, hr, hiff⟩ := run_equalIn_deep (P := Tryd.prog) 9998 2 23 (by kernel_rfl) w 3 3 (.agg _) (.agg _) _ _ rfl rfl hk hk
    rw [hiff.2 rfl] at hr
    exact hr

theorem wp_region_quietC {P : Program} {C : World → Prop} {id : Nat} {Q : Exit → Act → World → Prop} {a : Act} {w : World} {l : List Oper} (hm : P.follows .mixedOrders = true) (hB : Region.lexB .any l.toArray = true) (hC : C w.drew)
    (h : wpQuiet P l.toArray C (fun a' => ∀ w', C w' → Q .normal a' w') l a) : (Code.region id l.toArray true).wp P Q a w :=
  wp_region_quiet (C := C) hm hB hC (by simpa using h)
theorem quiet_callg {P : Program} {ops : Array Oper} {C : World → Prop} {Q : Act → Prop} {rest : List Oper} {o : Oper} {a : Act} (hgd : Region.wanted o (yielded ops a.tmps) = true) (f : FuncId) (args : Array Value)
    (hrun : ∀ w, (execOp a.eval o).run P w = .ok (.enter f args) w) (v : Value) (hc : ∀ w, C w → Calls P f args w fun e w' => e = .returned v ∧ C w')
    (h : wpQuiet P ops C Q rest (a.put o.dst v)) : wpQuiet P ops C Q (o :: rest) a := by
  unfold wpQuiet
  rw [if_pos hgd]
  refine ⟨v, fun w hw => ?_, h⟩
  unfold Oper.quietAt
  rw [hrun w]
  exact ⟨rfl, hc w hw⟩
theorem quiet_valg {P : Program} {ops : Array Oper} {C : World → Prop} {Q : Act → Prop} {rest : List Oper} {o : Oper} {a : Act} (hgd : Region.wanted o (yielded ops a.tmps) = true) (v : Value)
    (hrun : ∀ w, (execOp a.eval o).run P w = .ok (.value v) w) (h : wpQuiet P ops C Q rest (a.put o.dst v)) : wpQuiet P ops C Q (o :: rest) a := by
  unfold wpQuiet
  rw [if_pos hgd]
  refine ⟨v, fun w hw => ?_, h⟩
  unfold Oper.quietAt
  rw [hrun w]
  exact ⟨rfl, rfl⟩

set_option maxRecDepth 100000 in
set_option maxHeartbeats 4000000 in
theorem law_ShaBlocks (hs : List UInt32) (b : List UInt8) (w : World) (hK : Ks w) (h8 : hs.length = 8) (h64 : b.length = 64) :
    Calls Tryd.prog 3 #[.agg (hs.map U).toArray, .agg (b.map B).toArray] w fun e w' => e = .returned (.bool true) ∧ Below w.heap.size w w' := by
  have HK := Lib.hid hK
  have H8 := Lib.hid h8
  have H64 := Lib.hid h64
  have HS8 := Lib.hid (show (Tryd.prog.info? 23).map (·.size) = some (hs.map U).length by rw [List.length_map, h8]; exact size8)
  have HS64 := Lib.hid (show (Tryd.prog.info? 24).map (·.size) = some (b.map B).length by rw [List.length_map, h64]; exact size64b)
  obtain ⟨bh, hbh⟩ : ∃ x, blk hs b = x := ⟨_, rfl⟩
  have HE1 := Lib.hid (show bh.length = 8 by rw [← hbh]; exact blk_len hs b h8)
  have HBH := Lib.hid hbh
  obtain ⟨hz, hhz⟩ : ∃ x, H0 = x := ⟨_, rfl⟩
  have HE2 := Lib.hid (show hz.length = 8 by rw [← hhz]; rfl)
  have HHZ := Lib.hid hhz
  clear hK h8 h64 hbh hhz
  go_enter Tryd.func3, Tryd.ntmps3
  go_wp2_with (first
    | (with_reducible refine box_row (o := ⟨some 2, _, _, _, _, _⟩) rfl _ _ rfl (hs.map U) rfl ?_; intro w1 hr1 hb1 hz1; have HR1 := Lib.hid hr1; clear hr1; have HZ1 := Lib.hid hz1; clear hz1)
    | (with_reducible refine box_row (o := ⟨some 3, _, _, _, _, _⟩) rfl _ _ rfl (b.map B) rfl ?_; intro w2 hr2 hb2 hz2; have HR2 := Lib.hid hr2; clear hr2; have HZ2 := Lib.hid hz2; clear hz2
       have HR1 := Lib.hid (HR1.out.below hb2 (by have := HZ1.out; omega))
       have hbl : Below w.heap.size w w2 := hb1.trans (hb2.mono (by have := HZ1.out; omega))
       have HK2 := Lib.hid (HK.out.below hbl HK.out.pos)))
  go_wp2_with fail
  have hcw : ∀ v, Below w2.heap.size w2 v → ∀ i u, (hs.map U)[i]? = some u → v.cell? ⟨w.heap.size, 0 + i, none⟩ = some u := by
    intro v hv i u hi
    rw [Nat.zero_add, (HR1.out.below hv HR1.out.lt).cellV, hi]
  have hcb : ∀ v, Below w2.heap.size w2 v → ∀ i u, (b.map B)[i]? = some u → v.cell? ⟨w1.heap.size, 0 + i, none⟩ = some u := by
    intro v hv i u hi
    rw [Nat.zero_add, (HR2.out.below hv HR2.out.lt).cellV, hi]
  obtain ⟨X1, hX1⟩ : ∃ X, (bh.map U).toArray = X := ⟨_, rfl⟩
  obtain ⟨X2, hX2⟩ : ∃ X, (hz.map U).toArray = X := ⟨_, rfl⟩
  have q1 : ∀ w, (Op.equalIn 10000 23 (.agg X1) (.agg X1)).run Tryd.prog w = .ok true w := fun w => by rw [← hX1]; exact eq8 bh HE1.out w
  have q2 : ∀ w, (Op.equalIn 10000 23 (.agg X2) (.agg X2)).run Tryd.prog w = .ok true w := fun w => by rw [← hX2]; exact eq8 hz HE2.out w
  have HX1 := Lib.hid hX1
  have HX2 := Lib.hid hX2
  clear hX1 hX2
  refine wp_region_quietC (C := fun v => Below w2.heap.size w2 v) (by kernel_rfl) (by kernel_rfl) (Below.refl _ _).drew ?_
  refine quiet_load rfl _ _ rfl w.heap.size 0 (by go_simp) (hs.map U) (.array 8 22) hcw Tryd.underlying23 rfl HS8.out ?_
  refine quiet_load rfl _ _ rfl w1.heap.size 0 (by go_simp) (b.map B) (.array 64 5) hcb Tryd.underlying24 rfl HS64.out ?_
  refine quiet_call rfl 13 #[.agg (hs.map U).toArray, .agg (b.map B).toArray] (fun _ => by go_simp) (.agg X1) (fun v hv => (block_any hs b H8.out H64.out v (HK2.out.below hv HK2.out.pos)).mono fun e v' ⟨he, hb⟩ => ⟨by rw [he, HBH.out, HX1.out], hv.trans (hb.mono hv.size)⟩) ?_
  go_simp
  refine quiet_load rfl _ _ rfl w.heap.size 0 (by go_simp) (hs.map U) (.array 8 22) hcw Tryd.underlying23 rfl HS8.out ?_
  go_simp
  refine quiet_load rfl _ _ rfl w1.heap.size 0 (by go_simp) (b.map B) (.array 64 5) hcb Tryd.underlying24 rfl HS64.out ?_
  go_simp
  refine quiet_call rfl 14 #[.agg (hs.map U).toArray, .agg (b.map B).toArray] (fun _ => by go_simp) (.agg X1) (fun v hv => (rblock_any hs b H8.out H64.out v).mono fun e v' ⟨he, hb⟩ => ⟨by rw [he, HBH.out, HX1.out], hv.trans (hb.mono hv.size)⟩) ?_
  go_simp
  refine quiet_val rfl (.bool true) (fun _ => by go_simp) ?_
  go_simp
  refine quiet_val rfl (.bool true) (fun _ => by go_simp) ?_
  go_simp
  refine quiet_callg (by go_simp) 15 #[] (fun _ => by go_simp) (.agg X2) (fun v hv => (start_any v).mono fun e v' ⟨he, hb⟩ => ⟨by rw [he, HHZ.out, HX2.out], hv.trans (hb.mono hv.size)⟩) ?_
  go_simp
  refine quiet_callg (by go_simp) 16 #[] (fun _ => by go_simp) (.agg X2) (fun v hv => (rstart_any v).mono fun e v' ⟨he, hb⟩ => ⟨by rw [he, HHZ.out, HX2.out], hv.trans (hb.mono hv.size)⟩) ?_
  go_simp
  refine quiet_valg (by go_simp) (.bool true) (fun _ => by go_simp) ?_
  go_simp
  refine quiet_val rfl (.bool true) (fun _ => by go_simp) ?_
  go_simp
  refine quiet_val rfl (.bool true) (fun _ => by go_simp) ?_
  go_simp
  refine quiet_callg (by go_simp) 17 #[] (fun _ => by go_simp) (.bool true) (fun v hv => (awake3 v (HK2.out.below hv HK2.out.pos)).mono fun e v' ⟨he, hb⟩ => ⟨he, hv.trans (hb.mono hv.size)⟩) ?_
  go_simp
  refine quiet_val rfl (.bool true) (fun _ => by go_simp) ?_
  go_simp
  refine quiet_val rfl (.bool true) (fun _ => by go_simp) ?_
  refine wpQuiet_nil ?_
  intro w3 hb3
  go_simp
  go_wp2_with fail
  go_ret
  exact ⟨rfl, hbl.trans (hb3.mono hbl.size)⟩
end Go.Proofs.YtembbdlkpdnekaaDoor.W
