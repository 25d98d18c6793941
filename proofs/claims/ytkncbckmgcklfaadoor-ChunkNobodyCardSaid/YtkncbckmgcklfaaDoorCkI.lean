/- LAYER 28 (chunk): the program's Scrub, Sweep. -/
import Derived.Test.YtkncbckmgcklfaaDoorCkH
import Derived.Test.YtkncbckmgcklfaaDoorStk
set_option linter.unusedSimpArgs false
set_option linter.unusedVariables false
namespace Go.Proofs.YtkncbckmgcklfaaDoor.W
open Go Go.ChangeShapes Go.WideShapes Go.ChangeAt Go.RowKit
open Go.Proofs.YtkncbckmgcklfaaDoor.P (shaL shaL_len)

theorem Ks.ft {F : Nat → Prop} {w w' : World} (h : Ks w) (k : Ft F w w') (h0 : ¬ F 0) : Ks w' :=
  ⟨Nat.lt_of_lt_of_le h.1 k.size, fun j v hj => by rw [World.cell?_of_block (show w'.heap[(⟨0, j, none⟩ : Addr).block]? = _ from k.block 0 h.1 h0)]; exact h.2 j v hj⟩
theorem cnt_size : (Tryd.prog.info? 62).map (·.size) = some 1 := by kernel_rfl
theorem en_scrub : ∀ args w, (callFunc 31 args).run Tryd.prog w = .ok (.enter 31 args) w := enters_of Tryd.func31 (by kernel_rfl) rfl
theorem en_sweep1 : ∀ args w, (callFunc 32 args).run Tryd.prog w = .ok (.enter 32 args) w := enters_of Tryd.func32 (by kernel_rfl) rfl
theorem en_sweep2 : ∀ args w, (callFunc 34 args).run Tryd.prog w = .ok (.enter 34 args) w := enters_of Tryd.func34 (by kernel_rfl) rfl
set_option maxRecDepth 100000 in
set_option maxHeartbeats 4000000 in
theorem cscrub1 (x : FX) (w : World) (hb : Fr w 0 x.bv x.f.b) (h256 : x.f.b.length ≤ 256) (hc : x.tv.oneCell' = true) (hK : Ks w) :
    Calls Tryd.prog 31 #[x.val] w fun e w' => e = .returned (.bool (!intactC x.f)) ∧ Below w.heap.size w w' := by
  obtain ⟨⟨xs, xb, xu, xt⟩, xbv, xtv⟩ := x
  dsimp only at hb h256 hc
  have OBC := Lib.hid (fr_one hb)
  have OC := Lib.hid hc
  obtain ⟨fa, fc, hbv, hrd, -⟩ := hb.form
  have HI := Lib.hid (fun w' (hb2 : Below w.heap.size w w') => cintact xs xbv xtv fa xb.length fc xu xb w' hbv (hrd.mono hb2) (by omega) (hK.below hb2 hK.pos))
  obtain ⟨V, hV⟩ : ∃ V, decide (sumOf xb = xs) = V := ⟨_, rfl⟩
  have HV := Lib.hid (show intactC ⟨xs, xb, xu, xt⟩ = V from hV)
  rw [hV] at HI
  have SZ := Lib.hid file_size
  clear hb h256 hc hK hbv hrd hV
  show Calls _ _ #[.agg (fiC xs xbv xu xtv).toArray] _ _
  rw [HV.out]
  go_enter Tryd.func31, Tryd.ntmps31
  go_wp2_with (first
    | ((with_reducible refine box_row (o := ⟨some 1, _, _, _, _, _⟩) rfl _ _ rfl (fiC xs xbv xu xtv) rfl ?_); intro w1 hr hb hz; have R1 := Lib.hid hr; have B1 := Lib.hid hb; clear hr hb hz)
    | ((with_reducible refine load_row (o := ⟨some 3, _, _, _, _, _⟩) rfl _ _ rfl w.heap.size ?_ _ (fiC xs xbv xu xtv) _ R1.out Tryd.underlying50 rfl ?_ ?_); (focus go_simp); (focus (exact SZ.out)))
    | (go_at_call 23; (with_reducible refine (HI.out w1 B1.out).mono ?_); rintro e w3 ⟨rfl, hb⟩; have B3 := Lib.hid (B1.out.trans (hb.mono B1.out.size)); clear hb))
  go_ret
  exact ⟨rfl, B3.out⟩
set_option maxRecDepth 100000 in
set_option maxHeartbeats 4000000 in
theorem cscrub {p m T : Nat} {room : Int} {X : List FX} {S : Nat → Prop} {w : World} (h : CK w p m room X S) (hok : ∀ x ∈ X, FiOk T x.f) (hn : X.length ≤ 524288) (hK : Ks w) (hS0 : ¬ S 0) :
    Calls Tryd.prog 10 #[.pointer (some ⟨p, 0, none⟩)] w fun e w' => ∃ v, e = .returned v ∧ LsO strE w' w.heap.size v ((X.filter fun x => !intactC x.f).map (·.f.s)) ∧ CK w' p m room (X.filter fun x => intactC x.f) S ∧ Ft S w w' := by
  have key := ctake 31 #[] (fun f => !intactC f) en_scrub h (fun x hx => (hok x hx).s) hn (fun w2 x hx hf hb ht => cscrub1 x w2 hb (hok x hx).b2 (lso_cell ht) (hK.ft hf hS0))
  simp only [Bool.not_not] at key
  have HK := Lib.hid key
  clear key h hok hn hK hS0
  go_enter Tryd.func10, Tryd.ntmps10
  go_wp2_with (go_at_call 30; (with_reducible refine HK.out.mono ?_); rintro e w1 ⟨v, rfl, hl, hc, hf⟩; have L1 := Lib.hid hl; have C1 := Lib.hid hc; have F1 := Lib.hid hf; clear hl hc hf)
  go_ret
  exact ⟨_, rfl, L1.out, C1.out, F1.out⟩
set_option maxRecDepth 100000 in
set_option maxHeartbeats 4000000 in
theorem csweep1 (t time : Int) (b5 b7 : Nat) (la : Option Addr) (ln lc : Nat) (live : List Int) (w : World) (h5 : Row w b5 3 [.int .i64 time]) (h7 : Row w b7 48 [.slice la ln lc]) (hl : Sl .i64 w la ln live) :
    Calls Tryd.prog 32 #[.int .i64 t, .pointer (some ⟨b5, 0, none⟩), .pointer (some ⟨b7, 0, none⟩)] w fun e w' => e = .returned (.bool (decide (time ≤ t) || decide (t ∈ live))) ∧ w = w' := by
  have c5 := h5.k0
  have c7 := h7.k0
  have HC := Lib.hid (icontains t la ln lc live w hl)
  clear h5 h7 hl
  by_cases hq : time ≤ t
  · rw [decide_eq_true hq, Bool.true_or]
    go_enter Tryd.func32, Tryd.ntmps32
    go_wp2_with fail
    go_ret
    exact ⟨rfl, rfl⟩
  · rw [decide_eq_false hq, Bool.false_or]
    obtain ⟨V, hV⟩ : ∃ V, decide (t ∈ live) = V := ⟨_, rfl⟩
    rw [hV] at HC ⊢
    clear hV
    have hq2 : t < time := by omega
    go_enter Tryd.func32, Tryd.ntmps32
    go_wp2_with (go_at_call 33; (with_reducible refine HC.out.mono ?_); rintro e w1 ⟨rfl, rfl⟩)
    go_ret
    exact ⟨rfl, rfl⟩
set_option maxRecDepth 100000 in
set_option maxHeartbeats 4000000 in
theorem csweep2 (x : FX) (time : Int) (b5 b6 b7 b9 : Nat) (la na : Option Addr) (ln lc nn nc : Nat) (live : List Int) (needs : List ByteArray) (w : World) (hb : Fr w 0 x.bv x.f.b) (ht : LsO intE w 0 x.tv x.f.t) (hf64 : ∀ t ∈ x.f.t, SI64 t)
    (h5 : Row w b5 3 [.int .i64 time]) (h6 : Row w b6 36 [.slice na nn nc]) (h7 : Row w b7 48 [.slice la ln lc]) (h9 : Row w b9 62 [.func (.func 32) #[] #[.pointer (some ⟨b5, 0, none⟩), .pointer (some ⟨b7, 0, none⟩)]]) (hl : Sl .i64 w la ln live) (hn : Ls strE w na nn nc needs) :
    Calls Tryd.prog 34 #[x.val, .pointer (some ⟨b6, 0, none⟩), .pointer (some ⟨b9, 0, none⟩)] w fun e w' => e = .returned (.bool (goesC time needs live x.f)) ∧ Below w.heap.size w w' := by
  obtain ⟨⟨xs, xb, xu, xt⟩, xbv, xtv⟩ := x
  dsimp only at hb ht hf64
  have OBC := Lib.hid (fr_one hb)
  obtain ⟨ta, tc, htv, hlt2, -⟩ := ht.ls intOk hf64
  obtain ⟨tn, htn⟩ : ∃ tn, xt.length = tn := ⟨_, rfl⟩
  rw [htn] at htv hlt2
  have HN := Lib.hid (fun w' (hb2 : Below w.heap.size w w') => scontains xs na nn nc needs w' (hn.mono strOk hb2))
  have HQ := Lib.hid (fun w' (hb2 : Below w.heap.size w w') => icontf 32 #[.pointer (some ⟨b5, 0, none⟩), .pointer (some ⟨b7, 0, none⟩)] (fun t => decide (time ≤ t) || decide (t ∈ live)) en_sweep1 ta tn tc xt w' (hlt2.mono intOk hb2).sl (fun t _ => csweep1 t time b5 b7 la ln lc live w' (h5.below hb2 h5.lt) (h7.below hb2 h7.lt) (hl.mono hb2)))
  have R6 := Lib.hid h6
  have R9 := Lib.hid h9
  have HGO := Lib.hid (show goesC time needs live ⟨xs, xb, xu, xt⟩ = (!hasStr needs xs && !xt.any (fun t => decide (time ≤ t) || decide (t ∈ live))) by unfold goesC oldC hasStr; dsimp only; congr 1; rw [List.not_any_eq_all_not])
  obtain ⟨A, hA⟩ : ∃ A, hasStr needs xs = A := ⟨_, rfl⟩
  obtain ⟨V, hV⟩ : ∃ V, xt.any (fun t => decide (time ≤ t) || decide (t ∈ live)) = V := ⟨_, rfl⟩
  rw [hA] at HN HGO
  rw [hV] at HQ HGO
  subst htv
  clear hb ht hf64 h5 h6 h7 h9 hl hn hlt2 htn hA hV
  show Calls _ _ #[.agg (fiC xs xbv xu (.slice ta tn tc)).toArray, _, _] _ _
  rw [HGO.out]
  go_enter Tryd.func34, Tryd.ntmps34
  cases A
  · go_wp2_with (first
      | ((with_reducible refine box_row (o := ⟨some 3, _, _, _, _, _⟩) rfl _ _ rfl (fiC xs xbv xu (.slice ta tn tc)) rfl ?_); intro w1 hr hb hz; have R1 := Lib.hid hr; have B1 := Lib.hid hb; obtain ⟨c0, c1, c2, c3⟩ := hr.k4; have d6 := (R6.out.below hb R6.out.lt).k0; clear hr hb hz c1 c2)
      | (go_at_call 35; (with_reducible refine (HN.out w1 B1.out).mono ?_); rintro e w2 ⟨rfl, hb⟩; have B2 := Lib.hid (B1.out.trans (hb.mono B1.out.size)); have c3 := (R1.out.below hb R1.out.lt).k4.2.2.2; have d9 := (R9.out.below B2.out R9.out.lt).k0; clear hb c0 d6)
      | (go_at_call 36; (with_reducible refine (HQ.out w2 B2.out).mono ?_); rintro e w3 ⟨rfl, rfl⟩))
    go_ret
    exact ⟨rfl, B2.out⟩
  · go_wp2_with (first
      | ((with_reducible refine box_row (o := ⟨some 3, _, _, _, _, _⟩) rfl _ _ rfl (fiC xs xbv xu (.slice ta tn tc)) rfl ?_); intro w1 hr hb hz; have R1 := Lib.hid hr; have B1 := Lib.hid hb; obtain ⟨c0, c1, c2, c3⟩ := hr.k4; have d6 := (R6.out.below hb R6.out.lt).k0; clear hr hb hz c1 c2 c3)
      | (go_at_call 35; (with_reducible refine (HN.out w1 B1.out).mono ?_); rintro e w2 ⟨rfl, hb⟩; have B2 := Lib.hid (B1.out.trans (hb.mono B1.out.size)); clear hb c0 d6))
    go_ret
    exact ⟨rfl, B2.out⟩
set_option maxRecDepth 100000 in
set_option maxHeartbeats 4000000 in
theorem csweep {p m T : Nat} {room : Int} {X : List FX} {S : Nat → Prop} {w : World} (h : CK w p m room X S) (hok : ∀ x ∈ X, FiOk T x.f) (hn : X.length ≤ 524288) (time : Int) (la na : Option Addr) (ln lc nn nc : Nat) (live : List Int) (needs : List ByteArray)
    (hl : Sl .i64 w la ln live) (hnd : Ls strE w na nn nc needs) (hlS : ∀ b off s, la = some ⟨b, off, s⟩ → ¬ S b) (hnS : ∀ b off s, na = some ⟨b, off, s⟩ → ¬ S b) :
    Calls Tryd.prog 11 #[.pointer (some ⟨p, 0, none⟩), .int .i64 time, .slice na nn nc, .slice la ln lc] w fun e w' => e = .returned (.int .i64 (((X.map (·.f)).filter (goesC time needs live)).length : Nat)) ∧ CK w' p m room (X.filter fun x => !goesC time needs live x.f) S ∧ Ft S w w' := by
  have H := Lib.hid h
  have HOK := Lib.hid hok
  have HL := Lib.hid hl
  have HN := Lib.hid hnd
  have HLS := Lib.hid hlS
  have HNS := Lib.hid hnS
  have HNN := Lib.hid hn
  clear h hok hn hl hnd hlS hnS
  go_enter Tryd.func11, Tryd.ntmps11
  go_wp2_with (first
    | (with_reducible refine box_cell (o := ⟨some 5, _, _, _, _, _⟩) rfl _ _ rfl (.int .i64 time) rfl rfl ?_; intro w1 hr1 hb1 hz1; have R1 := Lib.hid hr1; have B1 := Lib.hid hb1; have Z1 := Lib.hid (show w.heap.size < w1.heap.size by omega); clear hr1 hb1 hz1)
    | (with_reducible refine box_cell (o := ⟨some 6, _, _, _, _, _⟩) rfl _ _ rfl (.slice na nn nc) rfl rfl ?_; intro w2 hr1 hb1 hz1; have R2 := Lib.hid hr1; have B2 := Lib.hid (B1.out.trans (hb1.mono B1.out.size)); have R12 := Lib.hid (R1.out.below hb1 R1.out.lt); have Z2 := Lib.hid (show w1.heap.size < w2.heap.size by omega); clear hr1 hb1 hz1)
    | (with_reducible refine box_cell (o := ⟨some 7, _, _, _, _, _⟩) rfl _ _ rfl (.slice la ln lc) rfl rfl ?_; intro w3 hr1 hb1 hz1; have R3 := Lib.hid hr1; have B3 := Lib.hid (B2.out.trans (hb1.mono B2.out.size)); have R13 := Lib.hid (R12.out.below hb1 R12.out.lt); have R23 := Lib.hid (R2.out.below hb1 R2.out.lt); have Z3 := Lib.hid (show w2.heap.size < w3.heap.size by omega); clear hr1 hb1 hz1)
    | ((with_reducible refine alloc_cell (o := ⟨some 9, _, _, _, _, _⟩) rfl _ rfl .nilFunc rfl (by kernel_rfl) ?_); intro w4 hr hb hz; have R44 := Lib.hid hr; have B4 := Lib.hid (B3.out.trans (hb.mono B3.out.size)); have R14 := Lib.hid (R13.out.below hb R13.out.lt); have R24 := Lib.hid (R23.out.below hb R23.out.lt); have R34 := Lib.hid (R3.out.below hb R3.out.lt); have Z4 := Lib.hid (show w3.heap.size < w4.heap.size by omega); clear hr hb hz)
    | ((with_reducible refine store_cell (o := ⟨none, _, _, _, _, _⟩) rfl _ (.tmp 9) _ rfl w3.heap.size 0 (.func (.func 32) #[] #[.pointer (some ⟨w.heap.size, 0, none⟩), .pointer (some ⟨w2.heap.size, 0, none⟩)]) ?_ ?_ rfl rfl 62 _ R44.out cnt_size ?_ ?_); (focus go_simp); (focus (first | (go_simp; done) | (go_simp; rfl))); (focus (show 0 < 1; decide)); intro w5 hr hu; have R45 := Lib.hid (show Row w5 w3.heap.size 62 [.func (.func 32) #[] #[.pointer (some ⟨w.heap.size, 0, none⟩), .pointer (some ⟨w2.heap.size, 0, none⟩)]] from hr); have z2 := Z2.out; have z3 := Z3.out; have z1 := Z1.out; have R15 := Lib.hid (R14.out.upd hu (by omega)); have R25 := Lib.hid (R24.out.upd hu (by omega)); have R35 := Lib.hid (R34.out.upd hu (by omega)); have B5 := Lib.hid (B4.out.trans (hu.below B3.out.size)); clear hr hu z1 z2 z3))
  have C5 := H.out.mono B5.out
  have z1 := Z1.out
  have z2 := Z2.out
  have z3 := Z3.out
  have b1 := B1.out.size
  have b2 := B2.out.size
  have b3 := B3.out.size
  have hns : ∀ k, w.heap.size ≤ k → ¬ S k := fun k hk hs => absurd (H.out.lt k hs) (Nat.not_lt.2 hk)
  have key := ctake 34 #[.pointer (some ⟨w1.heap.size, 0, none⟩), .pointer (some ⟨w3.heap.size, 0, none⟩)] (goesC time needs live) en_sweep2 C5 (fun x hx => (HOK.out x hx).s) HNN.out (fun w6 x hx hf hb ht =>
    csweep2 x time w.heap.size w1.heap.size w2.heap.size w3.heap.size la na ln lc nn nc live needs w6 hb ht (HOK.out x hx).t64 (R15.out.ft hf (hns _ (Nat.le_refl _))) (R25.out.ft hf (hns _ b1)) (R35.out.ft hf (hns _ b2)) (R45.out.ft hf (hns _ b3))
      (by
        have h1 := HL.out.mono B5.out
        obtain ⟨q1, q2, q3, q4⟩ := h1
        refine ⟨q1, q2, q3, q4.imp id ?_⟩
        rintro ⟨b, off, e, hlt, hc⟩
        exact ⟨b, off, e, Nat.lt_of_lt_of_le hlt hf.size, fun i hi => by rw [World.cell?_of_block (show w6.heap[(⟨b, off + i, none⟩ : Addr).block]? = _ from hf.block b hlt (HLS.out b off none e))]; exact hc i hi⟩)
      ((HN.out.mono strOk B5.out).stay hf.size (fun b off s e hb0 => hf.block b hb0 (HNS.out b off s e)) HN.out.hfit))
  have K5 := Lib.hid key
  clear C5 z1 z2 z3 b1 b2 b3 hns key
  go_wp2_with (go_at_call 30; (with_reducible refine K5.out.mono ?_); rintro e w7 ⟨v, rfl, hl, hc, hf⟩; obtain ⟨va, vc, rfl, -, -⟩ := hl.ls strOk (fun s hs => by obtain ⟨x, hx, rfl⟩ := List.mem_map.1 hs; have h5 := (HOK.out x (List.mem_filter.1 hx).1).s; show x.f.s.size ≤ maxLen; unfold maxLen; omega); have C7 := Lib.hid hc; have F7 := Lib.hid ((Ft.of_below B5.out).trans hf); clear hl hc hf)
  go_ret
  exact ⟨one (vint (by rw [List.filter_map, List.length_map]; rfl)), C7.out, F7.out⟩
end Go.Proofs.YtkncbckmgcklfaaDoor.W
