import Derived.Test.YtkfhppbmnjmnoaaGreatDoorCzA
import Derived.Test.YtkfhppbmnjmnoaaGreatDoorCkO
import Derived.Test.YtkfhppbmnjmnoaaGreatDoorQ
import Derived.Test.YtkfhppbmnjmnoaaGreatDoorArr
import Derived.Lib.MinMax
/- LAYER 28 (chunk): the program's Scrub, Sweep. -/
set_option linter.unusedSimpArgs false
set_option linter.unusedVariables false
namespace Go.Proofs.YtkfhppbmnjmnoaaGreatDoor.W
open Go Go.ChangeShapes Go.WideShapes Go.ChangeAt Go.RowKit
open Go.Proofs.YtkfhppbmnjmnoaaGreatDoor.P (shaL shaL_len)

theorem Ks.ft {F : Nat → Prop} {w w' : World} (h : Ks w) (k : Ft F w w') (h0 : ¬ F 0) : Ks w' :=
  ⟨Nat.lt_of_lt_of_le h.1 k.size, fun j v hj => by rw [World.cell?_of_block (show w'.heap[(⟨0, j, none⟩ : Addr).block]? = _ from k.block 0 h.1 h0)]; exact h.2 j v hj⟩
theorem cnt_size : (Tryz.prog.info? 85).map (·.size) = some 1 := by kernel_rfl
theorem en_scrub : ∀ args w, (callFunc 66 args).run Tryz.prog w = .ok (.enter 66 args) w := enters_of Tryz.func66 (by kernel_rfl) rfl
theorem en_sweep1 : ∀ args w, (callFunc 62 args).run Tryz.prog w = .ok (.enter 62 args) w := enters_of Tryz.func62 (by kernel_rfl) rfl
theorem en_sweep2 : ∀ args w, (callFunc 64 args).run Tryz.prog w = .ok (.enter 64 args) w := enters_of Tryz.func64 (by kernel_rfl) rfl
set_option maxRecDepth 100000 in
set_option maxHeartbeats 4000000 in
theorem cscrub1 (x : FX) (w : World) (hb : Fr w 0 x.bv x.f.b) (h256 : x.f.b.length ≤ 256) (hc : x.tv.oneCell' = true) (hK : Ks w) :
    Calls Tryz.prog 66 #[x.val] w fun e w' => e = .returned (.bool (!intactC x.f)) ∧ Below w.heap.size w w' := by
  obtain ⟨⟨xs, xb, xu, xt⟩, xbv, xtv⟩ := x
  dsimp only at hb h256 hc
  have OBC := Lib.hid (fr_one hb)
  have OC := Lib.hid hc
  obtain ⟨fa, fc, hbv, hrd, -⟩ := hb.form
  have HI := Lib.hid (fun w' (hb2 : Below w.heap.size w w') => cintact xs xbv xtv fa xb.length fc xu xb w' hbv (hrd.mono hb2) (by omega) (hK.below hb2 hK.pos))
  obtain ⟨V, hV⟩ : ∃ V, decide (sumOf xb = xs) = V := ⟨_, rfl⟩
  have HV := Lib.hid (show intactC ⟨xs, xb, xu, xt⟩ = V from hV)
  rw [hV] at HI
  have SZ := Lib.hid file_size
  clear hb h256 hc hK hbv hrd hV
  show Calls _ _ #[.agg (fiC xs xbv xu xtv).toArray] _ _
  rw [HV.out]
  go_enter Tryz.func66, Tryz.ntmps66
  go_wp2_with (first
    | ((with_reducible refine box_row (o := ⟨some 1, _, _, _, _, _⟩) rfl _ _ rfl (fiC xs xbv xu xtv) rfl ?_); intro w1 hr hb hz; have R1 := Lib.hid hr; have B1 := Lib.hid hb; clear hr hb hz)
    | ((with_reducible refine load_row (o := ⟨some 3, _, _, _, _, _⟩) rfl _ _ rfl w.heap.size ?_ _ (fiC xs xbv xu xtv) _ R1.out Tryz.underlying44 rfl ?_ ?_); (focus go_simp); (focus (exact SZ.out)))
    | (go_at_call 52; (with_reducible refine (HI.out w1 B1.out).mono ?_); rintro e w3 ⟨rfl, hb⟩; have B3 := Lib.hid (B1.out.trans (hb.mono B1.out.size)); clear hb))
  go_ret
  exact ⟨rfl, B3.out⟩
set_option maxRecDepth 100000 in
set_option maxHeartbeats 4000000 in
theorem cscrub {p m T : Nat} {room : Int} {X : List FX} {S : Nat → Prop} {w : World} (h : CK w p m room X S) (hok : ∀ x ∈ X, FiOk T x.f) (hn : X.length ≤ 524288) (hK : Ks w) (hS0 : ¬ S 0) :
    Calls Tryz.prog 31 #[.pointer (some ⟨p, 0, none⟩)] w fun e w' => ∃ v, e = .returned v ∧ LsO strE w' w.heap.size v ((X.filter fun x => !intactC x.f).map (·.f.s)) ∧ CK w' p m room (X.filter fun x => intactC x.f) S ∧ Ft S w w' := by
  have key := ctake 66 #[] (fun f => !intactC f) en_scrub h (fun x hx => (hok x hx).s) hn (fun w2 x hx hf hb ht => cscrub1 x w2 hb (hok x hx).b2 (lso_cell ht) (hK.ft hf hS0))
  simp only [Bool.not_not] at key
  have HK := Lib.hid key
  clear key h hok hn hK hS0
  go_enter Tryz.func31, Tryz.ntmps31
  go_wp2_with (go_at_call 63; (with_reducible refine HK.out.mono ?_); rintro e w1 ⟨v, rfl, hl, hc, hf⟩; have L1 := Lib.hid hl; have C1 := Lib.hid hc; have F1 := Lib.hid hf; clear hl hc hf)
  go_ret
  exact ⟨_, rfl, L1.out, C1.out, F1.out⟩
theorem Sl.stay0 {k : IntKind} {w w' : World} {a : Option Addr} {n : Nat} {l : List Int} (h : Sl k w a n l) (hs : w.heap.size ≤ w'.heap.size) (hk : n ≠ 0 → ∀ b off s, a = some ⟨b, off, s⟩ → b < w.heap.size → w'.heap[b]? = w.heap[b]?) : Sl k w' a n l := by
  obtain ⟨q1, q2, q3, q4⟩ := h
  by_cases h0 : n = 0
  · exact ⟨q1, q2, q3, .inl h0⟩
  refine ⟨q1, q2, q3, q4.imp id ?_⟩
  rintro ⟨b, off, e, hlt, hc⟩
  exact ⟨b, off, e, Nat.lt_of_lt_of_le hlt hs, fun i hi => by rw [World.cell?_of_block (show w'.heap[(⟨b, off + i, none⟩ : Addr).block]? = _ from hk h0 b off none e hlt)]; exact hc i hi⟩
theorem Ls.stay0 {α : Type} {E : El α} {w w' : World} {a : Option Addr} {n c : Nat} {L : List α} (h : Ls E w a n c L) (hs : w.heap.size ≤ w'.heap.size) (hk : n ≠ 0 → ∀ b off s, a = some ⟨b, off, s⟩ → b < w.heap.size → w'.heap[b]? = w.heap[b]?) (hf : ∀ x ∈ L, E.fit w' x) : Ls E w' a n c L := by
  by_cases h0 : n = 0
  · exact ⟨h.hlen, h.hle, h.hmax, hf, h.hnil, .inl h0⟩
  · exact h.stay hs (hk h0) hf
set_option maxRecDepth 100000 in
set_option maxHeartbeats 4000000 in
theorem csweep1 (t time : Int) (b5 b7 : Nat) (la : Option Addr) (ln lc : Nat) (live : List Int) (w : World) (h5 : Row w b5 3 [.int .i64 time]) (h7 : Row w b7 31 [.slice la ln lc]) (hl : Sl .i64 w la ln live) :
    Calls Tryz.prog 62 #[.int .i64 t, .pointer (some ⟨b5, 0, none⟩), .pointer (some ⟨b7, 0, none⟩)] w fun e w' => e = .returned (.bool (decide (time ≤ t) || decide (t ∈ live))) ∧ w = w' := by
  have c5 := h5.k0
  have c7 := h7.k0
  have HC := Lib.hid (icontains t la ln lc live w hl)
  clear h5 h7 hl
  by_cases hq : time ≤ t
  · rw [decide_eq_true hq, Bool.true_or]
    go_enter Tryz.func62, Tryz.ntmps62
    go_wp2_with fail
    go_ret
    exact ⟨rfl, rfl⟩
  · rw [decide_eq_false hq, Bool.false_or]
    obtain ⟨V, hV⟩ : ∃ V, decide (t ∈ live) = V := ⟨_, rfl⟩
    rw [hV] at HC ⊢
    clear hV
    have hq2 : t < time := by omega
    go_enter Tryz.func62, Tryz.ntmps62
    go_wp2_with (go_at_call 34; (with_reducible refine HC.out.mono ?_); rintro e w1 ⟨rfl, rfl⟩)
    go_ret
    exact ⟨rfl, rfl⟩
set_option maxRecDepth 100000 in
set_option maxHeartbeats 4000000 in
theorem csweep2 (x : FX) (time : Int) (b5 b6 b7 b9 : Nat) (la na : Option Addr) (ln lc nn nc : Nat) (live : List Int) (needs : List ByteArray) (w : World) (hb : Fr w 0 x.bv x.f.b) (ht : LsO intE w 0 x.tv x.f.t) (hf64 : ∀ t ∈ x.f.t, SI64 t)
    (h5 : Row w b5 3 [.int .i64 time]) (h6 : Row w b6 32 [.slice na nn nc]) (h7 : Row w b7 31 [.slice la ln lc]) (h9 : Row w b9 85 [.func (.func 62) #[] #[.pointer (some ⟨b5, 0, none⟩), .pointer (some ⟨b7, 0, none⟩)]]) (hl : Sl .i64 w la ln live) (hn : Ls strE w na nn nc needs) :
    Calls Tryz.prog 64 #[x.val, .pointer (some ⟨b6, 0, none⟩), .pointer (some ⟨b9, 0, none⟩)] w fun e w' => e = .returned (.bool (goesC time needs live x.f)) ∧ Below w.heap.size w w' := by
  obtain ⟨⟨xs, xb, xu, xt⟩, xbv, xtv⟩ := x
  dsimp only at hb ht hf64
  have OBC := Lib.hid (fr_one hb)
  obtain ⟨ta, tc, htv, hlt2, -⟩ := ht.ls intOk hf64
  obtain ⟨tn, htn⟩ : ∃ tn, xt.length = tn := ⟨_, rfl⟩
  rw [htn] at htv hlt2
  have HN := Lib.hid (fun w' (hb2 : Below w.heap.size w w') => scontains xs na nn nc needs w' (hn.mono strOk hb2))
  have HQ := Lib.hid (fun w' (hb2 : Below w.heap.size w w') => icontf 62 #[.pointer (some ⟨b5, 0, none⟩), .pointer (some ⟨b7, 0, none⟩)] (fun t => decide (time ≤ t) || decide (t ∈ live)) en_sweep1 ta tn tc xt w' (hlt2.mono intOk hb2).sl (fun t _ => csweep1 t time b5 b7 la ln lc live w' (h5.below hb2 h5.lt) (h7.below hb2 h7.lt) (hl.mono hb2)))
  have R6 := Lib.hid h6
  have R9 := Lib.hid h9
  have HGO := Lib.hid (show goesC time needs live ⟨xs, xb, xu, xt⟩ = (!hasStr needs xs && !xt.any (fun t => decide (time ≤ t) || decide (t ∈ live))) by unfold goesC oldC hasStr; dsimp only; congr 1; rw [List.not_any_eq_all_not])
  obtain ⟨A, hA⟩ : ∃ A, hasStr needs xs = A := ⟨_, rfl⟩
  obtain ⟨V, hV⟩ : ∃ V, xt.any (fun t => decide (time ≤ t) || decide (t ∈ live)) = V := ⟨_, rfl⟩
  rw [hA] at HN HGO
  rw [hV] at HQ HGO
  subst htv
  clear hb ht hf64 h5 h6 h7 h9 hl hn hlt2 htn hA hV
  show Calls _ _ #[.agg (fiC xs xbv xu (.slice ta tn tc)).toArray, _, _] _ _
  rw [HGO.out]
  go_enter Tryz.func64, Tryz.ntmps64
  cases A
  · go_wp2_with (first
      | ((with_reducible refine box_row (o := ⟨some 3, _, _, _, _, _⟩) rfl _ _ rfl (fiC xs xbv xu (.slice ta tn tc)) rfl ?_); intro w1 hr hb hz; have R1 := Lib.hid hr; have B1 := Lib.hid hb; obtain ⟨c0, c1, c2, c3⟩ := hr.k4; have d6 := (R6.out.below hb R6.out.lt).k0; clear hr hb hz c1 c2)
      | (go_at_call 33; (with_reducible refine (HN.out w1 B1.out).mono ?_); rintro e w2 ⟨rfl, hb⟩; have B2 := Lib.hid (B1.out.trans (hb.mono B1.out.size)); have c3 := (R1.out.below hb R1.out.lt).k4.2.2.2; have d9 := (R9.out.below B2.out R9.out.lt).k0; clear hb c0 d6)
      | (go_at_call 65; (with_reducible refine (HQ.out w2 B2.out).mono ?_); rintro e w3 ⟨rfl, rfl⟩))
    go_ret
    exact ⟨rfl, B2.out⟩
  · go_wp2_with (first
      | ((with_reducible refine box_row (o := ⟨some 3, _, _, _, _, _⟩) rfl _ _ rfl (fiC xs xbv xu (.slice ta tn tc)) rfl ?_); intro w1 hr hb hz; have R1 := Lib.hid hr; have B1 := Lib.hid hb; obtain ⟨c0, c1, c2, c3⟩ := hr.k4; have d6 := (R6.out.below hb R6.out.lt).k0; clear hr hb hz c1 c2 c3)
      | (go_at_call 33; (with_reducible refine (HN.out w1 B1.out).mono ?_); rintro e w2 ⟨rfl, hb⟩; have B2 := Lib.hid (B1.out.trans (hb.mono B1.out.size)); clear hb c0 d6))
    go_ret
    exact ⟨rfl, B2.out⟩
set_option maxRecDepth 100000 in
set_option maxHeartbeats 4000000 in
theorem csweep {p m T : Nat} {room : Int} {X : List FX} {S : Nat → Prop} {w : World} (h : CK w p m room X S) (hok : ∀ x ∈ X, FiOk T x.f) (hn : X.length ≤ 524288) (time : Int) (la na : Option Addr) (ln lc nn nc : Nat) (live : List Int) (needs : List ByteArray)
    (hl : Sl .i64 w la ln live) (hnd : Ls strE w na nn nc needs) (hlS : ln ≠ 0 → ∀ b off s, la = some ⟨b, off, s⟩ → ¬ S b) (hnS : nn ≠ 0 → ∀ b off s, na = some ⟨b, off, s⟩ → ¬ S b) :
    Calls Tryz.prog 29 #[.pointer (some ⟨p, 0, none⟩), .int .i64 time, .slice na nn nc, .slice la ln lc] w fun e w' => e = .returned (.int .i64 (((X.map (·.f)).filter (goesC time needs live)).length : Nat)) ∧ CK w' p m room (X.filter fun x => !goesC time needs live x.f) S ∧ Ft S w w' := by
  have H := Lib.hid h
  have HOK := Lib.hid hok
  have HL := Lib.hid hl
  have HN := Lib.hid hnd
  have HLS := Lib.hid hlS
  have HNS := Lib.hid hnS
  have HNN := Lib.hid hn
  clear h hok hn hl hnd hlS hnS
  go_enter Tryz.func29, Tryz.ntmps29
  go_wp2_with (first
    | (with_reducible refine box_cell (o := ⟨some 5, _, _, _, _, _⟩) rfl _ _ rfl (.int .i64 time) rfl rfl ?_; intro w1 hr1 hb1 hz1; have R1 := Lib.hid hr1; have B1 := Lib.hid hb1; have Z1 := Lib.hid (show w.heap.size < w1.heap.size by omega); clear hr1 hb1 hz1)
    | (with_reducible refine box_cell (o := ⟨some 6, _, _, _, _, _⟩) rfl _ _ rfl (.slice na nn nc) rfl rfl ?_; intro w2 hr1 hb1 hz1; have R2 := Lib.hid hr1; have B2 := Lib.hid (B1.out.trans (hb1.mono B1.out.size)); have R12 := Lib.hid (R1.out.below hb1 R1.out.lt); have Z2 := Lib.hid (show w1.heap.size < w2.heap.size by omega); clear hr1 hb1 hz1)
    | (with_reducible refine box_cell (o := ⟨some 7, _, _, _, _, _⟩) rfl _ _ rfl (.slice la ln lc) rfl rfl ?_; intro w3 hr1 hb1 hz1; have R3 := Lib.hid hr1; have B3 := Lib.hid (B2.out.trans (hb1.mono B2.out.size)); have R13 := Lib.hid (R12.out.below hb1 R12.out.lt); have R23 := Lib.hid (R2.out.below hb1 R2.out.lt); have Z3 := Lib.hid (show w2.heap.size < w3.heap.size by omega); clear hr1 hb1 hz1)
    | ((with_reducible refine alloc_cell (o := ⟨some 9, _, _, _, _, _⟩) rfl _ rfl .nilFunc rfl (by kernel_rfl) ?_); intro w4 hr hb hz; have R44 := Lib.hid hr; have B4 := Lib.hid (B3.out.trans (hb.mono B3.out.size)); have R14 := Lib.hid (R13.out.below hb R13.out.lt); have R24 := Lib.hid (R23.out.below hb R23.out.lt); have R34 := Lib.hid (R3.out.below hb R3.out.lt); have Z4 := Lib.hid (show w3.heap.size < w4.heap.size by omega); clear hr hb hz)
    | ((with_reducible refine store_cell (o := ⟨none, _, _, _, _, _⟩) rfl _ (.tmp 9) _ rfl w3.heap.size 0 (.func (.func 62) #[] #[.pointer (some ⟨w.heap.size, 0, none⟩), .pointer (some ⟨w2.heap.size, 0, none⟩)]) ?_ ?_ rfl rfl 85 _ R44.out cnt_size ?_ ?_); (focus go_simp); (focus (first | (go_simp; done) | (go_simp; rfl))); (focus (show 0 < 1; decide)); intro w5 hr hu; have R45 := Lib.hid (show Row w5 w3.heap.size 85 [.func (.func 62) #[] #[.pointer (some ⟨w.heap.size, 0, none⟩), .pointer (some ⟨w2.heap.size, 0, none⟩)]] from hr); have z2 := Z2.out; have z3 := Z3.out; have z1 := Z1.out; have R15 := Lib.hid (R14.out.upd hu (by omega)); have R25 := Lib.hid (R24.out.upd hu (by omega)); have R35 := Lib.hid (R34.out.upd hu (by omega)); have B5 := Lib.hid (B4.out.trans (hu.below B3.out.size)); clear hr hu z1 z2 z3))
  have C5 := H.out.mono B5.out
  have z1 := Z1.out
  have z2 := Z2.out
  have z3 := Z3.out
  have b1 := B1.out.size
  have b2 := B2.out.size
  have b3 := B3.out.size
  have hns : ∀ k, w.heap.size ≤ k → ¬ S k := fun k hk hs => absurd (H.out.lt k hs) (Nat.not_lt.2 hk)
  have key := ctake 64 #[.pointer (some ⟨w1.heap.size, 0, none⟩), .pointer (some ⟨w3.heap.size, 0, none⟩)] (goesC time needs live) en_sweep2 C5 (fun x hx => (HOK.out x hx).s) HNN.out (fun w6 x hx hf hb ht =>
    csweep2 x time w.heap.size w1.heap.size w2.heap.size w3.heap.size la na ln lc nn nc live needs w6 hb ht (HOK.out x hx).t64 (R15.out.ft hf (hns _ (Nat.le_refl _))) (R25.out.ft hf (hns _ b1)) (R35.out.ft hf (hns _ b2)) (R45.out.ft hf (hns _ b3))
      (by
        exact (HL.out.mono B5.out).stay0 hf.size (fun hn0 b off s e hb0 => hf.block b hb0 (HLS.out hn0 b off s e)))
      ((HN.out.mono strOk B5.out).stay0 hf.size (fun hn0 b off s e hb0 => hf.block b hb0 (HNS.out hn0 b off s e)) HN.out.hfit))
  have K5 := Lib.hid key
  clear C5 z1 z2 z3 b1 b2 b3 hns key
  go_wp2_with (go_at_call 63; (with_reducible refine K5.out.mono ?_); rintro e w7 ⟨v, rfl, hl, hc, hf⟩; obtain ⟨va, vc, rfl, -, -⟩ := hl.ls strOk (fun s hs => by obtain ⟨x, hx, rfl⟩ := List.mem_map.1 hs; have h5 := (HOK.out x (List.mem_filter.1 hx).1).s; show x.f.s.size ≤ maxLen; unfold maxLen; omega); have C7 := Lib.hid hc; have F7 := Lib.hid ((Ft.of_below B5.out).trans hf); clear hl hc hf)
  go_ret
  exact ⟨one (vint (by rw [List.filter_map, List.length_map]; rfl)), C7.out, F7.out⟩
end Go.Proofs.YtkfhppbmnjmnoaaGreatDoor.W

/- LAYER 28 (chunk): the program's Put. -/
set_option linter.unusedSimpArgs false
set_option linter.unusedVariables false
namespace Go.Proofs.YtkfhppbmnjmnoaaGreatDoor.W
open Go Go.ChangeShapes Go.WideShapes Go.ChangeAt Go.RowKit
open Go.Proofs.YtkfhppbmnjmnoaaGreatDoor.P (shaL shaL_len)

def putX : List FX → FX → List FX
  | [], y => [y]
  | g :: r, y => if ltM y.f.s g.f.s then y :: g :: r else if y.f.s = g.f.s then y :: r else g :: putX r y
theorem put_f : ∀ (X : List FX) (y : FX), (putX X y).map (·.f) = putL (X.map (·.f)) y.f
  | [], y => rfl
  | g :: r, y => by
    simp only [putX, putL, List.map_cons]
    split
    · rfl
    · split
      · rfl
      · rw [List.map_cons, put_f r y]
theorem ris_cons {x : FX} {X : List FX} : Ris (MX (x :: X)) ↔ (∀ z ∈ X, ltM x.f.s z.f.s = true) ∧ Ris (MX X) := by
  unfold Ris MX
  rw [List.pairwise_map, List.pairwise_map, List.pairwise_cons]
theorem mt_trans {a b c : ByteArray} (h1 : ltM a b = true) (h2 : ltM b c = true) : ltM a c = true := by
  rw [← kS_before] at h1 h2 ⊢
  exact before_trans h1 h2
theorem put_mem : ∀ {X : List FX} {y : FX}, Ris (MX X) → ∀ z, z ∈ putX X y ↔ z = y ∨ (z ∈ X ∧ z.f.s ≠ y.f.s)
  | [], y, _, z => by simp [putX]
  | g :: r, y, h, z => by
    obtain ⟨h1, h2⟩ := ris_cons.1 h
    simp only [putX]
    split
    · rename_i hlt
      constructor
      · intro hz
        rcases List.mem_cons.1 hz with e | hz
        · exact .inl e
        · refine .inr ⟨hz, fun e => ?_⟩
          rcases List.mem_cons.1 hz with e2 | hz2
          · rw [e2] at e; rw [← e, ltM_self] at hlt; cases hlt
          · have h3 := mt_trans hlt (h1 z hz2)
            rw [e, ltM_self] at h3; cases h3
      · rintro (e | ⟨h3, -⟩)
        · rw [e]; exact List.mem_cons_self ..
        · exact List.mem_cons_of_mem _ h3
    · split
      · rename_i he
        constructor
        · intro hz
          rcases List.mem_cons.1 hz with e | hz
          · exact .inl e
          · refine .inr ⟨List.mem_cons_of_mem _ hz, fun e => ?_⟩
            have h3 := h1 z hz
            rw [e, ← he, ltM_self] at h3; cases h3
        · rintro (e | ⟨h3, h4⟩)
          · rw [e]; exact List.mem_cons_self ..
          · rcases List.mem_cons.1 h3 with e | h3
            · exact absurd (by rw [e, he]) h4
            · exact List.mem_cons_of_mem _ h3
      · rename_i hlt he
        rw [List.mem_cons, put_mem h2, List.mem_cons]
        constructor
        · rintro (e | e | ⟨h3, h4⟩)
          · exact .inr ⟨.inl e, by rw [e]; exact fun e => he e.symm⟩
          · exact .inl e
          · exact .inr ⟨.inr h3, h4⟩
        · rintro (e | ⟨e | h3, h4⟩)
          · exact .inr (.inl e)
          · exact .inl e
          · exact .inr (.inr ⟨h3, h4⟩)
theorem put_ris : ∀ {X : List FX} {y : FX}, Ris (MX X) → Ris (MX (putX X y))
  | [], y, _ => by simp [putX, Ris, MX]
  | g :: r, y, h => by
    obtain ⟨h1, h2⟩ := ris_cons.1 h
    simp only [putX]
    split
    · rename_i hlt
      refine ris_cons.2 ⟨fun z hz => ?_, h⟩
      rcases List.mem_cons.1 hz with e | hz
      · rw [e]; exact hlt
      · exact mt_trans hlt (h1 z hz)
    · split
      · rename_i he
        exact ris_cons.2 ⟨fun z hz => by rw [he]; exact h1 z hz, h2⟩
      · rename_i hlt he
        refine ris_cons.2 ⟨fun z hz => ?_, put_ris h2⟩
        rcases (put_mem h2 z).1 hz with e | ⟨h3, -⟩
        · rw [e]; exact ltM_total (by simpa using hlt) he
        · exact h1 z h3
theorem put_apart {g : FX → Option Nat} {y : FX} : ∀ {X : List FX}, Ris (MX X) → Apart g X → (∀ b, g y = some b → ∀ z ∈ X, z.f.s ≠ y.f.s → g z ≠ some b) → Apart g (putX X y)
  | [], _, _, _ => by simp [putX, Apart]
  | x :: r, h, hp, hy => by
    obtain ⟨h1, h2⟩ := ris_cons.1 h
    obtain ⟨p1, p2⟩ := List.pairwise_cons.1 hp
    simp only [putX]
    split
    · rename_i hlt
      refine List.pairwise_cons.2 ⟨fun z hz b hb => hy b hb z hz (fun e => ?_), hp⟩
      rcases List.mem_cons.1 hz with e2 | hz
      · rw [e2] at e; rw [← e, ltM_self] at hlt; cases hlt
      · have h3 := mt_trans hlt (h1 z hz)
        rw [e, ltM_self] at h3; cases h3
    · split
      · rename_i he
        refine List.pairwise_cons.2 ⟨fun z hz b hb => hy b hb z (List.mem_cons_of_mem _ hz) (fun e => ?_), p2⟩
        have h3 := h1 z hz
        rw [e, ← he, ltM_self] at h3; cases h3
      · rename_i hlt he
        refine List.pairwise_cons.2 ⟨fun z hz b hb => ?_, put_apart h2 p2 (fun b hb z hz => hy b hb z (List.mem_cons_of_mem _ hz))⟩
        rcases (put_mem h2 z).1 hz with e | ⟨h3, -⟩
        · rw [e]
          exact fun hq => hy b hq x (List.mem_cons_self ..) (fun e => he e.symm) hb
        · exact p1 z h3 b hb
theorem put_mx {X : List FX} {y : FX} (h : Ris (MX X)) (p : Ent) : p ∈ MX (putX X y) ↔ p = (y.f.s, y.val) ∨ (p ∈ MX X ∧ p.1 ≠ y.f.s) := by
  rw [mx_mem, mx_mem]
  constructor
  · rintro ⟨z, hz, rfl⟩
    rcases (put_mem h z).1 hz with e | ⟨h3, h4⟩
    · exact .inl (by rw [e])
    · exact .inr ⟨⟨z, h3, rfl⟩, h4⟩
  · rintro (rfl | ⟨⟨z, hz, rfl⟩, h2⟩)
    · exact ⟨y, (put_mem h y).2 (.inl rfl), rfl⟩
    · exact ⟨z, (put_mem h z).2 (.inr ⟨hz, h2⟩), rfl⟩
theorem put_len : ∀ (X : List FX) (y : FX), (putX X y).length ≤ X.length + 1
  | [], y => by simp [putX]
  | g :: r, y => by
    simp only [putX]
    split
    · simp
    · split
      · simp
      · have := put_len r y; simp; omega
theorem CK.bm {w : World} {p m : Nat} {room : Int} {X : List FX} {S : Nat → Prop} (h : CK w p m room X S) {x : FX} (hx : x ∈ X) : x.tv.ownBlock ≠ some m ∧ x.tv.ownBlock ≠ some p ∧ x.bv.ownBlock ≠ some m ∧ x.bv.ownBlock ≠ some p := by
  have hm : ∀ g t, IsTy w g t → g ≠ m := by
    rintro g t ⟨cur, fz, hh⟩ rfl
    obtain ⟨es, clock, hb2, -⟩ := h.sm.own
    rw [hb2] at hh; cases hh
  refine ⟨fun e => hm m _ (lso_ty (h.ot x hx) e) rfl, fun e => (lso_ty (h.ot x hx) e).ne h.rp.ty (by decide) rfl, fun e => hm m _ (fr_tyb (h.ob x hx) e) rfl, fun e => (fr_tyb (h.ob x hx) e).ne h.rp.ty (by decide) rfl⟩
/-- one file more, or another one in its place: what was written, if anything, is that file's times -/
theorem CK.put {w w1 w2 : World} {p m : Nat} {room : Int} {X : List FX} {S : Nat → Prop} {y : FX} (tvo : Option Nat) (h : CK w p m room X S) (hk : ∀ g, g < w.heap.size → tvo ≠ some g → w1.heap[g]? = w.heap[g]?) (hs : w.heap.size ≤ w1.heap.size)
    (hto : ∀ g, tvo = some g → ∃ x ∈ X, x.f.s = y.f.s ∧ x.tv.ownBlock = some g) (hsm : SM w2 m (putX X y).length (MX (putX X y))) (hg : w1.grownBy w2 (some m)) (ob : Fr w1 0 y.bv y.f.b) (ot : LsO intE w1 0 y.tv y.f.t)
    (hyb : ∀ g, y.bv.ownBlock = some g → w.heap.size ≤ g ∨ ∃ x ∈ X, x.f.s = y.f.s ∧ x.bv.ownBlock = some g) (hyt : ∀ g, y.tv.ownBlock = some g → w.heap.size ≤ g ∨ ∃ x ∈ X, x.f.s = y.f.s ∧ x.tv.ownBlock = some g)
    (hos : w1.os = w.os) (hta : w1.tape = w.tape) (hou : w1.output = w.output) :
    CK w2 p m room (putX X y) (fun k => S k ∨ (w.heap.size ≤ k ∧ k < w2.heap.size)) ∧ Ft S w w2 := by
  have hr := h.sm.ris
  have tm : tvo ≠ some m := fun e => by obtain ⟨x, hx, -, e2⟩ := hto m e; exact (h.bm hx).1 e2
  have tp : tvo ≠ some p := fun e => by obtain ⟨x, hx, -, e2⟩ := hto p e; exact (h.bm hx).2.1 e2
  have hsm1 : SM w1 m X.length (MX X) := h.sm.block (hk m h.sm.lt tm)
  have rp1 : Row w1 p 66 [.int .i64 room, .map (some m)] := (hk p h.rp.lt tp).trans h.rp
  have nt : ∀ z ∈ X, z.f.s ≠ y.f.s → ∀ g, z.tv.ownBlock = some g → tvo ≠ some g := fun z hz hne g e e2 => by
    obtain ⟨x, hx, hxs, e3⟩ := hto g e2
    have hzx : z ≠ x := fun e4 => hne (by rw [e4]; exact hxs)
    exact apart_at h.pt hz hx hzx e e3
  have nb : ∀ z ∈ X, ∀ g, z.bv.ownBlock = some g → tvo ≠ some g := fun z hz g e e2 => by
    obtain ⟨x, hx, -, e3⟩ := hto g e2
    exact (fr_tyb (h.ob z hz) e).ne (lso_ty (h.ot x hx) e3) (by decide) rfl
  have obX : ∀ z ∈ putX X y, Fr w1 0 z.bv z.f.b := fun z hz => by
    rcases (put_mem hr z).1 hz with e | ⟨h3, h4⟩
    · rw [e]; exact ob
    · exact (h.ob z h3).keep fun g e => hk g ((h.ob z h3).blt e) (nb z h3 g e)
  have otX : ∀ z ∈ putX X y, LsO intE w1 0 z.tv z.f.t := fun z hz => by
    rcases (put_mem hr z).1 hz with e | ⟨h3, h4⟩
    · rw [e]; exact ot
    · exact (h.ot z h3).keep fun g e => hk g ((h.ot z h3).blt e) (nt z h3 h4 g e)
  have inS : ∀ g, w.heap.size ≤ g → g < w1.heap.size → S g ∨ (w.heap.size ≤ g ∧ g < w2.heap.size) := fun g h1 h2 => .inr ⟨h1, Nat.lt_of_lt_of_le h2 hg.size⟩
  have hpm : p ≠ m := (h.sm.norow h.rp).symm
  have keep : ∀ g, g < w1.heap.size → g ≠ m → w2.heap[g]? = w1.heap[g]? := fun g hlt hn => hg.block g hlt (fun e => hn (by injection e))
  have hm1 : ∀ g t, IsTy w1 g t → g ≠ m := by
    rintro g t ⟨cur, fz, hh⟩ rfl
    obtain ⟨es, clock, hb2, -⟩ := hsm1.own
    rw [hb2] at hh; cases hh
  refine ⟨{ rp := (keep p rp1.lt hpm).trans rp1, sm := hsm, ob := fun z hz => (obX z hz).keep fun g e => keep g ((obX z hz).blt e) (hm1 g _ (fr_tyb (obX z hz) e)), ot := fun z hz => (otX z hz).keep fun g e => keep g ((otX z hz).blt e) (hm1 g _ (lso_ty (otX z hz) e)), sb := ?_, st := ?_, Sp := .inl h.Sp, Sm := .inl h.Sm, Sb := ?_, St := ?_, lt := ?_ }, ⟨hg.os.trans hos, hg.tape.trans hta, hg.output.trans hou, Nat.le_trans hs hg.size, fun k hk2 hn => ?_⟩⟩
  · refine put_apart (g := fun x => x.bv.ownBlock) hr h.pb fun b hb z hz hne hzb => ?_
    rcases hyb b hb with h5 | ⟨x, hx, hxs, h5⟩
    · exact absurd ((h.ob z hz).blt hzb) (Nat.not_lt.2 h5)
    · exact apart_at h.pb hz hx (fun e4 => hne (by rw [e4]; exact hxs)) hzb h5
  · refine put_apart (g := fun x => x.tv.ownBlock) hr h.pt fun b hb z hz hne hzb => ?_
    rcases hyt b hb with h5 | ⟨x, hx, hxs, h5⟩
    · exact absurd ((h.ot z hz).blt hzb) (Nat.not_lt.2 h5)
    · exact apart_at h.pt hz hx (fun e4 => hne (by rw [e4]; exact hxs)) hzb h5
  · intro z hz g e
    rcases (put_mem hr z).1 hz with e2 | ⟨h3, h4⟩
    · subst e2
      rcases hyb g e with h5 | ⟨x, hx, -, h5⟩
      · exact inS g h5 (ob.blt e)
      · exact .inl (h.Sb x hx g h5)
    · exact .inl (h.Sb z h3 g e)
  · intro z hz g e
    rcases (put_mem hr z).1 hz with e2 | ⟨h3, h4⟩
    · subst e2
      rcases hyt g e with h5 | ⟨x, hx, -, h5⟩
      · exact inS g h5 (ot.blt e)
      · exact .inl (h.St x hx g h5)
    · exact .inl (h.St z h3 g e)
  · rintro k (h5 | h5)
    · exact Nat.lt_of_lt_of_le (h.lt k h5) (Nat.le_trans hs hg.size)
    · exact h5.2
  · have h5 : tvo ≠ some k := fun e => by obtain ⟨x, hx, -, e3⟩ := hto k e; exact hn (h.St x hx k e3)
    exact (keep k (Nat.lt_of_lt_of_le hk2 hs) (fun e => hn (by rw [e]; exact h.Sm))).trans (hk k hk2 h5)
/-- what Put has found: a file of that sum, or none -/
structure Found (w : World) (m : Nat) (X : List FX) (T : Nat) (b : List UInt8) (th : Bool) (s0 : ByteArray) (ba : Option Addr) (bn bc su0 : Nat) (tv0 : Value) (bb : List UInt8) (tt : List Int) : Prop where
  lk : ∀ w', Below w.heap.size w w' → (Instr.lookup 64 (.map (some m)) (.string (sumOf b)) true).run Tryz.prog w' = .ok (.tuple #[.agg (fiC s0 (.slice ba bn bc) su0 tv0).toArray, .bool th]) w'
  rd : Rd w ba bn bc bb
  b2 : bn ≤ 256
  ot : LsO intE w 0 tv0 tt
  t64 : ∀ t ∈ tt, SI64 t
  tr : tt.Pairwise (· < ·)
  tl : tt.length ≤ T
  yes : th = true → s0 = sumOf b ∧ ∃ x ∈ X, x.f = ⟨s0, bb, su0, tt⟩ ∧ x.bv = .slice ba bn bc ∧ x.tv = tv0 ∧ Fr w 0 (.slice ba bn bc) bb
  no : th = false → bb = [] ∧ tv0 = .slice none 0 0 ∧ ∀ x ∈ X, x.f.s ≠ sumOf b
theorem up64 {x : Int} (h1 : 0 ≤ x) (h2 : x ≤ 4000000000) : IntKind.i64.wrap x = x := by rw [IntKind.wrap_i64]; omega
set_option maxRecDepth 100000 in
set_option maxHeartbeats 8000000 in
theorem cput_eq {p m T : Nat} {room : Int} {X : List FX} {S : Nat → Prop} {w : World} {th : Bool} {s0 : ByteArray} {ba : Option Addr} {bn bc su0 : Nat} {tv0 : Value} {bb : List UInt8} {tt : List Int} (a : Option Addr) (n c : Nat) (b : List UInt8) (time : Int)
    (h : CK w p m room X S) (hb : Rd w a n c b) (hn1 : 1 ≤ n ∧ n ≤ 256) (ht : SI64 time) (hK : Ks w) (hT : T ≤ 899) (h256 : ∀ x ∈ X, x.f.b.length ≤ 256) (hn : X.length ≤ 524288) (hrm : 0 ≤ room ∧ room ≤ 524288) (hus : usedC (X.map (·.f)) ≤ 524288)
    (hfd : Found w m X T b th s0 ba bn bc su0 tv0 bb tt) (hth : th = true) (heq : bb = b) :
    Calls Tryz.prog 22 #[.pointer (some ⟨p, 0, none⟩), .slice a n c, .int .i64 time] w fun e w' => e = .returned (.tuple #[.string (sumOf b), .int .i64 0]) ∧ ∃ y : FX, y.f = ⟨s0, bb, su0, timedL tt time⟩ ∧ CK w' p m room (putX X y) (fun k => S k ∨ (w.heap.size ≤ k ∧ k < w'.heap.size)) ∧ Ft S w w' := by
  have H := Lib.hid h
  have HR := Lib.hid (fun w' (hb2 : Below w.heap.size w w') => cready p m room w' (h.mono hb2).rp)
  have HP := Lib.hid (pin (n : Int) 1 256 true (by unfold in64; simp; omega))
  have HSUM := Lib.hid (show ∀ w', Below w.heap.size w w' → Calls Tryz.prog 57 #[.slice a n c] w' fun e w2 => e = .returned (.string (sumOf b)) ∧ Below w'.heap.size w' w2 from fun w' hb2 => shasum_any a n c b w' (hK.below hb2 hK.pos) (hb.mono hb2) (by omega))
  have HEQ := Lib.hid (fun w' (hb2 : Below w.heap.size w w') => bequal ba a bn bc n c bb b w' (hfd.rd.mono hb2) (hb.mono hb2))
  have HIN := Lib.hid (fun w' (hb2 : Below w.heap.size w w') => cintact s0 (.slice ba bn bc) tv0 ba bn bc su0 bb w' rfl (hfd.rd.mono hb2) (by have := hfd.b2; omega) (hK.below hb2 hK.pos))
  have HCL := Lib.hid (fun w' (hb2 : Below w.heap.size w w') => fclone a n c b w' (hb.mono hb2) (by omega))
  have HWI := Lib.hid (fun w' (hb2 : Below w.heap.size w w') => cwith tv0 tt time w' (hfd.ot.kept hb2) hfd.t64 ht hfd.tr (by have := hfd.tl; omega))
  have HUS := Lib.hid (fun w' (hb2 : Below w.heap.size w w') => cused (h.mono hb2) h256 hn)
  have HF := Lib.hid hfd
  have FZ := Lib.hid file_zero
  have SZ := Lib.hid file_size
  have HTC := Lib.hid (lso_cell hfd.ot)
  have hb2n := hfd.b2
  have HN := Lib.hid hn
  rw [decide_eq_true heq] at HEQ
  obtain ⟨e0, x, hx, hxf, hxb, hxt, hxo⟩ := hfd.yes hth
  subst e0
  have HX := Lib.hid (show x ∈ X ∧ x.f.s = sumOf b ∧ x.bv.ownBlock = (Value.slice ba bn bc).ownBlock ∧ x.tv.ownBlock = tv0.ownBlock from ⟨hx, by rw [hxf], by rw [hxb], by rw [hxt]⟩)
  have HXO := Lib.hid hxo
  have HSZ := Lib.hid (show (sumOf b).size ≤ maxLen by rw [sumOf_size]; decide)
  obtain ⟨sm, hsm⟩ : ∃ sm, sumOf b = sm := ⟨_, rfl⟩
  have HRIS := Lib.hid h.sm.ris
  subst hth
  rw [hsm] at HF HIN HSUM HX HSZ ⊢
  have LKF := Lib.hid (show ∀ w', Below w.heap.size w w' → (Instr.lookup 64 (.map (some m)) (.string sm) true).run Tryz.prog w' = .ok (.tuple #[.agg (fiC sm (.slice ba bn bc) su0 tv0).toArray, .bool true]) w' from fun w' hb2 => by have := HF.out.lk w' hb2; rw [hsm] at this; exact this)
  clear h hb ht hK h256 hn hfd heq hus hx hxf hxb hxt hxo
  go_enter Tryz.func22, Tryz.ntmps22
  go_wp2_with (first
  | (go_at_call 50; (with_reducible refine (HR.out w (Below.refl _ _)).mono ?_); rintro e w0 ⟨rfl, rfl⟩)
  | (go_at_call 35; (with_reducible refine (HP.out w).mono ?_); rintro e w0 ⟨rfl, rfl⟩)
  | (go_at_call 57; (with_reducible refine (HSUM.out w (Below.refl _ _)).mono ?_); rintro e w1 ⟨rfl, hb1⟩; have B1 := Lib.hid hb1; have c1 := (H.out.mono hb1).rp.k2.2; have lk := LKF.out w1 hb1; clear hb1)
  | ((with_reducible refine alloc_row (o := ⟨some 9, _, _, _, _, _⟩) rfl _ rfl _ FZ.out ?_); intro w2 hr hb2 hz; have R2 := Lib.hid hr; have B2 := Lib.hid (B1.out.trans (hb2.mono B1.out.size)); clear hr hb2 hz c1 lk)
  | ((with_reducible refine store_row (o := ⟨none, _, _, _, _, _⟩) rfl _ (.tmp 9) _ rfl w1.heap.size (fiC sm (.slice ba bn bc) su0 tv0) ?_ ?_ 44 _ R2.out ?_ ?_ ?_ ?_); (focus go_simp); (focus (first | (go_simp; done) | (go_simp; rfl))); (focus (exact SZ.out)); (focus rfl); (focus (exact fi_one _ _ _ _ rfl HTC.out)); intro w3 hr hu; have R3 := Lib.hid hr; have B3 := Lib.hid (B2.out.trans (hu.below B1.out.size)); obtain ⟨q0, q1, q2, q3⟩ := hr.k4; clear hr hu q0 q2)
  | (go_at_call 58; (with_reducible refine (HEQ.out w3 B3.out).mono ?_); rintro e w4 ⟨rfl, rfl⟩; clear q1)
  | (go_at_call 59; (with_reducible refine (HWI.out w3 B3.out).mono ?_); rintro e w5 ⟨v5, rfl, hl5, ho5, hb5, hk5⟩; have O5 := Lib.hid hl5; have W5 := Lib.hid ho5; have K5 := Lib.hid (kp_below B3.out hk5); have BB5 := Lib.hid hb5; have R5 := Lib.hid (R3.out.keepK hk5 (fun e => Nat.lt_irrefl _ (Nat.lt_of_lt_of_le (HF.out.ot.blt e) B1.out.size))); clear hl5 ho5 hb5 hk5 q3)
  | ((with_reducible refine store_cell (o := ⟨none, _, _, _, _, _⟩) rfl _ (.tmp 63) _ rfl w1.heap.size 3 v5 ?_ ?_ ?_ ?_ 44 _ R5.out size_is ?_ ?_); (focus go_simp); (focus (first | (go_simp; done) | (go_simp; rfl))); (focus (exact lso_cells O5.out)); (focus (exact lso_cell O5.out)); (focus (show 3 < 4; decide)); intro w6 hr hu; have R6 := Lib.hid (show Row w6 w1.heap.size 44 (fiC sm (.slice ba bn bc) su0 v5) from hr); have U6 := Lib.hid hu; clear hr hu))
  have Z6 := Lib.hid (((B3.out.mono (Nat.zero_le _)).trans BB5.out).trans (U6.out.below (Nat.zero_le _)))
  have KW := Lib.hid (show ∀ g, g < w.heap.size → tv0.ownBlock ≠ some g → w6.heap[g]? = w.heap[g]? from fun g hg hn => (U6.out.block g (fun e => Nat.lt_irrefl _ (Nat.lt_of_lt_of_le (by rw [← e]; exact hg) B1.out.size))).trans (K5.out g hg hn))
  have O6 := Lib.hid (O5.out.upd U6.out (fun e => (lso_ty O5.out e).ne R5.out.ty (by decide) rfl))
  have TM := Lib.hid (show tv0.ownBlock ≠ some m ∧ tv0.ownBlock ≠ some p from ⟨fun e => (H.out.bm HX.out.1).1 (HX.out.2.2.2.trans e), fun e => (H.out.bm HX.out.1).2.1 (HX.out.2.2.2.trans e)⟩)
  have P6 := Lib.hid (show Row w6 p 66 [.int .i64 room, .map (some m)] from (KW.out p H.out.rp.lt TM.out.2).trans H.out.rp)
  have S6 := Lib.hid (H.out.sm.block (KW.out m H.out.sm.lt TM.out.1))
  have D6 : Hid (Below w6.heap.size w6 w6.drew) := Lib.hid (Below.refl _ _).drew
  refine region_t (fun v => Below w6.heap.size w6 v) 6 (by kernel_rfl) (by kernel_rfl) (by kernel_rfl) D6.out ?_
  obtain ⟨wd, hwd⟩ : ∃ wd, w6.drew = wd := ⟨_, rfl⟩
  rw [hwd] at D6 ⊢
  clear hwd
  (refine t_read 0 rfl (by kernel_rfl) (by kernel_rfl) (by kernel_rfl) (t_free rfl) ?_ ?_ ?_; rotate_left; (focus (intro v hv; go_simp; rfl)); go_simp)
  (refine t_read 1 rfl (by kernel_rfl) (by kernel_rfl) (by kernel_rfl) (t_free rfl) ?_ ?_ ?_; rotate_left; (focus (intro v hv; go_simp; rfl)); go_simp)
  (refine t_read 2 rfl (by kernel_rfl) (by kernel_rfl) (by kernel_rfl) (t_free rfl) ?_ ?_ ?_; rotate_left; (focus (intro v hv; go_simp; rfl)); go_simp)
  (refine t_read 3 rfl (by kernel_rfl) (by kernel_rfl) (by kernel_rfl) (t_free rfl) ?_ ?_ ?_; rotate_left; (focus (intro v hv; have c1 := (hv.cell (p := ⟨p, 1, none⟩) P6.out.lt).trans P6.out.k2.2; go_simp; rfl)); go_simp)
  (refine t_read 4 rfl (by kernel_rfl) (by kernel_rfl) (by kernel_rfl) (t_free rfl) ?_ ?_ ?_; rotate_left; (focus (intro v hv; go_simp; rfl)); go_simp)
  (refine t_read 5 rfl (by kernel_rfl) (by kernel_rfl) (by kernel_rfl) (t_free rfl) ?_ ?_ ?_; rotate_left; (focus (intro v hv; refine lg_all 44 (.tmp 9) ?_ w1.heap.size ?_ _ _ _ (R6.out.below hv R6.out.lt) Tryz.underlying44 rfl SZ.out; (focus rfl); (focus go_simp))); go_simp)
  (refine t_last 6 rfl (by kernel_rfl) rfl (by kernel_rfl) (by kernel_rfl) ?_; intro K hK)
  refine map_put rfl _ _ _ 64 44 rfl map_type m _ _ (by go_simp) (S6.out.kept D6.out) (by have := HN.out; omega) sm (.agg (fiC sm (.slice ba bn bc) su0 v5).toArray) (by go_simp) HSZ.out (by go_simp) (MX (putX X ⟨⟨sm, bb, su0, timedL tt time⟩, .slice ba bn bc, v5⟩)) (put_ris HRIS.out) (fun q => put_mx (y := ⟨⟨sm, bb, su0, timedL tt time⟩, .slice ba bn bc, v5⟩) HRIS.out q) ?_
  intro w7 hsm7 hg7 hz7
  refine hK _ _ ?_
  have ZD := Z6.out.trans (D6.out.mono (Nat.zero_le _))
  have hwl : w.heap.size ≤ w6.heap.size := by rw [U6.out.size]; exact Nat.le_trans B3.out.size BB5.out.size
  have KD : ∀ g, g < w.heap.size → tv0.ownBlock ≠ some g → wd.heap[g]? = w.heap[g]? := fun g hg hn => (D6.out.block g (Nat.lt_of_lt_of_le hg hwl)).trans (KW.out g hg hn)
  have PP := H.out.put (w1 := wd) (w2 := w7) (y := ⟨⟨sm, bb, su0, timedL tt time⟩, .slice ba bn bc, v5⟩) tv0.ownBlock KD (Nat.le_trans hwl D6.out.size) (fun g e => ⟨x, HX.out.1, HX.out.2.1, HX.out.2.2.2.trans e⟩) (by have := hsm7.tight; rw [mx_len] at this; exact this) hg7
    (HXO.out.keep fun g e => KD g (HXO.out.blt e) (fun e2 => (fr_tyb HXO.out e).ne (lso_ty HF.out.ot e2) (by decide) rfl)) (O6.out.kept D6.out)
    (fun g e => .inr ⟨x, HX.out.1, HX.out.2.1, HX.out.2.2.1.trans e⟩) (fun g e => (W5.out g e).elim (fun e2 => .inr ⟨x, HX.out.1, HX.out.2.1, HX.out.2.2.2.trans e2⟩) (fun e2 => .inl (Nat.le_trans B3.out.size e2))) ZD.os ZD.tape ZD.output
  have C7 := Lib.hid PP.1
  have F7 := Lib.hid PP.2
  clear hsm7 hg7 hz7 ZD hwl KD PP
  go_simp
  go_wp2_with fail
  go_ret2
  exact ⟨rfl, _, rfl, C7.out, F7.out⟩
set_option maxRecDepth 100000 in
set_option maxHeartbeats 8000000 in
theorem cput_exists {p m T : Nat} {room : Int} {X : List FX} {S : Nat → Prop} {w : World} {th : Bool} {s0 : ByteArray} {ba : Option Addr} {bn bc su0 : Nat} {tv0 : Value} {bb : List UInt8} {tt : List Int} (a : Option Addr) (n c : Nat) (b : List UInt8) (time : Int)
    (h : CK w p m room X S) (hb : Rd w a n c b) (hn1 : 1 ≤ n ∧ n ≤ 256) (ht : SI64 time) (hK : Ks w) (hT : T ≤ 899) (h256 : ∀ x ∈ X, x.f.b.length ≤ 256) (hn : X.length ≤ 524288) (hrm : 0 ≤ room ∧ room ≤ 524288) (hus : usedC (X.map (·.f)) ≤ 524288)
    (hfd : Found w m X T b th s0 ba bn bc su0 tv0 bb tt) (hth : th = true) (hne : bb ≠ b) (hin : sumOf bb = s0) :
    Calls Tryz.prog 22 #[.pointer (some ⟨p, 0, none⟩), .slice a n c, .int .i64 time] w fun e w' => e = .returned (.tuple #[.string ⟨#[]⟩, .int .i64 15]) ∧ Below w.heap.size w w' := by
  have H := Lib.hid h
  have HR := Lib.hid (fun w' (hb2 : Below w.heap.size w w') => cready p m room w' (h.mono hb2).rp)
  have HP := Lib.hid (pin (n : Int) 1 256 true (by unfold in64; simp; omega))
  have HSUM := Lib.hid (show ∀ w', Below w.heap.size w w' → Calls Tryz.prog 57 #[.slice a n c] w' fun e w2 => e = .returned (.string (sumOf b)) ∧ Below w'.heap.size w' w2 from fun w' hb2 => shasum_any a n c b w' (hK.below hb2 hK.pos) (hb.mono hb2) (by omega))
  have HEQ := Lib.hid (fun w' (hb2 : Below w.heap.size w w') => bequal ba a bn bc n c bb b w' (hfd.rd.mono hb2) (hb.mono hb2))
  have HIN := Lib.hid (fun w' (hb2 : Below w.heap.size w w') => cintact s0 (.slice ba bn bc) tv0 ba bn bc su0 bb w' rfl (hfd.rd.mono hb2) (by have := hfd.b2; omega) (hK.below hb2 hK.pos))
  have HCL := Lib.hid (fun w' (hb2 : Below w.heap.size w w') => fclone a n c b w' (hb.mono hb2) (by omega))
  have HWI := Lib.hid (fun w' (hb2 : Below w.heap.size w w') => cwith tv0 tt time w' (hfd.ot.kept hb2) hfd.t64 ht hfd.tr (by have := hfd.tl; omega))
  have HUS := Lib.hid (fun w' (hb2 : Below w.heap.size w w') => cused (h.mono hb2) h256 hn)
  have HF := Lib.hid hfd
  have FZ := Lib.hid file_zero
  have SZ := Lib.hid file_size
  have HTC := Lib.hid (lso_cell hfd.ot)
  have hb2n := hfd.b2
  have HN := Lib.hid hn
  obtain ⟨sm, hsm⟩ : ∃ sm, sumOf b = sm := ⟨_, rfl⟩
  have LKF := Lib.hid (show ∀ w', Below w.heap.size w w' → (Instr.lookup 64 (.map (some m)) (.string sm) true).run Tryz.prog w' = .ok (.tuple #[.agg (fiC s0 (.slice ba bn bc) su0 tv0).toArray, .bool th]) w' from fun w' hb2 => by have := HF.out.lk w' hb2; rw [hsm] at this; exact this)
  rw [hsm] at HSUM
  rw [decide_eq_false hne] at HEQ
  rw [decide_eq_true hin] at HIN
  subst hth
  clear h hb ht hK h256 hn hfd hne hus hin hsm
  go_enter Tryz.func22, Tryz.ntmps22
  go_wp2_with (first
  | (go_at_call 50; (with_reducible refine (HR.out w (Below.refl _ _)).mono ?_); rintro e w0 ⟨rfl, rfl⟩)
  | (go_at_call 35; (with_reducible refine (HP.out w).mono ?_); rintro e w0 ⟨rfl, rfl⟩)
  | (go_at_call 57; (with_reducible refine (HSUM.out w (Below.refl _ _)).mono ?_); rintro e w1 ⟨rfl, hb1⟩; have B1 := Lib.hid hb1; have c1 := (H.out.mono hb1).rp.k2.2; have lk := LKF.out w1 hb1; clear hb1)
  | ((with_reducible refine alloc_row (o := ⟨some 9, _, _, _, _, _⟩) rfl _ rfl _ FZ.out ?_); intro w2 hr hb2 hz; have R2 := Lib.hid hr; have B2 := Lib.hid (B1.out.trans (hb2.mono B1.out.size)); clear hr hb2 hz c1 lk)
  | ((with_reducible refine store_row (o := ⟨none, _, _, _, _, _⟩) rfl _ (.tmp 9) _ rfl w1.heap.size (fiC s0 (.slice ba bn bc) su0 tv0) ?_ ?_ 44 _ R2.out ?_ ?_ ?_ ?_); (focus go_simp); (focus (first | (go_simp; done) | (go_simp; rfl))); (focus (exact SZ.out)); (focus rfl); (focus (exact fi_one _ _ _ _ rfl HTC.out)); intro w3 hr hu; have R3 := Lib.hid hr; have B3 := Lib.hid (B2.out.trans (hu.below B1.out.size)); obtain ⟨q0, q1, q2, q3⟩ := hr.k4; clear hr hu q0 q2)
  | (go_at_call 58; (with_reducible refine (HEQ.out w3 B3.out).mono ?_); rintro e w4 ⟨rfl, rfl⟩; clear q1)
  | ((with_reducible refine load_rowg (o := ⟨some 36, _, _, _, _, _⟩) 1 true 35 rfl _ _ rfl w1.heap.size _ (fiC s0 (.slice ba bn bc) su0 tv0) _ R3.out Tryz.underlying44 rfl ?_ ?_ ?_ ?_ ?_); (focus rfl); (focus (first | (go_simp; done) | (go_simp; rfl))); (focus go_simp); (focus (exact SZ.out)))
  | (go_at_call 52; (with_reducible refine (HIN.out w3 B3.out).mono ?_); rintro e w5 ⟨rfl, hb5⟩; have B5 := Lib.hid (B3.out.trans (hb5.mono B3.out.size)); have R5 := Lib.hid (R3.out.below hb5 R3.out.lt); clear hb5))
  go_ret2
  exact ⟨rfl, B5.out⟩
set_option maxRecDepth 100000 in
set_option maxHeartbeats 8000000 in
theorem cput_full_false {p m T : Nat} {room : Int} {X : List FX} {S : Nat → Prop} {w : World} {th : Bool} {s0 : ByteArray} {ba : Option Addr} {bn bc su0 : Nat} {tv0 : Value} {bb : List UInt8} {tt : List Int} (a : Option Addr) (n c : Nat) (b : List UInt8) (time : Int)
    (h : CK w p m room X S) (hb : Rd w a n c b) (hn1 : 1 ≤ n ∧ n ≤ 256) (ht : SI64 time) (hK : Ks w) (hT : T ≤ 899) (h256 : ∀ x ∈ X, x.f.b.length ≤ 256) (hn : X.length ≤ 524288) (hrm : 0 ≤ room ∧ room ≤ 524288) (hus : usedC (X.map (·.f)) ≤ 524288)
    (hfd : Found w m X T b th s0 ba bn bc su0 tv0 bb tt) (hth : th = false) (hne : bb ≠ b) (hfull : room < (usedC (X.map (·.f)) : Int) - bn + n) :
    Calls Tryz.prog 22 #[.pointer (some ⟨p, 0, none⟩), .slice a n c, .int .i64 time] w fun e w' => e = .returned (.tuple #[.string ⟨#[]⟩, .int .i64 7]) ∧ Below w.heap.size w w' := by
  have H := Lib.hid h
  have HR := Lib.hid (fun w' (hb2 : Below w.heap.size w w') => cready p m room w' (h.mono hb2).rp)
  have HP := Lib.hid (pin (n : Int) 1 256 true (by unfold in64; simp; omega))
  have HSUM := Lib.hid (show ∀ w', Below w.heap.size w w' → Calls Tryz.prog 57 #[.slice a n c] w' fun e w2 => e = .returned (.string (sumOf b)) ∧ Below w'.heap.size w' w2 from fun w' hb2 => shasum_any a n c b w' (hK.below hb2 hK.pos) (hb.mono hb2) (by omega))
  have HEQ := Lib.hid (fun w' (hb2 : Below w.heap.size w w') => bequal ba a bn bc n c bb b w' (hfd.rd.mono hb2) (hb.mono hb2))
  have HIN := Lib.hid (fun w' (hb2 : Below w.heap.size w w') => cintact s0 (.slice ba bn bc) tv0 ba bn bc su0 bb w' rfl (hfd.rd.mono hb2) (by have := hfd.b2; omega) (hK.below hb2 hK.pos))
  have HCL := Lib.hid (fun w' (hb2 : Below w.heap.size w w') => fclone a n c b w' (hb.mono hb2) (by omega))
  have HWI := Lib.hid (fun w' (hb2 : Below w.heap.size w w') => cwith tv0 tt time w' (hfd.ot.kept hb2) hfd.t64 ht hfd.tr (by have := hfd.tl; omega))
  have HUS := Lib.hid (fun w' (hb2 : Below w.heap.size w w') => cused (h.mono hb2) h256 hn)
  have HF := Lib.hid hfd
  have FZ := Lib.hid file_zero
  have SZ := Lib.hid file_size
  have HTC := Lib.hid (lso_cell hfd.ot)
  have hb2n := hfd.b2
  have HN := Lib.hid hn
  obtain ⟨sm, hsm⟩ : ∃ sm, sumOf b = sm := ⟨_, rfl⟩
  have LKF := Lib.hid (show ∀ w', Below w.heap.size w w' → (Instr.lookup 64 (.map (some m)) (.string sm) true).run Tryz.prog w' = .ok (.tuple #[.agg (fiC s0 (.slice ba bn bc) su0 tv0).toArray, .bool th]) w' from fun w' hb2 => by have := HF.out.lk w' hb2; rw [hsm] at this; exact this)
  rw [hsm] at HSUM
  rw [decide_eq_false hne] at HEQ
  subst hth
  obtain ⟨U, hU⟩ : ∃ U, usedC (X.map (·.f)) = U := ⟨_, rfl⟩
  rw [hU] at HUS hfull hus
  have hw1 : IntKind.i64.wrap ((U : Int) - (bn : Int)) = (U : Int) - bn := by rw [IntKind.wrap_i64]; omega
  have hw2 : IntKind.i64.wrap ((U : Int) - (bn : Int) + (n : Int)) = (U : Int) - bn + n := by rw [IntKind.wrap_i64]; omega
  clear h hb ht hK h256 hn hfd hne  hsm hU
  go_enter Tryz.func22, Tryz.ntmps22
  go_wp2_with (first
  | (go_at_call 50; (with_reducible refine (HR.out w (Below.refl _ _)).mono ?_); rintro e w0 ⟨rfl, rfl⟩)
  | (go_at_call 35; (with_reducible refine (HP.out w).mono ?_); rintro e w0 ⟨rfl, rfl⟩)
  | (go_at_call 57; (with_reducible refine (HSUM.out w (Below.refl _ _)).mono ?_); rintro e w1 ⟨rfl, hb1⟩; have B1 := Lib.hid hb1; have c1 := (H.out.mono hb1).rp.k2.2; have lk := LKF.out w1 hb1; clear hb1)
  | ((with_reducible refine alloc_row (o := ⟨some 9, _, _, _, _, _⟩) rfl _ rfl _ FZ.out ?_); intro w2 hr hb2 hz; have R2 := Lib.hid hr; have B2 := Lib.hid (B1.out.trans (hb2.mono B1.out.size)); clear hr hb2 hz c1 lk)
  | ((with_reducible refine store_row (o := ⟨none, _, _, _, _, _⟩) rfl _ (.tmp 9) _ rfl w1.heap.size (fiC s0 (.slice ba bn bc) su0 tv0) ?_ ?_ 44 _ R2.out ?_ ?_ ?_ ?_); (focus go_simp); (focus (first | (go_simp; done) | (go_simp; rfl))); (focus (exact SZ.out)); (focus rfl); (focus (exact fi_one _ _ _ _ rfl HTC.out)); intro w3 hr hu; have R3 := Lib.hid hr; have B3 := Lib.hid (B2.out.trans (hu.below B1.out.size)); obtain ⟨q0, q1, q2, q3⟩ := hr.k4; clear hr hu q0 q2)
  | (go_at_call 58; (with_reducible refine (HEQ.out w3 B3.out).mono ?_); rintro e w4 ⟨rfl, rfl⟩; clear q1))
  have D5 : Hid (Below w3.heap.size w3 w3.drew) := Lib.hid (Below.refl _ _).drew
  have C0 := Lib.hid (H.out.mono B3.out)
  refine region_h (fun v => Below w3.heap.size w3 v) (by kernel_rfl) (by kernel_rfl) D5.out ?_
  obtain ⟨wd, hwd⟩ : ∃ wd, w3.drew = wd := ⟨_, rfl⟩
  rw [hwd] at D5 ⊢
  clear hwd
  (refine h_read 0 rfl (by kernel_rfl) (by kernel_rfl) (h_free rfl) ?_ ?_ ?_; rotate_left; (focus (intro v hv; go_simp; rfl)); go_simp)
  (refine h_read 2 rfl (by kernel_rfl) (by kernel_rfl) (h_free rfl) ?_ ?_ ?_; rotate_left; (focus (intro v hv; go_simp; rfl)); go_simp)
  (refine h_read 3 rfl (by kernel_rfl) (by kernel_rfl) (h_free rfl) ?_ ?_ ?_; rotate_left; (focus (intro v hv; have c0 := (hv.cell (p := ⟨p, 0, none⟩) C0.out.rp.lt).trans C0.out.rp.k2.1; have q1 := (hv.cell (p := ⟨w1.heap.size, 1, none⟩) R3.out.lt).trans R3.out.k4.2.1; go_simp; rfl)); go_simp)
  (refine h_read 4 rfl (by kernel_rfl) (by kernel_rfl) (h_free rfl) ?_ ?_ ?_; rotate_left; (focus (intro v hv; go_simp; rfl)); go_simp)
  (refine h_read 6 rfl (by kernel_rfl) (by kernel_rfl) (h_free rfl) ?_ ?_ ?_; rotate_left; (focus (intro v hv; go_simp; rfl)); go_simp)
  (refine h_read 7 rfl (by kernel_rfl) (by kernel_rfl) (h_free rfl) ?_ ?_ ?_; rotate_left; (focus (intro v hv; go_simp; rfl)); go_simp)
  (refine h_read 9 rfl (by kernel_rfl) (by kernel_rfl) (h_free rfl) ?_ ?_ ?_; rotate_left; (focus (intro v hv; go_simp; rfl)); go_simp)
  (refine h_read 10 rfl (by kernel_rfl) (by kernel_rfl) (h_free rfl) ?_ ?_ ?_; rotate_left; (focus (intro v hv; go_simp; rfl)); go_simp)
  (refine h_read 11 rfl (by kernel_rfl) (by kernel_rfl) (h_free rfl) ?_ ?_ ?_; rotate_left; (focus (intro v hv; go_simp; rfl)); go_simp)
  (refine h_read 12 rfl (by kernel_rfl) (by kernel_rfl) (h_free rfl) ?_ ?_ ?_; rotate_left; (focus (intro v hv; have c0 := (hv.cell (p := ⟨p, 0, none⟩) C0.out.rp.lt).trans C0.out.rp.k2.1; have q1 := (hv.cell (p := ⟨w1.heap.size, 1, none⟩) R3.out.lt).trans R3.out.k4.2.1; go_simp; rfl)); go_simp)
  (refine h_call 1 rfl (by kernel_rfl) (h_free rfl) 14 ?_ ?_ ?_; rotate_left; (focus (go_simp; rfl)))
  refine (HUS.out wd (B3.out.trans (D5.out.mono B3.out.size))).mono ?_
  rintro e w6 ⟨rfl, hb6⟩
  have B6 := Lib.hid (D5.out.trans (hb6.mono D5.out.size))
  clear hb6
  refine ⟨_, rfl, B6.out, ?_⟩
  go_simp
  (refine h_read 5 rfl (by kernel_rfl) (by kernel_rfl) (h_free rfl) ?_ ?_ ?_; rotate_left; (focus (intro v hv; go_simp; rfl)); go_simp)
  (refine h_read 8 rfl (by kernel_rfl) (by kernel_rfl) (h_free rfl) ?_ ?_ ?_; rotate_left; (focus (intro v hv; go_simp; rfl)); go_simp)
  (refine h_read 13 rfl (by kernel_rfl) (by kernel_rfl) (h_free rfl) ?_ ?_ ?_; rotate_left; (focus (intro v hv; go_simp; rfl)); go_simp)
  refine h_done (by kernel_rfl) ?_
  go_wp2_with fail
  go_ret2
  exact ⟨rfl, B3.out.trans (B6.out.mono B3.out.size)⟩
set_option maxRecDepth 100000 in
set_option maxHeartbeats 8000000 in
theorem cput_full_true {p m T : Nat} {room : Int} {X : List FX} {S : Nat → Prop} {w : World} {th : Bool} {s0 : ByteArray} {ba : Option Addr} {bn bc su0 : Nat} {tv0 : Value} {bb : List UInt8} {tt : List Int} (a : Option Addr) (n c : Nat) (b : List UInt8) (time : Int)
    (h : CK w p m room X S) (hb : Rd w a n c b) (hn1 : 1 ≤ n ∧ n ≤ 256) (ht : SI64 time) (hK : Ks w) (hT : T ≤ 899) (h256 : ∀ x ∈ X, x.f.b.length ≤ 256) (hn : X.length ≤ 524288) (hrm : 0 ≤ room ∧ room ≤ 524288) (hus : usedC (X.map (·.f)) ≤ 524288)
    (hfd : Found w m X T b th s0 ba bn bc su0 tv0 bb tt) (hth : th = true) (hne : bb ≠ b) (hin : ¬ sumOf bb = s0) (hfull : room < (usedC (X.map (·.f)) : Int) - bn + n) :
    Calls Tryz.prog 22 #[.pointer (some ⟨p, 0, none⟩), .slice a n c, .int .i64 time] w fun e w' => e = .returned (.tuple #[.string ⟨#[]⟩, .int .i64 7]) ∧ Below w.heap.size w w' := by
  have H := Lib.hid h
  have HR := Lib.hid (fun w' (hb2 : Below w.heap.size w w') => cready p m room w' (h.mono hb2).rp)
  have HP := Lib.hid (pin (n : Int) 1 256 true (by unfold in64; simp; omega))
  have HSUM := Lib.hid (show ∀ w', Below w.heap.size w w' → Calls Tryz.prog 57 #[.slice a n c] w' fun e w2 => e = .returned (.string (sumOf b)) ∧ Below w'.heap.size w' w2 from fun w' hb2 => shasum_any a n c b w' (hK.below hb2 hK.pos) (hb.mono hb2) (by omega))
  have HEQ := Lib.hid (fun w' (hb2 : Below w.heap.size w w') => bequal ba a bn bc n c bb b w' (hfd.rd.mono hb2) (hb.mono hb2))
  have HIN := Lib.hid (fun w' (hb2 : Below w.heap.size w w') => cintact s0 (.slice ba bn bc) tv0 ba bn bc su0 bb w' rfl (hfd.rd.mono hb2) (by have := hfd.b2; omega) (hK.below hb2 hK.pos))
  have HCL := Lib.hid (fun w' (hb2 : Below w.heap.size w w') => fclone a n c b w' (hb.mono hb2) (by omega))
  have HWI := Lib.hid (fun w' (hb2 : Below w.heap.size w w') => cwith tv0 tt time w' (hfd.ot.kept hb2) hfd.t64 ht hfd.tr (by have := hfd.tl; omega))
  have HUS := Lib.hid (fun w' (hb2 : Below w.heap.size w w') => cused (h.mono hb2) h256 hn)
  have HF := Lib.hid hfd
  have FZ := Lib.hid file_zero
  have SZ := Lib.hid file_size
  have HTC := Lib.hid (lso_cell hfd.ot)
  have hb2n := hfd.b2
  have HN := Lib.hid hn
  obtain ⟨sm, hsm⟩ : ∃ sm, sumOf b = sm := ⟨_, rfl⟩
  have LKF := Lib.hid (show ∀ w', Below w.heap.size w w' → (Instr.lookup 64 (.map (some m)) (.string sm) true).run Tryz.prog w' = .ok (.tuple #[.agg (fiC s0 (.slice ba bn bc) su0 tv0).toArray, .bool th]) w' from fun w' hb2 => by have := HF.out.lk w' hb2; rw [hsm] at this; exact this)
  rw [hsm] at HSUM
  rw [decide_eq_false hne] at HEQ
  rw [decide_eq_false hin] at HIN
  subst hth
  obtain ⟨U, hU⟩ : ∃ U, usedC (X.map (·.f)) = U := ⟨_, rfl⟩
  rw [hU] at HUS hfull hus
  have hw1 : IntKind.i64.wrap ((U : Int) - (bn : Int)) = (U : Int) - bn := by rw [IntKind.wrap_i64]; omega
  have hw2 : IntKind.i64.wrap ((U : Int) - (bn : Int) + (n : Int)) = (U : Int) - bn + n := by rw [IntKind.wrap_i64]; omega
  clear h hb ht hK h256 hn hfd hne hin hsm hU
  go_enter Tryz.func22, Tryz.ntmps22
  go_wp2_with (first
  | (go_at_call 50; (with_reducible refine (HR.out w (Below.refl _ _)).mono ?_); rintro e w0 ⟨rfl, rfl⟩)
  | (go_at_call 35; (with_reducible refine (HP.out w).mono ?_); rintro e w0 ⟨rfl, rfl⟩)
  | (go_at_call 57; (with_reducible refine (HSUM.out w (Below.refl _ _)).mono ?_); rintro e w1 ⟨rfl, hb1⟩; have B1 := Lib.hid hb1; have c1 := (H.out.mono hb1).rp.k2.2; have lk := LKF.out w1 hb1; clear hb1)
  | ((with_reducible refine alloc_row (o := ⟨some 9, _, _, _, _, _⟩) rfl _ rfl _ FZ.out ?_); intro w2 hr hb2 hz; have R2 := Lib.hid hr; have B2 := Lib.hid (B1.out.trans (hb2.mono B1.out.size)); clear hr hb2 hz c1 lk)
  | ((with_reducible refine store_row (o := ⟨none, _, _, _, _, _⟩) rfl _ (.tmp 9) _ rfl w1.heap.size (fiC s0 (.slice ba bn bc) su0 tv0) ?_ ?_ 44 _ R2.out ?_ ?_ ?_ ?_); (focus go_simp); (focus (first | (go_simp; done) | (go_simp; rfl))); (focus (exact SZ.out)); (focus rfl); (focus (exact fi_one _ _ _ _ rfl HTC.out)); intro w3 hr hu; have R3 := Lib.hid hr; have B3 := Lib.hid (B2.out.trans (hu.below B1.out.size)); obtain ⟨q0, q1, q2, q3⟩ := hr.k4; clear hr hu q0 q2)
  | (go_at_call 58; (with_reducible refine (HEQ.out w3 B3.out).mono ?_); rintro e w4 ⟨rfl, rfl⟩; clear q1)
  | ((with_reducible refine load_rowg (o := ⟨some 36, _, _, _, _, _⟩) 1 true 35 rfl _ _ rfl w1.heap.size _ (fiC s0 (.slice ba bn bc) su0 tv0) _ R3.out Tryz.underlying44 rfl ?_ ?_ ?_ ?_ ?_); (focus rfl); (focus (first | (go_simp; done) | (go_simp; rfl))); (focus go_simp); (focus (exact SZ.out)))
  | (go_at_call 52; (with_reducible refine (HIN.out w3 B3.out).mono ?_); rintro e w5 ⟨rfl, hb5⟩; have B5 := Lib.hid (B3.out.trans (hb5.mono B3.out.size)); have R5 := Lib.hid (R3.out.below hb5 R3.out.lt); clear hb5))
  have D5 : Hid (Below w5.heap.size w5 w5.drew) := Lib.hid (Below.refl _ _).drew
  have C0 := Lib.hid (H.out.mono B5.out)
  refine region_h (fun v => Below w5.heap.size w5 v) (by kernel_rfl) (by kernel_rfl) D5.out ?_
  obtain ⟨wd, hwd⟩ : ∃ wd, w5.drew = wd := ⟨_, rfl⟩
  rw [hwd] at D5 ⊢
  clear hwd
  (refine h_read 0 rfl (by kernel_rfl) (by kernel_rfl) (h_free rfl) ?_ ?_ ?_; rotate_left; (focus (intro v hv; go_simp; rfl)); go_simp)
  (refine h_read 2 rfl (by kernel_rfl) (by kernel_rfl) (h_free rfl) ?_ ?_ ?_; rotate_left; (focus (intro v hv; go_simp; rfl)); go_simp)
  (refine h_read 3 rfl (by kernel_rfl) (by kernel_rfl) (h_free rfl) ?_ ?_ ?_; rotate_left; (focus (intro v hv; have c0 := (hv.cell (p := ⟨p, 0, none⟩) C0.out.rp.lt).trans C0.out.rp.k2.1; have q1 := (hv.cell (p := ⟨w1.heap.size, 1, none⟩) R5.out.lt).trans R5.out.k4.2.1; go_simp; rfl)); go_simp)
  (refine h_read 4 rfl (by kernel_rfl) (by kernel_rfl) (h_free rfl) ?_ ?_ ?_; rotate_left; (focus (intro v hv; go_simp; rfl)); go_simp)
  (refine h_read 6 rfl (by kernel_rfl) (by kernel_rfl) (h_free rfl) ?_ ?_ ?_; rotate_left; (focus (intro v hv; go_simp; rfl)); go_simp)
  (refine h_read 7 rfl (by kernel_rfl) (by kernel_rfl) (h_free rfl) ?_ ?_ ?_; rotate_left; (focus (intro v hv; go_simp; rfl)); go_simp)
  (refine h_read 9 rfl (by kernel_rfl) (by kernel_rfl) (h_free rfl) ?_ ?_ ?_; rotate_left; (focus (intro v hv; go_simp; rfl)); go_simp)
  (refine h_read 10 rfl (by kernel_rfl) (by kernel_rfl) (h_free rfl) ?_ ?_ ?_; rotate_left; (focus (intro v hv; go_simp; rfl)); go_simp)
  (refine h_read 11 rfl (by kernel_rfl) (by kernel_rfl) (h_free rfl) ?_ ?_ ?_; rotate_left; (focus (intro v hv; go_simp; rfl)); go_simp)
  (refine h_read 12 rfl (by kernel_rfl) (by kernel_rfl) (h_free rfl) ?_ ?_ ?_; rotate_left; (focus (intro v hv; have c0 := (hv.cell (p := ⟨p, 0, none⟩) C0.out.rp.lt).trans C0.out.rp.k2.1; have q1 := (hv.cell (p := ⟨w1.heap.size, 1, none⟩) R5.out.lt).trans R5.out.k4.2.1; go_simp; rfl)); go_simp)
  (refine h_call 1 rfl (by kernel_rfl) (h_free rfl) 14 ?_ ?_ ?_; rotate_left; (focus (go_simp; rfl)))
  refine (HUS.out wd (B5.out.trans (D5.out.mono B5.out.size))).mono ?_
  rintro e w6 ⟨rfl, hb6⟩
  have B6 := Lib.hid (D5.out.trans (hb6.mono D5.out.size))
  clear hb6
  refine ⟨_, rfl, B6.out, ?_⟩
  go_simp
  (refine h_read 5 rfl (by kernel_rfl) (by kernel_rfl) (h_free rfl) ?_ ?_ ?_; rotate_left; (focus (intro v hv; go_simp; rfl)); go_simp)
  (refine h_read 8 rfl (by kernel_rfl) (by kernel_rfl) (h_free rfl) ?_ ?_ ?_; rotate_left; (focus (intro v hv; go_simp; rfl)); go_simp)
  (refine h_read 13 rfl (by kernel_rfl) (by kernel_rfl) (h_free rfl) ?_ ?_ ?_; rotate_left; (focus (intro v hv; go_simp; rfl)); go_simp)
  refine h_done (by kernel_rfl) ?_
  go_wp2_with fail
  go_ret2
  exact ⟨rfl, B5.out.trans (B6.out.mono B5.out.size)⟩
set_option maxRecDepth 100000 in
set_option maxHeartbeats 8000000 in
theorem cput_new_false {p m T : Nat} {room : Int} {X : List FX} {S : Nat → Prop} {w : World} {th : Bool} {s0 : ByteArray} {ba : Option Addr} {bn bc su0 : Nat} {tv0 : Value} {bb : List UInt8} {tt : List Int} (a : Option Addr) (n c : Nat) (b : List UInt8) (time : Int)
    (h : CK w p m room X S) (hb : Rd w a n c b) (hn1 : 1 ≤ n ∧ n ≤ 256) (ht : SI64 time) (hK : Ks w) (hT : T ≤ 899) (h256 : ∀ x ∈ X, x.f.b.length ≤ 256) (hn : X.length ≤ 524288) (hrm : 0 ≤ room ∧ room ≤ 524288) (hus : usedC (X.map (·.f)) ≤ 524288)
    (hfd : Found w m X T b th s0 ba bn bc su0 tv0 bb tt) (hth : th = false) (hne : bb ≠ b) (hfull : ¬ room < (usedC (X.map (·.f)) : Int) - bn + n) :
    Calls Tryz.prog 22 #[.pointer (some ⟨p, 0, none⟩), .slice a n c, .int .i64 time] w fun e w' => e = .returned (.tuple #[.string (sumOf b), .int .i64 0]) ∧ ∃ y : FX, y.f = ⟨sumOf b, b, 0, timedL tt time⟩ ∧ CK w' p m room (putX X y) (fun k => S k ∨ (w.heap.size ≤ k ∧ k < w'.heap.size)) ∧ Ft S w w' := by
  have H := Lib.hid h
  have HR := Lib.hid (fun w' (hb2 : Below w.heap.size w w') => cready p m room w' (h.mono hb2).rp)
  have HP := Lib.hid (pin (n : Int) 1 256 true (by unfold in64; simp; omega))
  have HSUM := Lib.hid (show ∀ w', Below w.heap.size w w' → Calls Tryz.prog 57 #[.slice a n c] w' fun e w2 => e = .returned (.string (sumOf b)) ∧ Below w'.heap.size w' w2 from fun w' hb2 => shasum_any a n c b w' (hK.below hb2 hK.pos) (hb.mono hb2) (by omega))
  have HEQ := Lib.hid (fun w' (hb2 : Below w.heap.size w w') => bequal ba a bn bc n c bb b w' (hfd.rd.mono hb2) (hb.mono hb2))
  have HIN := Lib.hid (fun w' (hb2 : Below w.heap.size w w') => cintact s0 (.slice ba bn bc) tv0 ba bn bc su0 bb w' rfl (hfd.rd.mono hb2) (by have := hfd.b2; omega) (hK.below hb2 hK.pos))
  have HCL := Lib.hid (fun w' (hb2 : Below w.heap.size w w') => fclone a n c b w' (hb.mono hb2) (by omega))
  have HWI := Lib.hid (fun w' (hb2 : Below w.heap.size w w') => cwith tv0 tt time w' (hfd.ot.kept hb2) hfd.t64 ht hfd.tr (by have := hfd.tl; omega))
  have HUS := Lib.hid (fun w' (hb2 : Below w.heap.size w w') => cused (h.mono hb2) h256 hn)
  have HF := Lib.hid hfd
  have FZ := Lib.hid file_zero
  have SZ := Lib.hid file_size
  have HTC := Lib.hid (lso_cell hfd.ot)
  have hb2n := hfd.b2
  have HN := Lib.hid hn
  have HNO := Lib.hid (hfd.no hth).2
  have HSZ := Lib.hid (show (sumOf b).size ≤ maxLen by rw [sumOf_size]; decide)
  have HRIS := Lib.hid h.sm.ris
  obtain ⟨sm, hsm⟩ : ∃ sm, sumOf b = sm := ⟨_, rfl⟩
  have LKF := Lib.hid (show ∀ w', Below w.heap.size w w' → (Instr.lookup 64 (.map (some m)) (.string sm) true).run Tryz.prog w' = .ok (.tuple #[.agg (fiC s0 (.slice ba bn bc) su0 tv0).toArray, .bool th]) w' from fun w' hb2 => by have := HF.out.lk w' hb2; rw [hsm] at this; exact this)
  rw [hsm] at HSUM HSZ ⊢
  rw [decide_eq_false hne] at HEQ
  subst hth
  obtain ⟨U, hU⟩ : ∃ U, usedC (X.map (·.f)) = U := ⟨_, rfl⟩
  rw [hU] at HUS hfull hus
  have hw1 : IntKind.i64.wrap ((U : Int) - (bn : Int)) = (U : Int) - bn := by rw [IntKind.wrap_i64]; omega
  have hw2 : IntKind.i64.wrap ((U : Int) - (bn : Int) + (n : Int)) = (U : Int) - bn + n := by rw [IntKind.wrap_i64]; omega
  have hfull2 : (U : Int) - bn + n ≤ room := by omega
  clear h hb ht hK h256 hn hfd hne  hsm hU hfull
  go_enter Tryz.func22, Tryz.ntmps22
  go_wp2_with (first
  | (go_at_call 50; (with_reducible refine (HR.out w (Below.refl _ _)).mono ?_); rintro e w0 ⟨rfl, rfl⟩)
  | (go_at_call 35; (with_reducible refine (HP.out w).mono ?_); rintro e w0 ⟨rfl, rfl⟩)
  | (go_at_call 57; (with_reducible refine (HSUM.out w (Below.refl _ _)).mono ?_); rintro e w1 ⟨rfl, hb1⟩; have B1 := Lib.hid hb1; have c1 := (H.out.mono hb1).rp.k2.2; have lk := LKF.out w1 hb1; clear hb1)
  | ((with_reducible refine alloc_row (o := ⟨some 9, _, _, _, _, _⟩) rfl _ rfl _ FZ.out ?_); intro w2 hr hb2 hz; have R2 := Lib.hid hr; have B2 := Lib.hid (B1.out.trans (hb2.mono B1.out.size)); clear hr hb2 hz c1 lk)
  | ((with_reducible refine store_row (o := ⟨none, _, _, _, _, _⟩) rfl _ (.tmp 9) _ rfl w1.heap.size (fiC s0 (.slice ba bn bc) su0 tv0) ?_ ?_ 44 _ R2.out ?_ ?_ ?_ ?_); (focus go_simp); (focus (first | (go_simp; done) | (go_simp; rfl))); (focus (exact SZ.out)); (focus rfl); (focus (exact fi_one _ _ _ _ rfl HTC.out)); intro w3 hr hu; have R3 := Lib.hid hr; have B3 := Lib.hid (B2.out.trans (hu.below B1.out.size)); obtain ⟨q0, q1, q2, q3⟩ := hr.k4; clear hr hu q0 q2)
  | (go_at_call 58; (with_reducible refine (HEQ.out w3 B3.out).mono ?_); rintro e w4 ⟨rfl, rfl⟩; clear q1))
  have D5 : Hid (Below w3.heap.size w3 w3.drew) := Lib.hid (Below.refl _ _).drew
  have C0 := Lib.hid (H.out.mono B3.out)
  refine region_h (fun v => Below w3.heap.size w3 v) (by kernel_rfl) (by kernel_rfl) D5.out ?_
  obtain ⟨wd, hwd⟩ : ∃ wd, w3.drew = wd := ⟨_, rfl⟩
  rw [hwd] at D5 ⊢
  clear hwd
  (refine h_read 0 rfl (by kernel_rfl) (by kernel_rfl) (h_free rfl) ?_ ?_ ?_; rotate_left; (focus (intro v hv; go_simp; rfl)); go_simp)
  (refine h_read 2 rfl (by kernel_rfl) (by kernel_rfl) (h_free rfl) ?_ ?_ ?_; rotate_left; (focus (intro v hv; go_simp; rfl)); go_simp)
  (refine h_read 3 rfl (by kernel_rfl) (by kernel_rfl) (h_free rfl) ?_ ?_ ?_; rotate_left; (focus (intro v hv; have c0 := (hv.cell (p := ⟨p, 0, none⟩) C0.out.rp.lt).trans C0.out.rp.k2.1; have q1 := (hv.cell (p := ⟨w1.heap.size, 1, none⟩) R3.out.lt).trans R3.out.k4.2.1; go_simp; rfl)); go_simp)
  (refine h_read 4 rfl (by kernel_rfl) (by kernel_rfl) (h_free rfl) ?_ ?_ ?_; rotate_left; (focus (intro v hv; go_simp; rfl)); go_simp)
  (refine h_read 6 rfl (by kernel_rfl) (by kernel_rfl) (h_free rfl) ?_ ?_ ?_; rotate_left; (focus (intro v hv; go_simp; rfl)); go_simp)
  (refine h_read 7 rfl (by kernel_rfl) (by kernel_rfl) (h_free rfl) ?_ ?_ ?_; rotate_left; (focus (intro v hv; go_simp; rfl)); go_simp)
  (refine h_read 9 rfl (by kernel_rfl) (by kernel_rfl) (h_free rfl) ?_ ?_ ?_; rotate_left; (focus (intro v hv; go_simp; rfl)); go_simp)
  (refine h_read 10 rfl (by kernel_rfl) (by kernel_rfl) (h_free rfl) ?_ ?_ ?_; rotate_left; (focus (intro v hv; go_simp; rfl)); go_simp)
  (refine h_read 11 rfl (by kernel_rfl) (by kernel_rfl) (h_free rfl) ?_ ?_ ?_; rotate_left; (focus (intro v hv; go_simp; rfl)); go_simp)
  (refine h_read 12 rfl (by kernel_rfl) (by kernel_rfl) (h_free rfl) ?_ ?_ ?_; rotate_left; (focus (intro v hv; have c0 := (hv.cell (p := ⟨p, 0, none⟩) C0.out.rp.lt).trans C0.out.rp.k2.1; have q1 := (hv.cell (p := ⟨w1.heap.size, 1, none⟩) R3.out.lt).trans R3.out.k4.2.1; go_simp; rfl)); go_simp)
  (refine h_call 1 rfl (by kernel_rfl) (h_free rfl) 14 ?_ ?_ ?_; rotate_left; (focus (go_simp; rfl)))
  refine (HUS.out wd (B3.out.trans (D5.out.mono B3.out.size))).mono ?_
  rintro e w6 ⟨rfl, hb6⟩
  have B6 := Lib.hid (D5.out.trans (hb6.mono D5.out.size))
  clear hb6
  refine ⟨_, rfl, B6.out, ?_⟩
  go_simp
  (refine h_read 5 rfl (by kernel_rfl) (by kernel_rfl) (h_free rfl) ?_ ?_ ?_; rotate_left; (focus (intro v hv; go_simp; rfl)); go_simp)
  (refine h_read 8 rfl (by kernel_rfl) (by kernel_rfl) (h_free rfl) ?_ ?_ ?_; rotate_left; (focus (intro v hv; go_simp; rfl)); go_simp)
  (refine h_read 13 rfl (by kernel_rfl) (by kernel_rfl) (h_free rfl) ?_ ?_ ?_; rotate_left; (focus (intro v hv; go_simp; rfl)); go_simp)
  refine h_done (by kernel_rfl) ?_
  have BT6 := Lib.hid (B3.out.trans (B6.out.mono B3.out.size))
  have R6 := Lib.hid (R3.out.below B6.out R3.out.lt)
  have L16 := Lib.hid (show w1.heap.size < w6.heap.size from Nat.lt_of_lt_of_le R6.out.lt (Nat.le_refl _))
  go_wp2_with (first
    | (go_at_call 53; (with_reducible refine (HCL.out w6 BT6.out).mono ?_); rintro e w7 ⟨v7, rfl, hf7, hb7⟩; have V7 := Lib.hid hf7; have B7 := Lib.hid (BT6.out.trans (hb7.mono BT6.out.size)); have R7 := Lib.hid (R6.out.below hb7 R6.out.lt); have V7O := Lib.hid (fun g e => (World.ownsRow.lt V7.out g e).1); have VC := Lib.hid (fr_cell hf7); have VO := Lib.hid (fr_one hf7); clear hf7 hb7)
    | ((with_reducible refine store_cell (o := ⟨none, _, _, _, _, _⟩) rfl _ (.tmp 56) _ rfl w1.heap.size 0 (.string sm) ?_ ?_ rfl rfl 44 _ R7.out size_str ?_ ?_); (focus go_simp); (focus (first | (go_simp; done) | (go_simp; rfl))); (focus (show 0 < 4; decide)); intro w8 hr hu; have R8 := Lib.hid (show Row w8 w1.heap.size 44 (fiC sm (.slice ba bn bc) su0 tv0) from hr); have V8 := Lib.hid (V7.out.keep fun g e => hu.block g (Nat.ne_of_gt (Nat.lt_of_lt_of_le L16.out (V7O.out g e)))); have B8 := Lib.hid (B7.out.trans (hu.below B1.out.size)); clear hr hu)
    | ((with_reducible refine store_cell (o := ⟨none, _, _, _, _, _⟩) rfl _ (.tmp 57) _ rfl w1.heap.size 1 v7 ?_ ?_ VC.out VO.out 44 _ R8.out size_bs ?_ ?_); (focus go_simp); (focus (first | (go_simp; done) | (go_simp; rfl))); (focus (show 1 < 4; decide)); intro w9 hr hu; have R9 := Lib.hid (show Row w9 w1.heap.size 44 (fiC sm v7 su0 tv0) from hr); have V9 := Lib.hid (V8.out.keep fun g e => hu.block g (Nat.ne_of_gt (Nat.lt_of_lt_of_le L16.out (V7O.out g e)))); have B9 := Lib.hid (B8.out.trans (hu.below B1.out.size)); clear hr hu)
    | ((with_reducible refine store_cell (o := ⟨none, _, _, _, _, _⟩) rfl _ (.tmp 58) _ rfl w1.heap.size 2 (.int .i64 0) ?_ ?_ rfl rfl 44 _ R9.out size_int ?_ ?_); (focus go_simp); (focus (first | (go_simp; done) | (go_simp; rfl))); (focus (show 2 < 4; decide)); intro w10 hr hu; have R10 := Lib.hid (show Row w10 w1.heap.size 44 (fiC sm v7 0 tv0) from hr); have V10 := Lib.hid (V9.out.keep fun g e => hu.block g (Nat.ne_of_gt (Nat.lt_of_lt_of_le L16.out (V7O.out g e)))); have B10 := Lib.hid (B9.out.trans (hu.below B1.out.size)); obtain ⟨r0, r1, r2, r3⟩ := hr.k4; clear hr hu r0 r1 r2)
    | (go_at_call 59; (with_reducible refine (HWI.out w10 B10.out).mono ?_); rintro e w11 ⟨v11, rfl, hl5, ho5, hb5, hk5⟩; have O11 := Lib.hid hl5; have W11 := Lib.hid ho5; have K11 := Lib.hid (kp_below B10.out hk5); have BB11 := Lib.hid hb5; have R11 := Lib.hid (R10.out.keepK hk5 (fun e => Nat.lt_irrefl _ (Nat.lt_of_lt_of_le (HF.out.ot.blt e) B1.out.size))); have V11 := Lib.hid (V10.out.keep fun g e => hk5 g (V10.out.blt e) (fun e2 => Nat.lt_irrefl g (Nat.lt_of_lt_of_le (HF.out.ot.blt e2) (Nat.le_trans BT6.out.size (V7O.out g e))))); clear hl5 ho5 hb5 hk5 r3)
    | ((with_reducible refine store_cell (o := ⟨none, _, _, _, _, _⟩) rfl _ (.tmp 63) _ rfl w1.heap.size 3 v11 ?_ ?_ ?_ ?_ 44 _ R11.out size_is ?_ ?_); (focus go_simp); (focus (first | (go_simp; done) | (go_simp; rfl))); (focus (exact lso_cells O11.out)); (focus (exact lso_cell O11.out)); (focus (show 3 < 4; decide)); intro w12 hr hu; have R12 := Lib.hid (show Row w12 w1.heap.size 44 (fiC sm v7 0 v11) from hr); have U12 := Lib.hid hu; clear hr hu))
  have Z12 := Lib.hid (((B10.out.mono (Nat.zero_le _)).trans BB11.out).trans (U12.out.below (Nat.zero_le _)))
  have KW := Lib.hid (show ∀ g, g < w.heap.size → tv0.ownBlock ≠ some g → w12.heap[g]? = w.heap[g]? from fun g hg hn => (U12.out.block g (fun e => Nat.lt_irrefl _ (Nat.lt_of_lt_of_le (by rw [← e]; exact hg) B1.out.size))).trans (K11.out g hg hn))
  have O12 := Lib.hid (O11.out.upd U12.out (fun e => (lso_ty O11.out e).ne R11.out.ty (by decide) rfl))
  have V12 := Lib.hid (V11.out.keep fun g e => U12.out.block g (Nat.ne_of_gt (Nat.lt_of_lt_of_le L16.out (V7O.out g e))))
  have TM := Lib.hid (show tv0.ownBlock ≠ some m ∧ tv0.ownBlock ≠ some p from by rw [HNO.out.1]; exact ⟨fun e => (by cases e), fun e => (by cases e)⟩)
  have P12 := Lib.hid (show Row w12 p 66 [.int .i64 room, .map (some m)] from (KW.out p H.out.rp.lt TM.out.2).trans H.out.rp)
  have S12 := Lib.hid (H.out.sm.block (KW.out m H.out.sm.lt TM.out.1))
  have D12 : Hid (Below w12.heap.size w12 w12.drew) := Lib.hid (Below.refl _ _).drew
  refine region_t (fun v => Below w12.heap.size w12 v) 6 (by kernel_rfl) (by kernel_rfl) (by kernel_rfl) D12.out ?_
  obtain ⟨wz, hwz⟩ : ∃ wz, w12.drew = wz := ⟨_, rfl⟩
  rw [hwz] at D12 ⊢
  clear hwz
  (refine t_read 0 rfl (by kernel_rfl) (by kernel_rfl) (by kernel_rfl) (t_free rfl) ?_ ?_ ?_; rotate_left; (focus (intro v hv; go_simp; rfl)); go_simp)
  (refine t_read 1 rfl (by kernel_rfl) (by kernel_rfl) (by kernel_rfl) (t_free rfl) ?_ ?_ ?_; rotate_left; (focus (intro v hv; go_simp; rfl)); go_simp)
  (refine t_read 2 rfl (by kernel_rfl) (by kernel_rfl) (by kernel_rfl) (t_free rfl) ?_ ?_ ?_; rotate_left; (focus (intro v hv; go_simp; rfl)); go_simp)
  (refine t_read 3 rfl (by kernel_rfl) (by kernel_rfl) (by kernel_rfl) (t_free rfl) ?_ ?_ ?_; rotate_left; (focus (intro v hv; have c1 := (hv.cell (p := ⟨p, 1, none⟩) P12.out.lt).trans P12.out.k2.2; go_simp; rfl)); go_simp)
  (refine t_read 4 rfl (by kernel_rfl) (by kernel_rfl) (by kernel_rfl) (t_free rfl) ?_ ?_ ?_; rotate_left; (focus (intro v hv; go_simp; rfl)); go_simp)
  (refine t_read 5 rfl (by kernel_rfl) (by kernel_rfl) (by kernel_rfl) (t_free rfl) ?_ ?_ ?_; rotate_left; (focus (intro v hv; refine lg_all 44 (.tmp 9) ?_ w1.heap.size ?_ _ _ _ (R12.out.below hv R12.out.lt) Tryz.underlying44 rfl SZ.out; (focus rfl); (focus go_simp))); go_simp)
  (refine t_last 6 rfl (by kernel_rfl) rfl (by kernel_rfl) (by kernel_rfl) ?_; intro K hK)
  refine map_put rfl _ _ _ 64 44 rfl map_type m _ _ (by go_simp) (S12.out.kept D12.out) (by have := HN.out; omega) sm (.agg (fiC sm v7 0 v11).toArray) (by go_simp) HSZ.out (by go_simp) (MX (putX X ⟨⟨sm, b, 0, timedL tt time⟩, v7, v11⟩)) (put_ris HRIS.out) (fun q => put_mx (y := ⟨⟨sm, b, 0, timedL tt time⟩, v7, v11⟩) HRIS.out q) ?_
  intro w13 hsm7 hg7 hz7
  refine hK _ _ ?_
  have ZD := Z12.out.trans (D12.out.mono (Nat.zero_le _))
  have hwl : w.heap.size ≤ w12.heap.size := by rw [U12.out.size]; exact Nat.le_trans B10.out.size BB11.out.size
  have KD : ∀ g, g < w.heap.size → tv0.ownBlock ≠ some g → wz.heap[g]? = w.heap[g]? := fun g hg hn => (D12.out.block g (Nat.lt_of_lt_of_le hg hwl)).trans (KW.out g hg hn)
  have PP := H.out.put (w1 := wz) (w2 := w13) (y := ⟨⟨sm, b, 0, timedL tt time⟩, v7, v11⟩) tv0.ownBlock KD (Nat.le_trans hwl D12.out.size) (fun g e => by rw [HNO.out.1] at e; cases e) (by have := hsm7.tight; rw [mx_len] at this; exact this) hg7
    ((V12.out.base (Nat.zero_le _)).kept D12.out) (O12.out.kept D12.out)
    (fun g e => .inl (Nat.le_trans BT6.out.size (V7O.out g e))) (fun g e => (W11.out g e).elim (fun e2 => by rw [HNO.out.1] at e2; cases e2) (fun e2 => .inl (Nat.le_trans B10.out.size e2))) ZD.os ZD.tape ZD.output
  have C7 := Lib.hid PP.1
  have F7 := Lib.hid PP.2
  clear hsm7 hg7 hz7 ZD hwl KD PP
  go_simp
  go_wp2_with fail
  go_ret2
  exact ⟨rfl, _, rfl, C7.out, F7.out⟩
set_option maxRecDepth 100000 in
set_option maxHeartbeats 8000000 in
theorem cput_new_true {p m T : Nat} {room : Int} {X : List FX} {S : Nat → Prop} {w : World} {th : Bool} {s0 : ByteArray} {ba : Option Addr} {bn bc su0 : Nat} {tv0 : Value} {bb : List UInt8} {tt : List Int} (a : Option Addr) (n c : Nat) (b : List UInt8) (time : Int)
    (h : CK w p m room X S) (hb : Rd w a n c b) (hn1 : 1 ≤ n ∧ n ≤ 256) (ht : SI64 time) (hK : Ks w) (hT : T ≤ 899) (h256 : ∀ x ∈ X, x.f.b.length ≤ 256) (hn : X.length ≤ 524288) (hrm : 0 ≤ room ∧ room ≤ 524288) (hus : usedC (X.map (·.f)) ≤ 524288)
    (hfd : Found w m X T b th s0 ba bn bc su0 tv0 bb tt) (hth : th = true) (hne : bb ≠ b) (hin : ¬ sumOf bb = s0) (hfull : ¬ room < (usedC (X.map (·.f)) : Int) - bn + n) :
    Calls Tryz.prog 22 #[.pointer (some ⟨p, 0, none⟩), .slice a n c, .int .i64 time] w fun e w' => e = .returned (.tuple #[.string (sumOf b), .int .i64 0]) ∧ ∃ y : FX, y.f = ⟨sumOf b, b, 0, timedL tt time⟩ ∧ CK w' p m room (putX X y) (fun k => S k ∨ (w.heap.size ≤ k ∧ k < w'.heap.size)) ∧ Ft S w w' := by
  have H := Lib.hid h
  have HR := Lib.hid (fun w' (hb2 : Below w.heap.size w w') => cready p m room w' (h.mono hb2).rp)
  have HP := Lib.hid (pin (n : Int) 1 256 true (by unfold in64; simp; omega))
  have HSUM := Lib.hid (show ∀ w', Below w.heap.size w w' → Calls Tryz.prog 57 #[.slice a n c] w' fun e w2 => e = .returned (.string (sumOf b)) ∧ Below w'.heap.size w' w2 from fun w' hb2 => shasum_any a n c b w' (hK.below hb2 hK.pos) (hb.mono hb2) (by omega))
  have HEQ := Lib.hid (fun w' (hb2 : Below w.heap.size w w') => bequal ba a bn bc n c bb b w' (hfd.rd.mono hb2) (hb.mono hb2))
  have HIN := Lib.hid (fun w' (hb2 : Below w.heap.size w w') => cintact s0 (.slice ba bn bc) tv0 ba bn bc su0 bb w' rfl (hfd.rd.mono hb2) (by have := hfd.b2; omega) (hK.below hb2 hK.pos))
  have HCL := Lib.hid (fun w' (hb2 : Below w.heap.size w w') => fclone a n c b w' (hb.mono hb2) (by omega))
  have HWI := Lib.hid (fun w' (hb2 : Below w.heap.size w w') => cwith tv0 tt time w' (hfd.ot.kept hb2) hfd.t64 ht hfd.tr (by have := hfd.tl; omega))
  have HUS := Lib.hid (fun w' (hb2 : Below w.heap.size w w') => cused (h.mono hb2) h256 hn)
  have HF := Lib.hid hfd
  have FZ := Lib.hid file_zero
  have SZ := Lib.hid file_size
  have HTC := Lib.hid (lso_cell hfd.ot)
  have hb2n := hfd.b2
  have HN := Lib.hid hn
  obtain ⟨e0, x, hx, hxf, hxb, hxt, hxo⟩ := hfd.yes hth
  have HX := Lib.hid (show x ∈ X ∧ x.f.s = sumOf b ∧ x.bv.ownBlock = (Value.slice ba bn bc).ownBlock ∧ x.tv.ownBlock = tv0.ownBlock from ⟨hx, by rw [hxf, e0], by rw [hxb], by rw [hxt]⟩)
  clear e0 hx hxf hxb hxt hxo
  have HSZ := Lib.hid (show (sumOf b).size ≤ maxLen by rw [sumOf_size]; decide)
  have HRIS := Lib.hid h.sm.ris
  obtain ⟨sm, hsm⟩ : ∃ sm, sumOf b = sm := ⟨_, rfl⟩
  have LKF := Lib.hid (show ∀ w', Below w.heap.size w w' → (Instr.lookup 64 (.map (some m)) (.string sm) true).run Tryz.prog w' = .ok (.tuple #[.agg (fiC s0 (.slice ba bn bc) su0 tv0).toArray, .bool th]) w' from fun w' hb2 => by have := HF.out.lk w' hb2; rw [hsm] at this; exact this)
  rw [hsm] at HSUM HSZ HX ⊢
  rw [decide_eq_false hne] at HEQ
  rw [decide_eq_false hin] at HIN
  subst hth
  obtain ⟨U, hU⟩ : ∃ U, usedC (X.map (·.f)) = U := ⟨_, rfl⟩
  rw [hU] at HUS hfull hus
  have hw1 : IntKind.i64.wrap ((U : Int) - (bn : Int)) = (U : Int) - bn := by rw [IntKind.wrap_i64]; omega
  have hw2 : IntKind.i64.wrap ((U : Int) - (bn : Int) + (n : Int)) = (U : Int) - bn + n := by rw [IntKind.wrap_i64]; omega
  have hfull2 : (U : Int) - bn + n ≤ room := by omega
  clear h hb ht hK h256 hn hfd hne hin hsm hU hfull
  go_enter Tryz.func22, Tryz.ntmps22
  go_wp2_with (first
  | (go_at_call 50; (with_reducible refine (HR.out w (Below.refl _ _)).mono ?_); rintro e w0 ⟨rfl, rfl⟩)
  | (go_at_call 35; (with_reducible refine (HP.out w).mono ?_); rintro e w0 ⟨rfl, rfl⟩)
  | (go_at_call 57; (with_reducible refine (HSUM.out w (Below.refl _ _)).mono ?_); rintro e w1 ⟨rfl, hb1⟩; have B1 := Lib.hid hb1; have c1 := (H.out.mono hb1).rp.k2.2; have lk := LKF.out w1 hb1; clear hb1)
  | ((with_reducible refine alloc_row (o := ⟨some 9, _, _, _, _, _⟩) rfl _ rfl _ FZ.out ?_); intro w2 hr hb2 hz; have R2 := Lib.hid hr; have B2 := Lib.hid (B1.out.trans (hb2.mono B1.out.size)); clear hr hb2 hz c1 lk)
  | ((with_reducible refine store_row (o := ⟨none, _, _, _, _, _⟩) rfl _ (.tmp 9) _ rfl w1.heap.size (fiC s0 (.slice ba bn bc) su0 tv0) ?_ ?_ 44 _ R2.out ?_ ?_ ?_ ?_); (focus go_simp); (focus (first | (go_simp; done) | (go_simp; rfl))); (focus (exact SZ.out)); (focus rfl); (focus (exact fi_one _ _ _ _ rfl HTC.out)); intro w3 hr hu; have R3 := Lib.hid hr; have B3 := Lib.hid (B2.out.trans (hu.below B1.out.size)); obtain ⟨q0, q1, q2, q3⟩ := hr.k4; clear hr hu q0 q2)
  | (go_at_call 58; (with_reducible refine (HEQ.out w3 B3.out).mono ?_); rintro e w4 ⟨rfl, rfl⟩; clear q1)
  | ((with_reducible refine load_rowg (o := ⟨some 36, _, _, _, _, _⟩) 1 true 35 rfl _ _ rfl w1.heap.size _ (fiC s0 (.slice ba bn bc) su0 tv0) _ R3.out Tryz.underlying44 rfl ?_ ?_ ?_ ?_ ?_); (focus rfl); (focus (first | (go_simp; done) | (go_simp; rfl))); (focus go_simp); (focus (exact SZ.out)))
  | (go_at_call 52; (with_reducible refine (HIN.out w3 B3.out).mono ?_); rintro e w5 ⟨rfl, hb5⟩; have B5 := Lib.hid (B3.out.trans (hb5.mono B3.out.size)); have R5 := Lib.hid (R3.out.below hb5 R3.out.lt); clear hb5))
  have D5 : Hid (Below w5.heap.size w5 w5.drew) := Lib.hid (Below.refl _ _).drew
  have C0 := Lib.hid (H.out.mono B5.out)
  refine region_h (fun v => Below w5.heap.size w5 v) (by kernel_rfl) (by kernel_rfl) D5.out ?_
  obtain ⟨wd, hwd⟩ : ∃ wd, w5.drew = wd := ⟨_, rfl⟩
  rw [hwd] at D5 ⊢
  clear hwd
  (refine h_read 0 rfl (by kernel_rfl) (by kernel_rfl) (h_free rfl) ?_ ?_ ?_; rotate_left; (focus (intro v hv; go_simp; rfl)); go_simp)
  (refine h_read 2 rfl (by kernel_rfl) (by kernel_rfl) (h_free rfl) ?_ ?_ ?_; rotate_left; (focus (intro v hv; go_simp; rfl)); go_simp)
  (refine h_read 3 rfl (by kernel_rfl) (by kernel_rfl) (h_free rfl) ?_ ?_ ?_; rotate_left; (focus (intro v hv; have c0 := (hv.cell (p := ⟨p, 0, none⟩) C0.out.rp.lt).trans C0.out.rp.k2.1; have q1 := (hv.cell (p := ⟨w1.heap.size, 1, none⟩) R5.out.lt).trans R5.out.k4.2.1; go_simp; rfl)); go_simp)
  (refine h_read 4 rfl (by kernel_rfl) (by kernel_rfl) (h_free rfl) ?_ ?_ ?_; rotate_left; (focus (intro v hv; go_simp; rfl)); go_simp)
  (refine h_read 6 rfl (by kernel_rfl) (by kernel_rfl) (h_free rfl) ?_ ?_ ?_; rotate_left; (focus (intro v hv; go_simp; rfl)); go_simp)
  (refine h_read 7 rfl (by kernel_rfl) (by kernel_rfl) (h_free rfl) ?_ ?_ ?_; rotate_left; (focus (intro v hv; go_simp; rfl)); go_simp)
  (refine h_read 9 rfl (by kernel_rfl) (by kernel_rfl) (h_free rfl) ?_ ?_ ?_; rotate_left; (focus (intro v hv; go_simp; rfl)); go_simp)
  (refine h_read 10 rfl (by kernel_rfl) (by kernel_rfl) (h_free rfl) ?_ ?_ ?_; rotate_left; (focus (intro v hv; go_simp; rfl)); go_simp)
  (refine h_read 11 rfl (by kernel_rfl) (by kernel_rfl) (h_free rfl) ?_ ?_ ?_; rotate_left; (focus (intro v hv; go_simp; rfl)); go_simp)
  (refine h_read 12 rfl (by kernel_rfl) (by kernel_rfl) (h_free rfl) ?_ ?_ ?_; rotate_left; (focus (intro v hv; have c0 := (hv.cell (p := ⟨p, 0, none⟩) C0.out.rp.lt).trans C0.out.rp.k2.1; have q1 := (hv.cell (p := ⟨w1.heap.size, 1, none⟩) R5.out.lt).trans R5.out.k4.2.1; go_simp; rfl)); go_simp)
  (refine h_call 1 rfl (by kernel_rfl) (h_free rfl) 14 ?_ ?_ ?_; rotate_left; (focus (go_simp; rfl)))
  refine (HUS.out wd (B5.out.trans (D5.out.mono B5.out.size))).mono ?_
  rintro e w6 ⟨rfl, hb6⟩
  have B6 := Lib.hid (D5.out.trans (hb6.mono D5.out.size))
  clear hb6
  refine ⟨_, rfl, B6.out, ?_⟩
  go_simp
  (refine h_read 5 rfl (by kernel_rfl) (by kernel_rfl) (h_free rfl) ?_ ?_ ?_; rotate_left; (focus (intro v hv; go_simp; rfl)); go_simp)
  (refine h_read 8 rfl (by kernel_rfl) (by kernel_rfl) (h_free rfl) ?_ ?_ ?_; rotate_left; (focus (intro v hv; go_simp; rfl)); go_simp)
  (refine h_read 13 rfl (by kernel_rfl) (by kernel_rfl) (h_free rfl) ?_ ?_ ?_; rotate_left; (focus (intro v hv; go_simp; rfl)); go_simp)
  refine h_done (by kernel_rfl) ?_
  have BT6 := Lib.hid (B5.out.trans (B6.out.mono B5.out.size))
  have R6 := Lib.hid (R5.out.below B6.out R5.out.lt)
  have L16 := Lib.hid (show w1.heap.size < w6.heap.size from R6.out.lt)
  go_wp2_with (first
    | (go_at_call 53; (with_reducible refine (HCL.out w6 BT6.out).mono ?_); rintro e w7 ⟨v7, rfl, hf7, hb7⟩; have V7 := Lib.hid hf7; have B7 := Lib.hid (BT6.out.trans (hb7.mono BT6.out.size)); have R7 := Lib.hid (R6.out.below hb7 R6.out.lt); have V7O := Lib.hid (fun g e => (World.ownsRow.lt V7.out g e).1); have VC := Lib.hid (fr_cell hf7); have VO := Lib.hid (fr_one hf7); clear hf7 hb7)
    | ((with_reducible refine store_cell (o := ⟨none, _, _, _, _, _⟩) rfl _ (.tmp 56) _ rfl w1.heap.size 0 (.string sm) ?_ ?_ rfl rfl 44 _ R7.out size_str ?_ ?_); (focus go_simp); (focus (first | (go_simp; done) | (go_simp; rfl))); (focus (show 0 < 4; decide)); intro w8 hr hu; have R8 := Lib.hid (show Row w8 w1.heap.size 44 (fiC sm (.slice ba bn bc) su0 tv0) from hr); have V8 := Lib.hid (V7.out.keep fun g e => hu.block g (Nat.ne_of_gt (Nat.lt_of_lt_of_le L16.out (V7O.out g e)))); have B8 := Lib.hid (B7.out.trans (hu.below B1.out.size)); clear hr hu)
    | ((with_reducible refine store_cell (o := ⟨none, _, _, _, _, _⟩) rfl _ (.tmp 57) _ rfl w1.heap.size 1 v7 ?_ ?_ VC.out VO.out 44 _ R8.out size_bs ?_ ?_); (focus go_simp); (focus (first | (go_simp; done) | (go_simp; rfl))); (focus (show 1 < 4; decide)); intro w9 hr hu; have R9 := Lib.hid (show Row w9 w1.heap.size 44 (fiC sm v7 su0 tv0) from hr); have V9 := Lib.hid (V8.out.keep fun g e => hu.block g (Nat.ne_of_gt (Nat.lt_of_lt_of_le L16.out (V7O.out g e)))); have B9 := Lib.hid (B8.out.trans (hu.below B1.out.size)); clear hr hu)
    | ((with_reducible refine store_cell (o := ⟨none, _, _, _, _, _⟩) rfl _ (.tmp 58) _ rfl w1.heap.size 2 (.int .i64 0) ?_ ?_ rfl rfl 44 _ R9.out size_int ?_ ?_); (focus go_simp); (focus (first | (go_simp; done) | (go_simp; rfl))); (focus (show 2 < 4; decide)); intro w10 hr hu; have R10 := Lib.hid (show Row w10 w1.heap.size 44 (fiC sm v7 0 tv0) from hr); have V10 := Lib.hid (V9.out.keep fun g e => hu.block g (Nat.ne_of_gt (Nat.lt_of_lt_of_le L16.out (V7O.out g e)))); have B10 := Lib.hid (B9.out.trans (hu.below B1.out.size)); obtain ⟨r0, r1, r2, r3⟩ := hr.k4; clear hr hu r0 r1 r2)
    | (go_at_call 59; (with_reducible refine (HWI.out w10 B10.out).mono ?_); rintro e w11 ⟨v11, rfl, hl5, ho5, hb5, hk5⟩; have O11 := Lib.hid hl5; have W11 := Lib.hid ho5; have K11 := Lib.hid (kp_below B10.out hk5); have BB11 := Lib.hid hb5; have R11 := Lib.hid (R10.out.keepK hk5 (fun e => Nat.lt_irrefl _ (Nat.lt_of_lt_of_le (HF.out.ot.blt e) B1.out.size))); have V11 := Lib.hid (V10.out.keep fun g e => hk5 g (V10.out.blt e) (fun e2 => Nat.lt_irrefl g (Nat.lt_of_lt_of_le (HF.out.ot.blt e2) (Nat.le_trans BT6.out.size (V7O.out g e))))); clear hl5 ho5 hb5 hk5 r3)
    | ((with_reducible refine store_cell (o := ⟨none, _, _, _, _, _⟩) rfl _ (.tmp 63) _ rfl w1.heap.size 3 v11 ?_ ?_ ?_ ?_ 44 _ R11.out size_is ?_ ?_); (focus go_simp); (focus (first | (go_simp; done) | (go_simp; rfl))); (focus (exact lso_cells O11.out)); (focus (exact lso_cell O11.out)); (focus (show 3 < 4; decide)); intro w12 hr hu; have R12 := Lib.hid (show Row w12 w1.heap.size 44 (fiC sm v7 0 v11) from hr); have U12 := Lib.hid hu; clear hr hu))
  have Z12 := Lib.hid (((B10.out.mono (Nat.zero_le _)).trans BB11.out).trans (U12.out.below (Nat.zero_le _)))
  have KW := Lib.hid (show ∀ g, g < w.heap.size → tv0.ownBlock ≠ some g → w12.heap[g]? = w.heap[g]? from fun g hg hn => (U12.out.block g (fun e => Nat.lt_irrefl _ (Nat.lt_of_lt_of_le (by rw [← e]; exact hg) B1.out.size))).trans (K11.out g hg hn))
  have O12 := Lib.hid (O11.out.upd U12.out (fun e => (lso_ty O11.out e).ne R11.out.ty (by decide) rfl))
  have V12 := Lib.hid (V11.out.keep fun g e => U12.out.block g (Nat.ne_of_gt (Nat.lt_of_lt_of_le L16.out (V7O.out g e))))
  have TM := Lib.hid (show tv0.ownBlock ≠ some m ∧ tv0.ownBlock ≠ some p from ⟨fun e => (H.out.bm HX.out.1).1 (HX.out.2.2.2.trans e), fun e => (H.out.bm HX.out.1).2.1 (HX.out.2.2.2.trans e)⟩)
  have P12 := Lib.hid (show Row w12 p 66 [.int .i64 room, .map (some m)] from (KW.out p H.out.rp.lt TM.out.2).trans H.out.rp)
  have S12 := Lib.hid (H.out.sm.block (KW.out m H.out.sm.lt TM.out.1))
  have D12 : Hid (Below w12.heap.size w12 w12.drew) := Lib.hid (Below.refl _ _).drew
  refine region_t (fun v => Below w12.heap.size w12 v) 6 (by kernel_rfl) (by kernel_rfl) (by kernel_rfl) D12.out ?_
  obtain ⟨wz, hwz⟩ : ∃ wz, w12.drew = wz := ⟨_, rfl⟩
  rw [hwz] at D12 ⊢
  clear hwz
  (refine t_read 0 rfl (by kernel_rfl) (by kernel_rfl) (by kernel_rfl) (t_free rfl) ?_ ?_ ?_; rotate_left; (focus (intro v hv; go_simp; rfl)); go_simp)
  (refine t_read 1 rfl (by kernel_rfl) (by kernel_rfl) (by kernel_rfl) (t_free rfl) ?_ ?_ ?_; rotate_left; (focus (intro v hv; go_simp; rfl)); go_simp)
  (refine t_read 2 rfl (by kernel_rfl) (by kernel_rfl) (by kernel_rfl) (t_free rfl) ?_ ?_ ?_; rotate_left; (focus (intro v hv; go_simp; rfl)); go_simp)
  (refine t_read 3 rfl (by kernel_rfl) (by kernel_rfl) (by kernel_rfl) (t_free rfl) ?_ ?_ ?_; rotate_left; (focus (intro v hv; have c1 := (hv.cell (p := ⟨p, 1, none⟩) P12.out.lt).trans P12.out.k2.2; go_simp; rfl)); go_simp)
  (refine t_read 4 rfl (by kernel_rfl) (by kernel_rfl) (by kernel_rfl) (t_free rfl) ?_ ?_ ?_; rotate_left; (focus (intro v hv; go_simp; rfl)); go_simp)
  (refine t_read 5 rfl (by kernel_rfl) (by kernel_rfl) (by kernel_rfl) (t_free rfl) ?_ ?_ ?_; rotate_left; (focus (intro v hv; refine lg_all 44 (.tmp 9) ?_ w1.heap.size ?_ _ _ _ (R12.out.below hv R12.out.lt) Tryz.underlying44 rfl SZ.out; (focus rfl); (focus go_simp))); go_simp)
  (refine t_last 6 rfl (by kernel_rfl) rfl (by kernel_rfl) (by kernel_rfl) ?_; intro K hK)
  refine map_put rfl _ _ _ 64 44 rfl map_type m _ _ (by go_simp) (S12.out.kept D12.out) (by have := HN.out; omega) sm (.agg (fiC sm v7 0 v11).toArray) (by go_simp) HSZ.out (by go_simp) (MX (putX X ⟨⟨sm, b, 0, timedL tt time⟩, v7, v11⟩)) (put_ris HRIS.out) (fun q => put_mx (y := ⟨⟨sm, b, 0, timedL tt time⟩, v7, v11⟩) HRIS.out q) ?_
  intro w13 hsm7 hg7 hz7
  refine hK _ _ ?_
  have ZD := Z12.out.trans (D12.out.mono (Nat.zero_le _))
  have hwl : w.heap.size ≤ w12.heap.size := by rw [U12.out.size]; exact Nat.le_trans B10.out.size BB11.out.size
  have KD : ∀ g, g < w.heap.size → tv0.ownBlock ≠ some g → wz.heap[g]? = w.heap[g]? := fun g hg hn => (D12.out.block g (Nat.lt_of_lt_of_le hg hwl)).trans (KW.out g hg hn)
  have PP := H.out.put (w1 := wz) (w2 := w13) (y := ⟨⟨sm, b, 0, timedL tt time⟩, v7, v11⟩) tv0.ownBlock KD (Nat.le_trans hwl D12.out.size) (fun g e => ⟨x, HX.out.1, HX.out.2.1, HX.out.2.2.2.trans e⟩) (by have := hsm7.tight; rw [mx_len] at this; exact this) hg7
    ((V12.out.base (Nat.zero_le _)).kept D12.out) (O12.out.kept D12.out)
    (fun g e => .inl (Nat.le_trans BT6.out.size (V7O.out g e))) (fun g e => (W11.out g e).elim (fun e2 => .inr ⟨x, HX.out.1, HX.out.2.1, HX.out.2.2.2.trans e2⟩) (fun e2 => .inl (Nat.le_trans B10.out.size e2))) ZD.os ZD.tape ZD.output
  have C7 := Lib.hid PP.1
  have F7 := Lib.hid PP.2
  clear hsm7 hg7 hz7 ZD hwl KD PP
  go_simp
  go_wp2_with fail
  go_ret2
  exact ⟨rfl, _, rfl, C7.out, F7.out⟩
end Go.Proofs.YtkfhppbmnjmnoaaGreatDoor.W

/- KEEP (no layer): what hands out how much stays. -/
set_option linter.unusedSimpArgs false
set_option linter.unusedVariables false
namespace Go.Proofs.YtkfhppbmnjmnoaaGreatDoor.W
open Go Go.ChangeShapes Go.WideShapes Go.ChangeAt Go.RowKit

/-- which turn comes next -/
def kturnAt (ks : List Int) (i : Nat) : Nat := if ks.length = 0 then i else i + 1
set_option maxRecDepth 100000 in
set_option maxHeartbeats 4000000 in
theorem kturn (b1 b2 i kl kc : Nat) (ka : Option Addr) (ks : List Int) (lo : Int) (w : World) (h1 : Row w b1 31 [.slice ka kl kc]) (h2 : Row w b2 3 [.int .i64 (i : Int)]) (hk : Sl .i64 w ka kl ks) (hi : i ≤ 1000000) (hlo : 0 ≤ lo ∧ lo ≤ 9223372036854775807) :
    Calls Tryz.prog 87 #[.int .i64 lo, .pointer (some ⟨b1, 0, none⟩), .pointer (some ⟨b2, 0, none⟩)] w fun e w' => e = .returned (.int .i64 (stayV ks i lo)) ∧ Row w' b2 3 [.int .i64 ((kturnAt ks i : Nat) : Int)] ∧ Gw b2 w w' := by
  have H1 := Lib.hid h1
  have H2 := Lib.hid h2
  have HK := Lib.hid hk
  have hkll := hk.1
  have hkm := hk.2.1
  have c1 := h1.k0
  have c2 := h2.k0
  have C1 := Lib.hid c1
  have C2 := Lib.hid c2
  clear h1 h2 hk c2
  by_cases hkz : kl = 0
  · have e1 : stayV ks i lo = 0 := by unfold stayV; rw [if_pos (by omega)]
    have e2 : kturnAt ks i = i := by unfold kturnAt; rw [if_pos (by omega)]
    rw [e1, e2]
    clear e1 e2 hkll
    subst hkz
    go_enter Tryz.func87, Tryz.ntmps87
    go_wp2_with fail
    go_ret
    exact ⟨rfl, H2.out, Gw.refl _ _⟩
  · have e1 : stayV ks i lo = min (max (ks.getD (i % kl) 0) 0) lo := by unfold stayV; rw [if_neg (by omega), hkll]
    have e2 : kturnAt ks i = i + 1 := by unfold kturnAt; rw [if_neg (by omega)]
    rw [e1, e2]
    obtain ⟨kb, koff, rfl, hkb, hkc⟩ := HK.out.2.2.2.resolve_left hkz
    have hj : i % kl < kl := Nat.mod_lt _ (by omega)
    have ck := hkc (i % kl) hj
    have hrem : (i : Int).tmod (kl : Int) = ((i % kl : Nat) : Int) := by rw [Int.tmod_eq_emod_of_nonneg (by omega)]; simp
    have hrem2 : (i : Int) % (kl : Int) = ((i % kl : Nat) : Int) := by simp
    obtain ⟨r, hr⟩ : ∃ r, i % kl = r := ⟨_, rfl⟩
    rw [hr] at ck hj hrem hrem2 ⊢
    have hkl0 : ((kl : Int) == 0) = false := by simp; omega
    obtain ⟨kv, hkvv⟩ : ∃ kv, ks.getD r 0 = kv := ⟨_, rfl⟩
    rw [hkvv] at ck ⊢
    obtain ⟨kq, hkq⟩ : ∃ kq, min (max kv 0) lo = kq := ⟨_, rfl⟩
    rw [hkq]
    have HKQ := Lib.hid hkq
    have CK := Lib.hid ck
    clear hkvv hkc e1 e2 hkll ck hr hkq
    go_enter Tryz.func87, Tryz.ntmps87
    go_wp2_with fail
    clear c1
    refine region_w (C := fun v => Below w.heap.size w v) (by kernel_rfl) (by kernel_rfl) (Below.refl _ _).drew ?_
    repeat (first
      | (refine w_read (wanted_free rfl) ?_ ?_ ?_; rotate_left; (focus (intro v hv; have c1 := (hv.cell (p := ⟨b1, 0, none⟩) H1.out.lt).trans C1.out; have c2 := (hv.cell (p := ⟨b2, 0, none⟩) H2.out.lt).trans C2.out; have ck := (hv.cell (p := ⟨kb, koff + r, none⟩) hkb).trans CK.out; go_simp; rfl)); go_simp))
    refine w_nil ?_
    intro w4 hb4
    have R2 := Lib.hid (H2.out.below hb4 H2.out.lt)
    have B4 := Lib.hid hb4
    have c2 := R2.out.k0
    have f2 := R2.out.frozen 0
    clear hb4
    go_wp2_with fail
    all_goals (go_ret; refine ⟨?_, R2.out.setV 0 _, (Gw.of_below B4.out).trans (Gw.upd (Upd.setCell _ _ _ _))⟩)
    all_goals (have hk := HKQ.out; refine one (vint ?_); (try split at *) <;> (try split at *) <;> omega)
/-- the turn, when so many slots have taken one -/
def kturnN (ks : List Int) (nx : Nat) : Nat := if ks.length = 0 then 0 else nx
theorem kturnAt_N (ks : List Int) (nx : Nat) : kturnAt ks (kturnN ks nx) = kturnN ks (nx + 1) := by
  unfold kturnAt kturnN
  by_cases h : ks.length = 0
  · rw [if_pos h, if_pos h, if_pos h]
  · rw [if_neg h, if_neg h, if_neg h]
theorem stayV_turn (ks : List Int) (nx : Nat) (lo : Int) : stayV ks (kturnN ks nx) lo = stayV ks nx lo := by
  unfold stayV kturnN
  by_cases h0 : ks.length = 0
  · rw [if_pos h0, if_pos h0]
  · rw [if_neg h0, if_neg h0, if_neg h0]

set_option maxRecDepth 100000 in
set_option maxHeartbeats 4000000 in
theorem kturns (ka : Option Addr) (kl kc : Nat) (w : World) :
    Calls Tryz.prog 61 #[.slice ka kl kc] w fun e w' => ∃ b1 b2, e = .returned (.func (.func 87) #[] #[.pointer (some ⟨b1, 0, none⟩), .pointer (some ⟨b2, 0, none⟩)]) ∧ Row w' b1 31 [.slice ka kl kc] ∧ Row w' b2 3 [.int .i64 0] ∧ w.heap.size ≤ b1 ∧ w.heap.size ≤ b2 ∧ b1 ≠ b2 ∧ Below w.heap.size w w' := by
  go_enter Tryz.func61, Tryz.ntmps61
  go_wp2_with (first
    | (with_reducible refine box_cell (o := ⟨some 1, _, _, _, _, _⟩) rfl _ _ rfl (.slice ka kl kc) rfl rfl ?_; intro w1 hr1 hb1 hz1; have R1 := Lib.hid hr1; have B1 := Lib.hid hb1; have Z1 := Lib.hid hz1; clear hr1 hb1 hz1)
    | (with_reducible refine alloc_cell (o := ⟨some 3, _, _, _, _, _⟩) rfl _ rfl (.int .i64 0) rfl (by kernel_rfl) ?_; intro w2 hr2 hb2 hz2; have R2 := Lib.hid hr2; have B2 := Lib.hid hb2; have Z2 := Lib.hid hz2; have c2 := hr2.k0; have f2 := hr2.frozen 0; clear hr2 hb2 hz2))
  go_ret
  have u2 := Upd.setCell w2 w1.heap.size 0 (.int .i64 0)
  exact ⟨_, _, rfl, ((R1.out.below B2.out R1.out.lt).upd u2 (Nat.ne_of_lt R1.out.lt)), R2.out.setV 0 _, Nat.le_refl _, B1.out.size, Nat.ne_of_lt R1.out.lt, (B1.out.trans (B2.out.mono B1.out.size)).trans (u2.below B1.out.size)⟩

end Go.Proofs.YtkfhppbmnjmnoaaGreatDoor.W

/- LAYER 28 (chunk): the program's Crash. -/
set_option linter.unusedSimpArgs false
set_option linter.unusedVariables false
namespace Go.Proofs.YtkfhppbmnjmnoaaGreatDoor.W
open Go Go.ChangeShapes Go.WideShapes Go.ChangeAt Go.RowKit
open Go.Proofs.YtkfhppbmnjmnoaaGreatDoor.P (shaL shaL_len)

theorem Sl.stay {k : IntKind} {w w' : World} {a : Option Addr} {n : Nat} {l : List Int} (h : Sl k w a n l) (hs : w.heap.size ≤ w'.heap.size) (hk : ∀ b off s, a = some ⟨b, off, s⟩ → b < w.heap.size → w'.heap[b]? = w.heap[b]?) : Sl k w' a n l := by
  obtain ⟨q1, q2, q3, q4⟩ := h
  refine ⟨q1, q2, q3, q4.imp id ?_⟩
  rintro ⟨b, off, e, hlt, hc⟩
  exact ⟨b, off, e, Nat.lt_of_lt_of_le hlt hs, fun i hi => by rw [World.cell?_of_block (show w'.heap[(⟨b, off + i, none⟩ : Addr).block]? = _ from hk b off none e hlt)]; exact hc i hi⟩
theorem stay_le (ks : List Int) (nx : Nat) (lo : Int) (h : 0 ≤ lo) : 0 ≤ stayV ks nx lo ∧ stayV ks nx lo ≤ lo := by
  unfold stayV
  by_cases h0 : ks.length = 0
  · rw [if_pos h0]; omega
  · rw [if_neg h0]; omega
theorem Ft.of_gw28 {g : Nat} {w w' : World} (h : Gw g w w') : Ft (fun b => b = g) w w' := ⟨h.os, h.tape, h.output, h.size, fun k hk hn => h.block k hk hn⟩
/-- how many bytes are left of a file that is not sure -/
def leftB (ks : List Int) (nx : Nat) (f : Fi) : Nat := f.su + (stayV ks nx ((f.b.length : Int) - f.su)).toNat
theorem leftB_le (ks : List Int) (nx : Nat) (f : Fi) (h : f.su ≤ f.b.length) : leftB ks nx f ≤ f.b.length ∧ f.su ≤ leftB ks nx f ∧ ((leftB ks nx f : Nat) : Int) = (f.su : Int) + stayV ks nx ((f.b.length : Int) - f.su) := by
  have := stay_le ks nx ((f.b.length : Int) - f.su) (by omega)
  unfold leftB
  omega
def cutX (x : FX) (q : Nat) (bv : Value) : FX := ⟨cutF x.f q, bv, x.tv⟩
/-- a list of files behind a crash, with where the next turn is -/
inductive CrashX (ks : List Int) : List FX → List FX → Nat → Prop
  | nil : CrashX ks [] [] 0
  | sure {X D : List FX} {nx : Nat} {x : FX} : CrashX ks X D nx → isLoose x.f = false → CrashX ks (X ++ [x]) (D ++ [x]) nx
  | gone {X D : List FX} {nx : Nat} {x : FX} : CrashX ks X D nx → isLoose x.f = true → leftB ks nx x.f = 0 → CrashX ks (X ++ [x]) D (nx + 1)
  | cut {X D : List FX} {nx : Nat} {x : FX} {bv : Value} : CrashX ks X D nx → isLoose x.f = true → leftB ks nx x.f ≠ 0 → CrashX ks (X ++ [x]) (D ++ [cutX x (leftB ks nx x.f) bv]) (nx + 1)
/-- the same, plain, from a turn on -/
def crashN (ks : List Int) : Nat → List Fi → List Fi × Nat
  | nx, [] => ([], nx)
  | nx, f :: r => if isLoose f = true then
      (if leftB ks nx f = 0 then crashN ks (nx + 1) r else (cutF f (leftB ks nx f) :: (crashN ks (nx + 1) r).1, (crashN ks (nx + 1) r).2))
    else (f :: (crashN ks nx r).1, (crashN ks nx r).2)
theorem crashN_eq (ks : List Int) : ∀ (L : List Fi) (nx : Nat), (crashN ks nx L).1 = crashC ks nx L
  | [], _ => rfl
  | f :: r, nx => by
    have h1 := crashN_eq ks r (nx + 1)
    have h2 := crashN_eq ks r nx
    unfold crashN crashC
    by_cases hl : isLoose f = true
    · rw [if_pos hl, if_pos hl]
      by_cases h0 : leftB ks nx f = 0
      · rw [if_pos h0]
        unfold leftB at h0
        rw [if_pos h0, h1]
      · rw [if_neg h0]
        unfold leftB at h0 ⊢
        rw [if_neg h0, h1]
    · rw [if_neg hl, if_neg hl]
      dsimp only
      rw [h2]
theorem crashN_gone {ks : List Int} {nx : Nat} {g : Fi} (r : List Fi) (hl : isLoose g = true) (h0 : leftB ks nx g = 0) : crashN ks nx (g :: r) = crashN ks (nx + 1) r := by simp [crashN, hl, h0]
theorem crashN_cut {ks : List Int} {nx : Nat} {g : Fi} (r : List Fi) (hl : isLoose g = true) (h0 : ¬ leftB ks nx g = 0) : crashN ks nx (g :: r) = (cutF g (leftB ks nx g) :: (crashN ks (nx + 1) r).1, (crashN ks (nx + 1) r).2) := by simp [crashN, hl, h0]
theorem crashN_sure {ks : List Int} {nx : Nat} {g : Fi} (r : List Fi) (hl : ¬ isLoose g = true) : crashN ks nx (g :: r) = (g :: (crashN ks nx r).1, (crashN ks nx r).2) := by simp [crashN, hl]
theorem crashN_app (ks : List Int) : ∀ (L : List Fi) (f : Fi) (nx : Nat), crashN ks nx (L ++ [f]) = ((crashN ks nx L).1 ++ (crashN ks (crashN ks nx L).2 [f]).1, (crashN ks (crashN ks nx L).2 [f]).2)
  | [], f, nx => by
    show crashN ks nx [f] = ([] ++ (crashN ks nx [f]).1, (crashN ks nx [f]).2)
    rw [List.nil_append]
  | g :: r, f, nx => by
    have h1 := crashN_app ks r f (nx + 1)
    have h2 := crashN_app ks r f nx
    rw [List.cons_append]
    by_cases hl : isLoose g = true
    · by_cases h0 : leftB ks nx g = 0
      · rw [crashN_gone _ hl h0, crashN_gone _ hl h0]; exact h1
      · rw [crashN_cut _ hl h0, crashN_cut _ hl h0, h1]; rfl
    · rw [crashN_sure _ hl, crashN_sure _ hl, h2]; rfl
theorem CrashX.eq {ks : List Int} {X D : List FX} {nx : Nat} (h : CrashX ks X D nx) : crashN ks 0 (X.map (·.f)) = (D.map (·.f), nx) := by
  induction h with
  | nil => rfl
  | sure h1 h2 ih => rw [List.map_append, List.map_cons, List.map_nil, crashN_app, ih]; simp [crashN, h2]
  | gone h1 h2 h3 ih => rw [List.map_append, List.map_cons, List.map_nil, crashN_app, ih]; simp [crashN, h2, h3]
  | cut h1 h2 h3 ih => rw [List.map_append, List.map_cons, List.map_nil, crashN_app, ih]; simp [crashN, h2, h3, cutX]
theorem CrashX.plain {ks : List Int} {X D : List FX} {nx : Nat} (h : CrashX ks X D nx) : D.map (·.f) = crashC ks 0 (X.map (·.f)) := by rw [← crashN_eq, h.eq]
theorem CrashX.nx {ks : List Int} {X D : List FX} {nx : Nat} (h : CrashX ks X D nx) : nx ≤ X.length ∧ D.length ≤ X.length := by
  induction h with
  | nil => exact ⟨Nat.le_refl _, Nat.le_refl _⟩
  | sure _ _ ih => simp; omega
  | gone _ _ _ ih => simp; omega
  | cut _ _ _ ih => simp; omega
theorem Fr.cut {w : World} {base n c q : Nat} {a : Option Addr} {l : List UInt8} (h : Fr w base (.slice a n c) l) (hq : q ≤ n) : Fr w base (.slice a q c) (l.take q) := by
  obtain ⟨h1, h2⟩ := h
  rcases h2 with ⟨h3, h4⟩ | ⟨g, cap, cur, h3, hg, hh, hle, hm, hsz, ht⟩
  · injection h3 with e1 e2 e3
    obtain rfl : l = [] := List.eq_nil_of_length_eq_zero h4
    subst e1 e2 e3
    obtain rfl : q = 0 := by omega
    exact Fr.nil _ _
  · injection h3 with e1 e2 e3
    subst e1 e2 e3
    have hl : (l.take q).length = q := by rw [List.length_take]; omega
    refine ⟨by simp, .inr ⟨g, c, cur, by rw [hl], hg, hh, by rw [hl]; omega, hm, hsz, ?_⟩⟩
    rw [hl]
    have := congrArg (List.take (q * 1)) ht
    rw [List.take_take, Nat.min_eq_left (by omega), ← List.map_take, Nat.mul_one] at this
    simpa using this
theorem set_midX (D R : List FX) (x y : FX) : (D ++ x :: R).set D.length y = D ++ y :: R := by rw [List.set_append_right _ _ (Nat.le_refl _), Nat.sub_self]; rfl
theorem get_mid (D R : List FX) (x : FX) : (D ++ x :: R)[D.length]? = some x := by rw [List.getElem?_append_right (Nat.le_refl _), Nat.sub_self]; rfl
theorem drop_mid {D R : List FX} {x : FX} (h : Ris (MX (D ++ x :: R))) : (D ++ x :: R).filter (fun z => !decide (z.f.s = x.f.s)) = D ++ R := by
  have hn := ris_ne h
  unfold MX at hn
  rw [List.pairwise_map, List.pairwise_append] at hn
  obtain ⟨-, h2, h3⟩ := hn
  obtain ⟨h4, -⟩ := List.pairwise_cons.1 h2
  rw [List.filter_append, List.filter_cons]
  have e1 : D.filter (fun z => !decide (z.f.s = x.f.s)) = D := List.filter_eq_self.2 fun z hz => by have := h3 z hz x (List.mem_cons_self ..); simpa using this
  have e2 : R.filter (fun z => !decide (z.f.s = x.f.s)) = R := List.filter_eq_self.2 fun z hz => by have := h4 z hz; simpa using fun e => this e.symm
  rw [e1, e2]; simp
set_option maxRecDepth 100000 in
set_option maxHeartbeats 8000000 in
theorem ccrash {p m T : Nat} {room : Int} {X : List FX} {S : Nat → Prop} {w : World} (h : CK w p m room X S) (hok : ∀ x ∈ X, FiOk T x.f) (hn : X.length ≤ 524288) (ka : Option Addr) (kl kc : Nat) (ks : List Int) (hk : Sl .i64 w ka kl ks) (hkS : kl ≠ 0 → ∀ b off s, ka = some ⟨b, off, s⟩ → ¬ S b) :
    Calls Tryz.prog 28 #[.pointer (some ⟨p, 0, none⟩), .slice ka kl kc] w fun e w' => e = .returned (.tuple #[]) ∧ ∃ X', X'.map (·.f) = crashC ks 0 (X.map (·.f)) ∧ CK w' p m room X' S ∧ Ft S w w' := by
  have H := Lib.hid h
  have HTS := Lib.hid (kturns ka kl kc w)
  have HS := Lib.hid (fun w' (hb : Below w.heap.size w w') => csums (h.mono hb) hn)
  have HN := Lib.hid hn
  have HOK := Lib.hid hok
  have HKS := Lib.hid hk
  have HKN := Lib.hid hkS
  have FZ := Lib.hid file_zero
  have SZ := Lib.hid file_size
  obtain ⟨n, hnn⟩ : ∃ n, X.length = n := ⟨_, rfl⟩
  have HNN := Lib.hid hnn
  have hn2 : n ≤ 524288 := by omega
  clear h hok hn hnn hk hkS
  go_enter Tryz.func28, Tryz.ntmps28
  go_wp2_with (first
    | (go_at_call 61; (with_reducible refine HTS.out.mono ?_); rintro e w1 ⟨b1, b2, rfl, hr1, hr2, hl1, hl2, hne, hb1⟩; have R1 := Lib.hid hr1; have R2 := Lib.hid hr2; have L1 := Lib.hid hl1; have L2 := Lib.hid hl2; have N12 := Lib.hid hne; have B1 := Lib.hid hb1; clear hr1 hr2 hl1 hl2 hne hb1)
    | (go_at_call 47; (with_reducible refine (HS.out w1 B1.out).mono ?_); rintro e w2 ⟨sv, rfl, hl, hb⟩; obtain ⟨sa, sc, rfl, hsl, -⟩ := hl.ls strOk (fun s hs => by obtain ⟨x, hx, rfl⟩ := List.mem_map.1 hs; have h5 := (HOK.out x hx).s; show x.f.s.size ≤ maxLen; unfold maxLen; omega); have SO := Lib.hid (show ∀ b off s, sa = some ⟨b, off, s⟩ → w1.heap.size ≤ b ∧ b < w2.heap.size ∧ IsTy w2 b 9 from fun b off s e => by subst e; exact ⟨(World.ownsRow.lt hl b rfl).1, (World.ownsRow.lt hl b rfl).2, lso_ty hl rfl⟩); rw [List.length_map, HNN.out] at hsl ⊢; have SL := Lib.hid hsl; have B2 := Lib.hid (B1.out.trans (hb.mono B1.out.size)); have C2 := Lib.hid (H.out.mono B2.out); have R12 := Lib.hid (R1.out.below hb R1.out.lt); have R22 := Lib.hid (R2.out.below hb R2.out.lt); clear hl hb hsl))
  go_loopw [6, 7, 13] (fun _ _ i wr => ∃ (k nx : Nat) (D : List FX), i = .int .i64 (k : Int) ∧ k ≤ n ∧ Hid (CrashX ks (X.take k) D nx) ∧ Hid (CK wr p m room (D ++ X.drop k) S) ∧ Hid (Ft (fun g => S g ∨ g = b2) w2 wr) ∧ Hid (Row wr b1 31 [.slice ka kl kc]) ∧ Hid (Row wr b2 3 [.int .i64 ((kturnN ks nx : Nat) : Int)])) (fun _ _ i _ => n - (intOf i).toNat)
  case atStart => exact ⟨0, 0, [], rfl, Nat.zero_le _, Lib.hid (by rw [List.take_zero]; exact .nil), Lib.hid (by rw [List.drop_zero]; exact C2.out), Lib.hid (Ft.refl _ _), R12, Lib.hid (by have : kturnN ks 0 = 0 := by { unfold kturnN; split <;> rfl }; rw [this]; exact R22.out)⟩
  case round =>
    obtain ⟨k, nx, D, rfl, hk, CX, C, F, KR, U⟩ := hrel
    by_cases hlt : k < n
    · obtain ⟨x, hx⟩ : ∃ x, X[k]? = some x := ⟨X[k]'(by rw [HNN.out]; exact hlt), by simp [HNN.out, hlt]⟩
      have hxm : x ∈ X := List.mem_of_getElem? hx
      have hkl : k < X.length := by rw [HNN.out]; exact hlt
      have HTK := Lib.hid (show X.take (k + 1) = X.take k ++ [x] by rw [List.take_succ_eq_append_getElem hkl, (List.getElem?_eq_some_iff.1 hx).2])
      have hdk : X.drop k = x :: X.drop (k + 1) := by rw [List.drop_eq_getElem_cons hkl, (List.getElem?_eq_some_iff.1 hx).2]
      obtain ⟨Q, hQ⟩ : ∃ Q, X.drop (k + 1) = Q := ⟨_, rfl⟩
      rw [hQ] at hdk
      rw [hdk] at C
      have HQ := Lib.hid hQ
      have SLr := Lib.hid (SL.out.stay F.out.size (fun b off s e _ => F.out.block b (SO.out b off s e).2.1 (fun hs => hs.elim (fun h1 => absurd (H.out.lt b h1) (Nat.not_lt.2 (Nat.le_trans B1.out.size (SO.out b off s e).1))) (fun h1 => (SO.out b off s e).2.2.ne R22.out.ty (by decide) h1))) SL.out.hfit)
      obtain ⟨sb, so, s, rfl, hs1, hc1, -⟩ := SLr.out.at strOk (Below.refl _ _) k hlt
      have hs2 : s = x.f.s := by
        rw [List.getElem?_map, hx] at hs1
        exact (Option.some.inj hs1).symm
      subst hs2
      have d1 : wr.cell? ⟨sb, so + k, none⟩ = some (.string x.f.s) := by have := hc1 0 (.string x.f.s) rfl; rw [show so + k * strE.k + 0 = so + k by show so + k * 1 + 0 = so + k; omega] at this; exact this
      have g1 : (0 : Int) ≤ (k : Int) := by omega
      have g2 : (k : Int) < (n : Int) := by omega
      have okx := HOK.out x hxm
      have hsm : x.f.s.size ≤ maxLen := by have := okx.s; unfold maxLen; omega
      have hxm2 : x ∈ D ++ x :: Q := List.mem_append_right _ (List.mem_cons_self ..)
      have lk := (look_yes (s := x.f.s) 64 44 map_type _ (file_zv wr) C.out.sm hsm (C.out.at hxm2)).1
      have c1 := C.out.rp.k2.2
      have HSM := Lib.hid hsm
      have hlb := leftB_le ks nx x.f okx.su
      have hst := stay_le ks nx ((x.f.b.length : Int) - x.f.su) (by have := okx.su; omega)
      have h256 := okx.b2
      have hsu := okx.su
      obtain ⟨fa, fc, hbv, hrd0, -⟩ := (C.out.ob x hxm2).form
      have hfc := hrd0.hle
      have hfm := hrd0.hmax
      clear hrd0
      have OC := Lib.hid (lso_cell (C.out.ot x hxm2))
      have HXM := Lib.hid hxm2
      have hnx := CX.out.nx
      rw [List.length_take] at hnx
      have HGO := Lib.hid (CrashX.gone (x := x) CX.out)
      have HSU := Lib.hid (CrashX.sure (x := x) CX.out)
      have HCU := Lib.hid (fun bv => CrashX.cut (x := x) (bv := bv) CX.out)
      have HIL := Lib.hid (show isLoose x.f = decide (x.f.su < x.f.b.length) from rfl)
      obtain ⟨lb, hlbe⟩ : ∃ lb, leftB ks nx x.f = lb := ⟨_, rfl⟩
      rw [hlbe] at hlb HGO HCU
      obtain ⟨sv, hsv⟩ : ∃ sv, stayV ks nx ((x.f.b.length : Int) - x.f.su) = sv := ⟨_, rfl⟩
      rw [hsv] at hlb hst
      have HSV := Lib.hid hsv
      obtain ⟨⟨xs, xb, xu, xt⟩, xbv, xtv⟩ := x
      dsimp only at hbv lk OC hs1 d1 hsm HSM hlb hst h256 hsu HIL HSV hfc ⊢
      replace lk : (Instr.lookup 64 (.map (some m)) (.string xs) false).run Tryz.prog wr = .ok (.agg (fiC xs xbv xu xtv).toArray) wr := lk
      obtain ⟨bl, hbl⟩ : ∃ bl, xb.length = bl := ⟨_, rfl⟩
      have HBL := Lib.hid hbl
      rw [hbl] at hbv hlb hst h256 hsu HIL HSV hfc
      have hqc : lb ≤ fc := by omega
      subst hbv
      have HLO := Lib.hid (fun w' => cloose xs (.slice fa bl fc) xtv fa bl fc xu w' rfl ⟨by omega, hsu⟩)
      clear hs1 hc1 okx hx hxm hbl hxm2 hkl hdk hQ hsm hlbe hsv
      go_wp2_with (first
        | ((with_reducible refine alloc_row (o := ⟨some 7, _, _, _, _, _⟩) rfl _ rfl _ FZ.out ?_); intro w3 hr hb hz; have R3 := Lib.hid hr; have B3 := Lib.hid hb; clear hr hb hz)
        | ((with_reducible refine store_row (o := ⟨none, _, _, _, _, _⟩) rfl _ (.tmp 7) _ rfl wr.heap.size (fiC xs (.slice fa bl fc) xu xtv) ?_ ?_ 44 _ R3.out ?_ ?_ ?_ ?_); (focus go_simp); (focus (first | (go_simp; done) | (go_simp; rfl))); (focus (exact SZ.out)); (focus rfl); (focus (exact fi_one _ _ _ _ rfl OC.out)); intro w4 hr hu; have R4 := Lib.hid hr; have B4 := Lib.hid (B3.out.trans (hu.below (Nat.le_refl _))); clear hr hu lk c1)
        | ((with_reducible refine load_row (o := ⟨some 23, _, _, _, _, _⟩) rfl _ _ rfl wr.heap.size ?_ _ (fiC xs (.slice fa bl fc) xu xtv) _ R4.out Tryz.underlying44 rfl ?_ ?_); (focus go_simp); (focus (exact SZ.out)))
        | (go_at_call 51; (with_reducible refine (HLO.out w4).mono ?_); rintro e w5 ⟨rfl, hb⟩; have B5 := Lib.hid (B4.out.trans (hb.mono B4.out.size)); have R5 := Lib.hid (R4.out.below hb R4.out.lt); clear hb d1))
      · have hz : ¬ xu < bl := by first | omega | (have h0 := ‹((bl : Int) - (xu : Int) == 0) = true›; simp at h0; omega)
        have e1 := Lib.hid (HSU.out (by rw [HIL.out]; simp; omega))
        go_roundw
        case rel => exact ⟨k + 1, nx, _, vint (by omega), by omega, Lib.hid (by rw [HTK.out]; exact e1.out), Lib.hid (by rw [HQ.out, List.append_assoc]; exact C.out.mono B5.out), Lib.hid (F.out.trans (Ft.of_below B5.out)), Lib.hid (KR.out.below B5.out KR.out.lt), Lib.hid (U.out.below B5.out U.out.lt)⟩
        case measure => simp [intOf]; omega
      · have hz : xu < bl := by first | omega | (have h0 := ‹((bl : Int) - (xu : Int) == 0) = false›; simp at h0; omega)
        have HLT := Lib.hid (show isLoose ⟨xs, xb, xu, xt⟩ = true by rw [HIL.out]; simp; exact hz)
        have D5 := Lib.hid (show Below w5.heap.size w5 w5.drew from (Below.refl _ _).drew)
        have C5 := Lib.hid (C.out.mono B5.out)
        have F5 := Lib.hid (F.out.trans (Ft.of_below B5.out))
        have K5 := Lib.hid (KR.out.below B5.out KR.out.lt)
        have U5 := Lib.hid (U.out.below B5.out U.out.lt)
        have HKD := Lib.hid (HKS.out.stay0 (Nat.le_trans B2.out.size F5.out.size) (fun hn0 b off s e hb => (F5.out.block b (Nat.lt_of_lt_of_le hb B2.out.size) (fun hs => hs.elim (HKN.out hn0 b off s e) (fun e2 => absurd hb (Nat.not_lt.2 (e2 ▸ L2.out))))).trans (B2.out.block b hb)))
        have hwq : IntKind.i64.wrap ((xu : Int) + sv) = (lb : Int) := by rw [IntKind.wrap_i64]; omega
        have HTU := Lib.hid (fun v (h1 : Row v b1 31 [.slice ka kl kc]) (h2 : Row v b2 3 [.int .i64 ((kturnN ks nx : Nat) : Int)]) (hks : Sl .i64 v ka kl ks) => kturn b1 b2 (kturnN ks nx) kl kc ka ks ((bl : Int) - xu) v h1 h2 hks (by unfold kturnN; split <;> omega) ⟨by omega, by omega⟩)
        rw [stayV_turn, HSV.out, kturnAt_N] at HTU
        have LW := Lib.hid (show b2 < wr.heap.size from U.out.lt)
        refine region_t (fun v => Row v wr.heap.size 44 (fiC xs (.slice fa bl fc) xu xtv)) 8 (by kernel_rfl) (by kernel_rfl) (by kernel_rfl) (R5.out.below D5.out R5.out.lt) ?_
        obtain ⟨wd, hwd⟩ : ∃ wd, w5.drew = wd := ⟨_, rfl⟩
        rw [hwd] at D5 ⊢
        clear hwd
        (refine t_read 0 rfl (by kernel_rfl) (by kernel_rfl) (by kernel_rfl) (t_free rfl) ?_ ?_ ?_; rotate_left; (focus (intro v hv; go_simp; rfl)); go_simp)
        (refine t_read 1 rfl (by kernel_rfl) (by kernel_rfl) (by kernel_rfl) (t_free rfl) ?_ ?_ ?_; rotate_left; (focus (intro v hv; have c2 := hv.k4.2.2.1; go_simp; rfl)); go_simp)
        (refine t_read 2 rfl (by kernel_rfl) (by kernel_rfl) (by kernel_rfl) (t_free rfl) ?_ ?_ ?_; rotate_left; (focus (intro v hv; go_simp; rfl)); go_simp)
        (refine t_read 3 rfl (by kernel_rfl) (by kernel_rfl) (by kernel_rfl) (t_free rfl) ?_ ?_ ?_; rotate_left; (focus (intro v hv; refine lg_all 44 (.tmp 7) ?_ wr.heap.size ?_ _ _ _ hv Tryz.underlying44 rfl SZ.out; (focus rfl); (focus go_simp))); go_simp)
        (refine t_call 4 rfl (by kernel_rfl) rfl (t_free rfl) 51 ?_ ?_ ?_; rotate_left; (focus (go_simp; rfl)))
        refine (HLO.out wd).mono ?_
        rintro e w6 ⟨rfl, hb6⟩
        have B6 := Lib.hid (D5.out.trans (hb6.mono D5.out.size))
        have R6 := Lib.hid (R5.out.below B6.out R5.out.lt)
        have K6 := Lib.hid (K5.out.below B6.out K5.out.lt)
        have U6 := Lib.hid (U5.out.below B6.out U5.out.lt)
        have KS6 := Lib.hid (HKD.out.mono B6.out)
        have C6 := Lib.hid (C5.out.mono B6.out)
        have F6 := Lib.hid (F5.out.trans (Ft.of_below B6.out))
        clear hb6
        refine ⟨_, rfl, R6.out, ?_⟩
        go_simp
        (refine t_call 5 rfl (by kernel_rfl) rfl (t_free rfl) 87 ?_ ?_ ?_; rotate_left; (focus (go_simp; rfl)))
        refine (HTU.out w6 K6.out U6.out KS6.out).mono ?_
        rintro e w7 ⟨rfl, hr7, hg7⟩
        have U7 := Lib.hid hr7
        have R7 := Lib.hid (R6.out.gw hg7 (Nat.ne_of_gt LW.out))
        have K7 := Lib.hid (K6.out.gw hg7 N12.out)
        have G7 := Ft.of_gw28 hg7
        have C7 := Lib.hid (C6.out.ft G7 (fun k hk e => absurd (H.out.lt k hk) (Nat.not_lt.2 (e ▸ L2.out))))
        have F7 := Lib.hid (F6.out.trans (G7.mono (fun k e => .inr e)))
        clear hr7 hg7 G7
        refine ⟨_, rfl, R7.out, ?_⟩
        go_simp
        (refine t_read 6 rfl (by kernel_rfl) (by kernel_rfl) (by kernel_rfl) (t_free rfl) ?_ ?_ ?_; rotate_left; (focus (intro v hv; go_simp; rfl)); go_simp)
        (refine t_read 7 rfl (by kernel_rfl) (by kernel_rfl) (by kernel_rfl) (t_free rfl) ?_ ?_ ?_; rotate_left; (focus (intro v hv; go_simp; rfl)); go_simp)
        (refine t_last 8 rfl (by kernel_rfl) rfl (by kernel_rfl) (by kernel_rfl) ?_; intro K hK)
        refine store_cell rfl _ _ _ rfl wr.heap.size 2 (.int .i64 (lb : Int)) (by go_simp) (by go_simp) rfl rfl 44 _ R7.out size_int (by show 2 < 4; decide) ?_
        intro w8 hr hu
        have R8 := Lib.hid (show Row w8 wr.heap.size 44 (fiC xs (.slice fa bl fc) lb xtv) from hr)
        have NS := Lib.hid (show ∀ k, S k → k ≠ wr.heap.size from fun k hk e => absurd (H.out.lt k hk) (Nat.not_lt.2 (e ▸ Nat.le_trans B2.out.size F.out.size)))
        have C8 := Lib.hid (C7.out.ft (Ft.of_upd (F := fun k => k = wr.heap.size) hu rfl) (fun k hk e => NS.out k hk e))
        have F8 := Lib.hid (F7.out.on (Ft.of_upd (F := fun k => k = wr.heap.size) hu rfl) (fun k e => .inr (e ▸ F.out.size)))
        have K8 := Lib.hid (K7.out.upd hu (Nat.ne_of_lt KR.out.lt))
        have U8 := Lib.hid (U7.out.upd hu (Nat.ne_of_lt U.out.lt))
        have q1 := R8.out.k4.2.1
        have q2 := R8.out.k4.2.2.1
        clear hr hu
        refine hK _ _ ?_
        go_simp
        have f1 := R8.out.frozen 1
        go_wp2_with fail
        obtain ⟨w9, hw9⟩ : ∃ z, w8.setCell ⟨wr.heap.size, 1, none⟩ (.slice fa lb fc) = z := ⟨_, rfl⟩
        rw [show ((xu : Int) + sv).toNat = lb by omega, hw9]
        have hu : Upd w8 w9 wr.heap.size := hw9 ▸ Upd.setCell w8 _ _ _
        have R9 := Lib.hid (show Row w9 wr.heap.size 44 (fiC xs (.slice fa lb fc) lb xtv) from hw9 ▸ R8.out.setV 1 _)
        have C9 := Lib.hid (C8.out.ft (Ft.of_upd (F := fun k => k = wr.heap.size) hu rfl) (fun k hk e => NS.out k hk e))
        have F9 := Lib.hid (F8.out.on (Ft.of_upd (F := fun k => k = wr.heap.size) hu rfl) (fun k e => .inr (e ▸ F.out.size)))
        have K9 := Lib.hid (K8.out.upd hu (Nat.ne_of_lt KR.out.lt))
        have U9 := Lib.hid (U8.out.upd hu (Nat.ne_of_lt U.out.lt))
        clear hu hw9 q1 q2 f1
        have D9 := Lib.hid (show Below w9.heap.size w9 w9.drew from (Below.refl _ _).drew)
        have SM9 := Lib.hid (show ∀ v, Below w9.heap.size w9 v → SM v m (D ++ ⟨⟨xs, xb, xu, xt⟩, .slice fa bl fc, xtv⟩ :: Q).length (MX (D ++ ⟨⟨xs, xb, xu, xt⟩, .slice fa bl fc, xtv⟩ :: Q)) from fun v hv => (C9.out.mono hv).sm)
        refine region_t (fun v => Below w9.heap.size w9 v) 6 (by kernel_rfl) (by kernel_rfl) (by kernel_rfl) D9.out ?_
        obtain ⟨wz, hwz⟩ : ∃ wz, w9.drew = wz := ⟨_, rfl⟩
        rw [hwz] at D9 ⊢
        clear hwz
        (refine t_read 0 rfl (by kernel_rfl) (by kernel_rfl) (by kernel_rfl) (t_free rfl) ?_ ?_ ?_; rotate_left; (focus (intro v hv; go_simp; rfl)); go_simp)
        (refine t_read 1 rfl (by kernel_rfl) (by kernel_rfl) (by kernel_rfl) (t_free rfl) ?_ ?_ ?_; rotate_left; (focus (intro v hv; go_simp; rfl)); go_simp)
        (refine t_read 2 rfl (by kernel_rfl) (by kernel_rfl) (by kernel_rfl) (t_free rfl) ?_ ?_ ?_; rotate_left; (focus (intro v hv; go_simp; rfl)); go_simp)
        (refine t_read 3 rfl (by kernel_rfl) (by kernel_rfl) (by kernel_rfl) (t_free rfl) ?_ ?_ ?_; rotate_left; (focus (intro v hv; have c1 := (hv.cell (p := ⟨p, 1, none⟩) C9.out.rp.lt).trans C9.out.rp.k2.2; go_simp; rfl)); go_simp)
        (refine t_read 4 rfl (by kernel_rfl) (by kernel_rfl) (by kernel_rfl) (t_free rfl) ?_ ?_ ?_; rotate_left; (focus (intro v hv; go_simp; rfl)); go_simp)
        (refine t_read 5 rfl (by kernel_rfl) (by kernel_rfl) (by kernel_rfl) (t_free rfl) ?_ ?_ ?_; rotate_left; (focus (intro v hv; refine lg_all 44 (.tmp 7) ?_ wr.heap.size ?_ _ _ _ (R9.out.below hv R9.out.lt) Tryz.underlying44 rfl SZ.out; (focus rfl); (focus go_simp))); go_simp)
        (refine t_last 6 rfl (by kernel_rfl) rfl (by kernel_rfl) (by kernel_rfl) ?_; intro K hK)
        have CZ := C9.out.mono D9.out
        have GM := get_mid D Q ⟨⟨xs, xb, xu, xt⟩, .slice fa bl fc, xtv⟩
        refine map_put rfl _ _ _ 64 44 rfl map_type m _ _ (by go_simp) CZ.sm (by have h1 := HN.out; have h2 := congrArg List.length HQ.out; have h3 := CX.out.nx; rw [List.length_take] at h3; simp at h2 ⊢; omega) xs (.agg (fiC xs (.slice fa lb fc) lb xtv).toArray) (by go_simp) HSM.out (by go_simp) (MX ((D ++ ⟨⟨xs, xb, xu, xt⟩, .slice fa bl fc, xtv⟩ :: Q).set D.length (cutX ⟨⟨xs, xb, xu, xt⟩, .slice fa bl fc, xtv⟩ lb (.slice fa lb fc)))) (ris_set CZ.sm.ris GM rfl) (fun q => (mx_set (y := (cutX ⟨⟨xs, xb, xu, xt⟩, .slice fa bl fc, xtv⟩ lb (.slice fa lb fc))) CZ.sm.ris GM rfl q)) ?_
        intro w11 hsm7 hg7 hz7
        refine hK _ _ ?_
        have PP := CZ.same (i := D.length) (y := (cutX ⟨⟨xs, xb, xu, xt⟩, .slice fa bl fc, xtv⟩ lb (.slice fa lb fc))) GM rfl hg7 (by have := hsm7.tight; rw [mx_len] at this; exact this) (fun g e => by cases fa <;> exact e) (fun g e => e) (show Fr _ 0 (.slice fa lb fc) (xb.take lb) from (show Fr _ 0 (.slice fa bl fc) xb from CZ.ob ⟨⟨xs, xb, xu, xt⟩, .slice fa bl fc, xtv⟩ (List.mem_append_right _ (List.mem_cons_self ..))).cut (by omega)) (show LsO intE _ 0 xtv xt from CZ.ot ⟨⟨xs, xb, xu, xt⟩, .slice fa bl fc, xtv⟩ (List.mem_append_right _ (List.mem_cons_self ..)))
        rw [set_midX] at PP
        have C11 := Lib.hid PP.1
        have FF := (Ft.of_below D9.out).trans PP.2
        have F11 := Lib.hid (F9.out.on FF (fun b hb => .inl (.inl hb)))
        have hns : ∀ k, w.heap.size ≤ k → ¬ S k := fun k hk hs => absurd (H.out.lt k hs) (Nat.not_lt.2 hk)
        have K11 := Lib.hid (K9.out.ft FF (hns b1 L1.out))
        have U11 := Lib.hid (U9.out.ft FF (hns b2 L2.out))
        have R11 := Lib.hid (R9.out.ft FF (hns wr.heap.size (Nat.le_trans B2.out.size F.out.size)))
        have q2 := R11.out.k4.2.2.1
        have c1 := C11.out.rp.k2.2
        clear hsm7 hg7 hz7 PP FF hns CZ GM
        go_simp
        by_cases h0 : lb = 0
        · subst h0
          have e1 := Lib.hid (HGO.out HLT.out rfl)
          go_wp2_with ((with_reducible refine map_del (o := ⟨none, _, _, _, _, _⟩) rfl _ _ 64 44 rfl map_type m _ _ ?_ C11.out.sm xs ?_ HSM.out ?_); (focus go_simp); (focus (first | (go_simp; done) | (go_simp; rfl))); intro w12 hsm hg hz; have S12 := Lib.hid hsm; have G12 := Lib.hid hg; clear hsm hg hz c1 q2)
          have PF := C11.out.filter (fun z => !decide (z.f.s = xs)) G12.out (by have hsm := S12.out; rw [mx_filter] at hsm; have := hsm.tight; rw [mx_len] at this; exact this)
          have dm : (D ++ (cutX ⟨⟨xs, xb, xu, xt⟩, .slice fa bl fc, xtv⟩ 0 (.slice fa 0 fc)) :: Q).filter (fun z => !decide (z.f.s = xs)) = D ++ Q := drop_mid (x := (cutX ⟨⟨xs, xb, xu, xt⟩, .slice fa bl fc, xtv⟩ 0 (.slice fa 0 fc))) C11.out.sm.ris
          rw [dm] at PF
          have C12 := Lib.hid PF.1
          have F12 := Lib.hid (F11.out.on PF.2 (fun b hb => .inl (.inl hb)))
          have K12 := Lib.hid (K11.out.ft PF.2 (fun hs => absurd (H.out.lt b1 hs) (Nat.not_lt.2 L1.out)))
          have U12 := Lib.hid (U11.out.ft PF.2 (fun hs => absurd (H.out.lt b2 hs) (Nat.not_lt.2 L2.out)))
          clear PF
          go_roundw
          case rel => exact ⟨k + 1, nx + 1, D, vint (by omega), by omega, Lib.hid (by rw [HTK.out]; exact e1.out), Lib.hid (by rw [HQ.out]; exact C12.out), F12, K12, U12⟩
          case measure => simp [intOf]; omega
        · have e1 := Lib.hid (HCU.out (.slice fa lb fc) HLT.out h0)
          have h0' : ((lb : Int) == 0) = false := by simp; omega
          go_wp2_with fail
          go_roundw
          case rel => exact ⟨k + 1, nx + 1, _, vint (by omega), by omega, Lib.hid (by rw [HTK.out]; exact e1.out), Lib.hid (by rw [HQ.out, List.append_assoc]; exact C11.out), F11, K11, U11⟩
          case measure => simp [intOf]; omega
    · obtain rfl : n = k := by omega
      go_wp2_with fail
      first | go_end0 | (refine bodyPost_ret (results_none rfl _ _ _) rfl ?_)
      refine ⟨rfl, D, ?_, ?_, ?_⟩
      · have := CX.out.plain
        rw [← HNN.out, List.take_length] at this
        exact this
      · have := C.out
        rw [← HNN.out, List.drop_length, List.append_nil] at this
        exact this
      · exact (Ft.of_below B2.out).on F.out (fun b hb => hb.elim .inl (fun e => .inr (by rw [e]; exact L2.out)))
end Go.Proofs.YtkfhppbmnjmnoaaGreatDoor.W

/- LAYER 28 (chunk): the program's Rot. -/
set_option linter.unusedSimpArgs false
set_option linter.unusedVariables false
namespace Go.Proofs.YtkfhppbmnjmnoaaGreatDoor.W
open Go Go.ChangeShapes Go.WideShapes Go.ChangeAt Go.RowKit
open Go.Proofs.YtkfhppbmnjmnoaaGreatDoor.P (shaL shaL_len)

theorem set_self {α : Type} {l : List α} {k : Nat} {a : α} (h : l[k]? = some a) : l.set k a = l := by
  obtain ⟨h1, h2⟩ := List.getElem?_eq_some_iff.1 h
  subst h2
  exact List.set_getElem_self h1
theorem mx_self {X : List FX} {k : Nat} {x y : FX} (hi : X[k]? = some x) (hs : y.f.s = x.f.s) (hv : y.val = x.val) : MX (X.set k y) = MX X := by
  unfold MX
  rw [List.map_set]
  refine set_self ?_
  rw [List.getElem?_map, hi, hs, hv]; rfl
theorem mem_setX {X : List FX} {k : Nat} {x y z : FX} (hi : X[k]? = some x) (hp : Apart (fun x => x.bv.ownBlock) X) (hz : z ∈ X.set k y) : z = y ∨ (z ∈ X ∧ ∀ g, x.bv.ownBlock = some g → z.bv.ownBlock ≠ some g) := by
  obtain ⟨q, hq⟩ := List.mem_iff_getElem?.1 hz
  rw [List.getElem?_set] at hq
  obtain ⟨hk, hkx⟩ := List.getElem?_eq_some_iff.1 hi
  by_cases e : k = q
  · rw [if_pos e, if_pos (by omega)] at hq
    exact .inl (Option.some.inj hq).symm
  · rw [if_neg e] at hq
    refine .inr ⟨List.mem_of_getElem? hq, fun g hg => ?_⟩
    obtain ⟨hl, hzq⟩ := List.getElem?_eq_some_iff.1 hq
    unfold Apart at hp
    rw [List.pairwise_iff_getElem] at hp
    rcases Nat.lt_or_gt_of_ne e with h1 | h1
    · have := hp k q hk hl h1 g (by rw [hkx]; exact hg)
      rw [hzq] at this; exact this
    · intro e2
      have := hp q k hl hk h1 g (by rw [hzq]; exact e2)
      rw [hkx] at this; exact this hg
theorem CK.byte {w : World} {p m k g j cap n : Nat} {room : Int} {X : List FX} {S : Nat → Prop} {x : FX} (h : CK w p m room X S) (hi : X[k]? = some x) (hbv : x.bv = .slice (some ⟨g, 0, none⟩) n cap) (hn : n = x.f.b.length) (v : UInt8) :
    CK (w.setCell ⟨g, j, none⟩ (B v)) p m room (X.set k ⟨⟨x.f.s, x.f.b.set j v, x.f.su, x.f.t⟩, x.bv, x.tv⟩) S ∧ Ft S w (w.setCell ⟨g, j, none⟩ (B v)) := by
  have hx := List.mem_of_getElem? hi
  have hu := Upd.setCell w g j (B v)
  have eg : x.bv.ownBlock = some g := by rw [hbv]; rfl
  have hf : Fr w 0 (.slice (some ⟨g, 0, none⟩) n cap) x.f.b := hbv ▸ h.ob x hx
  have tg := fr_tyb (h.ob x hx) eg
  have gm : g ≠ m := fun e => (h.bm hx).2.2.1 (by rw [eg, e])
  have gp : g ≠ p := fun e => (h.bm hx).2.2.2 (by rw [eg, e])
  have nt : ∀ z ∈ X, z.tv.ownBlock ≠ some g := fun z hz e => IsTy.ne (lso_ty (h.ot z hz) e) tg (by decide) rfl
  have hy : ∀ z, z ∈ X.set k ⟨⟨x.f.s, x.f.b.set j v, x.f.su, x.f.t⟩, x.bv, x.tv⟩ → z = ⟨⟨x.f.s, x.f.b.set j v, x.f.su, x.f.t⟩, x.bv, x.tv⟩ ∨ (z ∈ X ∧ z.bv.ownBlock ≠ some g) := fun z hz => (mem_setX hi h.pb hz).imp id fun h2 => ⟨h2.1, h2.2 g eg⟩
  have hmx : MX (X.set k ⟨⟨x.f.s, x.f.b.set j v, x.f.su, x.f.t⟩, x.bv, x.tv⟩) = MX X := mx_self hi rfl rfl
  refine ⟨{ rp := h.rp.upd hu gp.symm, sm := ?_, ob := ?_, ot := ?_, sb := apart_set h.pb hi fun b hb => .inl hb, st := apart_set h.pt hi fun b hb => .inl hb, Sp := h.Sp, Sm := h.Sm, Sb := ?_, St := ?_, lt := fun b hb => by rw [hu.size]; exact h.lt b hb }, ?_⟩
  · rw [hmx, List.length_set]
    exact h.sm.block (hu.block m (Ne.symm gm))
  · intro z hz
    rcases hy z hz with rfl | ⟨h1, h2⟩
    · show Fr _ 0 x.bv (x.f.b.set j v)
      rw [hbv]; exact hf.set j v hn
    · exact (h.ob z h1).keep fun q e => hu.block q (fun e2 => h2 (by rw [e, e2]))
  · intro z hz
    rcases hy z hz with rfl | ⟨h1, h2⟩
    · exact (h.ot x hx).keep fun q e => hu.block q (fun e2 => nt x hx (by rw [e, e2]))
    · exact (h.ot z h1).keep fun q e => hu.block q (fun e2 => nt z h1 (by rw [e, e2]))
  · intro z hz
    rcases hy z hz with rfl | ⟨h1, h2⟩
    · exact h.Sb x hx
    · exact h.Sb z h1
  · intro z hz
    rcases hy z hz with rfl | ⟨h1, h2⟩
    · exact h.St x hx
    · exact h.St z h1
  · exact ⟨hu.os, hu.tape, hu.output, Nat.le_of_eq hu.size.symm, fun b hb hn => hu.block b (fun e => hn (by rw [e]; exact h.Sb x hx g eg))⟩
theorem xor8k (x y : UInt8) : bits .xor .u8 (x.toNat : Int) (y.toNat : Int) = ((x ^^^ y).toNat : Int) := by
  rw [u8_xor_nat _ _ x.toNat_lt y.toNat_lt, UInt8.toNat_xor]
set_option maxRecDepth 100000 in
set_option maxHeartbeats 8000000 in
theorem crot {p m T : Nat} {room : Int} {X : List FX} {S : Nat → Prop} {w : World} (i at' bt : Int) (h : CK w p m room X S) (hok : ∀ x ∈ X, FiOk T x.f) (hn : X.length ≤ 524288) :
    Calls Tryz.prog 42 #[.pointer (some ⟨p, 0, none⟩), .int .i64 i, .int .i64 at', .int .i64 bt] w fun e w' => e = .returned (.bool (decide (X.length ≠ 0))) ∧ ∃ X', X'.map (·.f) = rotC (X.map (·.f)) i at' bt ∧ CK w' p m room X' S ∧ Ft S w w' := by
  have H := Lib.hid h
  have HS := Lib.hid (csums h hn)
  have HOK := Lib.hid hok
  obtain ⟨n, hnn⟩ : ∃ n, X.length = n := ⟨_, rfl⟩
  have HNN := Lib.hid hnn
  have hn2 : n ≤ 524288 := by omega
  clear h hok hn
  by_cases h0 : n = 0
  · subst h0
    have hX : X = [] := List.eq_nil_of_length_eq_zero HNN.out
    obtain ⟨R, hR⟩ : ∃ R, rotC (X.map (·.f)) i at' bt = R := ⟨_, rfl⟩
    have HRE := Lib.hid (show X.map (·.f) = R by rw [← hR, hX]; rfl)
    rw [hR, hnn]
    clear hX hR hnn
    go_enter Tryz.func42, Tryz.ntmps42
    go_wp2_with (go_at_call 47; (with_reducible refine HS.out.mono ?_); rintro e w1 ⟨sv, rfl, hl, hb⟩; obtain ⟨sa, sc, rfl, hsl, -⟩ := hl.ls strOk (fun s hs => by obtain ⟨x, hx, rfl⟩ := List.mem_map.1 hs; have h5 := (HOK.out x hx).s; show x.f.s.size ≤ maxLen; unfold maxLen; omega); rw [List.length_map, HNN.out] at hsl ⊢; have B1 := Lib.hid hb; clear hl hb hsl)
    go_ret
    exact ⟨rfl, X, HRE.out, H.out.mono B1.out, Ft.of_below B1.out⟩
  unfold rotC
  rw [List.length_map, hnn]
  clear hnn
  have hnp : 0 < n := by omega
  obtain ⟨k, hk⟩ : ∃ k : Nat, i % (n : Int) = k := ⟨(i % (n : Int)).toNat, by have := Int.emod_nonneg i (show (n : Int) ≠ 0 by omega); omega⟩
  have hkn : k < n := by have := Int.emod_lt_of_pos i (show 0 < (n : Int) by omega); omega
  have HM1 := Lib.hid (fun w => cmodulo i n w ⟨by omega, by omega⟩)
  rw [hk] at HM1 ⊢
  obtain ⟨x, hx⟩ : ∃ x, X[k]? = some x := ⟨X[k]'(by rw [HNN.out]; exact hkn), by simp [HNN.out, hkn]⟩
  have hxm : x ∈ X := List.mem_of_getElem? hx
  have okx := HOK.out x hxm
  have hsm : x.f.s.size ≤ maxLen := by have := okx.s; unfold maxLen; omega
  have HX := Lib.hid hx
  have HXM := Lib.hid hxm
  obtain ⟨fa, fc, hbv, hrd0, hfa⟩ := (H.out.ob x hxm).form
  have hb1 := okx.b1
  have hb2 := okx.b2
  have hsu := okx.su
  rw [show (Int.toNat (k : Int)) = k by simp, show (X.map (·.f))[k]? = some x.f by rw [List.getElem?_map, hx]; rfl]
  dsimp only
  obtain ⟨bl, hbl⟩ : ∃ bl, x.f.b.length = bl := ⟨_, rfl⟩
  have HBL := Lib.hid hbl
  rw [hbl] at hbv hrd0 hb1 hb2 hsu ⊢
  obtain ⟨g, hfg⟩ : ∃ g, fa = some ⟨g, 0, none⟩ := by
    rcases hfa with rfl | ⟨g, rfl, -, -⟩
    · have h1 := hrd0.hnil rfl; have h2 := hrd0.hle; omega
    · exact ⟨g, rfl⟩
  subst hfg
  obtain ⟨j, hj⟩ : ∃ j : Nat, at' % (bl : Int) = j := ⟨(at' % (bl : Int)).toNat, by have := Int.emod_nonneg at' (show (bl : Int) ≠ 0 by omega); omega⟩
  have hjn : j < bl := by have := Int.emod_lt_of_pos at' (show 0 < (bl : Int) by omega); omega
  have HM2 := Lib.hid (fun w => cmodulo at' bl w ⟨by omega, by omega⟩)
  rw [hj] at HM2 ⊢
  have HBV := Lib.hid hbv
  have HFR := Lib.hid (show Fr w 0 (.slice (some ⟨g, 0, none⟩) bl fc) x.f.b from hbv ▸ H.out.ob x hxm)
  have HC := Lib.hid (hbv ▸ H.out.Sb x hxm : ∀ q, (Value.slice (some ⟨g, 0, none⟩) bl fc).ownBlock = some q → S q)
  have HSM := Lib.hid hsm
  rw [show (Int.toNat (j : Int)) = j by simp]
  have LK := Lib.hid (fun v (hv : Below w.heap.size w v) => show (Instr.lookup 64 (.map (some m)) (.string x.f.s) false).run Tryz.prog v = .ok (.agg (fiC x.f.s (.slice (some ⟨g, 0, none⟩) bl fc) x.f.su x.tv).toArray) v from by
    have := (look_yes (s := x.f.s) 64 44 map_type _ (file_zv v) (H.out.mono hv).sm HSM.out ((H.out.mono hv).at HXM.out)).1
    rw [← HBV.out]; exact this)
  have hfc := hrd0.hle
  have hfm := hrd0.hmax
  clear hk hx hxm okx hsm hbl hj hbv hrd0 hfa
  go_enter Tryz.func42, Tryz.ntmps42
  go_wp2_with (go_at_call 47; (with_reducible refine HS.out.mono ?_); rintro e w1 ⟨sv, rfl, hl, hb⟩; obtain ⟨sa, sc, rfl, hsl, -⟩ := hl.ls strOk (fun s hs => by obtain ⟨x, hx, rfl⟩ := List.mem_map.1 hs; have h5 := (HOK.out x hx).s; show x.f.s.size ≤ maxLen; unfold maxLen; omega); rw [List.length_map, HNN.out] at hsl ⊢; have SO := Lib.hid (show ∀ b off s, sa = some ⟨b, off, s⟩ → b < w1.heap.size from fun b off s e => by subst e; exact (World.ownsRow.lt hl b rfl).2); have SL := Lib.hid hsl; have B1 := Lib.hid hb; clear hl hb hsl)
  obtain ⟨sb, so, s, rfl, hs1, hc1, hsb⟩ := SL.out.at strOk (Below.refl _ _) k hkn
  have hs2 : s = x.f.s := by
    rw [List.getElem?_map, HX.out] at hs1
    exact (Option.some.inj hs1).symm
  subst hs2
  have D1 := Lib.hid (show w1.cell? ⟨sb, so + k, none⟩ = some (.string x.f.s) by have := hc1 0 (.string x.f.s) rfl; rw [show so + k * strE.k + 0 = so + k by show so + k * 1 + 0 = so + k; omega] at this; exact this)
  have C1 := Lib.hid (H.out.mono B1.out)
  have SLT := Lib.hid (show sb < w1.heap.size from SO.out sb so none rfl)
  clear hs1 hc1 hsb
  refine region_h (fun v => Below w1.heap.size w1 v) (by kernel_rfl) (by kernel_rfl) (Below.refl _ _).drew ?_
  (refine h_read 0 rfl (by kernel_rfl) (by kernel_rfl) (h_free rfl) ?_ ?_ ?_; rotate_left; (focus (intro v hv; go_simp; rfl)); go_simp)
  (refine h_read 1 rfl (by kernel_rfl) (by kernel_rfl) (h_free rfl) ?_ ?_ ?_; rotate_left; (focus (intro v hv; go_simp; rfl)); go_simp)
  (refine h_read 2 rfl (by kernel_rfl) (by kernel_rfl) (h_free rfl) ?_ ?_ ?_; rotate_left; (focus (intro v hv; go_simp; rfl)); go_simp)
  (refine h_read 3 rfl (by kernel_rfl) (by kernel_rfl) (h_free rfl) ?_ ?_ ?_; rotate_left; (focus (intro v hv; have c1 := (hv.cell (p := ⟨p, 1, none⟩) C1.out.rp.lt).trans C1.out.rp.k2.2; have d1 := (hv.cell (p := ⟨sb, so + k, none⟩) SLT.out).trans D1.out; go_simp; rfl)); go_simp)
  (refine h_read 4 rfl (by kernel_rfl) (by kernel_rfl) (h_free rfl) ?_ ?_ ?_; rotate_left; (focus (intro v hv; go_simp; rfl)); go_simp)
  (refine h_read 5 rfl (by kernel_rfl) (by kernel_rfl) (h_free rfl) ?_ ?_ ?_; rotate_left; (focus (intro v hv; go_simp; rfl)); go_simp)
  (refine h_read 6 rfl (by kernel_rfl) (by kernel_rfl) (h_free rfl) ?_ ?_ ?_; rotate_left; (focus (intro v hv; go_simp; rfl)); go_simp)
  (refine h_read 7 rfl (by kernel_rfl) (by kernel_rfl) (h_free rfl) ?_ ?_ ?_; rotate_left; (focus (intro v hv; go_simp; rfl)); go_simp)
  (refine h_call 8 rfl (by kernel_rfl) (h_free rfl) 72 ?_ ?_ ?_; rotate_left; (focus (go_simp; rfl)))
  refine (HM1.out _).mono ?_
  rintro e w2 ⟨rfl, rfl⟩
  refine ⟨_, rfl, (Below.refl _ _).drew, ?_⟩
  go_simp
  (refine h_read 9 rfl (by kernel_rfl) (by kernel_rfl) (h_free rfl) ?_ ?_ ?_; rotate_left; (focus (intro v hv; go_simp; rfl)); go_simp)
  (refine h_read 10 rfl (by kernel_rfl) (by kernel_rfl) (h_free rfl) ?_ ?_ ?_; rotate_left; (focus (intro v hv; have c1 := (hv.cell (p := ⟨p, 1, none⟩) C1.out.rp.lt).trans C1.out.rp.k2.2; have d1 := (hv.cell (p := ⟨sb, so + k, none⟩) SLT.out).trans D1.out; go_simp; rfl)); go_simp)
  (refine h_read 11 rfl (by kernel_rfl) (by kernel_rfl) (h_free rfl) ?_ ?_ ?_; rotate_left; (focus (intro v hv; have lk := LK.out v (B1.out.trans (hv.mono B1.out.size)); go_simp; rfl)); go_simp)
  (refine h_read 12 rfl (by kernel_rfl) (by kernel_rfl) (h_free rfl) ?_ ?_ ?_; rotate_left; (focus (intro v hv; go_simp; rfl)); go_simp)
  (refine h_read 13 rfl (by kernel_rfl) (by kernel_rfl) (h_free rfl) ?_ ?_ ?_; rotate_left; (focus (intro v hv; go_simp; rfl)); go_simp)
  refine h_done (by kernel_rfl) ?_
  have DB := Lib.hid (show Below w1.heap.size w1 w1.drew from (Below.refl _ _).drew)
  obtain ⟨wd, hwd⟩ : ∃ wd, w1.drew = wd := ⟨_, rfl⟩
  rw [hwd] at DB ⊢
  clear hwd
  have BD := Lib.hid (B1.out.trans (DB.out.mono B1.out.size))
  have FD := Lib.hid (HFR.out.kept BD.out)
  obtain ⟨y, hy⟩ : ∃ y, x.f.b.getD j 0 = y := ⟨_, rfl⟩
  have d2 := FD.out.cellAt j (by rw [HBL.out]; exact hjn) HBL.out.symm
  have f2 := FD.out.frozenAt j HBL.out.symm
  rw [hy] at d2
  replace d2 : wd.cell? ⟨g, j, none⟩ = some (.int .u8 (y.toNat : Int)) := d2
  have HY := Lib.hid hy
  have g1 : (0 : Int) ≤ (j : Int) := by omega
  have g2 : (j : Int) < (bl : Int) := by omega
  clear hy
  have BY := Lib.hid ((C1.out.mono DB.out).byte (j := j) HX.out HBV.out HBL.out.symm (y ^^^ UInt8.ofNat (bt % 256).toNat))
  have hxo : bits .xor .u8 (y.toNat : Int) (bt % 256) = ((y ^^^ UInt8.ofNat (bt % 256).toNat).toNat : Int) := by
    rw [← xor8k]
    congr 1
    have h1 := Int.emod_nonneg bt (show (256 : Int) ≠ 0 by decide)
    have h2 := Int.emod_lt_of_pos bt (show (0 : Int) < 256 by decide)
    simp [UInt8.toNat_ofNat']
    omega
  have HXO := Lib.hid hxo
  clear hxo
  go_wp2_with (go_at_call 72; (with_reducible refine (HM2.out wd).mono ?_); rintro e w2 ⟨rfl, rfl⟩)
  rw [HXO.out]
  go_ret
  refine ⟨one (vbool (by simp; omega)), _, ?_, BY.out.1, (Ft.of_below BD.out).trans BY.out.2⟩
  rw [List.map_set, HY.out]
end Go.Proofs.YtkfhppbmnjmnoaaGreatDoor.W

/- LAYER 28 (chunk): the reference's store in memory; New, at, Used, Loose, rest. -/
set_option linter.unusedSimpArgs false
set_option linter.unusedVariables false
namespace Go.Proofs.YtkfhppbmnjmnoaaGreatDoor.W
open Go Go.ChangeShapes Go.WideShapes Go.ChangeAt Go.RowKit
open Go.Proofs.YtkfhppbmnjmnoaaGreatDoor.P (shaL shaL_len)

/-- the reference's store in memory; all that it leads to lies in T -/
structure XK (w : World) (q : Nat) (most : Int) (a : Option Addr) (n c : Nat) (Y : List FY) (T : Nat → Prop) : Prop where
  rp : Row w q 68 [.slice a n c, .int .i64 most]
  ls : Ls fiE w a n c Y
  Tq : T q
  Ta : ∀ b off s, a = some ⟨b, off, s⟩ → T b ∧ IsTy w b 44
  Tb : ∀ y ∈ Y, ∀ b off s, y.ba = some ⟨b, off, s⟩ → T b
  Tt : ∀ y ∈ Y, ∀ b off s, y.ta = some ⟨b, off, s⟩ → T b
  lt : ∀ k, T k → k < w.heap.size
theorem FYr.ft {F : Nat → Prop} {w w' : World} {y : FY} (h : FYr w y) (k : Ft F w w') (hb : ∀ b off s, y.ba = some ⟨b, off, s⟩ → ¬ F b) (ht : ∀ b off s, y.ta = some ⟨b, off, s⟩ → ¬ F b) : FYr w' y :=
  { h with
    rb := h.rb.stay k.size fun b off s e hlt => k.block b hlt (hb b off s e)
    rt := h.rt.stay k.size (fun b off s e hlt => k.block b hlt (ht b off s e)) h.rt.hfit
    kb := fun b off s e => (h.kb b off s e).of (k.block b (h.kb b off s e).lt (hb b off s e))
    kt := fun b off s e => (h.kt b off s e).of (k.block b (h.kt b off s e).lt (ht b off s e)) }
theorem XK.ft {F : Nat → Prop} {w w' : World} {q n c : Nat} {most : Int} {a : Option Addr} {Y : List FY} {T : Nat → Prop} (h : XK w q most a n c Y T) (k : Ft F w w') (hd : Disj T F) : XK w' q most a n c Y T :=
  { h with
    rp := h.rp.ft k (hd q h.Tq)
    ls := h.ls.stay k.size (fun b off s e hlt => k.block b hlt (hd b (h.Ta b off s e).1)) fun y hy => (h.ls.hfit y hy).ft k (fun b off s e => hd b (h.Tb y hy b off s e)) (fun b off s e => hd b (h.Tt y hy b off s e))
    Ta := fun b off s e => ⟨(h.Ta b off s e).1, (h.Ta b off s e).2.of (k.block b (h.Ta b off s e).2.lt (hd b (h.Ta b off s e).1))⟩
    lt := fun b hb => Nat.lt_of_lt_of_le (h.lt b hb) k.size }
theorem XK.mono {w w' : World} {q n c : Nat} {most : Int} {a : Option Addr} {Y : List FY} {T : Nat → Prop} (h : XK w q most a n c Y T) (k : Below w.heap.size w w') : XK w' q most a n c Y T :=
  h.ft (Ft.of_below (F := fun _ => False) k) (fun _ _ h => h)
theorem xst_size : (Tryz.prog.info? 68).map (·.size) = some 2 := by kernel_rfl
theorem xst_built (most : Int) : Tryz.prog.built 68 [(1, .int .i64 most)] = some #[.slice none 0 0, .int .i64 most] := by kernel_rfl
set_option maxRecDepth 100000 in
set_option maxHeartbeats 4000000 in
theorem xcnew_bad (room : Int) (w : World) (h : room < 0 ∨ 524288 < room) :
    Calls Tryz.prog 8 #[.int .i64 room] w fun e w' => e = .returned (.tuple #[.pointer none, .int .i64 1]) ∧ w = w' := by
  by_cases h0 : room < 0
  · clear h
    go_enter Tryz.func8, Tryz.ntmps8
    go_wp2_with fail
    go_ret2
    exact ⟨rfl, rfl⟩
  · have h1 := h.resolve_left h0
    clear h
    go_enter Tryz.func8, Tryz.ntmps8
    go_wp2_with fail
    go_ret2
    exact ⟨rfl, rfl⟩
set_option maxRecDepth 100000 in
set_option maxHeartbeats 4000000 in
theorem xcnew (room : Int) (w : World) (h : 0 ≤ room ∧ room ≤ 524288) :
    Calls Tryz.prog 8 #[.int .i64 room] w fun e w' => ∃ q, e = .returned (.tuple #[.pointer (some ⟨q, 0, none⟩), .int .i64 0]) ∧ XK w' q room none 0 0 [] (fun k => w.heap.size ≤ k ∧ k < w'.heap.size) ∧ Below w.heap.size w w' := by
  have g1 : ¬ room < 0 := by omega
  have g2 : ¬ 524288 < room := by omega
  have BT := Lib.hid (xst_built room)
  clear h
  go_enter Tryz.func8, Tryz.ntmps8
  go_wp2_with (first
    | ((with_reducible refine build_row (o := ⟨some 11, _, _, _, _, _⟩) rfl _ _ rfl [.slice none 0 0, .int .i64 room] ?_ ?_); (focus (go_simp; exact BT.out)))
    | ((with_reducible refine box_row (o := ⟨some 12, _, _, _, _, _⟩) rfl _ _ rfl [.slice none 0 0, .int .i64 room] ?_ ?_); (focus (go_simp)); intro w2 hr2 hb2 hz2; have R2 := Lib.hid hr2; have B2 := Lib.hid hb2; have Z2 := Lib.hid hz2; clear hr2 hb2 hz2))
  go_ret2
  have hz2 := Z2.out
  exact ⟨_, rfl, { rp := R2.out, ls := Ls.nil w2, Tq := ⟨Nat.le_refl _, by omega⟩, Ta := fun b off s e => (by cases e), Tb := by simp, Tt := by simp, lt := fun k hk => hk.2 }, B2.out⟩
/-- where a sum stands -/
def atI (s : ByteArray) : List Fi → Int
  | [] => -1
  | f :: r => if f.s = s then 0 else if atI s r = -1 then -1 else atI s r + 1
theorem atI_none {s : ByteArray} : ∀ {L : List Fi}, (∀ f ∈ L, f.s ≠ s) → atI s L = -1
  | [], _ => rfl
  | f :: r, h => by
    unfold atI
    rw [if_neg (h f (List.mem_cons_self ..)), if_pos (atI_none fun g hg => h g (List.mem_cons_of_mem _ hg))]
theorem atI_at {s : ByteArray} : ∀ {L : List Fi} {k : Nat} {f : Fi}, L[k]? = some f → f.s = s → (∀ g ∈ L.take k, g.s ≠ s) → atI s L = (k : Int)
  | [], k, f, h, _, _ => by simp at h
  | g :: r, 0, f, h, e, _ => by
    simp at h; subst h
    unfold atI; rw [if_pos e]; rfl
  | g :: r, k + 1, f, h, e, hn => by
    have h1 := atI_at (L := r) (k := k) (by simpa using h) e (fun z hz => hn z (by rw [List.take_succ_cons]; exact List.mem_cons_of_mem _ hz))
    unfold atI
    rw [if_neg (hn g (by rw [List.take_succ_cons]; exact List.mem_cons_self ..)), h1, if_neg (by omega)]
    omega
set_option maxRecDepth 100000 in
set_option maxHeartbeats 4000000 in
theorem xcat {w : World} {q n c : Nat} {most : Int} {a : Option Addr} {Y : List FY} {T : Nat → Prop} (s : ByteArray) (h : XK w q most a n c Y T) (hn : n ≤ 1000000) :
    Calls Tryz.prog 70 #[.pointer (some ⟨q, 0, none⟩), .string s] w fun e w' => e = .returned (.int .i64 (atI s (Y.map (·.f)))) ∧ w = w' := by
  have H := Lib.hid h
  have c0 := h.rp.k2.1
  have HL := Lib.hid h.ls.hlen
  clear h
  go_enter Tryz.func70, Tryz.ntmps70
  go_wp2_with fail
  go_loopw [5] (fun i wr => ∃ k : Nat, i = .int .i64 (k : Int) ∧ k ≤ n ∧ Hid (∀ f ∈ (Y.map (·.f)).take k, f.s ≠ s) ∧ Hid (w = wr)) (fun i _ => n - (intOf i).toNat)
  case atStart => exact ⟨0, rfl, Nat.zero_le _, Lib.hid (by simp), Lib.hid rfl⟩
  case round =>
    obtain ⟨k, rfl, hk, N, hw⟩ := hrel
    obtain rfl := hw.out
    by_cases hlt : k < n
    · obtain ⟨b, off, y, rfl, hy, hc, -⟩ := H.out.ls.at fiOk (Below.refl _ _) k hlt
      have d0 : w.cell? ⟨b, off + k * 4, none⟩ = some (.string y.f.s) := hc 0 (.string y.f.s) rfl
      have g1 : (0 : Int) ≤ (k : Int) := by omega
      have g2 : (k : Int) < (n : Int) := by omega
      have HYF := Lib.hid (show (Y.map (·.f))[k]? = some y.f by rw [List.getElem?_map, hy]; rfl)
      clear hc
      by_cases he : y.f.s = s
      · have g3 : (y.f.s.toList == s.toList) = true := by rw [eqM_dec]; simpa using he
        have HE := Lib.hid (atI_at HYF.out he N.out)
        clear he
        go_wp2_with fail
        go_ret
        exact ⟨one (vint (by rw [HE.out])), rfl⟩
      · have g3 : (y.f.s.toList == s.toList) = false := by rw [eqM_dec]; simpa using he
        have HE := Lib.hid he
        clear he
        go_wp2_with fail
        go_roundw
        case rel => exact ⟨k + 1, vint (by omega), by omega, Lib.hid (fun f hf => by
            obtain ⟨h1, h2⟩ := List.getElem?_eq_some_iff.1 HYF.out
            rw [List.take_succ_eq_append_getElem h1, h2] at hf
            rcases List.mem_append.1 hf with hf | hf
            · exact N.out f hf
            · simp at hf; subst hf; exact HE.out), Lib.hid trivial⟩
        case measure => simp [intOf]; omega
    · obtain rfl : n = k := by omega
      have e1 := Lib.hid (atI_none (s := s) (L := Y.map (·.f)) (fun f hf => N.out f (by rw [← HL.out, List.take_of_length_le (by simp)]; exact hf)))
      go_wp2_with fail
      go_ret
      exact ⟨one (vint (by rw [e1.out])), rfl⟩
end Go.Proofs.YtkfhppbmnjmnoaaGreatDoor.W
