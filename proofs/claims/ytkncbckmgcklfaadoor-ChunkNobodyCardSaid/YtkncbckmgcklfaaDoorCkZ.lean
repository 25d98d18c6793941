import Derived.Test.YtkncbckmgcklfaaDoorCkO
import Derived.Test.YtkncbckmgcklfaaDoorQ
import Derived.Test.YtkncbckmgcklfaaDoorArr
import Derived.Lib.MinMax
import Derived.Test.YtkncbckmgcklfaaDoorCkJ
import Derived.Test.YtkncbckmgcklfaaDoorBi
/- KEEP (no layer): what hands out how much stays. -/
set_option linter.unusedSimpArgs false
set_option linter.unusedVariables false
namespace Go.Proofs.YtkncbckmgcklfaaDoor.W
open Go Go.ChangeShapes Go.WideShapes Go.ChangeAt Go.RowKit

/-- which turn comes next -/
def kturnAt (ks : List Int) (i : Nat) : Nat := if ks.length = 0 then i else i + 1
set_option maxRecDepth 100000 in
set_option maxHeartbeats 4000000 in
theorem kturn (b1 b2 i kl kc : Nat) (ka : Option Addr) (ks : List Int) (lo : Int) (w : World) (h1 : Row w b1 48 [.slice ka kl kc]) (h2 : Row w b2 3 [.int .i64 (i : Int)]) (hk : Sl .i64 w ka kl ks) (hi : i ≤ 1000000) (hlo : 0 ≤ lo ∧ lo ≤ 9223372036854775807) :
    Calls Tryd.prog 43 #[.int .i64 lo, .pointer (some ⟨b1, 0, none⟩), .pointer (some ⟨b2, 0, none⟩)] w fun e w' => e = .returned (.int .i64 (stayV ks i lo)) ∧ Row w' b2 3 [.int .i64 ((kturnAt ks i : Nat) : Int)] ∧ Gw b2 w w' := by
  have H1 := Lib.hid h1
  have H2 := Lib.hid h2
  have HK := Lib.hid hk
  have hkll := hk.1
  have hkm := hk.2.1
  have c1 := h1.k0
  have c2 := h2.k0
  have C1 := Lib.hid c1
  have C2 := Lib.hid c2
  clear h1 h2 hk c2
  by_cases hkz : kl = 0
  · have e1 : stayV ks i lo = 0 := by unfold stayV; rw [if_pos (by omega)]
    have e2 : kturnAt ks i = i := by unfold kturnAt; rw [if_pos (by omega)]
    rw [e1, e2]
    clear e1 e2 hkll
    subst hkz
    go_enter Tryd.func43, Tryd.ntmps43
    go_wp2_with fail
    go_ret
    exact ⟨rfl, H2.out, Gw.refl _ _⟩
  · have e1 : stayV ks i lo = min (max (ks.getD (i % kl) 0) 0) lo := by unfold stayV; rw [if_neg (by omega), hkll]
    have e2 : kturnAt ks i = i + 1 := by unfold kturnAt; rw [if_neg (by omega)]
    rw [e1, e2]
    obtain ⟨kb, koff, rfl, hkb, hkc⟩ := HK.out.2.2.2.resolve_left hkz
    have hj : i % kl < kl := Nat.mod_lt _ (by omega)
    have ck := hkc (i % kl) hj
    have hrem : (i : Int).tmod (kl : Int) = ((i % kl : Nat) : Int) := by rw [Int.tmod_eq_emod_of_nonneg (by omega)]; simp
    have hrem2 : (i : Int) % (kl : Int) = ((i % kl : Nat) : Int) := by simp
    obtain ⟨r, hr⟩ : ∃ r, i % kl = r := ⟨_, rfl⟩
    rw [hr] at ck hj hrem hrem2 ⊢
    have hkl0 : ((kl : Int) == 0) = false := by simp; omega
    obtain ⟨kv, hkvv⟩ : ∃ kv, ks.getD r 0 = kv := ⟨_, rfl⟩
    rw [hkvv] at ck ⊢
    obtain ⟨kq, hkq⟩ : ∃ kq, min (max kv 0) lo = kq := ⟨_, rfl⟩
    rw [hkq]
    have HKQ := Lib.hid hkq
    have CK := Lib.hid ck
    clear hkvv hkc e1 e2 hkll ck hr hkq
    go_enter Tryd.func43, Tryd.ntmps43
    go_wp2_with fail
    clear c1
    refine region_w (C := fun v => Below w.heap.size w v) (by kernel_rfl) (by kernel_rfl) (Below.refl _ _).drew ?_
    repeat (first
      | (refine w_read (wanted_free rfl) ?_ ?_ ?_; rotate_left; (focus (intro v hv; have c1 := (hv.cell (p := ⟨b1, 0, none⟩) H1.out.lt).trans C1.out; have c2 := (hv.cell (p := ⟨b2, 0, none⟩) H2.out.lt).trans C2.out; have ck := (hv.cell (p := ⟨kb, koff + r, none⟩) hkb).trans CK.out; go_simp; rfl)); go_simp))
    refine w_nil ?_
    intro w4 hb4
    have R2 := Lib.hid (H2.out.below hb4 H2.out.lt)
    have B4 := Lib.hid hb4
    have c2 := R2.out.k0
    have f2 := R2.out.frozen 0
    clear hb4
    go_wp2_with fail
    all_goals (go_ret; refine ⟨?_, R2.out.setV 0 _, (Gw.of_below B4.out).trans (Gw.upd (Upd.setCell _ _ _ _))⟩)
    all_goals (have hk := HKQ.out; refine one (vint ?_); (try split at *) <;> (try split at *) <;> omega)
/-- the turn, when so many slots have taken one -/
def kturnN (ks : List Int) (nx : Nat) : Nat := if ks.length = 0 then 0 else nx
theorem kturnAt_N (ks : List Int) (nx : Nat) : kturnAt ks (kturnN ks nx) = kturnN ks (nx + 1) := by
  unfold kturnAt kturnN
  by_cases h : ks.length = 0
  · rw [if_pos h, if_pos h, if_pos h]
  · rw [if_neg h, if_neg h, if_neg h]
theorem stayV_turn (ks : List Int) (nx : Nat) (lo : Int) : stayV ks (kturnN ks nx) lo = stayV ks nx lo := by
  unfold stayV kturnN
  by_cases h0 : ks.length = 0
  · rw [if_pos h0, if_pos h0]
  · rw [if_neg h0, if_neg h0, if_neg h0]

set_option maxRecDepth 100000 in
set_option maxHeartbeats 4000000 in
theorem kturns (ka : Option Addr) (kl kc : Nat) (w : World) :
    Calls Tryd.prog 26 #[.slice ka kl kc] w fun e w' => ∃ b1 b2, e = .returned (.func (.func 43) #[] #[.pointer (some ⟨b1, 0, none⟩), .pointer (some ⟨b2, 0, none⟩)]) ∧ Row w' b1 48 [.slice ka kl kc] ∧ Row w' b2 3 [.int .i64 0] ∧ w.heap.size ≤ b1 ∧ w.heap.size ≤ b2 ∧ b1 ≠ b2 ∧ Below w.heap.size w w' := by
  go_enter Tryd.func26, Tryd.ntmps26
  go_wp2_with (first
    | (with_reducible refine box_cell (o := ⟨some 1, _, _, _, _, _⟩) rfl _ _ rfl (.slice ka kl kc) rfl rfl ?_; intro w1 hr1 hb1 hz1; have R1 := Lib.hid hr1; have B1 := Lib.hid hb1; have Z1 := Lib.hid hz1; clear hr1 hb1 hz1)
    | (with_reducible refine alloc_cell (o := ⟨some 3, _, _, _, _, _⟩) rfl _ rfl (.int .i64 0) rfl (by kernel_rfl) ?_; intro w2 hr2 hb2 hz2; have R2 := Lib.hid hr2; have B2 := Lib.hid hb2; have Z2 := Lib.hid hz2; have c2 := hr2.k0; have f2 := hr2.frozen 0; clear hr2 hb2 hz2))
  go_ret
  have u2 := Upd.setCell w2 w1.heap.size 0 (.int .i64 0)
  exact ⟨_, _, rfl, ((R1.out.below B2.out R1.out.lt).upd u2 (Nat.ne_of_lt R1.out.lt)), R2.out.setV 0 _, Nat.le_refl _, B1.out.size, Nat.ne_of_lt R1.out.lt, (B1.out.trans (B2.out.mono B1.out.size)).trans (u2.below B1.out.size)⟩

end Go.Proofs.YtkncbckmgcklfaaDoor.W

/- LAYER 28 (chunk): the program's Crash. -/
set_option linter.unusedSimpArgs false
set_option linter.unusedVariables false
namespace Go.Proofs.YtkncbckmgcklfaaDoor.W
open Go Go.ChangeShapes Go.WideShapes Go.ChangeAt Go.RowKit
open Go.Proofs.YtkncbckmgcklfaaDoor.P (shaL shaL_len)

theorem Sl.stay {k : IntKind} {w w' : World} {a : Option Addr} {n : Nat} {l : List Int} (h : Sl k w a n l) (hs : w.heap.size ≤ w'.heap.size) (hk : ∀ b off s, a = some ⟨b, off, s⟩ → b < w.heap.size → w'.heap[b]? = w.heap[b]?) : Sl k w' a n l := by
  obtain ⟨q1, q2, q3, q4⟩ := h
  refine ⟨q1, q2, q3, q4.imp id ?_⟩
  rintro ⟨b, off, e, hlt, hc⟩
  exact ⟨b, off, e, Nat.lt_of_lt_of_le hlt hs, fun i hi => by rw [World.cell?_of_block (show w'.heap[(⟨b, off + i, none⟩ : Addr).block]? = _ from hk b off none e hlt)]; exact hc i hi⟩
theorem stay_le (ks : List Int) (nx : Nat) (lo : Int) (h : 0 ≤ lo) : 0 ≤ stayV ks nx lo ∧ stayV ks nx lo ≤ lo := by
  unfold stayV
  by_cases h0 : ks.length = 0
  · rw [if_pos h0]; omega
  · rw [if_neg h0]; omega
theorem Ft.of_gw28 {g : Nat} {w w' : World} (h : Gw g w w') : Ft (fun b => b = g) w w' := ⟨h.os, h.tape, h.output, h.size, fun k hk hn => h.block k hk hn⟩
/-- how many bytes are left of a file that is not sure -/
def leftB (ks : List Int) (nx : Nat) (f : Fi) : Nat := f.su + (stayV ks nx ((f.b.length : Int) - f.su)).toNat
theorem leftB_le (ks : List Int) (nx : Nat) (f : Fi) (h : f.su ≤ f.b.length) : leftB ks nx f ≤ f.b.length ∧ f.su ≤ leftB ks nx f ∧ ((leftB ks nx f : Nat) : Int) = (f.su : Int) + stayV ks nx ((f.b.length : Int) - f.su) := by
  have := stay_le ks nx ((f.b.length : Int) - f.su) (by omega)
  unfold leftB
  omega
def cutX (x : FX) (q : Nat) (bv : Value) : FX := ⟨cutF x.f q, bv, x.tv⟩
/-- a list of files behind a crash, with where the next turn is -/
inductive CrashX (ks : List Int) : List FX → List FX → Nat → Prop
  | nil : CrashX ks [] [] 0
  | sure {X D : List FX} {nx : Nat} {x : FX} : CrashX ks X D nx → isLoose x.f = false → CrashX ks (X ++ [x]) (D ++ [x]) nx
  | gone {X D : List FX} {nx : Nat} {x : FX} : CrashX ks X D nx → isLoose x.f = true → leftB ks nx x.f = 0 → CrashX ks (X ++ [x]) D (nx + 1)
  | cut {X D : List FX} {nx : Nat} {x : FX} {bv : Value} : CrashX ks X D nx → isLoose x.f = true → leftB ks nx x.f ≠ 0 → CrashX ks (X ++ [x]) (D ++ [cutX x (leftB ks nx x.f) bv]) (nx + 1)
/-- the same, plain, from a turn on -/
def crashN (ks : List Int) : Nat → List Fi → List Fi × Nat
  | nx, [] => ([], nx)
  | nx, f :: r => if isLoose f = true then
      (if leftB ks nx f = 0 then crashN ks (nx + 1) r else (cutF f (leftB ks nx f) :: (crashN ks (nx + 1) r).1, (crashN ks (nx + 1) r).2))
    else (f :: (crashN ks nx r).1, (crashN ks nx r).2)
theorem crashN_eq (ks : List Int) : ∀ (L : List Fi) (nx : Nat), (crashN ks nx L).1 = crashC ks nx L
  | [], _ => rfl
  | f :: r, nx => by
    have h1 := crashN_eq ks r (nx + 1)
    have h2 := crashN_eq ks r nx
    unfold crashN crashC
    by_cases hl : isLoose f = true
    · rw [if_pos hl, if_pos hl]
      by_cases h0 : leftB ks nx f = 0
      · rw [if_pos h0]
        unfold leftB at h0
        rw [if_pos h0, h1]
      · rw [if_neg h0]
        unfold leftB at h0 ⊢
        rw [if_neg h0, h1]
    · rw [if_neg hl, if_neg hl]
      dsimp only
      rw [h2]
theorem crashN_gone {ks : List Int} {nx : Nat} {g : Fi} (r : List Fi) (hl : isLoose g = true) (h0 : leftB ks nx g = 0) : crashN ks nx (g :: r) = crashN ks (nx + 1) r := by simp [crashN, hl, h0]
theorem crashN_cut {ks : List Int} {nx : Nat} {g : Fi} (r : List Fi) (hl : isLoose g = true) (h0 : ¬ leftB ks nx g = 0) : crashN ks nx (g :: r) = (cutF g (leftB ks nx g) :: (crashN ks (nx + 1) r).1, (crashN ks (nx + 1) r).2) := by simp [crashN, hl, h0]
theorem crashN_sure {ks : List Int} {nx : Nat} {g : Fi} (r : List Fi) (hl : ¬ isLoose g = true) : crashN ks nx (g :: r) = (g :: (crashN ks nx r).1, (crashN ks nx r).2) := by simp [crashN, hl]
theorem crashN_app (ks : List Int) : ∀ (L : List Fi) (f : Fi) (nx : Nat), crashN ks nx (L ++ [f]) = ((crashN ks nx L).1 ++ (crashN ks (crashN ks nx L).2 [f]).1, (crashN ks (crashN ks nx L).2 [f]).2)
  | [], f, nx => by
    show crashN ks nx [f] = ([] ++ (crashN ks nx [f]).1, (crashN ks nx [f]).2)
    rw [List.nil_append]
  | g :: r, f, nx => by
    have h1 := crashN_app ks r f (nx + 1)
    have h2 := crashN_app ks r f nx
    rw [List.cons_append]
    by_cases hl : isLoose g = true
    · by_cases h0 : leftB ks nx g = 0
      · rw [crashN_gone _ hl h0, crashN_gone _ hl h0]; exact h1
      · rw [crashN_cut _ hl h0, crashN_cut _ hl h0, h1]; rfl
    · rw [crashN_sure _ hl, crashN_sure _ hl, h2]; rfl
theorem CrashX.eq {ks : List Int} {X D : List FX} {nx : Nat} (h : CrashX ks X D nx) : crashN ks 0 (X.map (·.f)) = (D.map (·.f), nx) := by
  induction h with
  | nil => rfl
  | sure h1 h2 ih => rw [List.map_append, List.map_cons, List.map_nil, crashN_app, ih]; simp [crashN, h2]
  | gone h1 h2 h3 ih => rw [List.map_append, List.map_cons, List.map_nil, crashN_app, ih]; simp [crashN, h2, h3]
  | cut h1 h2 h3 ih => rw [List.map_append, List.map_cons, List.map_nil, crashN_app, ih]; simp [crashN, h2, h3, cutX]
theorem CrashX.plain {ks : List Int} {X D : List FX} {nx : Nat} (h : CrashX ks X D nx) : D.map (·.f) = crashC ks 0 (X.map (·.f)) := by rw [← crashN_eq, h.eq]
theorem CrashX.nx {ks : List Int} {X D : List FX} {nx : Nat} (h : CrashX ks X D nx) : nx ≤ X.length ∧ D.length ≤ X.length := by
  induction h with
  | nil => exact ⟨Nat.le_refl _, Nat.le_refl _⟩
  | sure _ _ ih => simp; omega
  | gone _ _ _ ih => simp; omega
  | cut _ _ _ ih => simp; omega
theorem Fr.cut {w : World} {base n c q : Nat} {a : Option Addr} {l : List UInt8} (h : Fr w base (.slice a n c) l) (hq : q ≤ n) : Fr w base (.slice a q c) (l.take q) := by
  obtain ⟨h1, h2⟩ := h
  rcases h2 with ⟨h3, h4⟩ | ⟨g, cap, cur, h3, hg, hh, hle, hm, hsz, ht⟩
  · injection h3 with e1 e2 e3
    obtain rfl : l = [] := List.eq_nil_of_length_eq_zero h4
    subst e1 e2 e3
    obtain rfl : q = 0 := by omega
    exact Fr.nil _ _
  · injection h3 with e1 e2 e3
    subst e1 e2 e3
    have hl : (l.take q).length = q := by rw [List.length_take]; omega
    refine ⟨by simp, .inr ⟨g, c, cur, by rw [hl], hg, hh, by rw [hl]; omega, hm, hsz, ?_⟩⟩
    rw [hl]
    have := congrArg (List.take (q * 1)) ht
    rw [List.take_take, Nat.min_eq_left (by omega), ← List.map_take, Nat.mul_one] at this
    simpa using this
theorem set_midX (D R : List FX) (x y : FX) : (D ++ x :: R).set D.length y = D ++ y :: R := by rw [List.set_append_right _ _ (Nat.le_refl _), Nat.sub_self]; rfl
theorem get_mid (D R : List FX) (x : FX) : (D ++ x :: R)[D.length]? = some x := by rw [List.getElem?_append_right (Nat.le_refl _), Nat.sub_self]; rfl
theorem drop_mid {D R : List FX} {x : FX} (h : Ris (MX (D ++ x :: R))) : (D ++ x :: R).filter (fun z => !decide (z.f.s = x.f.s)) = D ++ R := by
  have hn := ris_ne h
  unfold MX at hn
  rw [List.pairwise_map, List.pairwise_append] at hn
  obtain ⟨-, h2, h3⟩ := hn
  obtain ⟨h4, -⟩ := List.pairwise_cons.1 h2
  rw [List.filter_append, List.filter_cons]
  have e1 : D.filter (fun z => !decide (z.f.s = x.f.s)) = D := List.filter_eq_self.2 fun z hz => by have := h3 z hz x (List.mem_cons_self ..); simpa using this
  have e2 : R.filter (fun z => !decide (z.f.s = x.f.s)) = R := List.filter_eq_self.2 fun z hz => by have := h4 z hz; simpa using fun e => this e.symm
  rw [e1, e2]; simp
set_option maxRecDepth 100000 in
set_option maxHeartbeats 8000000 in
theorem ccrash {p m T : Nat} {room : Int} {X : List FX} {S : Nat → Prop} {w : World} (h : CK w p m room X S) (hok : ∀ x ∈ X, FiOk T x.f) (hn : X.length ≤ 524288) (ka : Option Addr) (kl kc : Nat) (ks : List Int) (hk : Sl .i64 w ka kl ks) (hkS : ∀ b off s, ka = some ⟨b, off, s⟩ → ¬ S b) :
    Calls Tryd.prog 6 #[.pointer (some ⟨p, 0, none⟩), .slice ka kl kc] w fun e w' => e = .returned (.tuple #[]) ∧ ∃ X', X'.map (·.f) = crashC ks 0 (X.map (·.f)) ∧ CK w' p m room X' S ∧ Ft S w w' := by
  have H := Lib.hid h
  have HTS := Lib.hid (kturns ka kl kc w)
  have HS := Lib.hid (fun w' (hb : Below w.heap.size w w') => csums (h.mono hb) hn)
  have HN := Lib.hid hn
  have HOK := Lib.hid hok
  have HKS := Lib.hid hk
  have HKN := Lib.hid hkS
  have FZ := Lib.hid file_zero
  have SZ := Lib.hid file_size
  obtain ⟨n, hnn⟩ : ∃ n, X.length = n := ⟨_, rfl⟩
  have HNN := Lib.hid hnn
  have hn2 : n ≤ 524288 := by omega
  clear h hok hn hnn hk hkS
  go_enter Tryd.func6, Tryd.ntmps6
  go_wp2_with (first
    | (go_at_call 26; (with_reducible refine HTS.out.mono ?_); rintro e w1 ⟨b1, b2, rfl, hr1, hr2, hl1, hl2, hne, hb1⟩; have R1 := Lib.hid hr1; have R2 := Lib.hid hr2; have L1 := Lib.hid hl1; have L2 := Lib.hid hl2; have N12 := Lib.hid hne; have B1 := Lib.hid hb1; clear hr1 hr2 hl1 hl2 hne hb1)
    | (go_at_call 27; (with_reducible refine (HS.out w1 B1.out).mono ?_); rintro e w2 ⟨sv, rfl, hl, hb⟩; obtain ⟨sa, sc, rfl, hsl, -⟩ := hl.ls strOk (fun s hs => by obtain ⟨x, hx, rfl⟩ := List.mem_map.1 hs; have h5 := (HOK.out x hx).s; show x.f.s.size ≤ maxLen; unfold maxLen; omega); have SO := Lib.hid (show ∀ b off s, sa = some ⟨b, off, s⟩ → w1.heap.size ≤ b ∧ b < w2.heap.size ∧ IsTy w2 b 9 from fun b off s e => by subst e; exact ⟨(World.ownsRow.lt hl b rfl).1, (World.ownsRow.lt hl b rfl).2, lso_ty hl rfl⟩); rw [List.length_map, HNN.out] at hsl ⊢; have SL := Lib.hid hsl; have B2 := Lib.hid (B1.out.trans (hb.mono B1.out.size)); have C2 := Lib.hid (H.out.mono B2.out); have R12 := Lib.hid (R1.out.below hb R1.out.lt); have R22 := Lib.hid (R2.out.below hb R2.out.lt); clear hl hb hsl))
  go_loopw [6, 7, 13] (fun _ _ i wr => ∃ (k nx : Nat) (D : List FX), i = .int .i64 (k : Int) ∧ k ≤ n ∧ Hid (CrashX ks (X.take k) D nx) ∧ Hid (CK wr p m room (D ++ X.drop k) S) ∧ Hid (Ft (fun g => S g ∨ g = b2) w2 wr) ∧ Hid (Row wr b1 48 [.slice ka kl kc]) ∧ Hid (Row wr b2 3 [.int .i64 ((kturnN ks nx : Nat) : Int)])) (fun _ _ i _ => n - (intOf i).toNat)
  case atStart => exact ⟨0, 0, [], rfl, Nat.zero_le _, Lib.hid (by rw [List.take_zero]; exact .nil), Lib.hid (by rw [List.drop_zero]; exact C2.out), Lib.hid (Ft.refl _ _), R12, Lib.hid (by have : kturnN ks 0 = 0 := by { unfold kturnN; split <;> rfl }; rw [this]; exact R22.out)⟩
  case round =>
    obtain ⟨k, nx, D, rfl, hk, CX, C, F, KR, U⟩ := hrel
    by_cases hlt : k < n
    · obtain ⟨x, hx⟩ : ∃ x, X[k]? = some x := ⟨X[k]'(by rw [HNN.out]; exact hlt), by simp [HNN.out, hlt]⟩
      have hxm : x ∈ X := List.mem_of_getElem? hx
      have hkl : k < X.length := by rw [HNN.out]; exact hlt
      have HTK := Lib.hid (show X.take (k + 1) = X.take k ++ [x] by rw [List.take_succ_eq_append_getElem hkl, (List.getElem?_eq_some_iff.1 hx).2])
      have hdk : X.drop k = x :: X.drop (k + 1) := by rw [List.drop_eq_getElem_cons hkl, (List.getElem?_eq_some_iff.1 hx).2]
      obtain ⟨Q, hQ⟩ : ∃ Q, X.drop (k + 1) = Q := ⟨_, rfl⟩
      rw [hQ] at hdk
      rw [hdk] at C
      have HQ := Lib.hid hQ
      have SLr := Lib.hid (SL.out.stay F.out.size (fun b off s e _ => F.out.block b (SO.out b off s e).2.1 (fun hs => hs.elim (fun h1 => absurd (H.out.lt b h1) (Nat.not_lt.2 (Nat.le_trans B1.out.size (SO.out b off s e).1))) (fun h1 => (SO.out b off s e).2.2.ne R22.out.ty (by decide) h1))) SL.out.hfit)
      obtain ⟨sb, so, s, rfl, hs1, hc1, -⟩ := SLr.out.at strOk (Below.refl _ _) k hlt
      have hs2 : s = x.f.s := by
        rw [List.getElem?_map, hx] at hs1
        exact (Option.some.inj hs1).symm
      subst hs2
      have d1 : wr.cell? ⟨sb, so + k, none⟩ = some (.string x.f.s) := by have := hc1 0 (.string x.f.s) rfl; rw [show so + k * strE.k + 0 = so + k by show so + k * 1 + 0 = so + k; omega] at this; exact this
      have g1 : (0 : Int) ≤ (k : Int) := by omega
      have g2 : (k : Int) < (n : Int) := by omega
      have okx := HOK.out x hxm
      have hsm : x.f.s.size ≤ maxLen := by have := okx.s; unfold maxLen; omega
      have hxm2 : x ∈ D ++ x :: Q := List.mem_append_right _ (List.mem_cons_self ..)
      have lk := (look_yes (s := x.f.s) 24 50 map_type _ (file_zv wr) C.out.sm hsm (C.out.at hxm2)).1
      have c1 := C.out.rp.k2.2
      have HSM := Lib.hid hsm
      have hlb := leftB_le ks nx x.f okx.su
      have hst := stay_le ks nx ((x.f.b.length : Int) - x.f.su) (by have := okx.su; omega)
      have h256 := okx.b2
      have hsu := okx.su
      obtain ⟨fa, fc, hbv, hrd0, -⟩ := (C.out.ob x hxm2).form
      have hfc := hrd0.hle
      have hfm := hrd0.hmax
      clear hrd0
      have OC := Lib.hid (lso_cell (C.out.ot x hxm2))
      have HXM := Lib.hid hxm2
      have hnx := CX.out.nx
      rw [List.length_take] at hnx
      have HGO := Lib.hid (CrashX.gone (x := x) CX.out)
      have HSU := Lib.hid (CrashX.sure (x := x) CX.out)
      have HCU := Lib.hid (fun bv => CrashX.cut (x := x) (bv := bv) CX.out)
      have HIL := Lib.hid (show isLoose x.f = decide (x.f.su < x.f.b.length) from rfl)
      obtain ⟨lb, hlbe⟩ : ∃ lb, leftB ks nx x.f = lb := ⟨_, rfl⟩
      rw [hlbe] at hlb HGO HCU
      obtain ⟨sv, hsv⟩ : ∃ sv, stayV ks nx ((x.f.b.length : Int) - x.f.su) = sv := ⟨_, rfl⟩
      rw [hsv] at hlb hst
      have HSV := Lib.hid hsv
      obtain ⟨⟨xs, xb, xu, xt⟩, xbv, xtv⟩ := x
      dsimp only at hbv lk OC hs1 d1 hsm HSM hlb hst h256 hsu HIL HSV hfc ⊢
      replace lk : (Instr.lookup 24 (.map (some m)) (.string xs) false).run Tryd.prog wr = .ok (.agg (fiC xs xbv xu xtv).toArray) wr := lk
      obtain ⟨bl, hbl⟩ : ∃ bl, xb.length = bl := ⟨_, rfl⟩
      have HBL := Lib.hid hbl
      rw [hbl] at hbv hlb hst h256 hsu HIL HSV hfc
      have hqc : lb ≤ fc := by omega
      subst hbv
      have HLO := Lib.hid (fun w' => cloose xs (.slice fa bl fc) xtv fa bl fc xu w' rfl ⟨by omega, hsu⟩)
      clear hs1 hc1 okx hx hxm hbl hxm2 hkl hdk hQ hsm hlbe hsv
      go_wp2_with (first
        | ((with_reducible refine alloc_row (o := ⟨some 7, _, _, _, _, _⟩) rfl _ rfl _ FZ.out ?_); intro w3 hr hb hz; have R3 := Lib.hid hr; have B3 := Lib.hid hb; clear hr hb hz)
        | ((with_reducible refine store_row (o := ⟨none, _, _, _, _, _⟩) rfl _ (.tmp 7) _ rfl wr.heap.size (fiC xs (.slice fa bl fc) xu xtv) ?_ ?_ 50 _ R3.out ?_ ?_ ?_ ?_); (focus go_simp); (focus (first | (go_simp; done) | (go_simp; rfl))); (focus (exact SZ.out)); (focus rfl); (focus (exact fi_one _ _ _ _ rfl OC.out)); intro w4 hr hu; have R4 := Lib.hid hr; have B4 := Lib.hid (B3.out.trans (hu.below (Nat.le_refl _))); clear hr hu lk c1)
        | ((with_reducible refine load_row (o := ⟨some 23, _, _, _, _, _⟩) rfl _ _ rfl wr.heap.size ?_ _ (fiC xs (.slice fa bl fc) xu xtv) _ R4.out Tryd.underlying50 rfl ?_ ?_); (focus go_simp); (focus (exact SZ.out)))
        | (go_at_call 28; (with_reducible refine (HLO.out w4).mono ?_); rintro e w5 ⟨rfl, hb⟩; have B5 := Lib.hid (B4.out.trans (hb.mono B4.out.size)); have R5 := Lib.hid (R4.out.below hb R4.out.lt); clear hb d1))
      · have hz : ¬ xu < bl := by first | omega | (have h0 := ‹((bl : Int) - (xu : Int) == 0) = true›; simp at h0; omega)
        have e1 := Lib.hid (HSU.out (by rw [HIL.out]; simp; omega))
        go_roundw
        case rel => exact ⟨k + 1, nx, _, vint (by omega), by omega, Lib.hid (by rw [HTK.out]; exact e1.out), Lib.hid (by rw [HQ.out, List.append_assoc]; exact C.out.mono B5.out), Lib.hid (F.out.trans (Ft.of_below B5.out)), Lib.hid (KR.out.below B5.out KR.out.lt), Lib.hid (U.out.below B5.out U.out.lt)⟩
        case measure => simp [intOf]; omega
      · have hz : xu < bl := by first | omega | (have h0 := ‹((bl : Int) - (xu : Int) == 0) = false›; simp at h0; omega)
        have HLT := Lib.hid (show isLoose ⟨xs, xb, xu, xt⟩ = true by rw [HIL.out]; simp; exact hz)
        have D5 := Lib.hid (show Below w5.heap.size w5 w5.drew from (Below.refl _ _).drew)
        have C5 := Lib.hid (C.out.mono B5.out)
        have F5 := Lib.hid (F.out.trans (Ft.of_below B5.out))
        have K5 := Lib.hid (KR.out.below B5.out KR.out.lt)
        have U5 := Lib.hid (U.out.below B5.out U.out.lt)
        have HKD := Lib.hid (HKS.out.stay (Nat.le_trans B2.out.size F5.out.size) (fun b off s e hb => (F5.out.block b (Nat.lt_of_lt_of_le hb B2.out.size) (fun hs => hs.elim (HKN.out b off s e) (fun e2 => absurd hb (Nat.not_lt.2 (e2 ▸ L2.out))))).trans (B2.out.block b hb)))
        have hwq : IntKind.i64.wrap ((xu : Int) + sv) = (lb : Int) := by rw [IntKind.wrap_i64]; omega
        have HTU := Lib.hid (fun v (h1 : Row v b1 48 [.slice ka kl kc]) (h2 : Row v b2 3 [.int .i64 ((kturnN ks nx : Nat) : Int)]) (hks : Sl .i64 v ka kl ks) => kturn b1 b2 (kturnN ks nx) kl kc ka ks ((bl : Int) - xu) v h1 h2 hks (by unfold kturnN; split <;> omega) ⟨by omega, by omega⟩)
        rw [stayV_turn, HSV.out, kturnAt_N] at HTU
        have LW := Lib.hid (show b2 < wr.heap.size from U.out.lt)
        refine region_t (fun v => Row v wr.heap.size 50 (fiC xs (.slice fa bl fc) xu xtv)) 8 (by kernel_rfl) (by kernel_rfl) (by kernel_rfl) (R5.out.below D5.out R5.out.lt) ?_
        obtain ⟨wd, hwd⟩ : ∃ wd, w5.drew = wd := ⟨_, rfl⟩
        rw [hwd] at D5 ⊢
        clear hwd
        (refine t_read 0 rfl (by kernel_rfl) (by kernel_rfl) (by kernel_rfl) (t_free rfl) ?_ ?_ ?_; rotate_left; (focus (intro v hv; go_simp; rfl)); go_simp)
        (refine t_read 1 rfl (by kernel_rfl) (by kernel_rfl) (by kernel_rfl) (t_free rfl) ?_ ?_ ?_; rotate_left; (focus (intro v hv; have c2 := hv.k4.2.2.1; go_simp; rfl)); go_simp)
        (refine t_read 2 rfl (by kernel_rfl) (by kernel_rfl) (by kernel_rfl) (t_free rfl) ?_ ?_ ?_; rotate_left; (focus (intro v hv; go_simp; rfl)); go_simp)
        (refine t_read 3 rfl (by kernel_rfl) (by kernel_rfl) (by kernel_rfl) (t_free rfl) ?_ ?_ ?_; rotate_left; (focus (intro v hv; refine lg_all 50 (.tmp 7) ?_ wr.heap.size ?_ _ _ _ hv Tryd.underlying50 rfl SZ.out; (focus rfl); (focus go_simp))); go_simp)
        (refine t_call 4 rfl (by kernel_rfl) rfl (t_free rfl) 28 ?_ ?_ ?_; rotate_left; (focus (go_simp; rfl)))
        refine (HLO.out wd).mono ?_
        rintro e w6 ⟨rfl, hb6⟩
        have B6 := Lib.hid (D5.out.trans (hb6.mono D5.out.size))
        have R6 := Lib.hid (R5.out.below B6.out R5.out.lt)
        have K6 := Lib.hid (K5.out.below B6.out K5.out.lt)
        have U6 := Lib.hid (U5.out.below B6.out U5.out.lt)
        have KS6 := Lib.hid (HKD.out.mono B6.out)
        have C6 := Lib.hid (C5.out.mono B6.out)
        have F6 := Lib.hid (F5.out.trans (Ft.of_below B6.out))
        clear hb6
        refine ⟨_, rfl, R6.out, ?_⟩
        go_simp
        (refine t_call 5 rfl (by kernel_rfl) rfl (t_free rfl) 43 ?_ ?_ ?_; rotate_left; (focus (go_simp; rfl)))
        refine (HTU.out w6 K6.out U6.out KS6.out).mono ?_
        rintro e w7 ⟨rfl, hr7, hg7⟩
        have U7 := Lib.hid hr7
        have R7 := Lib.hid (R6.out.gw hg7 (Nat.ne_of_gt LW.out))
        have K7 := Lib.hid (K6.out.gw hg7 N12.out)
        have G7 := Ft.of_gw28 hg7
        have C7 := Lib.hid (C6.out.ft G7 (fun k hk e => absurd (H.out.lt k hk) (Nat.not_lt.2 (e ▸ L2.out))))
        have F7 := Lib.hid (F6.out.trans (G7.mono (fun k e => .inr e)))
        clear hr7 hg7 G7
        refine ⟨_, rfl, R7.out, ?_⟩
        go_simp
        (refine t_read 6 rfl (by kernel_rfl) (by kernel_rfl) (by kernel_rfl) (t_free rfl) ?_ ?_ ?_; rotate_left; (focus (intro v hv; go_simp; rfl)); go_simp)
        (refine t_read 7 rfl (by kernel_rfl) (by kernel_rfl) (by kernel_rfl) (t_free rfl) ?_ ?_ ?_; rotate_left; (focus (intro v hv; go_simp; rfl)); go_simp)
        (refine t_last 8 rfl (by kernel_rfl) rfl (by kernel_rfl) (by kernel_rfl) ?_; intro K hK)
        refine store_cell rfl _ _ _ rfl wr.heap.size 2 (.int .i64 (lb : Int)) (by go_simp) (by go_simp) rfl rfl 50 _ R7.out size_int (by show 2 < 4; decide) ?_
        intro w8 hr hu
        have R8 := Lib.hid (show Row w8 wr.heap.size 50 (fiC xs (.slice fa bl fc) lb xtv) from hr)
        have NS := Lib.hid (show ∀ k, S k → k ≠ wr.heap.size from fun k hk e => absurd (H.out.lt k hk) (Nat.not_lt.2 (e ▸ Nat.le_trans B2.out.size F.out.size)))
        have C8 := Lib.hid (C7.out.ft (Ft.of_upd (F := fun k => k = wr.heap.size) hu rfl) (fun k hk e => NS.out k hk e))
        have F8 := Lib.hid (F7.out.on (Ft.of_upd (F := fun k => k = wr.heap.size) hu rfl) (fun k e => .inr (e ▸ F.out.size)))
        have K8 := Lib.hid (K7.out.upd hu (Nat.ne_of_lt KR.out.lt))
        have U8 := Lib.hid (U7.out.upd hu (Nat.ne_of_lt U.out.lt))
        have q1 := R8.out.k4.2.1
        have q2 := R8.out.k4.2.2.1
        clear hr hu
        refine hK _ _ ?_
        go_simp
        have f1 := R8.out.frozen 1
        go_wp2_with fail
        obtain ⟨w9, hw9⟩ : ∃ z, w8.setCell ⟨wr.heap.size, 1, none⟩ (.slice fa lb fc) = z := ⟨_, rfl⟩
        rw [show ((xu : Int) + sv).toNat = lb by omega, hw9]
        have hu : Upd w8 w9 wr.heap.size := hw9 ▸ Upd.setCell w8 _ _ _
        have R9 := Lib.hid (show Row w9 wr.heap.size 50 (fiC xs (.slice fa lb fc) lb xtv) from hw9 ▸ R8.out.setV 1 _)
        have C9 := Lib.hid (C8.out.ft (Ft.of_upd (F := fun k => k = wr.heap.size) hu rfl) (fun k hk e => NS.out k hk e))
        have F9 := Lib.hid (F8.out.on (Ft.of_upd (F := fun k => k = wr.heap.size) hu rfl) (fun k e => .inr (e ▸ F.out.size)))
        have K9 := Lib.hid (K8.out.upd hu (Nat.ne_of_lt KR.out.lt))
        have U9 := Lib.hid (U8.out.upd hu (Nat.ne_of_lt U.out.lt))
        clear hu hw9 q1 q2 f1
        have D9 := Lib.hid (show Below w9.heap.size w9 w9.drew from (Below.refl _ _).drew)
        have SM9 := Lib.hid (show ∀ v, Below w9.heap.size w9 v → SM v m (D ++ ⟨⟨xs, xb, xu, xt⟩, .slice fa bl fc, xtv⟩ :: Q).length (MX (D ++ ⟨⟨xs, xb, xu, xt⟩, .slice fa bl fc, xtv⟩ :: Q)) from fun v hv => (C9.out.mono hv).sm)
        refine region_t (fun v => Below w9.heap.size w9 v) 6 (by kernel_rfl) (by kernel_rfl) (by kernel_rfl) D9.out ?_
        obtain ⟨wz, hwz⟩ : ∃ wz, w9.drew = wz := ⟨_, rfl⟩
        rw [hwz] at D9 ⊢
        clear hwz
        (refine t_read 0 rfl (by kernel_rfl) (by kernel_rfl) (by kernel_rfl) (t_free rfl) ?_ ?_ ?_; rotate_left; (focus (intro v hv; go_simp; rfl)); go_simp)
        (refine t_read 1 rfl (by kernel_rfl) (by kernel_rfl) (by kernel_rfl) (t_free rfl) ?_ ?_ ?_; rotate_left; (focus (intro v hv; go_simp; rfl)); go_simp)
        (refine t_read 2 rfl (by kernel_rfl) (by kernel_rfl) (by kernel_rfl) (t_free rfl) ?_ ?_ ?_; rotate_left; (focus (intro v hv; go_simp; rfl)); go_simp)
        (refine t_read 3 rfl (by kernel_rfl) (by kernel_rfl) (by kernel_rfl) (t_free rfl) ?_ ?_ ?_; rotate_left; (focus (intro v hv; have c1 := (hv.cell (p := ⟨p, 1, none⟩) C9.out.rp.lt).trans C9.out.rp.k2.2; go_simp; rfl)); go_simp)
        (refine t_read 4 rfl (by kernel_rfl) (by kernel_rfl) (by kernel_rfl) (t_free rfl) ?_ ?_ ?_; rotate_left; (focus (intro v hv; go_simp; rfl)); go_simp)
        (refine t_read 5 rfl (by kernel_rfl) (by kernel_rfl) (by kernel_rfl) (t_free rfl) ?_ ?_ ?_; rotate_left; (focus (intro v hv; refine lg_all 50 (.tmp 7) ?_ wr.heap.size ?_ _ _ _ (R9.out.below hv R9.out.lt) Tryd.underlying50 rfl SZ.out; (focus rfl); (focus go_simp))); go_simp)
        (refine t_last 6 rfl (by kernel_rfl) rfl (by kernel_rfl) (by kernel_rfl) ?_; intro K hK)
        have CZ := C9.out.mono D9.out
        have GM := get_mid D Q ⟨⟨xs, xb, xu, xt⟩, .slice fa bl fc, xtv⟩
        refine map_put rfl _ _ _ 24 50 rfl map_type m _ _ (by go_simp) CZ.sm (by have h1 := HN.out; have h2 := congrArg List.length HQ.out; have h3 := CX.out.nx; rw [List.length_take] at h3; simp at h2 ⊢; omega) xs (.agg (fiC xs (.slice fa lb fc) lb xtv).toArray) (by go_simp) HSM.out (by go_simp) (MX ((D ++ ⟨⟨xs, xb, xu, xt⟩, .slice fa bl fc, xtv⟩ :: Q).set D.length (cutX ⟨⟨xs, xb, xu, xt⟩, .slice fa bl fc, xtv⟩ lb (.slice fa lb fc)))) (ris_set CZ.sm.ris GM rfl) (fun q => (mx_set (y := (cutX ⟨⟨xs, xb, xu, xt⟩, .slice fa bl fc, xtv⟩ lb (.slice fa lb fc))) CZ.sm.ris GM rfl q)) ?_
        intro w11 hsm7 hg7 hz7
        refine hK _ _ ?_
        have PP := CZ.same (i := D.length) (y := (cutX ⟨⟨xs, xb, xu, xt⟩, .slice fa bl fc, xtv⟩ lb (.slice fa lb fc))) GM rfl hg7 (by have := hsm7.tight; rw [mx_len] at this; exact this) (fun g e => by cases fa <;> exact e) (fun g e => e) (show Fr _ 0 (.slice fa lb fc) (xb.take lb) from (show Fr _ 0 (.slice fa bl fc) xb from CZ.ob ⟨⟨xs, xb, xu, xt⟩, .slice fa bl fc, xtv⟩ (List.mem_append_right _ (List.mem_cons_self ..))).cut (by omega)) (show LsO intE _ 0 xtv xt from CZ.ot ⟨⟨xs, xb, xu, xt⟩, .slice fa bl fc, xtv⟩ (List.mem_append_right _ (List.mem_cons_self ..)))
        rw [set_midX] at PP
        have C11 := Lib.hid PP.1
        have FF := (Ft.of_below D9.out).trans PP.2
        have F11 := Lib.hid (F9.out.on FF (fun b hb => .inl (.inl hb)))
        have hns : ∀ k, w.heap.size ≤ k → ¬ S k := fun k hk hs => absurd (H.out.lt k hs) (Nat.not_lt.2 hk)
        have K11 := Lib.hid (K9.out.ft FF (hns b1 L1.out))
        have U11 := Lib.hid (U9.out.ft FF (hns b2 L2.out))
        have R11 := Lib.hid (R9.out.ft FF (hns wr.heap.size (Nat.le_trans B2.out.size F.out.size)))
        have q2 := R11.out.k4.2.2.1
        have c1 := C11.out.rp.k2.2
        clear hsm7 hg7 hz7 PP FF hns CZ GM
        go_simp
        by_cases h0 : lb = 0
        · subst h0
          have e1 := Lib.hid (HGO.out HLT.out rfl)
          go_wp2_with ((with_reducible refine map_del (o := ⟨none, _, _, _, _, _⟩) rfl _ _ 24 50 rfl map_type m _ _ ?_ C11.out.sm xs ?_ HSM.out ?_); (focus go_simp); (focus (first | (go_simp; done) | (go_simp; rfl))); intro w12 hsm hg hz; have S12 := Lib.hid hsm; have G12 := Lib.hid hg; clear hsm hg hz c1 q2)
          have PF := C11.out.filter (fun z => !decide (z.f.s = xs)) G12.out (by have hsm := S12.out; rw [mx_filter] at hsm; have := hsm.tight; rw [mx_len] at this; exact this)
          have dm : (D ++ (cutX ⟨⟨xs, xb, xu, xt⟩, .slice fa bl fc, xtv⟩ 0 (.slice fa 0 fc)) :: Q).filter (fun z => !decide (z.f.s = xs)) = D ++ Q := drop_mid (x := (cutX ⟨⟨xs, xb, xu, xt⟩, .slice fa bl fc, xtv⟩ 0 (.slice fa 0 fc))) C11.out.sm.ris
          rw [dm] at PF
          have C12 := Lib.hid PF.1
          have F12 := Lib.hid (F11.out.on PF.2 (fun b hb => .inl (.inl hb)))
          have K12 := Lib.hid (K11.out.ft PF.2 (fun hs => absurd (H.out.lt b1 hs) (Nat.not_lt.2 L1.out)))
          have U12 := Lib.hid (U11.out.ft PF.2 (fun hs => absurd (H.out.lt b2 hs) (Nat.not_lt.2 L2.out)))
          clear PF
          go_roundw
          case rel => exact ⟨k + 1, nx + 1, D, vint (by omega), by omega, Lib.hid (by rw [HTK.out]; exact e1.out), Lib.hid (by rw [HQ.out]; exact C12.out), F12, K12, U12⟩
          case measure => simp [intOf]; omega
        · have e1 := Lib.hid (HCU.out (.slice fa lb fc) HLT.out h0)
          have h0' : ((lb : Int) == 0) = false := by simp; omega
          go_wp2_with fail
          go_roundw
          case rel => exact ⟨k + 1, nx + 1, _, vint (by omega), by omega, Lib.hid (by rw [HTK.out]; exact e1.out), Lib.hid (by rw [HQ.out, List.append_assoc]; exact C11.out), F11, K11, U11⟩
          case measure => simp [intOf]; omega
    · obtain rfl : n = k := by omega
      go_wp2_with fail
      first | go_end0 | (refine bodyPost_ret (results_none rfl _ _ _) rfl ?_)
      refine ⟨rfl, D, ?_, ?_, ?_⟩
      · have := CX.out.plain
        rw [← HNN.out, List.take_length] at this
        exact this
      · have := C.out
        rw [← HNN.out, List.drop_length, List.append_nil] at this
        exact this
      · exact (Ft.of_below B2.out).on F.out (fun b hb => hb.elim .inl (fun e => .inr (by rw [e]; exact L2.out)))
end Go.Proofs.YtkncbckmgcklfaaDoor.W

/- LAYER 28 (chunk): calls of a store that no call made; a copy of a store without pieces. -/
set_option linter.unusedSimpArgs false
set_option linter.unusedVariables false
namespace Go.Proofs.YtkncbckmgcklfaaDoor.W
open Go Go.ChangeShapes Go.WideShapes Go.ChangeAt Go.RowKit
open Go.Proofs.YtkncbckmgcklfaaDoor.P (shaL shaL_len)

/-- v is a store that no call made, in w and behind -/
def Nrd (w : World) (v : Value) : Prop := ∀ w', Below w.heap.size w w' → Calls Tryd.prog 19 #[v] w' fun e w'' => e = .returned (.bool false) ∧ w' = w''
theorem Nrd.nil (w : World) : Nrd w (.pointer none) := fun w' _ => cready_nil w'
theorem Nrd.zero {p : Nat} {w : World} (h : Row w p 26 [.int .i64 0, .map none]) : Nrd w (.pointer (some ⟨p, 0, none⟩)) := fun w' hb => cready_zero p w' (h.below hb h.lt).k2.2
theorem Nrd.mono {w w' : World} {v : Value} (h : Nrd w v) (hb : Below w.heap.size w w') : Nrd w' v := fun w2 h2 => h w2 (hb.trans (h2.mono hb.size))
set_option maxRecDepth 100000 in
set_option maxHeartbeats 4000000 in
theorem cput_not (v : Value) (a : Option Addr) (n c : Nat) (t : Int) (w : World) (h : Nrd w v) :
    Calls Tryd.prog 4 #[v, .slice a n c, .int .i64 t] w fun e w' => e = .returned (.tuple #[.string ⟨#[]⟩, .int .i64 2]) ∧ w = w' := by
  have H := Lib.hid (h w (Below.refl _ _))
  clear h
  go_enter Tryd.func4, Tryd.ntmps4
  go_wp2_with (go_at_call 19; (with_reducible refine H.out.mono ?_); rintro e w1 ⟨rfl, rfl⟩)
  go_ret2
  exact ⟨rfl, rfl⟩
set_option maxRecDepth 100000 in
set_option maxHeartbeats 4000000 in
theorem cget_not (v : Value) (s : ByteArray) (w : World) (h : Nrd w v) :
    Calls Tryd.prog 5 #[v, .string s] w fun e w' => e = .returned (.tuple #[.slice none 0 0, .int .i64 2]) ∧ w = w' := by
  have H := Lib.hid (h w (Below.refl _ _))
  clear h
  go_enter Tryd.func5, Tryd.ntmps5
  go_wp2_with (go_at_call 19; (with_reducible refine H.out.mono ?_); rintro e w1 ⟨rfl, rfl⟩)
  go_ret2
  exact ⟨rfl, rfl⟩
set_option maxRecDepth 100000 in
set_option maxHeartbeats 4000000 in
theorem chas_not (v : Value) (s : ByteArray) (w : World) (h : Nrd w v) :
    Calls Tryd.prog 8 #[v, .string s] w fun e w' => e = .returned (.bool false) ∧ w = w' := by
  have H := Lib.hid (cget_not v s w h)
  clear h
  go_enter Tryd.func8, Tryd.ntmps8
  go_wp2_with (go_at_call 5; (with_reducible refine H.out.mono ?_); rintro e w1 ⟨rfl, rfl⟩)
  go_ret
  exact ⟨rfl, rfl⟩
set_option maxRecDepth 100000 in
set_option maxHeartbeats 4000000 in
theorem cused_not (v : Value) (w : World) (h : Nrd w v) :
    Calls Tryd.prog 13 #[v] w fun e w' => e = .returned (.int .i64 0) ∧ w = w' := by
  have H := Lib.hid (h w (Below.refl _ _))
  clear h
  go_enter Tryd.func13, Tryd.ntmps13
  go_wp2_with (go_at_call 19; (with_reducible refine H.out.mono ?_); rintro e w1 ⟨rfl, rfl⟩)
  go_ret
  exact ⟨rfl, rfl⟩
set_option maxRecDepth 100000 in
set_option maxHeartbeats 4000000 in
theorem cloose_not (v : Value) (w : World) (h : Nrd w v) :
    Calls Tryd.prog 14 #[v] w fun e w' => e = .returned (.int .i64 0) ∧ w = w' := by
  have H := Lib.hid (h w (Below.refl _ _))
  clear h
  go_enter Tryd.func14, Tryd.ntmps14
  go_wp2_with (go_at_call 19; (with_reducible refine H.out.mono ?_); rintro e w1 ⟨rfl, rfl⟩)
  go_ret
  exact ⟨rfl, rfl⟩
set_option maxRecDepth 100000 in
set_option maxHeartbeats 4000000 in
theorem ccopy_not (v : Value) (w : World) (h : Nrd w v) :
    Calls Tryd.prog 15 #[v] w fun e w' => e = .returned (.pointer none) ∧ w = w' := by
  have H := Lib.hid (h w (Below.refl _ _))
  clear h
  go_enter Tryd.func15, Tryd.ntmps15
  go_wp2_with (go_at_call 19; (with_reducible refine H.out.mono ?_); rintro e w1 ⟨rfl, rfl⟩)
  go_ret
  exact ⟨rfl, rfl⟩
set_option maxRecDepth 100000 in
set_option maxHeartbeats 4000000 in
theorem ctake_not (v g : Value) (w : World) (h : Nrd w v) :
    Calls Tryd.prog 30 #[v, g] w fun e w' => e = .returned (.slice none 0 0) ∧ w = w' := by
  have H := Lib.hid (h w (Below.refl _ _))
  clear h
  go_enter Tryd.func30, Tryd.ntmps30
  go_wp2_with (go_at_call 19; (with_reducible refine H.out.mono ?_); rintro e w1 ⟨rfl, rfl⟩)
  go_ret
  exact ⟨rfl, rfl⟩
set_option maxRecDepth 100000 in
set_option maxHeartbeats 4000000 in
theorem cscrub_not (v : Value) (w : World) (h : Nrd w v) :
    Calls Tryd.prog 10 #[v] w fun e w' => e = .returned (.slice none 0 0) ∧ w = w' := by
  have H := Lib.hid (fun g => ctake_not v g w h)
  clear h
  go_enter Tryd.func10, Tryd.ntmps10
  go_wp2_with (go_at_call 30; (with_reducible refine (H.out _).mono ?_); rintro e w1 ⟨rfl, rfl⟩)
  go_ret
  exact ⟨rfl, rfl⟩
set_option maxRecDepth 100000 in
set_option maxHeartbeats 4000000 in
theorem crot_not (v : Value) (i j k : Int) (w : World) (h : Nrd w v) :
    Calls Tryd.prog 9 #[v, .int .i64 i, .int .i64 j, .int .i64 k] w fun e w' => e = .returned (.bool false) ∧ w = w' := by
  have H := Lib.hid (csums_not v w (h w (Below.refl _ _)))
  clear h
  go_enter Tryd.func9, Tryd.ntmps9
  go_wp2_with (go_at_call 27; (with_reducible refine H.out.mono ?_); rintro e w1 ⟨rfl, rfl⟩)
  go_ret
  exact ⟨rfl, rfl⟩
set_option maxRecDepth 100000 in
set_option maxHeartbeats 4000000 in
theorem csync_not (v : Value) (w : World) (h : Nrd w v) :
    Calls Tryd.prog 7 #[v] w fun e w' => e = .returned (.int .i64 0) ∧ w = w' := by
  have H := Lib.hid (csums_not v w (h w (Below.refl _ _)))
  have HL := Lib.hid (cloose_not v w h)
  clear h
  go_enter Tryd.func7, Tryd.ntmps7
  go_wp2_with (first
    | (go_at_call 14; (with_reducible refine HL.out.mono ?_); rintro e w1 ⟨rfl, rfl⟩)
    | (go_at_call 27; (with_reducible refine H.out.mono ?_); rintro e w1 ⟨rfl, rfl⟩))
  go_loopw [12] (fun i wr => i = .int .i64 0 ∧ Hid (w = wr)) (fun _ _ => 0)
  case atStart => exact ⟨rfl, Lib.hid rfl⟩
  case round =>
    obtain ⟨rfl, hw⟩ := hrel
    go_wp2_with fail
    go_ret
    exact ⟨rfl, hw.out⟩
set_option maxRecDepth 100000 in
set_option maxHeartbeats 4000000 in
theorem cfiles_not (v : Value) (w : World) (h : Nrd w v) :
    Calls Tryd.prog 12 #[v] w fun e w' => e = .returned (.slice none 0 0) ∧ w = w' := by
  have H := Lib.hid (csums_not v w (h w (Below.refl _ _)))
  clear h
  go_enter Tryd.func12, Tryd.ntmps12
  go_wp2_with (go_at_call 27; (with_reducible refine H.out.mono ?_); rintro e w1 ⟨rfl, rfl⟩)
  go_loopw [3, 9] (fun v i wr => v = .slice none 0 0 ∧ i = .int .i64 0 ∧ Hid (w = wr)) (fun _ _ _ => 0)
  case atStart => exact ⟨rfl, rfl, Lib.hid rfl⟩
  case round =>
    obtain ⟨rfl, rfl, hw⟩ := hrel
    go_wp2_with fail
    go_ret
    exact ⟨rfl, hw.out⟩
set_option maxRecDepth 100000 in
set_option maxHeartbeats 4000000 in
theorem ccrash_not (v : Value) (w : World) (h : Nrd w v) :
    Calls Tryd.prog 6 #[v, .slice none 0 0] w fun e w' => e = .returned (.tuple #[]) ∧ Below w.heap.size w w' := by
  have HTS := Lib.hid (kturns none 0 0 w)
  have H := Lib.hid (fun w' hb => csums_not v w' (h w' hb))
  clear h
  go_enter Tryd.func6, Tryd.ntmps6
  go_wp2_with (first
    | (go_at_call 26; (with_reducible refine HTS.out.mono ?_); rintro e w1 ⟨b1, b2, rfl, hr1, hr2, hl1, hl2, hne, hb1⟩; have B1 := Lib.hid hb1; clear hr1 hr2 hl1 hl2 hne hb1)
    | (go_at_call 27; (with_reducible refine (H.out w1 B1.out).mono ?_); rintro e w2 ⟨rfl, rfl⟩))
  go_loopw [13] (fun i wr => i = .int .i64 0 ∧ Hid (w1 = wr)) (fun _ _ => 0)
  case atStart => exact ⟨rfl, Lib.hid rfl⟩
  case round =>
    obtain ⟨rfl, hw⟩ := hrel
    obtain rfl := hw.out
    go_wp2_with fail
    first | go_end0 | (refine bodyPost_ret (results_none rfl _ _ _) rfl ?_)
    exact ⟨rfl, B1.out⟩
set_option maxRecDepth 100000 in
set_option maxHeartbeats 4000000 in
theorem csweep_not (v : Value) (t : Int) (w : World) (h : Nrd w v) :
    Calls Tryd.prog 11 #[v, .int .i64 t, .slice none 0 0, .slice none 0 0] w fun e w' => e = .returned (.int .i64 0) ∧ Below w.heap.size w w' := by
  have H := Lib.hid (fun g w' hb => ctake_not v g w' (h.mono (w' := w') hb))
  clear h
  go_enter Tryd.func11, Tryd.ntmps11
  go_wp2_with (first
    | (with_reducible refine box_cell (o := ⟨some 5, _, _, _, _, _⟩) rfl _ _ rfl (.int .i64 t) rfl rfl ?_; intro w1 hr1 hb1 hz1; have B1 := Lib.hid hb1; clear hr1 hb1 hz1)
    | (with_reducible refine box_cell (o := ⟨some 6, _, _, _, _, _⟩) rfl _ _ rfl (.slice none 0 0) rfl rfl ?_; intro w2 hr1 hb1 hz1; have B2 := Lib.hid (B1.out.trans (hb1.mono B1.out.size)); clear hr1 hb1 hz1)
    | (with_reducible refine box_cell (o := ⟨some 7, _, _, _, _, _⟩) rfl _ _ rfl (.slice none 0 0) rfl rfl ?_; intro w3 hr1 hb1 hz1; have B3 := Lib.hid (B2.out.trans (hb1.mono B2.out.size)); clear hr1 hb1 hz1)
    | ((with_reducible refine alloc_cell (o := ⟨some 9, _, _, _, _, _⟩) rfl _ rfl .nilFunc rfl (by kernel_rfl) ?_); intro w4 hr hb hz; have R44 := Lib.hid hr; have B4 := Lib.hid (B3.out.trans (hb.mono B3.out.size)); clear hr hb hz)
    | ((with_reducible refine store_cell (o := ⟨none, _, _, _, _, _⟩) rfl _ (.tmp 9) _ rfl w3.heap.size 0 (.func (.func 32) #[] #[.pointer (some ⟨w.heap.size, 0, none⟩), .pointer (some ⟨w2.heap.size, 0, none⟩)]) ?_ ?_ rfl rfl 62 _ R44.out cnt_size ?_ ?_); (focus go_simp); (focus (first | (go_simp; done) | (go_simp; rfl))); (focus (show 0 < 1; decide)); intro w5 hr hu; have B5 := Lib.hid (B4.out.trans (hu.below B3.out.size)); clear hr hu)
    | (go_at_call 30; (with_reducible refine (H.out _ _ B5.out).mono ?_); rintro e w6 ⟨rfl, rfl⟩))
  go_ret
  exact ⟨rfl, B5.out⟩
end Go.Proofs.YtkncbckmgcklfaaDoor.W

/- LAYER 28 (chunk): the program's Put, as it is said plainly; Copy of a store without pieces. -/
set_option linter.unusedSimpArgs false
set_option linter.unusedVariables false
namespace Go.Proofs.YtkncbckmgcklfaaDoor.W
open Go Go.ChangeShapes Go.WideShapes Go.ChangeAt Go.RowKit
open Go.Proofs.YtkncbckmgcklfaaDoor.P (shaL shaL_len)

set_option maxRecDepth 100000 in
set_option maxHeartbeats 4000000 in
theorem cput_bad {p m : Nat} {room : Int} {X : List FX} {S : Nat → Prop} {w : World} (a : Option Addr) (n c : Nat) (time : Int) (h : CK w p m room X S) (hn : n < 1 ∨ 256 < n) (hm : n ≤ 9223372036854775807) :
    Calls Tryd.prog 4 #[.pointer (some ⟨p, 0, none⟩), .slice a n c, .int .i64 time] w fun e w' => e = .returned (.tuple #[.string ⟨#[]⟩, .int .i64 1]) ∧ w = w' := by
  have HR := Lib.hid (cready p m room w h.rp)
  have HP := Lib.hid (pin (n : Int) 1 256 false (by unfold in64; rcases hn with h | h <;> simp <;> omega))
  clear h hn
  go_enter Tryd.func4, Tryd.ntmps4
  go_wp2_with (first
    | (go_at_call 19; (with_reducible refine HR.out.mono ?_); rintro e w0 ⟨rfl, rfl⟩)
    | (go_at_call 20; (with_reducible refine (HP.out w).mono ?_); rintro e w1 ⟨rfl, rfl⟩))
  go_ret2
  exact ⟨rfl, rfl⟩
theorem CK.more {w w' : World} {p m : Nat} {room : Int} {X : List FX} {S : Nat → Prop} (h : CK w p m room X S) (k : Below w.heap.size w w') : CK w' p m room X (fun k => S k ∨ (w.heap.size ≤ k ∧ k < w'.heap.size)) :=
  (h.mono k).grow (fun _ h => .inl h) (fun b hb => hb.elim (fun h2 => Nat.lt_of_lt_of_le (h.lt b h2) k.size) (·.2))
theorem cput {p m T : Nat} {room : Int} {X : List FX} {S : Nat → Prop} {w : World} (a : Option Addr) (n c : Nat) (b : List UInt8) (time : Int)
    (h : CK w p m room X S) (hs : StOk T room (X.map (·.f))) (hb : Rd w a n c b) (ht : SI64 time) (hK : Ks w) (hT : T ≤ 899) (h0 : 0 ≤ room) :
    Calls Tryd.prog 4 #[.pointer (some ⟨p, 0, none⟩), .slice a n c, .int .i64 time] w fun e w' => e = .returned (.tuple #[.string (putC room (X.map (·.f)) b time).2.1, .int .i64 (putC room (X.map (·.f)) b time).2.2]) ∧
      ∃ X', X'.map (·.f) = (putC room (X.map (·.f)) b time).1 ∧ CK w' p m room X' (fun k => S k ∨ (w.heap.size ≤ k ∧ k < w'.heap.size)) ∧ Ft S w w' := by
  have hl : b.length = n := hb.hlen
  have ok : ∀ x ∈ X, FiOk T x.f := fun x hx => hs.ok _ (List.mem_map.2 ⟨x, hx, rfl⟩)
  have h256 : ∀ x ∈ X, x.f.b.length ≤ 256 := fun x hx => (ok x hx).b2
  have hn : X.length ≤ 524288 := by have := hs.len; rwa [List.length_map] at this
  have hrm : 0 ≤ room ∧ room ≤ 524288 := ⟨h0, hs.rm⟩
  have hus : usedC (X.map (·.f)) ≤ 524288 := by have := hs.us; have := hs.rm; omega
  have hz : (sumOf b).size ≤ maxLen := by rw [sumOf_size]; decide
  unfold putC
  rw [hl]
  by_cases hbad : n < 1 ∨ 256 < n
  · rw [if_pos hbad]
    refine (cput_bad a n c time h hbad (Nat.le_trans hb.hle hb.hmax)).mono ?_
    rintro e w' ⟨rfl, rfl⟩
    exact ⟨rfl, X, rfl, h.more (Below.refl _ _), Ft.refl _ _⟩
  rw [if_neg hbad]
  have hn1 : 1 ≤ n ∧ n ≤ 256 := by omega
  rcases find_or (sumOf b) (X.map (·.f)) with ⟨e, hno⟩ | ⟨f, e, hf, hfs⟩
  · rw [e]
    have fd : Found w m X T b false ⟨#[]⟩ none 0 0 0 (.slice none 0 0) [] [] := {
      lk := fun w' hw => (look_no (s := sumOf b) 24 50 map_type _ (file_zv w') (h.mono hw).sm hz (fun q hq => by obtain ⟨x, hx, rfl⟩ := List.mem_map.1 hq; exact hno _ (List.mem_map.2 ⟨x, hx, rfl⟩))).2
      rd := Rd_nil w
      b2 := by omega
      ot := LsO.nil w 0
      t64 := by simp
      tr := List.Pairwise.nil
      tl := Nat.zero_le _
      yes := by simp
      no := fun _ => ⟨rfl, rfl, fun x hx => hno _ (List.mem_map.2 ⟨x, hx, rfl⟩)⟩ }
    have hne : ([] : List UInt8) ≠ b := by rintro rfl; simp at hl; omega
    dsimp only
    by_cases hfull : room < (usedC (X.map (·.f)) : Int) + n
    · rw [if_pos hfull]
      refine (cput_full_false a n c b time h hb hn1 ht hK hT h256 hn hrm hus fd rfl hne (by simpa using hfull)).mono ?_
      rintro e w' ⟨rfl, hb⟩
      exact ⟨rfl, X, rfl, h.more hb, Ft.of_below hb⟩
    · rw [if_neg hfull]
      refine (cput_new_false a n c b time h hb hn1 ht hK hT h256 hn hrm hus fd rfl hne (by simpa using hfull)).mono ?_
      rintro e w' ⟨rfl, y, hy, hc, hf⟩
      exact ⟨rfl, _, by rw [put_f, hy]; rfl, hc, hf⟩
  · rw [e]
    obtain ⟨x, hx, rfl⟩ := find_x hf
    obtain ⟨fa, fc, hbv, hrd, -⟩ := (h.ob x hx).form
    have okx := ok x hx
    have fd : Found w m X T b true x.f.s fa x.f.b.length fc x.f.su x.tv x.f.b x.f.t := {
      lk := fun w' hw => by
        have := (look_yes (s := sumOf b) 24 50 map_type _ (file_zv w') (h.mono hw).sm hz (by have := (h.mono hw).at hx; rw [hfs] at this; exact this)).2
        rw [← hbv]; exact this
      rd := hrd
      b2 := okx.b2
      ot := h.ot x hx
      t64 := okx.t64
      tr := okx.tr
      tl := okx.tl
      yes := fun _ => ⟨hfs, x, hx, rfl, hbv, rfl, hbv ▸ h.ob x hx⟩
      no := by simp }
    dsimp only
    by_cases heq : x.f.b = b
    · rw [if_pos heq]
      refine (cput_eq a n c b time h hb hn1 ht hK hT h256 hn hrm hus fd rfl heq).mono ?_
      rintro e w' ⟨rfl, y, hy, hc, hf⟩
      exact ⟨rfl, _, by rw [put_f, hy], hc, hf⟩
    rw [if_neg heq]
    by_cases hin : sumOf x.f.b = x.f.s
    · rw [if_pos (show intactC x.f = true by unfold intactC; simpa using hin)]
      refine (cput_exists a n c b time h hb hn1 ht hK hT h256 hn hrm hus fd rfl heq hin).mono ?_
      rintro e w' ⟨rfl, hb⟩
      exact ⟨rfl, X, rfl, h.more hb, Ft.of_below hb⟩
    rw [if_neg (show ¬ intactC x.f = true by unfold intactC; simpa using hin)]
    by_cases hfull : room < (usedC (X.map (·.f)) : Int) - x.f.b.length + n
    · rw [if_pos hfull]
      refine (cput_full_true a n c b time h hb hn1 ht hK hT h256 hn hrm hus fd rfl heq hin hfull).mono ?_
      rintro e w' ⟨rfl, hb⟩
      exact ⟨rfl, X, rfl, h.more hb, Ft.of_below hb⟩
    · rw [if_neg hfull]
      refine (cput_new_true a n c b time h hb hn1 ht hK hT h256 hn hrm hus fd rfl heq hin hfull).mono ?_
      rintro e w' ⟨rfl, y, hy, hc, hf⟩
      exact ⟨rfl, _, by rw [put_f, hy], hc, hf⟩
-- ---- Copy of a store without pieces
set_option maxRecDepth 100000 in
set_option maxHeartbeats 4000000 in
theorem ccopy0 {p m : Nat} {room : Int} {S : Nat → Prop} {w : World} (h : CK w p m room [] S) :
    Calls Tryd.prog 15 #[.pointer (some ⟨p, 0, none⟩)] w fun e w' => ∃ p2 m2, e = .returned (.pointer (some ⟨p2, 0, none⟩)) ∧ CK w' p2 m2 room [] (fun k => w.heap.size ≤ k ∧ k < w'.heap.size) ∧ Below w.heap.size w w' := by
  have H := Lib.hid h
  have HR := Lib.hid (cready p m room w h.rp)
  have hmm := @run_makeMap Tryd.prog
  have BT := Lib.hid (st_built room w.heap.size)
  obtain ⟨c0, c1⟩ := h.rp.k2
  clear h
  go_enter Tryd.func15, Tryd.ntmps15
  go_wp2_with (first
    | (go_at_call 19; (with_reducible refine HR.out.mono ?_); rintro e w1 ⟨rfl, rfl⟩)
    | ((with_reducible refine build_row (o := ⟨some 14, _, _, _, _, _⟩) rfl _ _ rfl [.int .i64 room, .map (some w.heap.size)] ?_ ?_); (focus (go_simp; exact BT.out)))
    | ((with_reducible refine box_row (o := ⟨some 15, _, _, _, _, _⟩) rfl _ _ rfl [.int .i64 room, .map (some w.heap.size)] ?_ ?_); (focus (go_simp)); intro w2 hr2 hb2 hz2; have R2 := Lib.hid hr2; have B2 := Lib.hid hb2; have Z2 := Lib.hid hz2; have BB := Lib.hid (((Below.refl w.heap.size w).alloc (Nat.le_refl _) _).trans (hb2.mono (by simp))); have H2 := Lib.hid (H.out.mono BB.out); have d1 := H2.out.rp.k2.2; clear hr2 hb2 hz2 c0 c1)
    | ((with_reducible refine map_range (o := ⟨some 20, _, _, _, _, _⟩) rfl _ 24 50 rfl map_type m ([] : List FX).length (MX []) ?_ H2.out.sm ?_); (focus go_simp); intro w3 hrg hb hz; have G3 := Lib.hid hrg; have B3 := Lib.hid hb; clear hrg hb hz d1))
  have HI := Lib.hid (show w.heap.size + 1 < w2.heap.size by have := Z2.out; simp at this; omega)
  have B32 := Lib.hid (BB.out.trans (B3.out.mono BB.out.size))
  go_frame
  go_loopw [4, 5] (fun _ _ wr => ∃ left cnt, Hid (RgS wr m w2.heap.size (MX []) left cnt) ∧ Hid (Below w2.heap.size w2 wr)) (fun _ _ wr => wr.rangeLeft m w2.heap.size)
  case atStart => exact ⟨_, _, G3, B3⟩
  case round =>
    obtain ⟨left, cnt, G, B⟩ := hrel
    go_wp2_with ((with_reducible refine map_next (o := ⟨some 21, _, _, _, _, _⟩) rfl _ rfl m w2.heap.size (MX []) left cnt ?_ G.out ?_ ?_); (focus go_simp))
    · intro hl
      clear hl
      go_simp
      go_wp2_with fail
      go_ret
      have h1 : (w.alloc (.map #[] 0)).heap.size = w.heap.size + 1 := by simp
      have hs := B.out.size
      have hi := HI.out
      have hz2 := Z2.out
      have C2 : CK w2 (w.heap.size + 1) w.heap.size room [] (fun k => w.heap.size ≤ k ∧ k < wr.heap.size) → True := fun _ => trivial
      have R2' : Row w2 (w.heap.size + 1) 26 [.int .i64 room, .map (some w.heap.size)] := by have := R2.out; simpa using this
      have M2 : SM w2 w.heap.size ([] : List FX).length (MX []) := (SM.made w).kept B2.out
      refine ⟨w.heap.size + 1, w.heap.size, by simp, { rp := R2'.below B.out R2'.lt, sm := M2.kept B.out, ob := by simp, ot := by simp, sb := List.Pairwise.nil, st := List.Pairwise.nil, Sp := ⟨by omega, by omega⟩, Sm := ⟨Nat.le_refl _, by omega⟩, Sb := by simp, St := by simp, lt := fun k hk => hk.2 }, BB.out.trans (B.out.mono BB.out.size)⟩
    · intro s v w4 cnt2 hmem
      cases hmem
end Go.Proofs.YtkncbckmgcklfaaDoor.W

/- A LIST OF ONE BYTE that is built out of an operand, and its conversion ([]byte("x")). -/
set_option linter.unusedSimpArgs false
set_option linter.unusedVariables false
namespace Go.Proofs.YtkncbckmgcklfaaDoor.W
open Go Go.ChangeShapes Go.WideShapes Go.ChangeAt Go.RowKit

theorem conv_run {P : Program} (w : World) (t e : TypeId) (g n c : Nat) (C : Array Value) (hg : w.heap[g]? = some (.cells C e (0, 0))) (ht : P.underlying t = some (.slice e)) (he : P.underlying e = some (.int .u8)) :
    ∃ w', (convert t t (.slice (some ⟨g, 0, none⟩) n c)).run P w = .ok (.slice (some ⟨g, 0, none⟩) n c) w' ∧ Upd w w' g ∧ w'.heap[g]? = some (.cells C e (C.size, C.size + 1)) := by
  have hsh : w.shape? g = some (e, C.size) := by unfold World.shape?; rw [hg]
  have hz : w.freeze ⟨g, C.size, none⟩ 1 = { w with heap := (w.freeze ⟨g, C.size, none⟩ 1).heap } := by
    unfold World.freeze; rw [if_neg (by decide)]
  refine ⟨w.freeze ⟨g, C.size, none⟩ 1, ?_, ?_, ?_⟩
  · simp [convert, run_underlying ht, run_underlying he, markStringish, hsh]
  · unfold World.freeze
    rw [if_neg (by decide)]
    exact ⟨rfl, rfl, rfl, by simp, fun k hk => by simp [Array.getElem?_modify, hk.symm]⟩
  · unfold World.freeze
    rw [if_neg (by decide)]
    simp [Array.getElem?_modify, hg]
theorem by1_rd {w w' : World} {g : Nat} {v : UInt8} {fz : Nat × Nat} (h : w'.heap[g]? = some (.cells #[B v] 5 fz)) : Rd w' (some ⟨g, 0, none⟩) 1 1 [v] := by
  refine ⟨rfl, Nat.le_refl _, by omega, (fun h => by cases h), .inr ⟨g, 0, rfl, (Array.getElem?_eq_some_iff.1 h).1, fun i hi => ?_⟩⟩
  obtain rfl : i = 0 := by omega
  rw [Nat.zero_add, cell_of_row w' g 0 _ _ _ h]
  rfl
theorem conv_by {w : World} {ops : Array Oper} {rest : List Oper} {o : Oper} {a : Act} {Q : Exit → Act → World → Prop} (hgd : o.guard = none) (x : Operand)
    (ho : o.op = .convert 22 22 x) (g : Nat) (v : UInt8) (h0 : a.eval x = .slice (some ⟨g, 0, none⟩) 1 1) (hr : Row w g 5 [B v])
    (hk : ∀ w', Rd w' (some ⟨g, 0, none⟩) 1 1 [v] → Upd w w' g → wpList Tryd.prog ops Q rest (a.put o.dst (.slice (some ⟨g, 0, none⟩) 1 1)) w') : wpList Tryd.prog ops Q (o :: rest) a w := by
  obtain ⟨w', hrun, hu, hh⟩ := conv_run (P := Tryd.prog) w 22 5 g 1 1 #[B v] hr Tryd.underlying22 Tryd.underlying5
  refine wpList_plain hgd fun K hK => ?_
  unfold Oper.wp
  simp [execOp, ho, h0, hrun, Result.andThen]
  exact hK _ _ (hk w' (by1_rd (w := w) hh) hu)
set_option maxRecDepth 100000 in
theorem by1 {w : World} {ops : Array Oper} {rest : List Oper} {o : Oper} {a : Act} {Q : Exit → Act → World → Prop} (hgd : o.guard = none) (x : Operand)
    (ho : o.op = .buildSlice 22 1 #[(0, x)]) (v : UInt8) (h0 : a.eval x = B v)
    (hk : ∀ w', Row w' w.heap.size 5 [B v] → Below w.heap.size w w' → w'.heap.size = w.heap.size + 1 → wpList Tryd.prog ops Q rest (a.put o.dst (.slice (some ⟨w.heap.size, 0, none⟩) 1 1)) w') : wpList Tryd.prog ops Q (o :: rest) a w := by
  obtain ⟨i0, hi0, hz0, hz1, hz2⟩ := info_parts infoByte
  refine wpList_buildSlice hgd 22 5 1 _ ho #[B v] i0 _ Tryd.underlying22 hi0 hz0 (by rw [hz1]; decide) (by rw [hz1]; decide) (by rw [hz1]; simp only [List.map_toArray, List.map_cons, List.map_nil, h0, B]; go_simp; first | done | rfl) ?_
  exact hk _ (Row.new _ _ _) ((Below.refl _ _).alloc (Nat.le_refl _) _) (by simp)
end Go.Proofs.YtkncbckmgcklfaaDoor.W

/- LAYER 28 (chunk): awake. -/
set_option linter.unusedSimpArgs false
set_option linter.unusedVariables false
namespace Go.Proofs.YtkncbckmgcklfaaDoor.W
open Go Go.ChangeShapes Go.WideShapes Go.ChangeAt Go.RowKit
open Go.Proofs.YtkncbckmgcklfaaDoor.P (shaL shaL_len)

theorem shaL_ab : shaL [97] ≠ shaL [98] := by decide +kernel
theorem sumOf_ab : sumOf [97] ≠ sumOf [98] := by
  unfold sumOf
  intro h
  have := congrArg (fun b => b.data.toList) h
  exact shaL_ab (by simpa [str] using this)
theorem fiOk_one (T : Nat) (v : UInt8) (su : Nat) (hs : su ≤ 1) : FiOk (T + 1) ⟨sumOf [v], [v], su, [1]⟩ :=
  ⟨by show (sumOf [v]).size ≤ 1000000; rw [sumOf_size]; decide, by simp, by simp, by simpa using hs, by simp, by simp [SI64], by simp⟩
theorem put_a : putC 100 [] [97] 1 = ([⟨sumOf [97], [97], 0, [1]⟩], sumOf [97], 0) := rfl
theorem put_b : ∃ L, putC 100 [⟨sumOf [97], [97], 1, [1]⟩] [98] 1 = (L, sumOf [98], 0) ∧ crashC [] 0 L = [⟨sumOf [97], [97], 1, [1]⟩] ∧ (∀ f ∈ L, FiOk 2 f) ∧ L.length ≤ 2 := by
  have hab := sumOf_ab
  have hba : sumOf [98] ≠ sumOf [97] := fun e => hab e.symm
  obtain ⟨x, hx⟩ : ∃ x, sumOf [97] = x := ⟨_, rfl⟩
  obtain ⟨y, hy⟩ : ∃ y, sumOf [98] = y := ⟨_, rfl⟩
  have f1 := fiOk_one 1 97 1 (by decide)
  have f2 := fiOk_one 1 98 0 (by decide)
  unfold putC
  rw [hx] at hab hba f1 ⊢
  rw [hy] at hab hba f2 ⊢
  simp only [findC, List.find?, hab, decide_false, usedC, putL, hba, if_false]
  refine ⟨_, rfl, ?_, ?_, ?_⟩
  · split <;> simp [crashC, isLoose, stayV]
  · intro f hf
    split at hf <;> simp at hf <;> rcases hf with rfl | rfl <;> assumption
  · split <;> simp
theorem stOk_one (room : Int) (v : UInt8) (su : Nat) (hs : su ≤ 1) (hr : 1 ≤ room ∧ room ≤ 524288) : StOk 1 room [⟨sumOf [v], [v], su, [1]⟩] :=
  ⟨List.pairwise_singleton _ _, fun f hf => by simp at hf; subst hf; exact fiOk_one 0 v su hs, by simp [usedC]; omega, hr.2⟩
theorem stOk_nil (T : Nat) (room : Int) (hr : 0 ≤ room ∧ room ≤ 524288) : StOk T room [] := ⟨List.Pairwise.nil, by simp, by simp [usedC]; omega, hr.2⟩
theorem get_a : (getC [⟨sumOf [97], [97], 1, [1]⟩] (sumOf [97])).2 = 0 := by simp [getC, findC, intactC]
theorem get_b : (getC [⟨sumOf [97], [97], 1, [1]⟩] (sumOf [98])).2 = 6 := by
  have hab := sumOf_ab
  simp [getC, findC, hab]
theorem Ft.belowS {F : Nat → Prop} {base : Nat} {w w' : World} (h : Ft F w w') (hf : ∀ k, F k → base ≤ k) (hb : base ≤ w.heap.size) : Below base w w' :=
  ⟨h.os, h.tape, h.output, h.size, fun k hk => h.block k (Nat.lt_of_lt_of_le hk hb) (fun e => absurd (hf k e) (Nat.not_le.2 hk))⟩
theorem sy_map {sa : ByteArray} {X : List FX} (h : X.map (·.f) = [⟨sa, [97], 0, [1]⟩]) : (X.map syX).map (·.f) = [⟨sa, [97], 1, [1]⟩] := by
  have e : (X.map syX).map (·.f) = (X.map (·.f)).map (fun f : Fi => (⟨f.s, f.b, f.b.length, f.t⟩ : Fi)) := by rw [List.map_map, List.map_map]; rfl
  rw [e, h]; rfl
set_option maxRecDepth 100000 in
set_option maxHeartbeats 16000000 in
theorem awake28 (w : World) (hK : Ks w) : Calls Tryd.prog 17 #[] w fun e w' => e = .returned (.bool true) ∧ Below w.heap.size w w' := by
  have HN := Lib.hid (cnew 100 w (by decide))
  obtain ⟨L, hpb, hcr, hok, hlen⟩ := put_b
  obtain ⟨sa, hsa⟩ : ∃ x, sumOf [97] = x := ⟨_, rfl⟩
  obtain ⟨sb, hsb⟩ : ∃ x, sumOf [98] = x := ⟨_, rfl⟩
  have za : sa.size ≤ maxLen := by rw [← hsa, sumOf_size]; decide
  have zb : sb.size ≤ maxLen := by rw [← hsb, sumOf_size]; decide
  have pa := put_a
  have ga := get_a
  have gb := get_b
  have oa := stOk_one 100 97 1 (by decide) (by decide)
  have fa := fiOk_one 0 97 0 (by decide)
  have fa1 := fiOk_one 0 97 1 (by decide)
  rw [hsa] at hpb hcr pa ga gb oa fa fa1
  rw [hsb] at hpb gb
  have HK := Lib.hid hK
  have HPA := Lib.hid (fun (w1 w2 : World) p m S (h : CK w1 p m 100 [] S) (g : Nat) (hb : Below w1.heap.size w1 w2) (hr : Rd w2 (some ⟨g, 0, none⟩) 1 1 [97]) (hk : Ks w2) => by
    have := cput (T := 1) (some ⟨g, 0, none⟩) 1 1 [97] 1 (h.mono hb) (stOk_nil 1 100 (by decide)) hr ⟨by decide, by decide⟩ hk (by decide) (by decide)
    rw [show (([] : List FX).map (·.f)) = [] from rfl, pa] at this
    exact this)
  have HSY := Lib.hid (fun (w1 : World) p m S X (hX : X.map (·.f) = [⟨sa, [97], 0, [1]⟩]) (h : CK w1 p m 100 X S) => by
    exact csync (T := 1) h (fun x hx => by have h1 : x.f ∈ X.map (·.f) := List.mem_map.2 ⟨x, hx, rfl⟩; rw [hX] at h1; simp at h1; rw [h1]; exact fa) (by have h2 := congrArg List.length hX; simp at h2; omega))
  have HPB := Lib.hid (fun (w1 w2 : World) p m S X (hX : X.map (·.f) = [⟨sa, [97], 1, [1]⟩]) (h : CK w1 p m 100 X S) (g : Nat) (hb : Below w1.heap.size w1 w2) (hr : Rd w2 (some ⟨g, 0, none⟩) 1 1 [98]) (hk : Ks w2) => by
    have := cput (T := 1) (some ⟨g, 0, none⟩) 1 1 [98] 1 (h.mono hb) (by rw [hX]; exact oa) hr ⟨by decide, by decide⟩ hk (by decide) (by decide)
    rw [hX, hpb] at this
    exact this)
  have HCR := Lib.hid (fun (w1 : World) p m S X (hX : X.map (·.f) = L) (h : CK w1 p m 100 X S) => by
    have := ccrash (T := 2) h (fun x hx => hok _ (by rw [← hX]; exact List.mem_map.2 ⟨x, hx, rfl⟩)) (by have h2 := congrArg List.length hX; simp at h2; omega) none 0 0 [] ⟨rfl, by decide, by simp, .inl rfl⟩ (by intro b off s e; cases e)
    rw [hX, hcr] at this
    exact this)
  have HHA := Lib.hid (fun (w1 w2 : World) p m S X (hX : X.map (·.f) = [⟨sa, [97], 1, [1]⟩]) (h : CK w1 p m 100 X S) (hb : Below w1.heap.size w1 w2) (hk : Ks w2) => by
    have := chas sa (h.mono hb) (fun x hx => by have h1 : x.f ∈ X.map (·.f) := List.mem_map.2 ⟨x, hx, rfl⟩; rw [hX] at h1; simp at h1; rw [h1]; exact fa1.b2) za hk
    rw [hX, ga] at this
    exact this)
  have HHB := Lib.hid (fun (w1 w2 : World) p m S X (hX : X.map (·.f) = [⟨sa, [97], 1, [1]⟩]) (h : CK w1 p m 100 X S) (hb : Below w1.heap.size w1 w2) (hk : Ks w2) => by
    have := chas sb (h.mono hb) (fun x hx => by have h1 : x.f ∈ X.map (·.f) := List.mem_map.2 ⟨x, hx, rfl⟩; rw [hX] at h1; simp at h1; rw [h1]; exact fa1.b2) zb hk
    rw [hX, gb] at this
    exact this)
  have HUS := Lib.hid (fun (w1 w2 : World) p m S X (hX : X.map (·.f) = [⟨sa, [97], 1, [1]⟩]) (h : CK w1 p m 100 X S) (hb : Below w1.heap.size w1 w2) => by
    have := cused (h.mono hb) (fun x hx => by have h1 : x.f ∈ X.map (·.f) := List.mem_map.2 ⟨x, hx, rfl⟩; rw [hX] at h1; simp at h1; rw [h1]; exact fa1.b2) (by have h2 := congrArg List.length hX; simp at h2; omega)
    rw [hX] at this
    exact this)
  clear hK hpb hcr hok hlen hsa hsb za zb pa ga gb oa fa fa1
  go_enter Tryd.func17, Tryd.ntmps17
  go_wp2_with (first
    | (go_at_call 16; (with_reducible refine HN.out.mono ?_); rintro e w1 ⟨p, m, rfl, hc, hb⟩; have C1 := Lib.hid hc; have B1 := Lib.hid hb; clear hc hb)
    | ((with_reducible refine by1 (o := ⟨some 19, _, _, _, _, _⟩) rfl _ rfl 97 ?_ ?_); (focus (first | (go_simp; done) | (go_simp; rfl))); intro w2 hr hb hz; have RB := Lib.hid hr; have B2 := Lib.hid hb; clear hr hb hz)
    | ((with_reducible refine conv_by (o := ⟨some 20, _, _, _, _, _⟩) rfl _ rfl w1.heap.size 97 ?_ RB.out ?_); (focus (first | (go_simp; done) | (go_simp; rfl))); intro w3 hr hu; have RA := Lib.hid hr; have B3 := Lib.hid (B2.out.trans (hu.below (Nat.le_refl _))); have BB3 := Lib.hid (B1.out.trans (B3.out.mono B1.out.size)); clear hr hu)
    | (go_at_call 4; (with_reducible refine (HPA.out w1 w3 p m _ C1.out w1.heap.size B3.out RA.out (HK.out.below BB3.out HK.out.pos)).mono ?_); rintro e w4 ⟨rfl, X4, hX, hc, hf⟩; have X4E := Lib.hid hX; have C4 := Lib.hid hc; have F4 := Lib.hid hf; clear hX hc hf)
    | (go_at_call 7; (with_reducible refine (HSY.out w4 p m _ X4 X4E.out C4.out).mono ?_); rintro e w5 ⟨rfl, hc, hf⟩; have C5 := Lib.hid hc; have F5 := Lib.hid hf; clear hc hf)
    | ((with_reducible refine by1 (o := ⟨some 28, _, _, _, _, _⟩) rfl _ rfl 98 ?_ ?_); (focus (first | (go_simp; done) | (go_simp; rfl))); intro w6 hr hb hz; have BD5 := Lib.hid ((BB3.out.trans (F4.out.belowS (fun k h => h.1) BB3.out.size)).trans (F5.out.belowS (fun k h => h.elim (·.1) (fun h => Nat.le_trans BB3.out.size h.1)) (Nat.le_trans BB3.out.size F4.out.size))); have RB6 := Lib.hid hr; have B6 := Lib.hid hb; clear hr hb hz)
    | ((with_reducible refine conv_by (o := ⟨some 29, _, _, _, _, _⟩) rfl _ rfl w5.heap.size 98 ?_ RB6.out ?_); (focus (first | (go_simp; done) | (go_simp; rfl))); intro w7 hr hu; have RA7 := Lib.hid hr; have B7 := Lib.hid (B6.out.trans (hu.below (Nat.le_refl _))); have BB7 := Lib.hid (BD5.out.trans (B7.out.mono BD5.out.size)); clear hr hu)
    | (go_at_call 4; (with_reducible refine (HPB.out w5 w7 p m _ _ (sy_map X4E.out) C5.out w5.heap.size B7.out RA7.out (HK.out.below BB7.out HK.out.pos)).mono ?_); rintro e w8 ⟨rfl, X8, hX, hc, hf⟩; have X8E := Lib.hid hX; have C8 := Lib.hid hc; have F8 := Lib.hid hf; clear hX hc hf)
    | (go_at_call 6; (with_reducible refine (HCR.out w8 p m _ X8 X8E.out C8.out).mono ?_); rintro e w9 ⟨rfl, X9, hX, hc, hf⟩; have X9E := Lib.hid hX; have C9 := Lib.hid hc; have F9 := Lib.hid hf; have BB8 := Lib.hid (BB7.out.trans (F8.out.belowS (fun k h => h.elim (·.1) (fun h => Nat.le_trans BB3.out.size h.1)) BB7.out.size)); have BB9 := Lib.hid (BB8.out.trans (F9.out.belowS (fun k h => h.elim (fun h => h.elim (·.1) (fun h => Nat.le_trans BB3.out.size h.1)) (fun h => Nat.le_trans BD5.out.size (Nat.le_trans B7.out.size h.1))) BB8.out.size)); clear hX hc hf)
    | (go_at_call 8; (with_reducible refine (HHA.out w9 w9 p m _ X9 X9E.out C9.out (Below.refl _ _) (HK.out.below BB9.out HK.out.pos)).mono ?_); rintro e w10 ⟨rfl, hb⟩; have B10 := Lib.hid hb; have BB10 := Lib.hid (BB9.out.trans (hb.mono BB9.out.size)); clear hb HHA)
    | (go_at_call 8; (with_reducible refine (HHB.out w9 w10 p m _ X9 X9E.out C9.out B10.out (HK.out.below BB10.out HK.out.pos)).mono ?_); rintro e w11 ⟨rfl, hb⟩; have B11 := Lib.hid (B10.out.trans (hb.mono B10.out.size)); have BB11 := Lib.hid (BB10.out.trans (hb.mono BB10.out.size)); clear hb)
    | (go_at_call 13; (with_reducible refine (HUS.out w9 w11 p m _ X9 X9E.out C9.out B11.out).mono ?_); rintro e w12 ⟨rfl, hb⟩; have BB12 := Lib.hid (BB11.out.trans (hb.mono BB11.out.size)); clear hb))
  go_ret
  exact ⟨rfl, BB12.out⟩
end Go.Proofs.YtkncbckmgcklfaaDoor.W

/- LAYER 28 (chunk): the law ChunkNobody. -/
set_option linter.unusedSimpArgs false
set_option linter.unusedVariables false
namespace Go.Proofs.YtkncbckmgcklfaaDoor.W
open Go Go.ChangeShapes Go.WideShapes Go.ChangeAt Go.RowKit
open Go.Proofs.YtkncbckmgcklfaaDoor.P (shaL shaL_len)

set_option maxRecDepth 100000 in
set_option maxHeartbeats 4000000 in
theorem psizes1 (a : Option Addr) (v : Int) (w : World) (h : Sl .i64 w a 1 [v]) (hv : 0 ≤ v ∧ v ≤ 1000) :
    Calls Tryd.prog 18 #[.int .i64 1000, .slice a 1 1] w fun e w' => e = .returned (.bool true) ∧ w = w' := by
  obtain ⟨-, -, -, h4⟩ := h
  obtain ⟨b, off, rfl, hlt, hc⟩ := h4.resolve_left (by decide)
  have c0 : w.cell? ⟨b, off, none⟩ = some (.int .i64 v) := hc 0 (by decide)
  clear hc hlt
  go_enter Tryd.func18, Tryd.ntmps18
  go_wp2_with fail
  go_loopw [5, 7, 11] (fun l _ i wr => Hid (w = wr) ∧ ((i = .int .i64 0 ∧ l = .int .i64 1000) ∨ i = .int .i64 1)) (fun _ _ i _ => 1 - (intOf i).toNat)
  case atStart => exact ⟨Lib.hid (Eq.refl _), .inl ⟨rfl, rfl⟩⟩
  case round =>
    obtain ⟨hw, h⟩ := hrel
    obtain rfl := hw.out
    rcases h with ⟨rfl, rfl⟩ | rfl
    · have g1 : ¬ v < 0 := by omega
      have g2 : ¬ 1000 < v := by omega
      go_wp2_with fail
      go_roundw
      case rel => exact ⟨Lib.hid trivial, .inr rfl⟩
      case measure => simp [intOf]
    · go_wp2_with fail
      go_ret
      exact ⟨rfl, rfl⟩
theorem st_zero : (Tryd.prog.info? 26).map (·.zero) = some (some (.agg [.int .i64 0, .map none].toArray)) := by kernel_rfl
theorem put_one (b : List UInt8) (n : Int) (h : 1 ≤ b.length ∧ b.length ≤ 256) : putC 1000 [] b n = ([⟨sumOf b, b, 0, [n]⟩], sumOf b, 0) := by
  unfold putC
  rw [if_neg (by omega)]
  simp only [findC, List.find?, usedC, List.map_nil, List.sum_nil]
  rw [if_neg (by omega)]
  rfl
set_option maxRecDepth 100000 in
set_option maxHeartbeats 16000000 in
theorem law_ChunkNobody (n : Int) (a : Option Addr) (len cap : Nat) (zs : List Int) (w : World) (hK : Ks w) (w0 : (Lit.int .i64 n).wf = true) (w1 : IsRow .u8 w a len cap zs) :
    Calls Tryd.prog 3 #[.int .i64 n, .slice a len cap] w fun e w' => e = .returned (.bool true) ∧ Below w.heap.size w w' := by
  have hr := Rd.of_row w1
  obtain ⟨l, hl⟩ : ∃ l, (zs.take len).map (fun n => UInt8.ofNat n.toNat) = l := ⟨_, rfl⟩
  rw [hl] at hr
  have hlen := hr.hlen
  have hle := hr.hle
  have hmax := hr.hmax
  have h64 : SI64 n := bd w0
  have HR := Lib.hid hr
  have HK := Lib.hid hK
  have TZ := Lib.hid st_zero
  have H64 := Lib.hid h64
  have HL := Lib.hid hlen
  clear hl w1 hr hK w0 h64 hlen
  by_cases hA : 256 < len
  · have g1 : (256 : Int) < (len : Int) := by omega
    go_enter Tryd.func3, Tryd.ntmps3
    go_wp2_with (first
    | ((with_reducible refine alloc_row (o := ⟨some 6, _, _, _, _, _⟩) rfl _ rfl _ TZ.out ?_); intro w1 hr hb hz; have B1 := Lib.hid hb; have N1 := Lib.hid (Nrd.nil w1); have Z1 := Lib.hid (Nrd.zero hr); clear hr hb hz)
    | (go_at_call 4; (with_reducible refine (cput_not _ _ _ _ _ w1 N1.out).mono ?_); rintro e w1' ⟨rfl, rfl⟩)
    | (go_at_call 4; (with_reducible refine (cput_not _ _ _ _ _ w1 Z1.out).mono ?_); rintro e w1' ⟨rfl, rfl⟩)
    | (go_at_call 5; (with_reducible refine (cget_not _ _ w1 N1.out).mono ?_); rintro e w1' ⟨rfl, rfl⟩)
    | (go_at_call 6; (with_reducible refine (ccrash_not _ w1 N1.out).mono ?_); rintro e w2 ⟨rfl, hb⟩; have B2 := Lib.hid (B1.out.trans (hb.mono B1.out.size)); have N2 := Lib.hid (N1.out.mono hb); have Z2 := Lib.hid (Z1.out.mono hb); clear hb)
    | (go_at_call 7; (with_reducible refine (csync_not _ w2 N2.out).mono ?_); rintro e w2' ⟨rfl, rfl⟩)
    | (go_at_call 8; (with_reducible refine (chas_not _ _ w2 N2.out).mono ?_); rintro e w2' ⟨rfl, rfl⟩)
    | (go_at_call 9; (with_reducible refine (crot_not _ _ _ _ w2 Z2.out).mono ?_); rintro e w2' ⟨rfl, rfl⟩)
    | (go_at_call 10; (with_reducible refine (cscrub_not _ w2 N2.out).mono ?_); rintro e w2' ⟨rfl, rfl⟩)
    | (go_at_call 11; (with_reducible refine (csweep_not _ _ w2 N2.out).mono ?_); rintro e w3 ⟨rfl, hb⟩; have B3 := Lib.hid (B2.out.trans (hb.mono B2.out.size)); have N3 := Lib.hid (N2.out.mono hb); have Z3 := Lib.hid (Z2.out.mono hb); clear hb)
    | (go_at_call 12; (with_reducible refine (cfiles_not _ w3 Z3.out).mono ?_); rintro e w3' ⟨rfl, rfl⟩)
    | (go_at_call 13; (with_reducible refine (cused_not _ w3 N3.out).mono ?_); rintro e w3' ⟨rfl, rfl⟩)
    | (go_at_call 14; (with_reducible refine (cloose_not _ w3 Z3.out).mono ?_); rintro e w3' ⟨rfl, rfl⟩)
    | (go_at_call 15; (with_reducible refine (ccopy_not _ w3 N3.out).mono ?_); rintro e w3' ⟨rfl, rfl⟩)
    | (go_at_call 16; (with_reducible refine (cnew 1000 w3 (by decide)).mono ?_); rintro e w4 ⟨p, m, rfl, hc, hb⟩; have C4 := Lib.hid hc; have B4 := Lib.hid (B3.out.trans (hb.mono B3.out.size)); clear hc hb)
    | (go_at_call 17; (with_reducible refine (awake28 w4 (HK.out.below B4.out HK.out.pos)).mono ?_); rintro e w9 ⟨rfl, hb⟩; have B9 := Lib.hid (B4.out.trans (hb.mono B4.out.size)); clear hb))
    go_ret
    exact ⟨rfl, B9.out⟩
  by_cases hB : len = 0
  · subst hB
    go_enter Tryd.func3, Tryd.ntmps3
    go_wp2_with (first
    | ((with_reducible refine alloc_row (o := ⟨some 6, _, _, _, _, _⟩) rfl _ rfl _ TZ.out ?_); intro w1 hr hb hz; have B1 := Lib.hid hb; have N1 := Lib.hid (Nrd.nil w1); have Z1 := Lib.hid (Nrd.zero hr); clear hr hb hz)
    | (go_at_call 4; (with_reducible refine (cput_not _ _ _ _ _ w1 N1.out).mono ?_); rintro e w1' ⟨rfl, rfl⟩)
    | (go_at_call 4; (with_reducible refine (cput_not _ _ _ _ _ w1 Z1.out).mono ?_); rintro e w1' ⟨rfl, rfl⟩)
    | (go_at_call 5; (with_reducible refine (cget_not _ _ w1 N1.out).mono ?_); rintro e w1' ⟨rfl, rfl⟩)
    | (go_at_call 6; (with_reducible refine (ccrash_not _ w1 N1.out).mono ?_); rintro e w2 ⟨rfl, hb⟩; have B2 := Lib.hid (B1.out.trans (hb.mono B1.out.size)); have N2 := Lib.hid (N1.out.mono hb); have Z2 := Lib.hid (Z1.out.mono hb); clear hb)
    | (go_at_call 7; (with_reducible refine (csync_not _ w2 N2.out).mono ?_); rintro e w2' ⟨rfl, rfl⟩)
    | (go_at_call 8; (with_reducible refine (chas_not _ _ w2 N2.out).mono ?_); rintro e w2' ⟨rfl, rfl⟩)
    | (go_at_call 9; (with_reducible refine (crot_not _ _ _ _ w2 Z2.out).mono ?_); rintro e w2' ⟨rfl, rfl⟩)
    | (go_at_call 10; (with_reducible refine (cscrub_not _ w2 N2.out).mono ?_); rintro e w2' ⟨rfl, rfl⟩)
    | (go_at_call 11; (with_reducible refine (csweep_not _ _ w2 N2.out).mono ?_); rintro e w3 ⟨rfl, hb⟩; have B3 := Lib.hid (B2.out.trans (hb.mono B2.out.size)); have N3 := Lib.hid (N2.out.mono hb); have Z3 := Lib.hid (Z2.out.mono hb); clear hb)
    | (go_at_call 12; (with_reducible refine (cfiles_not _ w3 Z3.out).mono ?_); rintro e w3' ⟨rfl, rfl⟩)
    | (go_at_call 13; (with_reducible refine (cused_not _ w3 N3.out).mono ?_); rintro e w3' ⟨rfl, rfl⟩)
    | (go_at_call 14; (with_reducible refine (cloose_not _ w3 Z3.out).mono ?_); rintro e w3' ⟨rfl, rfl⟩)
    | (go_at_call 15; (with_reducible refine (ccopy_not _ w3 N3.out).mono ?_); rintro e w3' ⟨rfl, rfl⟩)
    | (go_at_call 16; (with_reducible refine (cnew 1000 w3 (by decide)).mono ?_); rintro e w4 ⟨p, m, rfl, hc, hb⟩; have C4 := Lib.hid hc; have B4 := Lib.hid (B3.out.trans (hb.mono B3.out.size)); clear hc hb)
    | (go_at_call 17; (with_reducible refine (awake28 w4 (HK.out.below B4.out HK.out.pos)).mono ?_); rintro e w9 ⟨rfl, hb⟩; have B9 := Lib.hid (B4.out.trans (hb.mono B4.out.size)); clear hb))
    go_ret
    exact ⟨rfl, B9.out⟩
  have h1 : 1 ≤ len ∧ len ≤ 256 := by omega
  have g1 : ¬ (256 : Int) < (len : Int) := by omega
  have g2 : ((len : Int) == 0) = false := by simp; omega
  have HV := Lib.hid (show (0 : Int) ≤ (len : Int) ∧ (len : Int) ≤ 1000 by omega)
  have HSI := Lib.hid (show SI64 (len : Int) from ⟨by omega, by omega⟩)
  have pa := put_one l n (by rw [HL.out]; exact h1)
  have ok1 : FiOk 1 ⟨sumOf l, l, 0, [n]⟩ := ⟨by show (sumOf l).size ≤ 1000000; rw [sumOf_size]; decide, by show 1 ≤ l.length; rw [HL.out]; exact h1.1, by show l.length ≤ 256; rw [HL.out]; exact h1.2, Nat.zero_le _, by simp, by intro t ht; simp at ht; subst ht; exact H64.out, by simp⟩
  have HPU := Lib.hid (fun (v : World) p m S (h : CK v p m 1000 [] S) (hb : Below w.heap.size w v) => by
    have := cput (T := 1) a len cap l n h (stOk_nil 1 1000 (by decide)) (HR.out.mono hb) H64.out (HK.out.below hb HK.out.pos) (by decide) (by decide)
    rw [show (([] : List FX).map (·.f)) = [] from rfl, pa] at this
    exact this)
  have HUS := Lib.hid (fun (v1 v2 : World) p m S X (hX : X.map (·.f) = [⟨sumOf l, l, 0, [n]⟩]) (h : CK v1 p m 1000 X S) (hb : Below v1.heap.size v1 v2) => by
    have := cused (h.mono hb) (fun x hx => by have h1 : x.f ∈ X.map (·.f) := List.mem_map.2 ⟨x, hx, rfl⟩; rw [hX] at h1; simp at h1; rw [h1]; exact ok1.b2) (by have h2 := congrArg List.length hX; simp at h2; omega)
    rw [hX, show usedC [⟨sumOf l, l, 0, [n]⟩] = len by simp [usedC, HL.out]] at this
    exact this)
  clear pa ok1 h1
  go_enter Tryd.func3, Tryd.ntmps3
  go_wp2_with (first
    | ((with_reducible refine alloc_row (o := ⟨some 6, _, _, _, _, _⟩) rfl _ rfl _ TZ.out ?_); intro w1 hr hb hz; have B1 := Lib.hid hb; have N1 := Lib.hid (Nrd.nil w1); have Z1 := Lib.hid (Nrd.zero hr); clear hr hb hz)
    | (go_at_call 4; (with_reducible refine (cput_not _ _ _ _ _ w1 N1.out).mono ?_); rintro e w1' ⟨rfl, rfl⟩)
    | (go_at_call 4; (with_reducible refine (cput_not _ _ _ _ _ w1 Z1.out).mono ?_); rintro e w1' ⟨rfl, rfl⟩)
    | (go_at_call 5; (with_reducible refine (cget_not _ _ w1 N1.out).mono ?_); rintro e w1' ⟨rfl, rfl⟩)
    | (go_at_call 6; (with_reducible refine (ccrash_not _ w1 N1.out).mono ?_); rintro e w2 ⟨rfl, hb⟩; have B2 := Lib.hid (B1.out.trans (hb.mono B1.out.size)); have N2 := Lib.hid (N1.out.mono hb); have Z2 := Lib.hid (Z1.out.mono hb); clear hb)
    | (go_at_call 7; (with_reducible refine (csync_not _ w2 N2.out).mono ?_); rintro e w2' ⟨rfl, rfl⟩)
    | (go_at_call 8; (with_reducible refine (chas_not _ _ w2 N2.out).mono ?_); rintro e w2' ⟨rfl, rfl⟩)
    | (go_at_call 9; (with_reducible refine (crot_not _ _ _ _ w2 Z2.out).mono ?_); rintro e w2' ⟨rfl, rfl⟩)
    | (go_at_call 10; (with_reducible refine (cscrub_not _ w2 N2.out).mono ?_); rintro e w2' ⟨rfl, rfl⟩)
    | (go_at_call 11; (with_reducible refine (csweep_not _ _ w2 N2.out).mono ?_); rintro e w3 ⟨rfl, hb⟩; have B3 := Lib.hid (B2.out.trans (hb.mono B2.out.size)); have N3 := Lib.hid (N2.out.mono hb); have Z3 := Lib.hid (Z2.out.mono hb); clear hb)
    | (go_at_call 12; (with_reducible refine (cfiles_not _ w3 Z3.out).mono ?_); rintro e w3' ⟨rfl, rfl⟩)
    | (go_at_call 13; (with_reducible refine (cused_not _ w3 N3.out).mono ?_); rintro e w3' ⟨rfl, rfl⟩)
    | (go_at_call 14; (with_reducible refine (cloose_not _ w3 Z3.out).mono ?_); rintro e w3' ⟨rfl, rfl⟩)
    | (go_at_call 15; (with_reducible refine (ccopy_not _ w3 N3.out).mono ?_); rintro e w3' ⟨rfl, rfl⟩)
    | (go_at_call 16; (with_reducible refine (cnew 1000 w3 (by decide)).mono ?_); rintro e w4 ⟨p, m, rfl, hc, hb⟩; have C4 := Lib.hid hc; have B4 := Lib.hid (B3.out.trans (hb.mono B3.out.size)); clear hc hb)
    | (go_at_call 15; (with_reducible refine (ccopy0 C4.out).mono ?_); rintro e w5 ⟨p5, m5, rfl, hc, hb⟩; have C5 := Lib.hid hc; have BB5 := Lib.hid hb; have B5 := Lib.hid (B4.out.trans (hb.mono B4.out.size)); clear hc hb)
    | (go_at_call 4; (with_reducible refine (HPU.out w5 p5 m5 _ C5.out B5.out).mono ?_); rintro e w6 ⟨rfl, X6, hX, hc, hf⟩; have X6E := Lib.hid hX; have C6 := Lib.hid hc; have B6 := Lib.hid (B5.out.trans (hf.belowS (fun k h => Nat.le_trans B4.out.size h.1) B5.out.size)); have D6 := Lib.hid ((C4.out.mono BB5.out).ft hf (fun k h1 h2 => absurd h1.2 (Nat.not_lt.2 h2.1))); clear hX hc hf)
    | (go_at_call 13; (with_reducible refine (cused D6.out (by simp) (by simp)).mono ?_); rintro e w7 ⟨rfl, hb⟩; have BB7 := Lib.hid hb; have B7 := Lib.hid (B6.out.trans (hb.mono B6.out.size)); clear hb)
    | (go_at_call 13; (with_reducible refine (HUS.out w6 w7 p5 m5 _ X6 X6E.out C6.out BB7.out).mono ?_); rintro e w8 ⟨rfl, hb⟩; have BB8 := Lib.hid (BB7.out.trans (hb.mono BB7.out.size)); have B8 := Lib.hid (B7.out.trans (hb.mono B7.out.size)); clear hb)
    | (go_at_call 13; (with_reducible refine (HUS.out w6 w8 p5 m5 _ X6 X6E.out C6.out BB8.out).mono ?_); rintro e w9 ⟨rfl, hb⟩; have B9 := Lib.hid (B8.out.trans (hb.mono B8.out.size)); clear hb)
    | ((with_reducible refine bg1 (o := ⟨some 151, _, _, _, _, _⟩) 14 true 148 rfl _ rfl ?_ ?_ (len : Int) ?_ HSI.out ?_); (focus rfl); (focus (first | (go_simp; done) | (go_simp; rfl))); (focus (first | (go_simp; done) | (go_simp; rfl))); intro wb hs hb hz; have SB := Lib.hid hs; have BB := Lib.hid (B9.out.trans (hb.mono B9.out.size)); clear hs hb hz)
    | (go_at_call 18; (with_reducible refine (psizes1 _ _ wb SB.out HV.out).mono ?_); rintro e wb' ⟨rfl, rfl⟩)
    | (go_at_call 17; (with_reducible refine (awake28 wb (HK.out.below BB.out HK.out.pos)).mono ?_); rintro e wc ⟨rfl, hb⟩; have BC := Lib.hid (BB.out.trans (hb.mono BB.out.size)); clear hb))
  go_ret
  exact ⟨rfl, BC.out⟩
end Go.Proofs.YtkncbckmgcklfaaDoor.W
