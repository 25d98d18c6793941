/- LAYER 20 (manifest): Piece, Bytes, fits, order of the program; cmp.Compare of strings, cmp.Or. LAYER 20 (manifest): lists.Rise, Check of the program; copies: slices.Clone of pieces and of snapshots, own. -/
import Derived.Test.YtmacjpgeamlmhaaMfO
import Derived.Test.YtmacjpgeamlmhaaRf
import Derived.Test.YtmacjpgeamlmhaaRun
import Derived.Test.YtmacjpgeamlmhaaSt
import Derived.Test.YtmacjpgeamlmhaaCavW4
set_option linter.unusedSimpArgs false
set_option linter.unusedVariables false
namespace Go.Proofs.Ytmacjpgeamlmhaa.W
open Go Go.ChangeShapes Go.WideShapes Go.ChangeAt Go.RowKit
open Go.Proofs.Ytmacjpgeamlmhaa.P (enc dec)
open Go.Proofs.Ytmacjpgeamlmhaa.S

set_option maxRecDepth 100000 in
set_option maxHeartbeats 4000000 in
theorem ppiece (p : Pc) (w : World) (h : p.fit) : Calls Try.prog 98 #[.agg p.cells.toArray] w fun x w' => x = .returned (.bool (pokM p)) ∧ Below w.heap.size w w' := by
  have hs := h.sum
  obtain ⟨sm, sz⟩ := p
  dsimp only at hs
  obtain ⟨b0, h0⟩ : ∃ b, decide (sm.size = 32) = b := ⟨_, rfl⟩
  obtain ⟨b1, h1⟩ : ∃ b, in64 sz 1 256 = b := ⟨_, rfl⟩
  have HX := Lib.hid (show pokM ⟨sm, sz⟩ = (b0 && b1) by unfold pokM; rw [h0, h1])
  have gb : (((sm.size : Nat) : Int) == 32) = b0 := by rw [← h0, Bool.eq_iff_iff]; simp; omega
  have H1 := Lib.hid h1
  clear h h0 h1
  rw [show (Pc.cells ⟨sm, sz⟩) = [.string sm, .int .i64 sz] from rfl]
  cases b0
  all_goals
    go_enter Try.func98, Try.ntmps98
    go_wp2_with (first
      | (with_reducible refine box_row (o := ⟨some 1, _, _, _, _, _⟩) rfl _ _ rfl [.string sm, .int .i64 sz] rfl ?_; intro w1 hr1 hb1 hz1; obtain ⟨c0, c1⟩ := hr1.l2; have B1 := Lib.hid hb1; clear hr1 hb1 hz1)
      | (go_at_call 74; with_reducible refine (pin sz 1 256 _ H1.out _).mono ?_; rintro x w' ⟨rfl, rfl⟩))
    go_ret
    exact ⟨one (vbool (by rw [HX.out]; simp)), B1.out⟩
theorem sumM_next (P : List Pc) (k : Nat) (p : Pc) (h : P[k]? = some p) : sumM (P.take (k + 1)) = sumM (P.take k) + p.size := by
  obtain ⟨h1, h2⟩ := List.getElem?_eq_some_iff.1 h
  rw [List.take_succ_eq_append_getElem h1, h2]
  simp [sumM]
theorem allM_next (P : List Pc) (k : Nat) (p : Pc) (h : P[k]? = some p) : (P.take (k + 1)).all pokM = ((P.take k).all pokM && pokM p) := by
  obtain ⟨h1, h2⟩ := List.getElem?_eq_some_iff.1 h
  rw [List.take_succ_eq_append_getElem h1, h2]
  simp
theorem allM_take (P : List Pc) (k : Nat) (h : P.all pokM = true) : (P.take k).all pokM = true := by
  rw [List.all_eq_true] at h ⊢
  exact fun s hs => h s (List.mem_of_mem_take hs)
theorem sumM_lim (P : List Pc) (h : P.all pokM = true) : 0 ≤ sumM P ∧ sumM P ≤ (P.length : Int) * 256 := by
  rw [List.all_eq_true] at h
  induction P with
  | nil => simp [sumM]
  | cons p P ih =>
    have h1 := h p (by simp)
    unfold pokM at h1
    simp only [Bool.and_eq_true, in64_iff] at h1
    have h2 := ih (fun x hx => h x (by simp [hx]))
    simp only [sumM, List.map_cons, List.sum_cons, List.length_cons] at h2 ⊢
    omega
set_option maxRecDepth 100000 in
set_option maxHeartbeats 8000000 in
theorem pbytes (a : Option Addr) (n c : Nat) (P : List Pc) (w : World) (h : Ls pcE w a n c P) :
    Calls Try.prog 78 #[.slice a n c] w fun x w' => x = .returned (.tuple #[.int .i64 (bytesM P).1, .int .i64 (bytesM P).2]) ∧ Below w.heap.size w w' := by
  have H := Lib.hid h
  have HL := Lib.hid h.hlen
  have hm := h.hmax
  have hle := h.hle
  have SZ := Lib.hid pc_size
  have MZ := Lib.hid pc_zero
  obtain ⟨v, hv⟩ : ∃ v, bytesM P = v := ⟨_, rfl⟩
  have HV := Lib.hid (show (if n ≤ 8 ∧ P.all pokM = true then (sumM P, (0 : Int)) else (0, 1)) = v by rw [← hv, ← h.hlen]; rfl)
  rw [hv]
  clear h hv
  by_cases h8 : n ≤ 8
  case neg =>
    have HF := Lib.hid (show v = (0, 1) by rw [← HV.out, if_neg (fun e => h8 e.1)])
    have g8 : (8 : Int) < (n : Int) := by omega
    clear HV
    rw [HF.out]
    go_enter Try.func78, Try.ntmps78
    go_wp2_with fail
    go_ret2
    exact ⟨rfl, Below.refl _ _⟩
  have g8 : ¬ (8 : Int) < (n : Int) := by omega
  go_enter Try.func78, Try.ntmps78
  go_wp2_with fail
  go_loopw [4, 12] (fun s i wr => ∃ k : Nat, i = .int .i64 (k : Int) ∧ k ≤ n ∧ s = .int .i64 (sumM (P.take k)) ∧ Hid ((P.take k).all pokM = true) ∧ Hid (Below w.heap.size w wr)) (fun _ i _ => n - (intOf i).toNat)
  case atStart => exact ⟨0, rfl, Nat.zero_le _, rfl, Lib.hid rfl, Lib.hid (Below.refl _ _)⟩
  case round =>
    obtain ⟨k, rfl, hk, rfl, A, B⟩ := hrel
    have hsm := sumM_lim _ A.out
    have htl : (P.take k).length ≤ 8 := by rw [List.length_take, HL.out]; omega
    obtain ⟨sm0, hs⟩ : ∃ s, sumM (P.take k) = s := ⟨_, rfl⟩
    rw [hs] at hsm ⊢
    have hsb : 0 ≤ sm0 ∧ sm0 ≤ 2048 := ⟨hsm.1, by have := hsm.2; have : ((P.take k).length : Int) ≤ 8 := (by omega); omega⟩
    have HSM := Lib.hid hs
    clear hs hsm htl
    by_cases hlt : k < n
    · obtain ⟨b, off, x, rfl, hx, hcell, hfx⟩ := H.out.at pcOk B.out k hlt
      have HONE := Lib.hid (fun w => ppiece x w hfx)
      have hnx := allM_next P k x hx
      rw [A.out, Bool.true_and] at hnx
      have hsz : pokM x = true → 1 ≤ x.size ∧ x.size ≤ 256 := fun e => by unfold pokM at e; simp only [Bool.and_eq_true, in64_iff] at e; exact e.2
      have HS := Lib.hid (show sumM (P.take (k + 1)) = sm0 + x.size by rw [sumM_next P k x hx, HSM.out])
      have hbad : (P.take (k + 1)).all pokM = false → v = (0, 1) := fun h => by
        rw [← HV.out, if_neg]
        rintro ⟨-, e⟩
        rw [allM_take P (k + 1) e] at h; cases h
      obtain ⟨ok, hok⟩ : ∃ b, pokM x = b := ⟨_, rfl⟩
      rw [hok] at hnx hsz
      have HOK := Lib.hid hok
      obtain ⟨sm, sz⟩ := x
      dsimp only at hsz HS
      have XC := Lib.hid hcell
      have g1 : (0 : Int) ≤ (k : Int) := by omega
      have g2 : (k : Int) < (n : Int) := by omega
      clear hx hcell hfx hok
      rcases ok with _ | _
      · have HF := Lib.hid (hbad hnx)
        clear hnx hbad hsz
        go_wp2_with (first
          | ((with_reducible refine load_cells (o := ⟨some 15, _, _, _, _, _⟩) rfl _ _ rfl b (off + k * 2) ?_ [.string sm, .int .i64 sz] _ XC.out Try.underlying54 rfl ?_ ?_); (focus go_simp); (focus (exact SZ.out)))
          | ((with_reducible refine alloc_row (o := ⟨some 6, _, _, _, _, _⟩) rfl _ rfl _ MZ.out ?_); intro w5 hr hb hz; have R5 := Lib.hid hr; have B5 := Lib.hid (B.out.trans (hb.mono B.out.size)); clear hr hb hz)
          | ((with_reducible refine store_row (o := ⟨none, _, _, _, _, _⟩) rfl _ (.tmp 6) _ rfl wr.heap.size [.string sm, .int .i64 sz] ?_ ?_ 54 _ R5.out ?_ ?_ ?_ ?_); (focus go_simp); (focus (first | (go_simp; done) | (go_simp; rfl))); (focus (exact SZ.out)); (focus rfl); (focus (exact pc_one ⟨sm, sz⟩)); intro w6 hr2 hu2; have R6 := Lib.hid hr2; have B6 := Lib.hid (B5.out.trans (hu2.below B.out.size)); clear hr2 hu2)
          | ((with_reducible refine load_row (o := ⟨some 16, _, _, _, _, _⟩) rfl _ _ rfl wr.heap.size ?_ _ [.string sm, .int .i64 sz] _ R6.out Try.underlying54 rfl ?_ ?_); (focus go_simp); (focus (exact SZ.out)))
          | (go_at_call 98; (with_reducible refine (HONE.out w6).mono ?_); rw [HOK.out]; rintro x w7 ⟨rfl, hb⟩; have R7 := Lib.hid (R6.out.below hb R6.out.lt); have B7 := Lib.hid (B6.out.trans (hb.mono B6.out.size)); obtain ⟨d0, d1⟩ := R7.out.l2; clear hb))
        go_ret2
        exact ⟨by rw [HF.out]; first | done | rfl, B7.out⟩
      · have HN := Lib.hid hnx
        have hib := hsz rfl
        clear hnx hbad hsz
        go_wp2_with (first
          | ((with_reducible refine load_cells (o := ⟨some 15, _, _, _, _, _⟩) rfl _ _ rfl b (off + k * 2) ?_ [.string sm, .int .i64 sz] _ XC.out Try.underlying54 rfl ?_ ?_); (focus go_simp); (focus (exact SZ.out)))
          | ((with_reducible refine alloc_row (o := ⟨some 6, _, _, _, _, _⟩) rfl _ rfl _ MZ.out ?_); intro w5 hr hb hz; have R5 := Lib.hid hr; have B5 := Lib.hid (B.out.trans (hb.mono B.out.size)); clear hr hb hz)
          | ((with_reducible refine store_row (o := ⟨none, _, _, _, _, _⟩) rfl _ (.tmp 6) _ rfl wr.heap.size [.string sm, .int .i64 sz] ?_ ?_ 54 _ R5.out ?_ ?_ ?_ ?_); (focus go_simp); (focus (first | (go_simp; done) | (go_simp; rfl))); (focus (exact SZ.out)); (focus rfl); (focus (exact pc_one ⟨sm, sz⟩)); intro w6 hr2 hu2; have R6 := Lib.hid hr2; have B6 := Lib.hid (B5.out.trans (hu2.below B.out.size)); clear hr2 hu2)
          | ((with_reducible refine load_row (o := ⟨some 16, _, _, _, _, _⟩) rfl _ _ rfl wr.heap.size ?_ _ [.string sm, .int .i64 sz] _ R6.out Try.underlying54 rfl ?_ ?_); (focus go_simp); (focus (exact SZ.out)))
          | (go_at_call 98; (with_reducible refine (HONE.out w6).mono ?_); rw [HOK.out]; rintro x w7 ⟨rfl, hb⟩; have R7 := Lib.hid (R6.out.below hb R6.out.lt); have B7 := Lib.hid (B6.out.trans (hb.mono B6.out.size)); obtain ⟨d0, d1⟩ := R7.out.l2; clear hb))
        go_roundw
        case rel => exact ⟨k + 1, vint (by omega), by omega, by rw [HS.out], HN, B7⟩
        case measure => simp [intOf]; omega
    · obtain rfl : n = k := by omega
      have ht : P.take n = P := List.take_of_length_le (by rw [HL.out]; exact Nat.le_refl _)
      have HX := Lib.hid (show v = (sm0, 0) by rw [← HV.out, ← HSM.out]; rw [ht] at A ⊢; rw [if_pos ⟨h8, A.out⟩])
      clear ht
      go_wp2_with fail
      go_ret2
      exact ⟨by rw [HX.out]; first | done | rfl, B.out⟩
theorem bytesM_e (P : List Pc) : (bytesM P).2 = 0 ∨ (bytesM P).2 = 1 := by unfold bytesM; split <;> simp
theorem bs5m : ∀ b0 b1 b2 b3 b4 : Bool, ((b0 = false) ∨ (b0 = true ∧ b1 = false) ∨ (b0 = true ∧ b1 = true ∧ b2 = false) ∨ (b0 = true ∧ b1 = true ∧ b2 = true ∧ b3 = false)) ∨ (b0 = true ∧ b1 = true ∧ b2 = true ∧ b3 = true) := by
  intro b0 b1 b2 b3 b4
  cases b0 <;> cases b1 <;> cases b2 <;> cases b3 <;> simp
theorem allIn2 (m x y : Int) : allIn m [x, y] = (in64 x 0 m && in64 y 0 m) := by simp [allIn]
def cmpM (x y : ByteArray) : Int := if ltM x y then -1 else if eqM x y then 0 else 1
def orI : List Int → Int
  | [] => 0
  | x :: l => if x = 0 then orI l else x
def ordM (a b : Sn) : Int := orI [cmpM a.sp b.sp, cmpM a.nm b.nm]
theorem cmpM_self (a : ByteArray) : cmpM a a = 0 := by unfold cmpM; rw [ltM_self, (eqM_iff a a).2 rfl]; simp
theorem cmpM_cases (a b : ByteArray) : (cmpM a b = -1 ∧ ltM a b = true ∧ eqM a b = false ∧ ltM b a = false) ∨ (cmpM a b = 0 ∧ a = b) ∨ (cmpM a b = 1 ∧ ltM a b = false ∧ eqM a b = false ∧ ltM b a = true) := by
  unfold cmpM
  cases h1 : ltM a b with
  | true =>
    refine .inl ⟨by simp, rfl, eqM_ne.2 (fun e => ?_), ltM_asym h1⟩
    subst e
    rw [ltM_self] at h1; cases h1
  | false =>
    cases h2 : eqM a b with
    | true => exact .inr (.inl ⟨by simp, (eqM_iff a b).1 h2⟩)
    | false => exact .inr (.inr ⟨by simp, rfl, rfl, ltM_total h1 (eqM_ne.1 h2)⟩)
theorem ordM_cases (a b : Sn) : (ordM a b = -1 ∧ belowM a b = true ∧ belowM b a = false) ∨ (ordM a b = 0 ∧ belowM a b = false ∧ belowM b a = false) ∨ (ordM a b = 1 ∧ belowM a b = false ∧ belowM b a = true) := by
  unfold ordM belowM orI orI orI
  rcases cmpM_cases a.sp b.sp with ⟨h1, h2, h3, h4⟩ | ⟨h1, h2⟩ | ⟨h1, h2, h3, h4⟩
  · refine .inl ⟨by rw [h1]; simp, by rw [h2]; simp, ?_⟩
    rw [h4]
    have : eqM b.sp a.sp = false := eqM_ne.2 (fun e => eqM_ne.1 h3 e.symm)
    rw [this]; rfl
  · rw [h1, h2, ltM_self, (eqM_iff b.sp b.sp).2 rfl]
    rcases cmpM_cases a.nm b.nm with ⟨k1, k2, k3, k4⟩ | ⟨k1, k2⟩ | ⟨k1, k2, k3, k4⟩
    · exact .inl ⟨by rw [k1]; simp, by rw [k2]; simp, by rw [k4]; simp⟩
    · exact .inr (.inl ⟨by rw [k1]; simp, by rw [k2, ltM_self]; simp, by rw [k2, ltM_self]; simp⟩)
    · exact .inr (.inr ⟨by rw [k1]; simp, by rw [k2]; simp, by rw [k4]; simp⟩)
  · refine .inr (.inr ⟨by rw [h1]; simp, by rw [h2, h3]; simp, by rw [h4]; simp⟩)
theorem cmpM_si (a b : ByteArray) : SI64 (cmpM a b) := by unfold cmpM; repeat' split
                                                          all_goals exact ⟨by decide, by decide⟩
end Go.Proofs.Ytmacjpgeamlmhaa.W

namespace Go.Proofs.Ytmacjpgeamlmhaa.W
open Go Go.ChangeShapes Go.WideShapes Go.ChangeAt Go.RowKit
open Go.Proofs.Ytmacjpgeamlmhaa.P (enc dec)
open Go.Proofs.Ytmacjpgeamlmhaa.S

def riseM : Option Sn → List Sn → Bool
  | _, [] => true
  | p, s :: L => behM p s && riseM (some s) L
theorem chkM_split : ∀ (L : List Sn) (p : Option Sn), chkM p L = (riseM p L && L.all okM)
  | [], _ => rfl
  | s :: L, p => by
    simp only [chkM, riseM, List.all_cons]
    rw [chkM_split L (some s)]
    cases okM s <;> cases behM p s <;> cases riseM (some s) L <;> simp
theorem riseM_snoc : ∀ (L : List Sn) (p : Option Sn) (s : Sn), riseM p (L ++ [s]) = (riseM p L && behM (L.getLast?.or p) s)
  | [], p, s => by simp [riseM]
  | x :: L, p, s => by
    rw [List.cons_append]
    simp only [riseM]
    rw [riseM_snoc L (some x) s]
    have : (x :: L).getLast?.or p = L.getLast?.or (some x) := by
      cases L with
      | nil => simp
      | cons y L => simp [List.getLast?_cons]
    rw [this]
    simp only [Bool.and_assoc]
theorem riseM_next (L : List Sn) (k : Nat) (x y : Sn) (hx : L[k]? = some x) (hy : L[k + 1]? = some y) : riseM none (L.take (k + 1 + 1)) = (riseM none (L.take (k + 1)) && belowM x y) := by
  have hk : k + 1 < L.length := (List.getElem?_eq_some_iff.1 hy).1
  have h1 : L.take (k + 1 + 1) = L.take (k + 1) ++ [y] := by
    rw [List.take_succ_eq_append_getElem hk]
    rw [List.getElem?_eq_getElem hk] at hy
    rw [Option.some.inj hy]
  rw [h1, riseM_snoc]
  have : (L.take (k + 1)).getLast? = L[k]? := by
    rw [List.getLast?_eq_getElem?, List.length_take, Nat.min_eq_left (by omega)]
    simp
  rw [this, hx]
  rfl
theorem riseM_take : ∀ (L : List Sn) (p : Option Sn) (k : Nat), riseM p L = true → riseM p (L.take k) = true
  | [], _, _, _ => by simp [riseM]
  | s :: L, p, 0, _ => by simp [riseM]
  | s :: L, p, k + 1, h => by
    simp only [riseM, Bool.and_eq_true, List.take_succ_cons] at h ⊢
    exact ⟨h.1, riseM_take L _ k h.2⟩
theorem map_at {X : List SnX} {L : List Sn} (e : X.map (·.s) = L) {k : Nat} {x : SnX} (h : X[k]? = some x) : L[k]? = some x.s := by
  rw [← e, List.getElem?_map, h]; rfl
theorem allMs_next (L : List Sn) (k : Nat) (s : Sn) (h : L[k]? = some s) : (L.take (k + 1)).all okM = ((L.take k).all okM && okM s) := by
  obtain ⟨h1, h2⟩ := List.getElem?_eq_some_iff.1 h
  rw [List.take_succ_eq_append_getElem h1, h2]
  simp
theorem allMs_take (L : List Sn) (k : Nat) (h : L.all okM = true) : (L.take k).all okM = true := by
  rw [List.all_eq_true] at h ⊢
  exact fun s hs => h s (List.mem_of_mem_take hs)
end Go.Proofs.Ytmacjpgeamlmhaa.W
