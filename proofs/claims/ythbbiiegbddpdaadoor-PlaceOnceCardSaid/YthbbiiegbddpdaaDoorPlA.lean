/- LAYER 29 (place): a node's mark for a piece; the order of nodes, plain; mark, rank; the closure by which Order sorts. -/
import Derived.Test.YthbbiiegbddpdaaDoorShaS
import Derived.Test.YthbbiiegbddpdaaDoorShaE
import Derived.Test.YthbbiiegbddpdaaDoorFro
import Derived.Test.YthbbiiegbddpdaaDoorBy1
import Derived.Test.YthbbiiegbddpdaaDoorIz
import Derived.Test.YthbbiiegbddpdaaDoorStl
import Derived.Test.YthbbiiegbddpdaaDoorSlg
import Derived.Test.YthbbiiegbddpdaaDoorPeS
set_option linter.unusedSimpArgs false
set_option linter.unusedVariables false
namespace Go.Proofs.YthbbiiegbddpdaaDoor.W
open Go Go.ChangeShapes Go.WideShapes Go.ChangeAt Go.RowKit
open Go.Proofs.YthbbiiegbddpdaaDoor.S
open Go.Proofs.YthbbiiegbddpdaaDoor.P (enc dec shaL shaL_len)

def mkP (s : ByteArray) (k : Int) : ByteArray := str (shaL (s.data.toList ++ [UInt8.ofNat k.toNat]))
theorem mkP_size (s : ByteArray) (k : Int) : (mkP s k).size = 32 := by unfold mkP; rw [str_size, shaL_len]
theorem ml_trans : ∀ (x y z : List UInt8), Op.bytesLess x y = true → Op.bytesLess y z = true → Op.bytesLess x z = true
  | [], [], _, h, _ => by simp [Op.bytesLess] at h
  | [], _ :: _, [], _, h => by simp [Op.bytesLess] at h
  | [], _ :: _, _ :: _, _, _ => by simp [Op.bytesLess]
  | _ :: _, [], _, h, _ => by simp [Op.bytesLess] at h
  | _ :: _, _ :: _, [], _, h => by simp [Op.bytesLess] at h
  | a :: x, b :: y, c :: z, h, k => by
    simp only [Op.bytesLess, Bool.or_eq_true, decide_eq_true_eq, Bool.and_eq_true, beq_iff_eq] at h k ⊢
    rcases h with h | ⟨rfl, h⟩
    · rcases k with k | ⟨rfl, k⟩
      · exact .inl (show a.toNat < c.toNat from Nat.lt_trans h k)
      · exact .inl h
    · rcases k with k | ⟨rfl, k⟩
      · exact .inl k
      · exact .inr ⟨rfl, ml_trans x y z h k⟩
theorem ltM_trans {a b c : ByteArray} (h : ltM a b = true) (k : ltM b c = true) : ltM a c = true := ml_trans _ _ _ h k
/-- x stands ahead of y in the order of s -/
def ltP (s : ByteArray) (x y : Int) : Bool := if ltM (mkP s x) (mkP s y) = true then true else if ltM (mkP s y) (mkP s x) = true then false else decide (x < y)
theorem ltP_self (s : ByteArray) (x : Int) : ltP s x x = false := by unfold ltP; rw [ltM_self]; simp
theorem ltP_asym {s : ByteArray} {x y : Int} (h : ltP s x y = true) : ltP s y x = false := by
  unfold ltP at h ⊢
  by_cases h1 : ltM (mkP s x) (mkP s y) = true
  · rw [if_neg (by rw [ltM_asym h1]; decide), if_pos h1]
  · rw [if_neg h1] at h
    by_cases h2 : ltM (mkP s y) (mkP s x) = true
    · rw [if_pos h2] at h; cases h
    · rw [if_neg h2] at h
      rw [if_neg h2, if_neg h1]
      have : x < y := by simpa using h
      simp; omega
theorem ltP_total {s : ByteArray} {x y : Int} (hne : x ≠ y) (h : ltP s x y = false) : ltP s y x = true := by
  unfold ltP at h ⊢
  by_cases h1 : ltM (mkP s x) (mkP s y) = true
  · rw [if_pos h1] at h; cases h
  · rw [if_neg h1] at h
    by_cases h2 : ltM (mkP s y) (mkP s x) = true
    · rw [if_pos h2]
    · rw [if_neg h2] at h
      rw [if_neg h2, if_neg h1]
      have : ¬ x < y := by simpa using h
      simp; omega
theorem ltP_trans {s : ByteArray} {x y z : Int} (h : ltP s x y = true) (k : ltP s y z = true) : ltP s x z = true := by
  unfold ltP at h k ⊢
  by_cases h1 : ltM (mkP s x) (mkP s y) = true
  · by_cases k1 : ltM (mkP s y) (mkP s z) = true
    · rw [if_pos (ltM_trans h1 k1)]
    · rw [if_neg k1] at k
      by_cases k2 : ltM (mkP s z) (mkP s y) = true
      · rw [if_pos k2] at k; cases k
      · have e : mkP s y = mkP s z := Classical.byContradiction fun hne => k2 (ltM_total (by simpa using k1) hne)
        rw [e] at h1
        rw [if_pos h1]
  · rw [if_neg h1] at h
    by_cases h2 : ltM (mkP s y) (mkP s x) = true
    · rw [if_pos h2] at h; cases h
    · rw [if_neg h2] at h
      have e : mkP s x = mkP s y := Classical.byContradiction fun hne => h2 (ltM_total (by simpa using h1) hne)
      rw [e]
      by_cases k1 : ltM (mkP s y) (mkP s z) = true
      · rw [if_pos k1]
      · rw [if_neg k1] at k ⊢
        by_cases k2 : ltM (mkP s z) (mkP s y) = true
        · rw [if_pos k2] at k; cases k
        · rw [if_neg k2] at k ⊢
          have a1 : x < y := by simpa using h
          have a2 : y < z := by simpa using k
          simp; omega
theorem ltP_le {s : ByteArray} {x y z : Int} (h : ltP s y x = false) (k : ltP s z y = false) : ltP s z x = false := by
  cases hq : ltP s z x with
  | false => rfl
  | true =>
    by_cases e1 : x = y
    · subst e1; rw [k] at hq; cases hq
    · have h1 := ltP_total (fun e => e1 e.symm) h
      have h2 := ltP_trans hq h1
      rw [k] at h2; cases h2
/-- the nodes below m in their order -/
def ordL (s : ByteArray) : Nat → List Int
  | 0 => []
  | m + 1 => insP (fun y => ltM (mkP s (m : Int)) (mkP s y)) (m : Int) (ordL s m)
def ordP (s : ByteArray) (n : Int) : List Int := ordL s (min n 7).toNat
theorem ordL_len (s : ByteArray) : ∀ m, (ordL s m).length = m
  | 0 => rfl
  | m + 1 => by unfold ordL; rw [insP_len, ordL_len s m]
theorem ordL_mem (s : ByteArray) (y : Int) : ∀ m, y ∈ ordL s m ↔ (0 ≤ y ∧ y < (m : Int))
  | 0 => by simp [ordL]; first | done | omega
  | m + 1 => by unfold ordL; rw [mem_insP, ordL_mem s y m]; omega
theorem insP_pair {R : Int → Int → Prop} (p : Int → Bool) (x : Int) : ∀ L : List Int, L.Pairwise R → (∀ y ∈ L, p y = true → R x y) → (∀ y ∈ L, p y = false → R y x) → (∀ y ∈ L, ∀ z ∈ L, p y = true → R y z → R x z) → (insP p x L).Pairwise R
  | [], _, _, _, _ => by simp [insP]
  | y :: L, h, h1, h2, h3 => by
    rw [List.pairwise_cons] at h
    unfold insP
    split
    · rename_i hp
      rw [List.pairwise_cons]
      refine ⟨fun z hz => ?_, List.pairwise_cons.2 h⟩
      rcases List.mem_cons.1 hz with rfl | hz
      · exact h1 _ (by simp) hp
      · exact h3 y (by simp) z (by simp [hz]) hp (h.1 z hz)
    · rename_i hp
      have hp : p y = false := by simpa using hp
      rw [List.pairwise_cons]
      refine ⟨fun z hz => ?_, insP_pair p x L h.2 (fun a ha => h1 a (by simp [ha])) (fun a ha => h2 a (by simp [ha])) (fun a ha b hb => h3 a (by simp [ha]) b (by simp [hb]))⟩
      rcases (mem_insP p x z L).1 hz with rfl | hz
      · exact h2 y (by simp) hp
      · exact h.1 z hz
theorem ordL_sorted (s : ByteArray) : ∀ m, (ordL s m).Pairwise (fun x y => ltP s x y = true)
  | 0 => by simp [ordL]
  | m + 1 => by
    unfold ordL
    refine insP_pair _ _ _ (ordL_sorted s m) (fun y _ hp => ?_) (fun y hy hp => ?_) (fun y _ z _ hp hyz => ?_)
    · unfold ltP; rw [if_pos hp]
    · have := (ordL_mem s y m).1 hy
      unfold ltP
      by_cases h1 : ltM (mkP s y) (mkP s (m : Int)) = true
      · rw [if_pos h1]
      · rw [if_neg h1, if_neg (by rw [hp]; decide)]
        simp; omega
    · exact ltP_trans (y := y) (by unfold ltP; rw [if_pos hp]) hyz
theorem ordL_nodup (s : ByteArray) (m : Nat) : (ordL s m).Nodup := (ordL_sorted s m).imp (fun {a b} h e => by subst e; rw [ltP_self] at h; cases h)
/-- a list with these members, each once, that is sorted, is that one -/
theorem ord_uniq (s : ByteArray) (m : Nat) (S : List Int) (hp : S.Perm ((List.range m).map Int.ofNat)) (hs : S.Pairwise (fun x y => ltP s y x = false)) : S = ordL s m := by
  have hnd : ((List.range m).map Int.ofNat).Nodup := by
    rw [List.Nodup, List.pairwise_map]
    exact List.nodup_range.imp (fun h e => h (Int.ofNat.inj e))
  have hpo : (ordL s m).Perm ((List.range m).map Int.ofNat) := by
    refine (List.perm_ext_iff_of_nodup (ordL_nodup s m) hnd).2 fun y => ?_
    rw [ordL_mem]
    simp only [List.mem_map, List.mem_range]
    constructor
    · intro h; exact ⟨y.toNat, by omega, by show ((y.toNat : Nat) : Int) = y; omega⟩
    · rintro ⟨k, hk, rfl⟩
      show (0 : Int) ≤ (k : Int) ∧ (k : Int) < (m : Int)
      omega
  refine List.Perm.eq_of_pairwise (le := fun x y => ltP s y x = false) ?_ hs ((ordL_sorted s m).imp fun h => ltP_asym h) (hp.trans hpo.symm)
  intro a b _ _ h1 h2
  refine Classical.byContradiction fun hne => ?_
  rw [ltP_total hne h2] at h1
  cases h1
theorem ordP_si (s : ByteArray) (n : Int) : ∀ x ∈ ordP s n, SI64 x := by
  intro x hx
  have := (ordL_mem s x _).1 hx
  exact ⟨by omega, by omega⟩
-- ---- mark, rank
set_option maxRecDepth 100000 in
set_option maxHeartbeats 8000000 in
theorem plmark (s : ByteArray) (k : Nat) (w : World) (hK : Ks w) (hs : s.size ≤ 1000) (hk : k ≤ 6) :
    Calls Tryd.prog 22 #[.string s, .int .i64 (k : Int)] w fun e w' => e = .returned (.string (mkP s (k : Int))) ∧ Below w.heap.size w w' := by
  have HK := Lib.hid hK
  clear hK
  have hq : k = 0 ∨ k = 1 ∨ k = 2 ∨ k = 3 ∨ k = 4 ∨ k = 5 ∨ k = 6 := by omega
  obtain ⟨v, hv⟩ : ∃ v, UInt8.ofNat k = v := ⟨_, rfl⟩
  have HV := Lib.hid (show UInt8.ofNat ((k : Int)).toNat = v from hv)
  rw [show mkP s (k : Int) = str (shaL (s.data.toList ++ [v])) by unfold mkP; rw [HV.out]]
  have hb : IntKind.u8.wrap (k : Int) = (v.toNat : Int) := by rw [← hv]; rcases hq with rfl | rfl | rfl | rfl | rfl | rfl | rfl <;> rfl
  have hsl : s.data.toList.length = s.size := rfl
  clear hv hk hq
  go_enter Tryd.func22, Tryd.ntmps22
  go_wp2_with (first
    | ((with_reducible refine conv_frx (o := ⟨some 6, _, _, _, _, _⟩) rfl _ rfl s ?_ (by unfold maxLen; omega) ?_); (focus (first | (go_simp; done) | (go_simp; rfl))); intro w1 v1 hF hb1; have F1 := Lib.hid hF; have B1 := Lib.hid hb1; clear hF hb1)
    | ((with_reducible refine by1 (o := ⟨some 9, _, _, _, _, _⟩) rfl _ rfl v ?_ ?_); (focus (unfold B; go_simp; first | done | rfl | (rw [hb]))); intro w2 hr hb2 hz; have R2 := Lib.hid (Row.rd (L := [v]) (by simpa using hr) 1 rfl (by decide)); have F2 := Lib.hid (F1.out.kept hb2); have B2 := Lib.hid (B1.out.trans (hb2.mono B1.out.size)); clear hr hb2 hz)
    | (at_builtin; (with_reducible refine append_frx (o := ⟨some 10, _, _, _, _, _⟩) rfl _ _ rfl w.heap.size v1 s.data.toList ?_ F2.out _ 1 1 [v] ?_ R2.out (by rw [hsl]; omega) B2.out.size ?_); (focus (first | (go_simp; done) | (go_simp; rfl))); (focus (first | (go_simp; done) | (go_simp; rfl))); intro v3 w3 hF hb3; obtain ⟨a3, c3, rfl, hrd⟩ := hF.form' (s.size + 1) (by simp [hsl]); have R3 := Lib.hid hrd; have B3 := Lib.hid (B2.out.trans hb3); clear hF hrd hb3)
    | (go_at_call 35; (with_reducible refine (shasum_any a3 (s.size + 1) c3 (s.data.toList ++ [v]) w3 (HK.out.below B3.out HK.out.pos) R3.out (by omega)).mono ?_); rintro e w4 ⟨rfl, hb4⟩; have B4 := Lib.hid (B3.out.trans (hb4.mono B3.out.size)); clear hb4))
  go_ret
  exact ⟨rfl, B4.out⟩
set_option maxRecDepth 100000 in
set_option maxHeartbeats 8000000 in
theorem zprank (s : ByteArray) (k : Nat) (w : World) (hs : s.size ≤ 1000) (hk : k ≤ 6) :
    Calls Tryd.prog 28 #[.string s, .int .i64 (k : Int)] w fun e w' => e = .returned (.string (mkP s (k : Int))) ∧ Below w.heap.size w w' := by
  have hq : k = 0 ∨ k = 1 ∨ k = 2 ∨ k = 3 ∨ k = 4 ∨ k = 5 ∨ k = 6 := by omega
  obtain ⟨v, hv⟩ : ∃ v, UInt8.ofNat k = v := ⟨_, rfl⟩
  have HV := Lib.hid (show UInt8.ofNat ((k : Int)).toNat = v from hv)
  rw [show mkP s (k : Int) = str (shaL (s.data.toList ++ [v])) by unfold mkP; rw [HV.out]]
  have hb : IntKind.u8.wrap (k : Int) = (v.toNat : Int) := by rw [← hv]; rcases hq with rfl | rfl | rfl | rfl | rfl | rfl | rfl <;> rfl
  have hsl : s.data.toList.length = s.size := rfl
  clear hv hk hq
  go_enter Tryd.func28, Tryd.ntmps28
  go_wp2_with (first
    | ((with_reducible refine conv_frx (o := ⟨some 6, _, _, _, _, _⟩) rfl _ rfl s ?_ (by unfold maxLen; omega) ?_); (focus (first | (go_simp; done) | (go_simp; rfl))); intro w1 v1 hF hb1; have F1 := Lib.hid hF; have B1 := Lib.hid hb1; clear hF hb1)
    | ((with_reducible refine by1 (o := ⟨some 9, _, _, _, _, _⟩) rfl _ rfl v ?_ ?_); (focus (unfold B; go_simp; first | done | rfl | (rw [hb]))); intro w2 hr hb2 hz; have R2 := Lib.hid (Row.rd (L := [v]) (by simpa using hr) 1 rfl (by decide)); have F2 := Lib.hid (F1.out.kept hb2); have B2 := Lib.hid (B1.out.trans (hb2.mono B1.out.size)); clear hr hb2 hz)
    | (at_builtin; (with_reducible refine append_frx (o := ⟨some 10, _, _, _, _, _⟩) rfl _ _ rfl w.heap.size v1 s.data.toList ?_ F2.out _ 1 1 [v] ?_ R2.out (by rw [hsl]; omega) B2.out.size ?_); (focus (first | (go_simp; done) | (go_simp; rfl))); (focus (first | (go_simp; done) | (go_simp; rfl))); intro v3 w3 hF hb3; obtain ⟨a3, c3, rfl, hrd⟩ := hF.form' (s.size + 1) (by simp [hsl]); have R3 := Lib.hid hrd; have B3 := Lib.hid (B2.out.trans hb3); clear hF hrd hb3)
    | (go_at_call 39; (with_reducible refine (rsum_any a3 (s.size + 1) c3 (s.data.toList ++ [v]) w3 R3.out (by omega)).mono ?_); rintro e w4 ⟨rfl, hb4⟩; have B4 := Lib.hid (B3.out.trans (hb4.mono B3.out.size)); clear hb4))
  go_ret
  exact ⟨rfl, B4.out⟩
-- ---- cmp.Compare, cmp.Or
theorem pnans (x : ByteArray) (w : World) : Calls Tryd.prog 37 #[.string x] w fun e w' => e = .returned (.bool false) ∧ w = w' := by
  go_enter Tryd.func37, Tryd.ntmps37
  go_wp2
  all_goals (go_ret; exact ⟨one (vbool (by simp)), rfl⟩)
def cmpM (x y : ByteArray) : Int := if ltM x y then -1 else if eqM x y then 0 else 1
set_option maxHeartbeats 2000000 in
theorem pcmps (x y : ByteArray) (w : World) : Calls Tryd.prog 26 #[.string x, .string y] w fun e w' => e = .returned (.int .i64 (cmpM x y)) ∧ w = w' := by
  obtain ⟨b0, h0⟩ : ∃ b, Op.bytesLess x.toList y.toList = b := ⟨_, rfl⟩
  obtain ⟨b1, h1⟩ : ∃ b, (x.toList == y.toList) = b := ⟨_, rfl⟩
  have HX := Lib.hid (show cmpM x y = if b0 then -1 else if b1 then 0 else 1 by rw [← h0, ← h1]; rfl)
  cases b0
  · cases b1
    all_goals
      go_enter Tryd.func26, Tryd.ntmps26
      go_wp2_with (first
        | (go_at_call 37; (with_reducible refine (pnans x _).mono ?_); rintro e w' ⟨rfl, rfl⟩)
        | (go_at_call 37; (with_reducible refine (pnans y _).mono ?_); rintro e w' ⟨rfl, rfl⟩))
      go_ret
      exact ⟨by rw [HX.out]; rfl, rfl⟩
  · go_enter Tryd.func26, Tryd.ntmps26
    go_wp2_with (first
      | (go_at_call 37; (with_reducible refine (pnans x _).mono ?_); rintro e w' ⟨rfl, rfl⟩)
      | (go_at_call 37; (with_reducible refine (pnans y _).mono ?_); rintro e w' ⟨rfl, rfl⟩))
    go_ret
    exact ⟨by rw [HX.out]; rfl, rfl⟩
def orI : List Int → Int
  | [] => 0
  | x :: l => if x = 0 then orI l else x
set_option maxHeartbeats 2000000 in
theorem porint (a : Option Addr) (len cap : Nat) (l : List Int) (w : World) (hrow : Sl .i64 w a len l) (h0 : 0 < len) :
    Calls Tryd.prog 25 #[.slice a len cap] w fun e w' => e = .returned (.int .i64 (orI l)) ∧ w = w' := by
  obtain ⟨hl, hmax, hb, hc⟩ := hrow
  obtain ⟨b, off, rfl, hlt0, hcell⟩ := hc.resolve_left (by omega)
  clear hlt0
  have HC := Lib.hid hcell
  have HL := Lib.hid hl
  clear hcell hb hc hl
  go_enter Tryd.func25, Tryd.ntmps25
  go_wp2
  go_loop [8] (fun i => ∃ (k : Nat), k ≤ len ∧ i = .int .i64 k ∧ Hid (orI l = orI (l.drop k))) (fun i => len - (intOf i).toNat)
  case atStart => exact ⟨0, Nat.zero_le _, rfl, Lib.hid rfl⟩
  case round =>
    obtain ⟨k, hk, rfl, HS⟩ := hrel
    by_cases hlt : k < len
    · have hcell := HC.out k hlt
      have hd := drop_getD l k (by rw [HL.out]; exact hlt)
      have hs := HS.out
      rw [hd] at hs
      clear hd
      obtain ⟨n, hn⟩ : ∃ n, l.getD k 0 = n := ⟨_, rfl⟩
      rw [hn] at hs hcell
      clear hn
      simp only [orI] at hs
      by_cases hz : n = 0
      · rw [if_pos hz] at hs
        subst hz
        have HS' := Lib.hid hs
        clear hs
        go_wp2
        go_round
        case rel => exact ⟨k + 1, by omega, by go_num, HS'⟩
        case measure => simp [intOf]; omega
      · rw [if_neg hz] at hs
        have gb : (n == 0) = false := beq_eq_false_iff_ne.2 hz
        have HS' := Lib.hid hs
        clear hs
        go_wp2
        go_ret
        exact ⟨by rw [HS'.out]; first | done | rfl, rfl⟩
    · obtain rfl : k = len := by omega
      have e : l.drop k = [] := List.drop_eq_nil_of_le (by rw [HL.out]; omega)
      have hs := HS.out
      rw [e] at hs
      have HS' := Lib.hid hs
      clear hs e
      go_wp2
      go_ret
      exact ⟨by rw [HS'.out]; rfl, rfl⟩
theorem cmpM_self (a : ByteArray) : cmpM a a = 0 := by unfold cmpM; rw [ltM_self, (eqM_iff a a).2 rfl]; simp
theorem cmpM_cases (a b : ByteArray) : (cmpM a b = -1 ∧ ltM a b = true ∧ eqM a b = false ∧ ltM b a = false) ∨ (cmpM a b = 0 ∧ a = b) ∨ (cmpM a b = 1 ∧ ltM a b = false ∧ eqM a b = false ∧ ltM b a = true) := by
  unfold cmpM
  cases h1 : ltM a b with
  | true =>
    refine .inl ⟨by simp, rfl, eqM_ne.2 (fun e => ?_), ltM_asym h1⟩
    subst e
    rw [ltM_self] at h1; cases h1
  | false =>
    cases h2 : eqM a b with
    | true => exact .inr (.inl ⟨by simp, (eqM_iff a b).1 h2⟩)
    | false => exact .inr (.inr ⟨by simp, rfl, rfl, ltM_total h1 (eqM_ne.1 h2)⟩)
theorem cmpM_si (a b : ByteArray) : SI64 (cmpM a b) := by unfold cmpM; repeat' split
                                                          all_goals exact ⟨by decide, by decide⟩
theorem pnan (x : Int) (w : World) : Calls Tryd.prog 38 #[.int .i64 x] w fun e w' => e = .returned (.bool false) ∧ w = w' := by
  go_enter Tryd.func38, Tryd.ntmps38
  go_wp2
  all_goals (go_ret; exact ⟨one (vbool (by simp)), rfl⟩)
def cmpI (x y : Int) : Int := if x < y then -1 else if y < x then 1 else 0
set_option maxHeartbeats 1000000 in
theorem pcmp (x y : Int) (w : World) : Calls Tryd.prog 27 #[.int .i64 x, .int .i64 y] w fun e w' => e = .returned (.int .i64 (cmpI x y)) ∧ w = w' := by
  unfold cmpI
  by_cases h1 : x < y
  · rw [if_pos h1]
    go_enter Tryd.func27, Tryd.ntmps27
    go_wp2_with (first
      | (go_at_call 38; (with_reducible refine (pnan x _).mono ?_); rintro e w' ⟨rfl, rfl⟩)
      | (go_at_call 38; (with_reducible refine (pnan y _).mono ?_); rintro e w' ⟨rfl, rfl⟩))
    go_ret
    exact ⟨rfl, rfl⟩
  · rw [if_neg h1]
    by_cases h2 : y < x
    · rw [if_pos h2]
      go_enter Tryd.func27, Tryd.ntmps27
      go_wp2_with (first
        | (go_at_call 38; (with_reducible refine (pnan x _).mono ?_); rintro e w' ⟨rfl, rfl⟩)
        | (go_at_call 38; (with_reducible refine (pnan y _).mono ?_); rintro e w' ⟨rfl, rfl⟩))
      go_ret
      exact ⟨rfl, rfl⟩
    · rw [if_neg h2]
      go_enter Tryd.func27, Tryd.ntmps27
      go_wp2_with (first
        | (go_at_call 38; (with_reducible refine (pnan x _).mono ?_); rintro e w' ⟨rfl, rfl⟩)
        | (go_at_call 38; (with_reducible refine (pnan y _).mono ?_); rintro e w' ⟨rfl, rfl⟩))
      go_ret
      exact ⟨rfl, rfl⟩
theorem cmpI_si (a b : Int) : SI64 (cmpI a b) := by unfold cmpI; repeat' split
                                                    all_goals exact ⟨by decide, by decide⟩
set_option maxRecDepth 100000 in
set_option maxHeartbeats 8000000 in
theorem plcmp (gm : Nat) (M : List ByteArray) (hM : M.length = 7) (x y : Nat) (hx : x < 7) (hy : y < 7) (w : World) (hr : Row w gm 36 (M.map Value.string)) :
    Calls Tryd.prog 24 #[.int .i64 (x : Int), .int .i64 (y : Int), .pointer (some ⟨gm, 0, none⟩)] w fun e w' => e = .returned (.int .i64 (orI [cmpM (M.getD x ⟨#[]⟩) (M.getD y ⟨#[]⟩), cmpI (x : Int) (y : Int)])) ∧ Below w.heap.size w w' := by
  have HR := Lib.hid hr
  have at7 : ∀ k : Nat, k < 7 → w.cell? ⟨gm, k, none⟩ = some (.string (M.getD k ⟨#[]⟩)) := fun k hk => by
    rw [hr.cellV, List.getElem?_map, List.getElem?_eq_getElem (by omega), List.getD_eq_getElem?_getD, List.getElem?_eq_getElem (by omega)]; rfl
  have CX := Lib.hid (at7 x hx)
  have CY := Lib.hid (at7 y hy)
  have g1 : (0 : Int) ≤ (x : Int) := by omega
  have g2 : (x : Int) < 7 := by omega
  have g3 : (0 : Int) ≤ (y : Int) := by omega
  have g4 : (y : Int) < 7 := by omega
  clear hr at7 hM
  go_enter Tryd.func24, Tryd.ntmps24
  go_wp2_with fail
  refine region_h (fun v => Below w.heap.size w v) (by kernel_rfl) (by kernel_rfl) (Below.refl _ _).drew ?_
  obtain ⟨d0, hd0⟩ : ∃ wd, w.drew = wd := ⟨_, rfl⟩
  have J0 : Hid (Below w.heap.size w d0) := Lib.hid (by rw [← hd0]; exact (Below.refl _ _).drew)
  rw [hd0]
  clear hd0
  (refine h_read 0 rfl (by kernel_rfl) (by kernel_rfl) (h_free rfl) ?_ ?_ ?_; rotate_left; (focus (intro v hv; go_simp; rfl)); go_simp)
  (refine h_read 1 rfl (by kernel_rfl) (by kernel_rfl) (h_free rfl) ?_ ?_ ?_; rotate_left; (focus (intro v hv; go_simp; rfl)); go_simp)
  (refine h_read 2 rfl (by kernel_rfl) (by kernel_rfl) (h_free rfl) ?_ ?_ ?_; rotate_left; (focus (intro v hv; have x0 := (hv.cell (p := ⟨gm, x, none⟩) HR.out.lt).trans CX.out; have y0 := (hv.cell (p := ⟨gm, y, none⟩) HR.out.lt).trans CY.out; go_simp; rfl)); go_simp)
  (refine h_read 3 rfl (by kernel_rfl) (by kernel_rfl) (h_free rfl) ?_ ?_ ?_; rotate_left; (focus (intro v hv; go_simp; rfl)); go_simp)
  (refine h_read 4 rfl (by kernel_rfl) (by kernel_rfl) (h_free rfl) ?_ ?_ ?_; rotate_left; (focus (intro v hv; go_simp; rfl)); go_simp)
  (refine h_read 5 rfl (by kernel_rfl) (by kernel_rfl) (h_free rfl) ?_ ?_ ?_; rotate_left; (focus (intro v hv; have x0 := (hv.cell (p := ⟨gm, x, none⟩) HR.out.lt).trans CX.out; have y0 := (hv.cell (p := ⟨gm, y, none⟩) HR.out.lt).trans CY.out; go_simp; rfl)); go_simp)
  (refine h_read 7 rfl (by kernel_rfl) (by kernel_rfl) (h_free rfl) ?_ ?_ ?_; rotate_left; (focus (intro v hv; go_simp; rfl)); go_simp)
  (refine h_read 8 rfl (by kernel_rfl) (by kernel_rfl) (h_free rfl) ?_ ?_ ?_; rotate_left; (focus (intro v hv; go_simp; rfl)); go_simp)
  (refine h_call 6 rfl (by kernel_rfl) (h_free rfl) 26 ?_ ?_ ?_; rotate_left; (focus (go_simp; rfl)))
  refine (pcmps (M.getD x ⟨#[]⟩) (M.getD y ⟨#[]⟩) d0).mono ?_
  rintro z wz ⟨rfl, rfl⟩
  refine ⟨_, rfl, J0.out, ?_⟩
  go_simp
  (refine h_call 9 rfl (by kernel_rfl) (h_free rfl) 27 ?_ ?_ ?_; rotate_left; (focus (go_simp; rfl)))
  refine (pcmp (x : Int) (y : Int) d0).mono ?_
  rintro z wz ⟨rfl, rfl⟩
  refine ⟨_, rfl, J0.out, ?_⟩
  go_simp
  (refine h_list 10 rfl (by kernel_rfl) ?_; intro K hK)
  refine bi2 rfl _ _ rfl (cmpM (M.getD x ⟨#[]⟩) (M.getD y ⟨#[]⟩)) (cmpI (x : Int) (y : Int)) (by go_simp; first | done | rfl) (by go_simp; first | done | rfl) (cmpM_si _ _) (cmpI_si _ _) ?_
  intro d1 hsl hb hz
  have SL := Lib.hid hsl
  have J1 := Lib.hid (J0.out.trans (hb.mono J0.out.size))
  clear hsl hb hz
  refine hK _ _ J1.out ?_
  go_simp
  (refine h_call 11 rfl (by kernel_rfl) (h_free rfl) 25 ?_ ?_ ?_; rotate_left; (focus (go_simp; rfl)))
  refine (porint _ 2 2 [cmpM (M.getD x ⟨#[]⟩) (M.getD y ⟨#[]⟩), cmpI (x : Int) (y : Int)] d1 SL.out (by decide)).mono ?_
  rintro z wz ⟨rfl, rfl⟩
  refine ⟨_, rfl, J1.out, ?_⟩
  go_simp
  (refine h_read 12 rfl (by kernel_rfl) (by kernel_rfl) (h_free rfl) ?_ ?_ ?_; rotate_left; (focus (intro v hv; go_simp; rfl)); go_simp)
  refine h_done (by kernel_rfl) ?_
  go_wp2_with fail
  go_ret
  exact ⟨rfl, J1.out⟩
theorem or_lt (s : ByteArray) (x y : Int) : decide (orI [cmpM (mkP s x) (mkP s y), cmpI x y] < 0) = ltP s x y := by
  unfold ltP
  rcases cmpM_cases (mkP s x) (mkP s y) with ⟨h1, h2, h3, h4⟩ | ⟨h1, h2⟩ | ⟨h1, h2, h3, h4⟩
  · rw [if_pos h2, h1]; simp [orI]
  · rw [h1, h2, ltM_self]
    simp only [orI, cmpI]
    repeat' split
    all_goals (first | (simp; omega) | simp_all)
  · rw [if_neg (by rw [h2]; decide), if_pos h4, h1]; simp [orI]
end Go.Proofs.YthbbiiegbddpdaaDoor.W
