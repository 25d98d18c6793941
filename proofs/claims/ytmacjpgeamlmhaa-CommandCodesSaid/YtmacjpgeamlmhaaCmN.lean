/- LAYER 23 (command): the bytes of a command, plain; lists.Numbers, Encode of the program. -/
import Derived.Test.YtmacjpgeamlmhaaCmC
import Derived.Test.YtmacjpgeamlmhaaMfPp
import Derived.Test.YtmacjpgeamlmhaaCavD
import Derived.Test.YtmacjpgeamlmhaaTail
import Derived.Test.YtmacjpgeamlmhaaByt
set_option linter.unusedSimpArgs false
set_option linter.unusedVariables false
namespace Go.Proofs.Ytmacjpgeamlmhaa.W
open Go Go.ChangeShapes Go.WideShapes Go.ChangeAt Go.RowKit
open Go.Proofs.Ytmacjpgeamlmhaa.P (enc dec)
open Go.Proofs.Ytmacjpgeamlmhaa.S

-- ---- plain: a command that may be
structure OkCm (m : Cm) : Prop where
  cl : 0 ≤ m.cl ∧ m.cl ≤ 7
  kd : 1 ≤ m.kd ∧ m.kd ≤ 14
  sq : 1 ≤ m.sq ∧ m.sq ≤ 2147483648
  id : 1 ≤ m.id ∧ m.id ≤ 2147483648
  ep : 0 ≤ m.ep ∧ m.ep ≤ 2147483648
  nu : 0 ≤ m.nu ∧ m.nu ≤ 2147483648
  by' : 0 ≤ m.by' ∧ m.by' ≤ 1099511627776
  ti : 0 ≤ m.ti ∧ m.ti ≤ 1099511627776
  V8 : m.V.length ≤ 8
  V : ∀ c ∈ m.V, c.ok = true
  sp : txtV m.sp = true
  nm : txtV m.nm = true
  P8 : m.P.length ≤ 8
  P : m.P.all pokM = true
theorem bytesM_ok {P : List Pc} (h : (bytesM P).2 = 0) : P.length ≤ 8 ∧ P.all pokM = true := by
  unfold bytesM at h
  split at h
  · assumption
  · simp at h
theorem okCm {m : Cm} (h : m.ok = true) : OkCm m := by
  unfold Cm.ok allLH cavsV at h
  simp only [List.all_cons, List.all_nil, Bool.and_true, Bool.and_eq_true, in64_iff, decide_eq_true_eq, List.all_eq_true] at h
  obtain ⟨h1, h2, ⟨h3, h4⟩, ⟨h5, h6⟩, h7, h8, ⟨h9, h10⟩, ⟨h11, h12⟩, h13⟩ := h
  obtain ⟨h14, h15⟩ := bytesM_ok h13
  exact ⟨h1, h2, h3, h4, h5, h6, h7, h8, h9, h10, h11, h12, h14, h15⟩
theorem Cm.ok_of {m : Cm} (h : OkCm m) : m.ok = true := by
  unfold Cm.ok allLH cavsV
  simp only [List.all_cons, List.all_nil, Bool.and_true, Bool.and_eq_true, in64_iff, decide_eq_true_eq, List.all_eq_true]
  refine ⟨h.cl, h.kd, ⟨h.sq, h.id⟩, ⟨h.ep, h.nu⟩, h.by', h.ti, ⟨h.V8, h.V⟩, ⟨h.sp, h.nm⟩, ?_⟩
  unfold bytesM
  rw [if_pos ⟨h.P8, h.P⟩]
theorem txt_16 {s : ByteArray} (h : txtV s = true) : s.size ≤ 16 := by
  unfold txtV at h
  rcases Bool.or_eq_true _ _ ▸ h with h1 | h1
  · have : s = ByteArray.empty := empty_of (by rw [of_decide_eq_true h1]; rfl)
    rw [this]; decide
  · exact name_short s h1
theorem pok_32 {P : List Pc} (h : P.all pokM = true) : ∀ s ∈ P, s.sum.size ≤ 2000000 := fun s hs => by
  have := List.all_eq_true.1 h s hs
  unfold pokM at this
  simp only [Bool.and_eq_true, decide_eq_true_eq] at this
  omega
-- ---- plain: the bytes
def codeN (l : List Int) : List UInt8 := l.flatMap (fun n => enc n.toNat)
def textC (s : ByteArray) : List UInt8 := enc s.size ++ s.data.toList
def codeCm (m : Cm) : List UInt8 := codeN [m.cl, m.sq, m.kd, m.id, m.ep] ++ codeL m.V ++ textC m.sp ++ textC m.nm ++ codeN [m.nu, m.by', m.ti] ++ (enc m.P.length ++ m.P.flatMap codeP)
theorem codeN_step (l : List Int) (k : Nat) (n : Int) (h : l[k]? = some n) : codeN (l.take (k + 1)) = codeN (l.take k) ++ enc n.toNat := by
  obtain ⟨h1, h2⟩ := List.getElem?_eq_some_iff.1 h
  unfold codeN
  rw [List.take_succ_eq_append_getElem h1, List.flatMap_append, h2]; simp
theorem codeN_len : ∀ l : List Int, (∀ n ∈ l, SI64 n) → (codeN l).length ≤ l.length * 9
  | [], _ => by simp [codeN]
  | n :: l, h => by
    have h0 := (h n (by simp)).2
    have h1 := P.enc_len n.toNat (by omega)
    have h2 := codeN_len l (fun m hm => h m (by simp [hm]))
    simp only [codeN, List.flatMap_cons, List.length_append, List.length_cons] at h2 ⊢
    omega
theorem codeL_len (L : List Cv) (h : L.length ≤ 100) : (codeL L).length ≤ 9 + 40 * L.length := by
  have h1 := P.enc_len L.length (by omega)
  have h2 := flat_len L
  unfold codeL
  rw [List.length_append]; omega
theorem pnumG (a : Option Addr) (len cap : Nat) (n : Int) (l : List UInt8) (w : World) (hr : Rd w a len cap l) (h2 : n ≤ 9223372036854775807) (hmax : len ≤ 140737488355000) (T : List UInt8) (hT : l ++ enc n.toNat = T) (q : Nat) (hq : T.length = q) :
    Calls Try.prog 63 #[.slice a len cap, .int .i64 n] w fun e w' => ∃ y d, e = .returned (.slice y q d) ∧ Fr w' w.heap.size (.slice y q d) T ∧ Rd w' y q d T ∧ Below w.heap.size w w' := by
  have hl9 := P.enc_len n.toNat (by omega)
  have hll : (l ++ enc n.toNat).length = len + (enc n.toNat).length := by rw [List.length_append, hr.hlen]
  rw [hT] at hll
  refine (pnum a len cap n l w hr h2 hmax).mono ?_
  rintro x w' ⟨rfl, hbk, hb, -⟩
  rw [hT] at hbk
  have e : len + (enc n.toNat).length = q := by omega
  rw [e]
  have hf := hbk.fr (base := w.heap.size) (Nat.le_refl _) (by omega)
  rw [hq] at hf
  exact ⟨_, _, rfl, hf, hbk.rd' q hq (by omega), hb⟩
set_option maxRecDepth 100000 in
set_option maxHeartbeats 8000000 in
theorem lnumbers (a0 : Option Addr) (m0 c0 : Nat) (S : List UInt8) (a : Option Addr) (n c : Nat) (L : List Int) (w : World) (hr : Rd w a0 m0 c0 S) (hm0 : m0 ≤ 100000000) (h : Sl .i64 w a n L) (h0 : 0 < n) (hn : n ≤ 100) (T : List UInt8) (hT : S ++ codeN L = T) (q : Nat) (hq : T.length = q) :
    Calls Try.prog 30 #[.slice a0 m0 c0, .slice a n c] w fun x w' => ∃ y d, x = .returned (.slice y q d) ∧ Fr w' w.heap.size (.slice y q d) T ∧ Rd w' y q d T ∧ Below w.heap.size w w' := by
  have H := Lib.hid h
  have HL := Lib.hid h.1
  have HB := Lib.hid (fun k => codeN_len (L.take k) (fun s hs => bd (h.2.2.1 s (List.mem_of_mem_take hs))))
  have HR := Lib.hid hr
  have HSL := Lib.hid hr.hlen
  have HT := Lib.hid hT
  have HQ := Lib.hid hq
  have G0 := Lib.hid h0
  clear h hr hT hq h0
  go_enter Try.func30, Try.ntmps30
  go_wp2_with fail
  go_loopw [0, 9] (fun v i wr => ∃ (k : Nat) (y : Option Addr) (m d : Nat), v = .slice y m d ∧ i = .int .i64 (k : Int) ∧ k ≤ n ∧ Hid (Rd wr y m d (S ++ codeN (L.take k))) ∧ Hid (0 < k → Fr wr w.heap.size (.slice y m d) (S ++ codeN (L.take k))) ∧ Hid (Below w.heap.size w wr)) (fun _ i _ => n - (intOf i).toNat)
  case atStart => exact ⟨0, _, _, _, rfl, rfl, Nat.zero_le _, Lib.hid (by simpa [codeN] using HR.out), Lib.hid (fun h => absurd h (Nat.lt_irrefl _)), Lib.hid (Below.refl _ _)⟩
  case round =>
    obtain ⟨k, y, m, d, rfl, rfl, hk, R, F, B⟩ := hrel
    have hbl := HB.out k
    have hlk : (L.take k).length ≤ 100 := by rw [List.length_take]; omega
    have hm : m ≤ 100000900 := by
      have h1 := R.out.hlen
      rw [List.length_append, HSL.out] at h1
      have : (L.take k).length * 9 ≤ 100 * 9 := Nat.mul_le_mul_right _ hlk
      omega
    clear hbl hlk
    by_cases hlt : k < n
    · obtain ⟨b, o, s, rfl, hx, hcell, s1, s2⟩ := H.out.at B.out k hlt
      obtain ⟨T2, hT2⟩ : ∃ T2, (S ++ codeN (L.take k)) ++ enc s.toNat = T2 := ⟨_, rfl⟩
      obtain ⟨q2, hq2⟩ : ∃ q, T2.length = q := ⟨_, rfl⟩
      have HST := Lib.hid (show S ++ codeN (L.take (k + 1)) = T2 by rw [← hT2, codeN_step L k s hx]; simp)
      have HN := Lib.hid (pnumG y m d s _ wr R.out s2 (by omega) T2 hT2 q2 hq2)
      have g1 : (0 : Int) ≤ (k : Int) := by omega
      have g2 : (k : Int) < (n : Int) := by omega
      clear hx hT2 hq2 F R
      go_wp2_with (go_at_call 63; (with_reducible refine HN.out.mono ?_); rintro z w7 ⟨y7, d7, rfl, hf, hrd, hb⟩; have F7 := Lib.hid (hf.base B.out.size); have R7 := Lib.hid hrd; have B7 := Lib.hid (B.out.trans (hb.mono B.out.size)); clear hf hrd hb)
      go_roundw
      case rel => exact ⟨k + 1, y7, q2, d7, rfl, vint (by omega), by omega, Lib.hid (by rw [HST.out]; exact R7.out), Lib.hid (fun _ => by rw [HST.out]; exact F7.out), B7⟩
      case measure => simp [intOf]; omega
    · obtain rfl : n = k := by omega
      have ht : L.take n = L := List.take_of_length_le (by rw [HL.out]; exact Nat.le_refl _)
      rw [ht, HT.out] at R F
      have hmq : m = q := by rw [← HQ.out, ← R.out.hlen]
      subst hmq
      have F2 := Lib.hid (F.out G0.out)
      clear ht F hm
      go_wp2_with fail
      go_ret
      exact ⟨_, _, rfl, F2.out, R.out, B.out⟩
/-- whether two commands are the same (vp: whether their pieces are) -/
def sameB (a b : Cm) (vp : Bool) : Bool :=
  decide (a.cl = b.cl) && (decide (a.sq = b.sq) && (decide (a.kd = b.kd) && (decide (a.id = b.id) && (decide (a.ep = b.ep) && (sameV a.V b.V && (decide (a.sp.toList = b.sp.toList) && (decide (a.nm.toList = b.nm.toList) && (decide (a.nu = b.nu) && (decide (a.by' = b.by') && (decide (a.ti = b.ti) && vp))))))))))
theorem toL_eq {a b : ByteArray} (h : a.toList = b.toList) : a = b := by
  have := str_eqb2 a b
  rw [h] at this
  simp at this
  exact ByteArray.ext this
/-- the cells of a command in memory, as they stand -/
structure D12 (w : World) (g : Nat) (cl sq kd id ep : Int) (va : Option Addr) (vn vc : Nat) (sp nm : ByteArray) (nu b ti : Int) (pa : Option Addr) (pn pc : Nat) : Prop where
  c0 : w.cell? ⟨g, 0, none⟩ = some (.int .i64 cl)
  c1 : w.cell? ⟨g, 1, none⟩ = some (.int .i64 sq)
  c2 : w.cell? ⟨g, 2, none⟩ = some (.int .i64 kd)
  c3 : w.cell? ⟨g, 3, none⟩ = some (.int .i64 id)
  c4 : w.cell? ⟨g, 4, none⟩ = some (.int .i64 ep)
  c5 : w.cell? ⟨g, 5, none⟩ = some (.slice va vn vc)
  c6 : w.cell? ⟨g, 6, none⟩ = some (.string sp)
  c7 : w.cell? ⟨g, 7, none⟩ = some (.string nm)
  c8 : w.cell? ⟨g, 8, none⟩ = some (.int .i64 nu)
  c9 : w.cell? ⟨g, 9, none⟩ = some (.int .i64 b)
  c10 : w.cell? ⟨g, 10, none⟩ = some (.int .i64 ti)
  c11 : w.cell? ⟨g, 11, none⟩ = some (.slice pa pn pc)
theorem Row.cm' {w : World} {g : Nat} {t : TypeId} {cl sq kd id ep : Int} {va : Option Addr} {vn vc : Nat} {sp nm : ByteArray} {nu b ti : Int} {pa : Option Addr} {pn pc : Nat} (h : Row w g t (cmC cl sq kd id ep va vn vc sp nm nu b ti pa pn pc)) : D12 w g cl sq kd id ep va vn vc sp nm nu b ti pa pn pc := by
  refine ⟨?_, ?_, ?_, ?_, ?_, ?_, ?_, ?_, ?_, ?_, ?_, ?_⟩ <;> (rw [h.cellV]; rfl)
theorem rd_nil_cm {w : World} : Rd w none 0 0 [] := Rd_nil w
theorem code32 : ∀ L : List Pc, L.all pokM = true → (L.flatMap codeP).length ≤ L.length * 60
  | [], _ => by simp
  | p :: L, h => by
    simp only [List.all_cons, Bool.and_eq_true] at h
    have h1 := code32 L h.2
    have h2 := h.1
    unfold pokM at h2
    simp only [Bool.and_eq_true, decide_eq_true_eq, in64_iff] at h2
    have e1 : p.sum.data.toList.length = p.sum.size := Array.length_toList
    have h3 := P.enc_len p.sum.size (by omega)
    have h4 := P.enc_len p.size.toNat (by omega)
    have h5 : (codeP p).length ≤ 50 := by unfold codeP; simp only [List.length_append, e1]; omega
    rw [List.flatMap_cons, List.length_append, List.length_cons]
    omega
set_option maxRecDepth 100000 in
set_option maxHeartbeats 16000000 in
theorem cmencode (x : CmX) (w : World) (h : x.fit w) :
    Calls Try.prog 9 #[.agg x.cells.toArray] w fun z w' => ∃ y m d, z = .returned (.tuple #[.slice y m d, .int .i64 x.m.err]) ∧ Rd w' y m d (if x.m.ok then codeCm x.m else []) ∧ m ≤ 3000 ∧ Below w.heap.size w w' := by
  obtain ⟨⟨cl, sq, kd, id, ep, V, sp, nm, nu, by1, ti, PL⟩, va, vn, vc, pa, pn, pc⟩ := x
  have HK := Lib.hid (fun w' (hb : Below w.heap.size w w') => cmcheck ⟨⟨cl, sq, kd, id, ep, V, sp, nm, nu, by1, ti, PL⟩, va, vn, vc, pa, pn, pc⟩ w' (h.mono hb))
  have CZ := Lib.hid cm_size
  obtain ⟨ok, hok⟩ : ∃ b, Cm.ok ⟨cl, sq, kd, id, ep, V, sp, nm, nu, by1, ti, PL⟩ = b := ⟨_, rfl⟩
  have he : Cm.err ⟨cl, sq, kd, id, ep, V, sp, nm, nu, by1, ti, PL⟩ = if ok then 0 else 1 := by unfold Cm.err; rw [hok]
  dsimp only at HK ⊢
  rw [he] at HK ⊢
  rw [hok]
  cases ok
  · have HK2 := Lib.hid (fun w' (hb : Below w.heap.size w w') => show Calls Try.prog 12 #[.agg (cmC cl sq kd id ep va vn vc sp nm nu by1 ti pa pn pc).toArray] w' fun e w'' => e = .returned (.int .i64 1) ∧ Below w'.heap.size w' w'' from HK.out w' hb)
    clear h HK hok he
    go_enter Try.func9, Try.ntmps9
    go_wp2_with (first
      | ((with_reducible refine box_row (o := ⟨some 1, _, _, _, _, _⟩) rfl _ _ rfl (cmC cl sq kd id ep va vn vc sp nm nu by1 ti pa pn pc) rfl ?_); intro w1 hr hb hz; have X1 := Lib.hid hr; have B1 := Lib.hid hb; clear hr hb hz)
      | ((with_reducible refine load_row (o := ⟨some 6, _, _, _, _, _⟩) rfl _ _ rfl w.heap.size ?_ _ (cmC cl sq kd id ep va vn vc sp nm nu by1 ti pa pn pc) _ X1.out Try.underlying25 rfl ?_ ?_); (focus go_simp); (focus (exact CZ.out)))
      | (go_at_call 12; (with_reducible refine (HK2.out w1 B1.out).mono ?_); rintro e w2 ⟨rfl, hb⟩; have B2 := Lib.hid (B1.out.trans (hb.mono B1.out.size)); clear hb))
    go_ret2
    exact ⟨none, 0, 0, rfl, rd_nil_cm, by omega, B2.out⟩
  · have HK2 := Lib.hid (fun w' (hb : Below w.heap.size w w') => show Calls Try.prog 12 #[.agg (cmC cl sq kd id ep va vn vc sp nm nu by1 ti pa pn pc).toArray] w' fun e w'' => e = .returned (.int .i64 0) ∧ Below w'.heap.size w' w'' from HK.out w' hb)
    have OK := okCm hok
    have o1 := OK.V8
    have o2 := txt_16 OK.sp
    have o3 := txt_16 OK.nm
    have o4 := OK.P8
    have o5 := pok_32 OK.P
    obtain ⟨i0, i1, i2, i3, i4, hV, -, -, i8, i9, i10, hP⟩ := h
    dsimp only at o1 o2 o3 o4 o5 i0 i1 i2 i3 i4 hV i8 i9 i10 hP
    have I0 := Lib.hid i0
    have I1 := Lib.hid i1
    have I2 := Lib.hid i2
    have I3 := Lib.hid i3
    have I4 := Lib.hid i4
    have I8 := Lib.hid i8
    have I9 := Lib.hid i9
    have I10 := Lib.hid i10
    have hvn := hV.hlen
    have hpn := hP.hlen
    have e1 : sp.data.toList.length = sp.size := Array.length_toList
    have e2 : nm.data.toList.length = nm.size := Array.length_toList
    have l1 := codeN_len [cl, sq, kd, id, ep] (by intro n hn; simp at hn; rcases hn with rfl | rfl | rfl | rfl | rfl <;> assumption)
    have l2 := codeL_len V (by omega)
    have l3 := P.enc_len sp.size (by omega)
    have l4 := P.enc_len nm.size (by omega)
    have l5 := codeN_len [nu, by1, ti] (by intro n hn; simp at hn; rcases hn with rfl | rfl | rfl <;> assumption)
    simp only [List.length_cons, List.length_nil] at l1 l5
    obtain ⟨T1, hT1⟩ : ∃ T, codeN [cl, sq, kd, id, ep] = T := ⟨_, rfl⟩
    obtain ⟨TV, hTV⟩ : ∃ T, codeL V = T := ⟨_, rfl⟩
    obtain ⟨T2, hT2⟩ : ∃ T, T1 ++ TV = T := ⟨_, rfl⟩
    obtain ⟨T3, hT3⟩ : ∃ T, T2 ++ (enc sp.size ++ sp.data.toList) = T := ⟨_, rfl⟩
    obtain ⟨T4, hT4⟩ : ∃ T, T3 ++ (enc nm.size ++ nm.data.toList) = T := ⟨_, rfl⟩
    obtain ⟨T5, hT5⟩ : ∃ T, T4 ++ codeN [nu, by1, ti] = T := ⟨_, rfl⟩
    obtain ⟨q1, hq1⟩ : ∃ q, T1.length = q := ⟨_, rfl⟩
    obtain ⟨qv, hqv⟩ : ∃ q, TV.length = q := ⟨_, rfl⟩
    obtain ⟨q2, hq2⟩ : ∃ q, T2.length = q := ⟨_, rfl⟩
    obtain ⟨q3, hq3⟩ : ∃ q, T3.length = q := ⟨_, rfl⟩
    obtain ⟨q4, hq4⟩ : ∃ q, T4.length = q := ⟨_, rfl⟩
    obtain ⟨q5, hq5⟩ : ∃ q, T5.length = q := ⟨_, rfl⟩
    have b1 : q1 ≤ 45 := by rw [← hq1, ← hT1]; omega
    have bv : qv ≤ 329 := by rw [← hqv, ← hTV]; omega
    have b2 : q2 ≤ 374 := by rw [← hq2, ← hT2, List.length_append, hq1, hqv]; omega
    have b3 : q3 ≤ 399 := by rw [← hq3, ← hT3, List.length_append, List.length_append, e1, hq2]; omega
    have b4 : q4 ≤ 424 := by rw [← hq4, ← hT4, List.length_append, List.length_append, e2, hq3]; omega
    have b5 : q5 ≤ 451 := by rw [← hq5, ← hT5, List.length_append, hq4]; omega
    obtain ⟨C, hC⟩ : ∃ C, codeCm ⟨cl, sq, kd, id, ep, V, sp, nm, nu, by1, ti, PL⟩ = C := ⟨_, rfl⟩
    rw [hC]
    have HC := Lib.hid (show T5 ++ (enc pn ++ PL.flatMap codeP) = C by rw [← hC, ← hT5, ← hT4, ← hT3, ← hT2, ← hTV, ← hT1, ← hpn]; unfold codeCm textC; rfl)
    have HM := Lib.hid (show (C.length : Nat) ≤ 3000 by
      rw [← HC.out, List.length_append, List.length_append, hq5]
      have h1 := P.enc_len pn (by omega)
      have h2 := code32 PL OK.P
      omega)
    have HT1 := Lib.hid (show [] ++ codeN [cl, sq, kd, id, ep] = T1 from hT1)
    have HTV := Lib.hid hTV
    have HT2 := Lib.hid hT2
    have HT3 := Lib.hid hT3
    have HT4 := Lib.hid hT4
    have HT5 := Lib.hid hT5
    have Q1 := Lib.hid hq1
    have QV := Lib.hid hqv
    have Q2 := Lib.hid hq2
    have Q3 := Lib.hid hq3
    have Q4 := Lib.hid hq4
    have Q5 := Lib.hid hq5
    have HVC := Lib.hid (fun w' (hb : Below w.heap.size w w') => (by have q := ccode_any va vn vc V w' (hV.mono hb) (by omega); rw [hTV] at q; exact q : Calls Try.prog 31 #[.slice va vn vc] w' fun e w'' => ∃ v, e = .returned v ∧ Fr w'' w'.heap.size v TV ∧ Below w'.heap.size w' w''))
    have HPP := Lib.hid (fun y d w' (hb : Below w.heap.size w w') (hr : Rd w' y q5 d T5) => pputpieces y q5 d T5 pa pn pc PL w' hr (by omega) (hP.mono pcOk hb) (by omega) o5)
    clear HK hok he hV hP hT1 hTV hT2 hT3 hT4 hT5 hq1 hqv hq2 hq3 hq4 hq5 hC e1 e2 l1 l2 l3 l4 l5 hvn hpn o5 OK
    go_enter Try.func9, Try.ntmps9
    go_wp2_with (first
      | ((with_reducible refine box_row (o := ⟨some 1, _, _, _, _, _⟩) rfl _ _ rfl (cmC cl sq kd id ep va vn vc sp nm nu by1 ti pa pn pc) rfl ?_); intro w1 hr hb hz; have X1 := Lib.hid hr; have B1 := Lib.hid hb; clear hr hb hz)
      | ((with_reducible refine load_row (o := ⟨some 6, _, _, _, _, _⟩) rfl _ _ rfl w.heap.size ?_ _ (cmC cl sq kd id ep va vn vc sp nm nu by1 ti pa pn pc) _ X1.out Try.underlying25 rfl ?_ ?_); (focus go_simp); (focus (exact CZ.out)))
      | (go_at_call 12; (with_reducible refine (HK2.out w1 B1.out).mono ?_); rintro e w2 ⟨rfl, hb⟩; have X2 := Lib.hid (X1.out.below hb X1.out.lt); have P2 := Lib.hid hb; have B2 := Lib.hid (B1.out.trans (hb.mono B1.out.size)); have c0 := X2.out.cm'.c0; have c1 := X2.out.cm'.c1; have c2 := X2.out.cm'.c2; have c3 := X2.out.cm'.c3; have c4 := X2.out.cm'.c4; clear hb)
      | ((with_reducible refine bi5 (o := ⟨some 21, _, _, _, _, _⟩) rfl _ _ _ _ _ rfl cl sq kd id ep ?_ ?_ ?_ ?_ ?_ I0.out I1.out I2.out I3.out I4.out ?_); (focus (first | (go_simp; done) | (go_simp; rfl))); (focus (first | (go_simp; done) | (go_simp; rfl))); (focus (first | (go_simp; done) | (go_simp; rfl))); (focus (first | (go_simp; done) | (go_simp; rfl))); (focus (first | (go_simp; done) | (go_simp; rfl))); intro w3 hs hb hz; have S3 := Lib.hid hs; have P3 := Lib.hid (P2.out.trans (hb.mono P2.out.size)); have X3 := Lib.hid (X2.out.below hb X2.out.lt); have B3 := Lib.hid (B2.out.trans (hb.mono B2.out.size)); clear hs hb hz)
      | (go_at_call 30; (with_reducible refine (lnumbers none 0 0 [] _ 5 5 _ w3 rd_nil_cm (by omega) S3.out (by omega) (by omega) T1 HT1.out q1 Q1.out).mono ?_); rintro z w4 ⟨y4, d4, rfl, hf, hrd, hb⟩; have F4 := Lib.hid (hf.base P3.out.size); have P4 := Lib.hid (P3.out.trans (hb.mono P3.out.size)); have X4 := Lib.hid (X3.out.below hb X3.out.lt); have B4 := Lib.hid (B3.out.trans (hb.mono B3.out.size)); have c5 := X4.out.cm'.c5; clear hf hrd hb)
      | (go_at_call 31; (with_reducible refine (HVC.out w4 B4.out).mono ?_); rintro z w5 ⟨v5, rfl, hf, hb⟩; obtain ⟨y5, d5, rfl, hr5⟩ := hf.form' qv QV.out; have R5 := Lib.hid hr5; have F5 := Lib.hid (F4.out.kept hb); have P5 := Lib.hid (P4.out.trans (hb.mono P4.out.size)); have X5 := Lib.hid (X4.out.below hb X4.out.lt); have B5 := Lib.hid (B4.out.trans (hb.mono B4.out.size)); clear hf hr5 hb)
      | (at_builtin; (with_reducible refine append_rd (o := ⟨some 27, _, _, _, _, _⟩) rfl _ _ rfl w1.heap.size _ T1 ?_ F5.out y5 qv d5 _ ?_ R5.out ?_ P5.out.size ?_); (focus (first | (go_simp; done) | (go_simp; rfl))); (focus (first | (go_simp; done) | (go_simp; rfl))); (focus (rw [Q1.out]; omega)); intro v9 w9 hN hb _; rw [HT2.out] at hN; obtain ⟨y9, d9, rfl, hr9⟩ := hN.form' q2 Q2.out; have K9 := Lib.hid hr9; have X9 := Lib.hid (X5.out.below hb X1.out.lt); have B9 := Lib.hid (B5.out.trans (hb.mono B1.out.size)); clear hN hr9 hb))
    obtain ⟨C0, C1, C2, C3, C4, C5, C6, C7, C8, C9, C10, C11⟩ := X9.out.cm'
    have C0 := Lib.hid C0
    have C1 := Lib.hid C1
    have C2 := Lib.hid C2
    have C3 := Lib.hid C3
    have C4 := Lib.hid C4
    have C5 := Lib.hid C5
    have C6 := Lib.hid C6
    have C7 := Lib.hid C7
    have C8 := Lib.hid C8
    have C9 := Lib.hid C9
    have C10 := Lib.hid C10
    have C11 := Lib.hid C11
    refine region_h (fun v => Below w9.heap.size w9 v) (by kernel_rfl) (by kernel_rfl) (Below.refl _ _).drew ?_
    obtain ⟨w10, hwd⟩ : ∃ wd, w9.drew = wd := ⟨_, rfl⟩
    have J10 : Hid (Below w9.heap.size w9 w10) := Lib.hid (by rw [← hwd]; exact (Below.refl _ _).drew)
    rw [hwd]
    clear hwd
    (refine h_read 0 rfl (by kernel_rfl) (by kernel_rfl) (h_free rfl) ?_ ?_ ?_; rotate_left; (focus (intro v hv; go_simp; rfl)); go_simp)
    (refine h_read 1 rfl (by kernel_rfl) (by kernel_rfl) (h_free rfl) ?_ ?_ ?_; rotate_left; (focus (intro v hv; go_simp; rfl)); go_simp)
    (refine h_read 2 rfl (by kernel_rfl) (by kernel_rfl) (h_free rfl) ?_ ?_ ?_; rotate_left; (focus (intro v hv; have x0 := (hv.cell (p := ⟨w.heap.size, 0, none⟩) X9.out.lt).trans C0.out; have x1 := (hv.cell (p := ⟨w.heap.size, 1, none⟩) X9.out.lt).trans C1.out; have x2 := (hv.cell (p := ⟨w.heap.size, 2, none⟩) X9.out.lt).trans C2.out; have x3 := (hv.cell (p := ⟨w.heap.size, 3, none⟩) X9.out.lt).trans C3.out; have x4 := (hv.cell (p := ⟨w.heap.size, 4, none⟩) X9.out.lt).trans C4.out; have x5 := (hv.cell (p := ⟨w.heap.size, 5, none⟩) X9.out.lt).trans C5.out; have x6 := (hv.cell (p := ⟨w.heap.size, 6, none⟩) X9.out.lt).trans C6.out; have x7 := (hv.cell (p := ⟨w.heap.size, 7, none⟩) X9.out.lt).trans C7.out; have x8 := (hv.cell (p := ⟨w.heap.size, 8, none⟩) X9.out.lt).trans C8.out; have x9 := (hv.cell (p := ⟨w.heap.size, 9, none⟩) X9.out.lt).trans C9.out; have x10 := (hv.cell (p := ⟨w.heap.size, 10, none⟩) X9.out.lt).trans C10.out; have x11 := (hv.cell (p := ⟨w.heap.size, 11, none⟩) X9.out.lt).trans C11.out; go_simp; rfl)); go_simp)
    (refine h_read 4 rfl (by kernel_rfl) (by kernel_rfl) (h_free rfl) ?_ ?_ ?_; rotate_left; (focus (intro v hv; go_simp; rfl)); go_simp)
    (refine h_read 5 rfl (by kernel_rfl) (by kernel_rfl) (h_free rfl) ?_ ?_ ?_; rotate_left; (focus (intro v hv; have x0 := (hv.cell (p := ⟨w.heap.size, 0, none⟩) X9.out.lt).trans C0.out; have x1 := (hv.cell (p := ⟨w.heap.size, 1, none⟩) X9.out.lt).trans C1.out; have x2 := (hv.cell (p := ⟨w.heap.size, 2, none⟩) X9.out.lt).trans C2.out; have x3 := (hv.cell (p := ⟨w.heap.size, 3, none⟩) X9.out.lt).trans C3.out; have x4 := (hv.cell (p := ⟨w.heap.size, 4, none⟩) X9.out.lt).trans C4.out; have x5 := (hv.cell (p := ⟨w.heap.size, 5, none⟩) X9.out.lt).trans C5.out; have x6 := (hv.cell (p := ⟨w.heap.size, 6, none⟩) X9.out.lt).trans C6.out; have x7 := (hv.cell (p := ⟨w.heap.size, 7, none⟩) X9.out.lt).trans C7.out; have x8 := (hv.cell (p := ⟨w.heap.size, 8, none⟩) X9.out.lt).trans C8.out; have x9 := (hv.cell (p := ⟨w.heap.size, 9, none⟩) X9.out.lt).trans C9.out; have x10 := (hv.cell (p := ⟨w.heap.size, 10, none⟩) X9.out.lt).trans C10.out; have x11 := (hv.cell (p := ⟨w.heap.size, 11, none⟩) X9.out.lt).trans C11.out; go_simp; rfl)); go_simp)
    (refine h_call 3 rfl (by kernel_rfl) (h_free rfl) 32 ?_ ?_ ?_; rotate_left; (focus (go_simp; rfl)))
    refine (ptextF y9 q2 d9 sp T2 w10 (K9.out.mono J10.out) (by omega) (by omega) T3 HT3.out q3 Q3.out).mono ?_
    rintro z w11 ⟨y11, d11, rfl, hrd, hb⟩
    have K11 := Lib.hid hrd
    have J11 := Lib.hid (J10.out.trans (hb.mono J10.out.size))
    clear hrd hb
    refine ⟨_, rfl, J11.out, ?_⟩
    go_simp
    (refine h_call 6 rfl (by kernel_rfl) (h_free rfl) 32 ?_ ?_ ?_; rotate_left; (focus (go_simp; rfl)))
    refine (ptextF y11 q3 d11 nm T3 w11 K11.out (by omega) (by omega) T4 HT4.out q4 Q4.out).mono ?_
    rintro z w12 ⟨y12, d12, rfl, hrd, hb⟩
    have K12 := Lib.hid hrd
    have J12 := Lib.hid (J11.out.trans (hb.mono J11.out.size))
    clear hrd hb
    refine ⟨_, rfl, J12.out, ?_⟩
    go_simp
    (refine h_read 7 rfl (by kernel_rfl) (by kernel_rfl) (h_free rfl) ?_ ?_ ?_; rotate_left; (focus (intro v hv; go_simp; rfl)); go_simp)
    refine h_done (by kernel_rfl) ?_
    have X12 := Lib.hid (X9.out.below J12.out X9.out.lt)
    have B12 := Lib.hid (B9.out.trans (J12.out.mono B9.out.size))
    obtain ⟨-, -, -, -, -, -, -, -, c8, c9, c10, -⟩ := X12.out.cm'
    go_wp2_with (first
      | ((with_reducible refine bi3 (o := ⟨some 42, _, _, _, _, _⟩) rfl _ _ _ rfl nu by1 ti ?_ ?_ ?_ I8.out I9.out I10.out ?_); (focus (first | (go_simp; done) | (go_simp; rfl))); (focus (first | (go_simp; done) | (go_simp; rfl))); (focus (first | (go_simp; done) | (go_simp; rfl))); intro w13 hs hb hz; have S13 := Lib.hid hs; have K13 := Lib.hid (K12.out.mono hb); have X13 := Lib.hid (X12.out.below hb X12.out.lt); have B13 := Lib.hid (B12.out.trans (hb.mono B12.out.size)); clear hs hb hz)
      | (go_at_call 30; (with_reducible refine (lnumbers y12 q4 d12 T4 _ 3 3 _ w13 K13.out (by omega) S13.out (by omega) (by omega) T5 HT5.out q5 Q5.out).mono ?_); rintro z w14 ⟨y14, d14, rfl, -, hrd, hb⟩; have K14 := Lib.hid hrd; have X14 := Lib.hid (X13.out.below hb X13.out.lt); have B14 := Lib.hid (B13.out.trans (hb.mono B13.out.size)); have c11 := X14.out.cm'.c11; clear hrd hb)
      | (go_at_call 33; (with_reducible refine (HPP.out y14 d14 w14 B14.out K14.out).mono ?_); rintro z w15 ⟨y15, m15, d15, rfl, hrd, -, hb⟩; have K15 := Lib.hid hrd; have B15 := Lib.hid (B14.out.trans (hb.mono B14.out.size)); clear hrd hb))
    go_ret2
    have K16 := K15.out
    rw [HC.out] at K16
    exact ⟨y15, m15, d15, rfl, K16, by have := K16.hlen; have := HM.out; omega, B15.out⟩
end Go.Proofs.Ytmacjpgeamlmhaa.W
