/- LAYER 20 (manifest): pieces: their bytes, PutPieces of both. -/
import Derived.Test.YtjolmjbhpokgmaaGreatMfA
import Derived.Test.YtjolmjbhpokgmaaGreatPackW
import Derived.Test.YtjolmjbhpokgmaaGreatTail
set_option linter.unusedSimpArgs false
set_option linter.unusedVariables false
namespace Go.Proofs.YtjolmjbhpokgmaaGreat.W
open Go Go.ChangeShapes Go.WideShapes Go.ChangeAt Go.RowKit
open Go.Proofs.YtjolmjbhpokgmaaGreat.P (enc dec)
open Go.Proofs.YtjolmjbhpokgmaaGreat.S

theorem rd_nil_mf {w : World} : Rd w none 0 0 [] := by
  obtain ⟨a, c, hv, h⟩ := (Fr.nil w 0).form' 0 rfl
  injection hv with e1 e2 e3
  subst e1 e3
  exact h
theorem fr_updM {w w' : World} {base g : Nat} {v : Value} {l : List UInt8} (h : Fr w base v l) (hu : Upd w w' g) (hg : v.ownBlock ≠ some g) : Fr w' base v l := by
  obtain ⟨h1, h2⟩ := h
  refine ⟨h1, ?_⟩
  rcases h2 with h2 | ⟨b, cap, cur, rfl, hb, hh, r⟩
  · exact .inl h2
  · exact .inr ⟨b, cap, cur, rfl, hb, by rw [hu.block b (fun e => hg (by rw [e]; rfl))]; exact hh, r⟩
/-- a piece's bytes -/
def codeP (p : Pc) : List UInt8 := enc p.sum.size ++ p.sum.data.toList ++ enc p.size.toNat
theorem codeP_len {p : Pc} (h : p.fit) (hn : p.sum.size ≤ 2000000) : (codeP p).length ≤ 2000054 := by
  have h1 := P.enc_len p.sum.size (by omega)
  have h2 := P.enc_len p.size.toNat (by have := h.size.2; omega)
  have h3 : p.sum.data.toList.length = p.sum.size := Array.length_toList
  unfold codeP
  rw [List.length_append, List.length_append, h3]; omega
theorem codeP_all : ∀ (L : List Pc), (∀ s ∈ L, s.fit ∧ s.sum.size ≤ 2000000) → (L.flatMap codeP).length ≤ L.length * 2000054
  | [], _ => by simp
  | s :: L, h => by
    have h1 := codeP_len (h s (by simp)).1 (h s (by simp)).2
    have h2 := codeP_all L (fun x hx => h x (by simp [hx]))
    rw [List.flatMap_cons, List.length_append, List.length_cons]; omega
theorem codeP_step (L : List Pc) (k : Nat) (s : Pc) (h : L[k]? = some s) : (L.take (k + 1)).flatMap codeP = (L.take k).flatMap codeP ++ codeP s := by
  obtain ⟨h1, h2⟩ := List.getElem?_eq_some_iff.1 h
  rw [List.take_succ_eq_append_getElem h1, List.flatMap_append, h2]; simp
set_option maxRecDepth 100000 in
set_option maxHeartbeats 8000000 in
theorem ppiececode (p : Pc) (w : World) (h : p.fit) (hn : p.sum.size ≤ 2000000) :
    Calls Tryz.prog 47 #[.agg p.cells.toArray] w fun x w' => ∃ y m d, x = .returned (.slice y m d) ∧ Rd w' y m d (codeP p) ∧ m ≤ 2000054 ∧ Below w.heap.size w w' := by
  have HL := Lib.hid (codeP_len h hn)
  have I2 := Lib.hid (show SI64 p.size from h.size)
  obtain ⟨ps, pz⟩ := p
  dsimp only at hn I2
  have he := P.enc_len ps.size (by omega)
  have HTL := Lib.hid (show ([] ++ (enc ps.size ++ ps.data.toList)).length = (enc ps.size).length + ps.size by rw [List.nil_append, List.length_append]; exact congrArg _ Array.length_toList)
  obtain ⟨C, hC⟩ : ∃ C, codeP ⟨ps, pz⟩ = C := ⟨_, rfl⟩
  rw [hC] at HL ⊢
  have HC := Lib.hid (show ([] ++ (enc ps.size ++ ps.data.toList)) ++ enc pz.toNat = C by rw [← hC, List.nil_append]; unfold codeP; rfl)
  clear h hC
  go_enter Tryz.func47, Tryz.ntmps47
  go_wp2_with (first
    | (with_reducible refine box_row (o := ⟨some 1, _, _, _, _, _⟩) rfl _ _ rfl [.string ps, .int .i64 pz] rfl ?_; intro w1 hr1 hb1 hz1; have R1 := Lib.hid hr1; obtain ⟨c0, c1⟩ := hr1.l2; have C0 := Lib.hid c0; have C1 := Lib.hid c1; have B1 := Lib.hid hb1; clear hr1 hb1 hz1 c0 c1))
  refine region_h (fun v => Below w1.heap.size w1 v) (by kernel_rfl) (by kernel_rfl) (Below.refl _ _).drew ?_
  obtain ⟨wd, hwd⟩ : ∃ wd, w1.drew = wd := ⟨_, rfl⟩
  have Jwd : Hid (Below w1.heap.size w1 wd) := Lib.hid (by rw [← hwd]; exact (Below.refl _ _).drew)
  rw [hwd]
  clear hwd
  (refine h_read 0 rfl (by kernel_rfl) (by kernel_rfl) (h_free rfl) ?_ ?_ ?_; rotate_left; (focus (intro v hv; go_simp; rfl)); go_simp)
  (refine h_read 1 rfl (by kernel_rfl) (by kernel_rfl) (h_free rfl) ?_ ?_ ?_; rotate_left; (focus (intro v hv; have x0 := (hv.cell (p := ⟨w.heap.size, 0, none⟩) R1.out.lt).trans C0.out; have x1 := (hv.cell (p := ⟨w.heap.size, 1, none⟩) R1.out.lt).trans C1.out; go_simp; rfl)); go_simp)
  (refine h_read 3 rfl (by kernel_rfl) (by kernel_rfl) (h_free rfl) ?_ ?_ ?_; rotate_left; (focus (intro v hv; go_simp; rfl)); go_simp)
  (refine h_read 4 rfl (by kernel_rfl) (by kernel_rfl) (h_free rfl) ?_ ?_ ?_; rotate_left; (focus (intro v hv; have x0 := (hv.cell (p := ⟨w.heap.size, 0, none⟩) R1.out.lt).trans C0.out; have x1 := (hv.cell (p := ⟨w.heap.size, 1, none⟩) R1.out.lt).trans C1.out; go_simp; rfl)); go_simp)
  (refine h_call 2 rfl (by kernel_rfl) (h_free rfl) 68 ?_ ?_ ?_; rotate_left; (focus (go_simp; rfl)))
  refine (ptext none 0 0 ps [] wd rd_nil_mf (by omega) (by omega)).mono ?_
  rintro z w4 ⟨rfl, hbk, hb, -⟩
  have K4 := Lib.hid hbk
  have J4 := Lib.hid (Jwd.out.trans (hb.mono Jwd.out.size))
  clear hbk hb
  refine ⟨_, rfl, J4.out, ?_⟩
  go_simp
  (refine h_call 5 rfl (by kernel_rfl) (h_free rfl) 67 ?_ ?_ ?_; rotate_left; (focus (go_simp; rfl)))
  refine (pnum _ ((enc ps.size).length + ps.size) ((enc ps.size).length + ps.size) pz ([] ++ (enc ps.size ++ ps.data.toList)) w4 (K4.out.rd' _ HTL.out (by omega)) I2.out.2 (by omega)).mono ?_
  rintro z w5 ⟨rfl, hbk, hb, -⟩
  have K5 := Lib.hid hbk
  have J5 := Lib.hid (J4.out.trans (hb.mono J4.out.size))
  clear hbk hb
  refine ⟨_, rfl, J5.out, ?_⟩
  go_simp
  (refine h_read 6 rfl (by kernel_rfl) (by kernel_rfl) (h_free rfl) ?_ ?_ ?_; rotate_left; (focus (intro v hv; go_simp; rfl)); go_simp)
  refine h_done (by kernel_rfl) ?_
  rw [HC.out] at K5
  have hlen : C.length = (enc ps.size).length + ps.size + (enc pz.toNat).length := by rw [← HC.out, List.length_append, HTL.out]
  go_wp2_with fail
  go_ret
  exact ⟨_, _, _, rfl, K5.out.rd' _ hlen (by have := HL.out; omega), by have := HL.out; omega, B1.out.trans (J5.out.mono B1.out.size)⟩
set_option maxRecDepth 100000 in
set_option maxHeartbeats 16000000 in
theorem plsputp (a0 : Option Addr) (m0 c0 : Nat) (S : List UInt8) (a : Option Addr) (n c : Nat) (L : List Pc) (w : World) (hr : Rd w a0 m0 c0 S) (hm0 : m0 ≤ 10000000) (h : Ls pcE w a n c L) (hn : n ≤ 100) (hnm : ∀ s ∈ L, s.sum.size ≤ 2000000) :
    Calls Tryz.prog 46 #[.slice a0 m0 c0, .slice a n c, .func (.func 47) #[] #[]] w fun x w' => ∃ y m d, x = .returned (.slice y m d) ∧ Rd w' y m d (S ++ (enc n ++ L.flatMap codeP)) ∧ m ≤ 300000000 ∧ Below w.heap.size w w' := by
  have H := Lib.hid h
  have HL := Lib.hid h.hlen
  have hm := h.hmax
  have hle := h.hle
  have HSZ := Lib.hid pc_size
  have MZ := Lib.hid pc_zero
  have HB := Lib.hid (fun k => codeP_all (L.take k) (fun s hs => ⟨h.hfit s (List.mem_of_mem_take hs), hnm s (List.mem_of_mem_take hs)⟩))
  have HNM := Lib.hid hnm
  have he := P.enc_len n (by omega)
  obtain ⟨T, hT⟩ : ∃ T, S ++ enc n = T := ⟨_, rfl⟩
  obtain ⟨q, hq⟩ : ∃ q, m0 + (enc n).length = q := ⟨_, rfl⟩
  have hTq : T.length = q := by rw [← hT, List.length_append, hr.hlen]; exact hq
  have hqb : q ≤ 10000009 := by omega
  have HN := Lib.hid (pnum a0 m0 c0 (n : Int) S w hr (by omega) (by omega))
  rw [Int.toNat_natCast, hT, hq] at HN
  have HTQ := Lib.hid hTq
  rw [show S ++ (enc n ++ L.flatMap codeP) = T ++ L.flatMap codeP by rw [← hT]; simp]
  clear h hr hnm hT hTq he hq
  go_enter Tryz.func46, Tryz.ntmps46
  go_wp2_with (go_at_call 67; (with_reducible refine HN.out.mono ?_); rintro z w1 ⟨rfl, hbk, hb, -⟩; have F1 := Lib.hid (show Fr w1 w.heap.size (.slice (some ⟨w.heap.size, 0, none⟩) q q) T by have := hbk.fr (base := w.heap.size) (Nat.le_refl _) (by rw [HTQ.out]; omega); rw [HTQ.out] at this; exact this); have B1 := Lib.hid hb; clear hbk hb)
  go_loopw [7, 16] (fun v i wr => ∃ (k : Nat) (y : Option Addr) (m d : Nat), v = .slice y m d ∧ i = .int .i64 (k : Int) ∧ k ≤ n ∧ Hid (Fr wr w.heap.size (.slice y m d) (T ++ (L.take k).flatMap codeP)) ∧ Hid (Below w.heap.size w wr)) (fun _ i _ => n - (intOf i).toNat)
  case atStart => exact ⟨0, _, _, _, rfl, rfl, Nat.zero_le _, Lib.hid (by simpa using F1.out), B1⟩
  case round =>
    obtain ⟨k, y, m, d, rfl, rfl, hk, F, B⟩ := hrel
    have hbl := HB.out k
    have hlk : (L.take k).length ≤ 100 := by rw [List.length_take]; omega
    have hcur : (T ++ (L.take k).flatMap codeP).length ≤ 250000000 := by
      rw [List.length_append, HTQ.out]; have : (L.take k).length * 2000054 ≤ 100 * 2000054 := Nat.mul_le_mul_right _ hlk; omega
    by_cases hlt : k < n
    · obtain ⟨b, o, s, rfl, hx, hcell, hfs⟩ := H.out.at pcOk B.out k hlt
      have hmem : s ∈ L := by
        obtain ⟨h1, h2⟩ := List.getElem?_eq_some_iff.1 hx
        rw [← h2]; exact List.getElem_mem h1
      have HCD := Lib.hid (fun w => ppiececode s w hfs (HNM.out s hmem))
      have HST := Lib.hid (show T ++ (L.take (k + 1)).flatMap codeP = (T ++ (L.take k).flatMap codeP) ++ codeP s by rw [codeP_step L k s hx]; simp)
      obtain ⟨U, hU⟩ : ∃ U, T ++ (L.take k).flatMap codeP = U := ⟨_, rfl⟩
      rw [hU] at F hcur HST
      obtain ⟨ps, pz⟩ := s
      have XC := Lib.hid hcell
      have HUB := Lib.hid hcur
      have g1 : (0 : Int) ≤ (k : Int) := by omega
      have g2 : (k : Int) < (n : Int) := by omega
      clear hx hcell hfs hmem hU hbl hlk hcur
      go_wp2_with (first
        | ((with_reducible refine load_cells (o := ⟨some 19, _, _, _, _, _⟩) rfl _ _ rfl b (o + k * 2) ?_ [.string ps, .int .i64 pz] _ XC.out Tryz.underlying47 rfl ?_ ?_); (focus go_simp); (focus (exact HSZ.out)))
        | ((with_reducible refine alloc_row (o := ⟨some 9, _, _, _, _, _⟩) rfl _ rfl _ MZ.out ?_); intro w5 hr hb hz; have X5 := Lib.hid hr; have F5 := Lib.hid (F.out.kept hb); have NO := Lib.hid (show (Value.slice y m d).ownBlock ≠ some wr.heap.size from fun e => Nat.lt_irrefl _ (World.ownsRow.lt F.out _ e).2); have B5 := Lib.hid (B.out.trans (hb.mono B.out.size)); clear hr hb hz)
        | ((with_reducible refine store_row (o := ⟨none, _, _, _, _, _⟩) rfl _ (.tmp 9) _ rfl wr.heap.size [.string ps, .int .i64 pz] ?_ ?_ 47 _ X5.out ?_ ?_ ?_ ?_); (focus go_simp); (focus (first | (go_simp; done) | (go_simp; rfl))); (focus (exact HSZ.out)); (focus rfl); (focus (exact pc_one ⟨ps, pz⟩)); intro w6 hr hu; have X6 := Lib.hid hr; have F6 := Lib.hid (fr_updM F5.out hu NO.out); have B6 := Lib.hid (B5.out.trans (hu.below B.out.size)); clear hr hu)
        | ((with_reducible refine load_row (o := ⟨some 22, _, _, _, _, _⟩) rfl _ _ rfl wr.heap.size ?_ _ [.string ps, .int .i64 pz] _ X6.out Tryz.underlying47 rfl ?_ ?_); (focus go_simp); (focus (exact HSZ.out)))
        | (go_at_call 47; (with_reducible refine (HCD.out w6).mono ?_); rintro z w7 ⟨y7, m7, d7, rfl, hrd, hm7, hb⟩; have R7 := Lib.hid hrd; have HM7 := Lib.hid hm7; have F7 := Lib.hid (F6.out.kept hb); have B7 := Lib.hid (B6.out.trans (hb.mono B6.out.size)); clear hrd hb hm7)
        | (at_builtin; (with_reducible refine append_rd (o := ⟨some 24, _, _, _, _, _⟩) rfl _ _ rfl w.heap.size _ U ?_ F7.out y7 m7 d7 _ ?_ R7.out ?_ B7.out.size ?_); (focus (first | (go_simp; done) | (go_simp; rfl))); (focus (first | (go_simp; done) | (go_simp; rfl))); (focus (have := HUB.out; have := HM7.out; omega)); intro v8 w8 hN hb2 _; rw [← HST.out] at hN; obtain ⟨q8, hq8⟩ : ∃ q, (T ++ (L.take (k + 1)).flatMap codeP).length = q := ⟨_, rfl⟩; obtain ⟨y8, d8, rfl, -⟩ := hN.form' q8 hq8; have F8 := Lib.hid hN; have B8 := Lib.hid (B7.out.trans hb2); clear hN hb2 hq8))
      go_roundw
      case rel => exact ⟨k + 1, _, _, _, rfl, vint (by omega), by omega, F8, B8⟩
      case measure => simp [intOf]; omega
    · obtain rfl : n = k := by omega
      have ht : L.take n = L := List.take_of_length_le (by rw [HL.out]; exact Nat.le_refl _)
      rw [ht] at F hcur
      obtain ⟨u, hu⟩ : ∃ u, (T ++ L.flatMap codeP).length = u := ⟨_, rfl⟩
      obtain ⟨y', d', hv, hrd⟩ := F.out.form' u hu
      obtain ⟨rfl, rfl, rfl⟩ : y = y' ∧ m = u ∧ d = d' := by injection hv with e1 e2 e3; exact ⟨e1, e2, e3⟩
      have RX := Lib.hid hrd
      have hmb : m ≤ 250000000 := by rw [← hu]; exact hcur
      clear hv hrd hu ht hbl hlk hcur
      go_wp2_with fail
      go_ret
      exact ⟨_, _, _, rfl, RX.out, by omega, B.out⟩
set_option maxRecDepth 100000 in
theorem pputpieces (a0 : Option Addr) (m0 c0 : Nat) (S : List UInt8) (a : Option Addr) (n c : Nat) (L : List Pc) (w : World) (hr : Rd w a0 m0 c0 S) (hm0 : m0 ≤ 10000000) (h : Ls pcE w a n c L) (hn : n ≤ 100) (hnm : ∀ s ∈ L, s.sum.size ≤ 2000000) :
    Calls Tryz.prog 21 #[.slice a0 m0 c0, .slice a n c] w fun x w' => ∃ y m d, x = .returned (.slice y m d) ∧ Rd w' y m d (S ++ (enc n ++ L.flatMap codeP)) ∧ m ≤ 300000000 ∧ Below w.heap.size w w' := by
  have HP := Lib.hid (plsputp a0 m0 c0 S a n c L w hr hm0 h hn hnm)
  clear h hr hnm
  go_enter Tryz.func21, Tryz.ntmps21
  go_wp2_with (first
    | (go_at_call 46; (with_reducible refine HP.out.mono ?_); rintro x w1 ⟨y1, m1, d1, rfl, hrd, hm1, hb⟩; have R1 := Lib.hid hrd; have M1 := Lib.hid hm1; have B1 := Lib.hid hb; clear hrd hm1 hb))
  go_ret
  exact ⟨_, _, _, rfl, R1.out, M1.out, B1.out⟩
theorem ptextF (a : Option Addr) (len cap : Nat) (s : ByteArray) (l : List UInt8) (w : World) (hr : Rd w a len cap l) (hs : s.size ≤ 70000000000) (hmax : len ≤ 70000000000) (T : List UInt8) (hT : l ++ (enc s.size ++ s.data.toList) = T) (q : Nat) (hq : T.length = q) :
    Calls Tryz.prog 68 #[.slice a len cap, .string s] w fun e w' => ∃ y d, e = .returned (.slice y q d) ∧ Rd w' y q d T ∧ Below w.heap.size w w' := by
  have hl9 := P.enc_len s.size (by omega)
  have hll : (l ++ (enc s.size ++ s.data.toList)).length = len + ((enc s.size).length + s.size) := by
    rw [List.length_append, List.length_append, hr.hlen]; exact congrArg (fun z => len + ((enc s.size).length + z)) Array.length_toList
  rw [hT] at hll
  refine (ptext a len cap s l w hr (by omega) (by omega)).mono ?_
  rintro x w' ⟨rfl, hbk, hb, -⟩
  rw [hT] at hbk
  have e : len + ((enc s.size).length + s.size) = q := by omega
  rw [e]
  exact ⟨_, _, rfl, hbk.rd' q hq (by omega), hb⟩
theorem pnumF (a : Option Addr) (len cap : Nat) (n : Int) (l : List UInt8) (w : World) (hr : Rd w a len cap l) (h2 : n ≤ 9223372036854775807) (hmax : len ≤ 140737488355000) (T : List UInt8) (hT : l ++ enc n.toNat = T) (q : Nat) (hq : T.length = q) :
    Calls Tryz.prog 67 #[.slice a len cap, .int .i64 n] w fun e w' => ∃ y d, e = .returned (.slice y q d) ∧ Rd w' y q d T ∧ Below w.heap.size w w' := by
  have hl9 := P.enc_len n.toNat (by omega)
  have hll : (l ++ enc n.toNat).length = len + (enc n.toNat).length := by rw [List.length_append, hr.hlen]
  rw [hT] at hll
  refine (pnum a len cap n l w hr h2 hmax).mono ?_
  rintro x w' ⟨rfl, hbk, hb, -⟩
  rw [hT] at hbk
  have e : len + (enc n.toNat).length = q := by omega
  rw [e]
  exact ⟨_, _, rfl, hbk.rd' q hq (by omega), hb⟩
theorem rtextF (a : Option Addr) (len cap : Nat) (s : ByteArray) (l : List UInt8) (w : World) (hr : Rd w a len cap l) (hs : s.size ≤ 70000000000) (hmax : len ≤ 70000000000) (T : List UInt8) (hT : l ++ (enc s.size ++ s.data.toList) = T) (q : Nat) (hq : T.length = q) :
    Calls Tryz.prog 45 #[.slice a len cap, .string s] w fun e w' => ∃ y d, e = .returned (.slice y q d) ∧ Rd w' y q d T ∧ Below w.heap.size w w' := by
  refine (rtext a len cap s l w hr (by omega) (by omega)).mono ?_
  rw [hT]
  rintro x w' ⟨v, rfl, hf, hb⟩
  obtain ⟨y, d, rfl, hr'⟩ := hf.form' q hq
  exact ⟨y, d, rfl, hr', hb⟩
theorem rnumF (a : Option Addr) (len cap : Nat) (n : Int) (l : List UInt8) (w : World) (hr : Rd w a len cap l) (h2 : n ≤ 9223372036854775807) (hmax : len ≤ 140737488355000) (T : List UInt8) (hT : l ++ enc n.toNat = T) (q : Nat) (hq : T.length = q) :
    Calls Tryz.prog 44 #[.slice a len cap, .int .i64 n] w fun e w' => ∃ y d, e = .returned (.slice y q d) ∧ Rd w' y q d T ∧ Below w.heap.size w w' := by
  refine (rnum a len cap n l w hr h2 hmax).mono ?_
  rw [hT]
  rintro x w' ⟨v, rfl, hf, hb⟩
  obtain ⟨y, d, rfl, hr'⟩ := hf.form' q hq
  exact ⟨y, d, rfl, hr', hb⟩
set_option maxRecDepth 100000 in
set_option maxHeartbeats 16000000 in
theorem uputps (a0 : Option Addr) (m0 c0 : Nat) (S : List UInt8) (a : Option Addr) (n c : Nat) (L : List Pc) (w : World) (hr : Rd w a0 m0 c0 S) (hm0 : m0 ≤ 20000000000) (h : Ls pcE w a n c L) (hn : n ≤ 100) (hnm : ∀ s ∈ L, s.sum.size ≤ 2000000) :
    Calls Tryz.prog 22 #[.slice a0 m0 c0, .slice a n c] w fun x w' => ∃ y m d, x = .returned (.slice y m d) ∧ Rd w' y m d (S ++ (enc n ++ L.flatMap codeP)) ∧ m ≤ m0 + 300000000 ∧ Below w.heap.size w w' := by
  have H := Lib.hid h
  have HL := Lib.hid h.hlen
  have hm := h.hmax
  have hle := h.hle
  have HB := Lib.hid (fun k => codeP_all (L.take k) (fun s hs => ⟨h.hfit s (List.mem_of_mem_take hs), hnm s (List.mem_of_mem_take hs)⟩))
  have HNM := Lib.hid hnm
  have he := P.enc_len n (by omega)
  obtain ⟨T, hT⟩ : ∃ T, S ++ enc n = T := ⟨_, rfl⟩
  obtain ⟨q, hq⟩ : ∃ q, T.length = q := ⟨_, rfl⟩
  have hTq : q = m0 + (enc n).length := by rw [← hq, ← hT, List.length_append, hr.hlen]
  have HN := Lib.hid (rnumF a0 m0 c0 (n : Int) S w hr (by omega) (by omega) T (by rw [Int.toNat_natCast]; exact hT) q hq)
  have HTQ := Lib.hid hq
  rw [show S ++ (enc n ++ L.flatMap codeP) = T ++ L.flatMap codeP by rw [← hT]; simp]
  have hqb : q ≤ m0 + 9 := by omega
  clear h hr hnm hT hTq he hq
  go_enter Tryz.func22, Tryz.ntmps22
  go_wp2_with (go_at_call 44; (with_reducible refine HN.out.mono ?_); rintro z w1 ⟨y1, d1, rfl, hrd, hb⟩; have F1 := Lib.hid hrd; have B1 := Lib.hid hb; clear hrd hb)
  go_loopw [0, 5] (fun v i wr => ∃ (k : Nat) (y : Option Addr) (m d : Nat), v = .slice y m d ∧ i = .int .i64 (k : Int) ∧ k ≤ n ∧ Hid (Rd wr y m d (T ++ (L.take k).flatMap codeP)) ∧ Hid (Below w.heap.size w wr)) (fun _ i _ => n - (intOf i).toNat)
  case atStart => exact ⟨0, _, _, _, rfl, rfl, Nat.zero_le _, Lib.hid (by simpa using F1.out), B1⟩
  case round =>
    obtain ⟨k, y, m, d, rfl, rfl, hk, F, B⟩ := hrel
    have hbl := HB.out k
    have hlk : (L.take k).length ≤ 100 := by rw [List.length_take]; omega
    have hcur : m ≤ m0 + 250000000 := by
      have h1 := F.out.hlen
      rw [List.length_append, HTQ.out] at h1; have : (L.take k).length * 2000054 ≤ 100 * 2000054 := Nat.mul_le_mul_right _ hlk; omega
    by_cases hlt : k < n
    · obtain ⟨b, o, s, rfl, hx, hcell, hfs⟩ := H.out.at pcOk B.out k hlt
      have hmem : s ∈ L := by
        obtain ⟨h1, h2⟩ := List.getElem?_eq_some_iff.1 hx
        rw [← h2]; exact List.getElem_mem h1
      have hss := HNM.out s hmem
      have hst := codeP_step L k s hx
      obtain ⟨U, hU⟩ : ∃ U, T ++ (L.take k).flatMap codeP = U := ⟨_, rfl⟩
      have HST := Lib.hid (show T ++ (L.take (k + 1)).flatMap codeP = (U ++ (enc s.sum.size ++ s.sum.data.toList)) ++ enc s.size.toNat by rw [hst, ← hU]; unfold codeP; simp)
      rw [hU] at F
      have I2 := Lib.hid (show SI64 s.size from hfs.size)
      obtain ⟨ps, pz⟩ := s
      dsimp only at HST hss I2
      obtain ⟨T1, hT1⟩ : ∃ T, U ++ (enc ps.size ++ ps.data.toList) = T := ⟨_, rfl⟩
      obtain ⟨q1, hq1⟩ : ∃ q, T1.length = q := ⟨_, rfl⟩
      have hq1b : q1 = m + ((enc ps.size).length + ps.size) := by
        rw [← hq1, ← hT1, List.length_append, List.length_append, F.out.hlen]; exact congrArg (fun z => m + ((enc ps.size).length + z)) Array.length_toList
      have hl9 := P.enc_len ps.size (by omega)
      obtain ⟨T2, hT2⟩ : ∃ T, T1 ++ enc pz.toNat = T := ⟨_, rfl⟩
      obtain ⟨q2, hq2⟩ : ∃ q, T2.length = q := ⟨_, rfl⟩
      have HT1 := Lib.hid hT1
      have HT2 := Lib.hid hT2
      have Q1 := Lib.hid hq1
      have Q2 := Lib.hid hq2
      have hb1 : q1 ≤ 60000000000 := by omega
      have HST2 := Lib.hid (show T ++ (L.take (k + 1)).flatMap codeP = T2 by rw [HST.out, hT1, hT2])
      have C0 := Lib.hid (hcell 0 (.string ps) rfl)
      have C1 := Lib.hid (hcell 1 (.int .i64 pz) rfl)
      have g1 : (0 : Int) ≤ (k : Int) := by omega
      have g2 : (k : Int) < (n : Int) := by omega
      clear hx hcell hfs hmem hU hbl hlk hT1 hT2 hq1 hq2 hq1b hl9 HST hst
      go_wp2_with fail
      refine region_h (fun v => Below wr.heap.size wr v) (by kernel_rfl) (by kernel_rfl) (Below.refl _ _).drew ?_
      obtain ⟨w0, hwd⟩ : ∃ wd, wr.drew = wd := ⟨_, rfl⟩
      have J0 : Hid (Below wr.heap.size wr w0) := Lib.hid (by rw [← hwd]; exact (Below.refl _ _).drew)
      rw [hwd]
      clear hwd
      (refine h_read 0 rfl (by kernel_rfl) (by kernel_rfl) (h_free rfl) ?_ ?_ ?_; rotate_left; (focus (intro v hv; go_simp; rfl)); go_simp)
      (refine h_read 1 rfl (by kernel_rfl) (by kernel_rfl) (h_free rfl) ?_ ?_ ?_; rotate_left; (focus (intro v hv; go_simp; rfl)); go_simp)
      (refine h_read 2 rfl (by kernel_rfl) (by kernel_rfl) (h_free rfl) ?_ ?_ ?_; rotate_left; (focus (intro v hv; go_simp; rfl)); go_simp)
      (refine h_read 3 rfl (by kernel_rfl) (by kernel_rfl) (h_free rfl) ?_ ?_ ?_; rotate_left; (focus (intro v hv; go_simp; rfl)); go_simp)
      (refine h_read 4 rfl (by kernel_rfl) (by kernel_rfl) (h_free rfl) ?_ ?_ ?_; rotate_left; (focus (intro v hv; go_simp; rfl)); go_simp)
      (refine h_read 5 rfl (by kernel_rfl) (by kernel_rfl) (h_free rfl) ?_ ?_ ?_; rotate_left; (focus (intro v hv; have x0 := (hv.cell (p := ⟨b, o + k * 2 + 0, none⟩) (World.block_lt_of_cell? wr _ C0.out)).trans C0.out; have x1 := (hv.cell (p := ⟨b, o + k * 2 + 1, none⟩) (World.block_lt_of_cell? wr _ C1.out)).trans C1.out; rw [Nat.add_zero] at x0; go_simp; rfl)); go_simp)
      (refine h_read 7 rfl (by kernel_rfl) (by kernel_rfl) (h_free rfl) ?_ ?_ ?_; rotate_left; (focus (intro v hv; go_simp; rfl)); go_simp)
      (refine h_read 8 rfl (by kernel_rfl) (by kernel_rfl) (h_free rfl) ?_ ?_ ?_; rotate_left; (focus (intro v hv; go_simp; rfl)); go_simp)
      (refine h_read 9 rfl (by kernel_rfl) (by kernel_rfl) (h_free rfl) ?_ ?_ ?_; rotate_left; (focus (intro v hv; go_simp; rfl)); go_simp)
      (refine h_read 10 rfl (by kernel_rfl) (by kernel_rfl) (h_free rfl) ?_ ?_ ?_; rotate_left; (focus (intro v hv; go_simp; rfl)); go_simp)
      (refine h_read 11 rfl (by kernel_rfl) (by kernel_rfl) (h_free rfl) ?_ ?_ ?_; rotate_left; (focus (intro v hv; have x0 := (hv.cell (p := ⟨b, o + k * 2 + 0, none⟩) (World.block_lt_of_cell? wr _ C0.out)).trans C0.out; have x1 := (hv.cell (p := ⟨b, o + k * 2 + 1, none⟩) (World.block_lt_of_cell? wr _ C1.out)).trans C1.out; rw [Nat.add_zero] at x0; go_simp; rfl)); go_simp)
      (refine h_call 6 rfl (by kernel_rfl) (h_free rfl) 45 ?_ ?_ ?_; rotate_left; (focus (go_simp; rfl)))
      refine (rtextF y m d ps U w0 (F.out.mono J0.out) (by omega) (by omega) T1 HT1.out q1 Q1.out).mono ?_
      rintro z w1 ⟨y1, d1, rfl, hrd, hb⟩
      have K1 := Lib.hid hrd
      have J1 := Lib.hid (J0.out.trans (hb.mono J0.out.size))
      clear hrd hb
      refine ⟨_, rfl, J1.out, ?_⟩
      go_simp
      (refine h_call 12 rfl (by kernel_rfl) (h_free rfl) 44 ?_ ?_ ?_; rotate_left; (focus (go_simp; rfl)))
      refine (rnumF y1 q1 d1 pz T1 w1 K1.out I2.out.2 (by omega) T2 HT2.out q2 Q2.out).mono ?_
      rintro z w2 ⟨y2, d2, rfl, hrd, hb⟩
      have K2 := Lib.hid hrd
      have J2 := Lib.hid (J1.out.trans (hb.mono J1.out.size))
      clear hrd hb
      refine ⟨_, rfl, J2.out, ?_⟩
      go_simp
      (refine h_read 13 rfl (by kernel_rfl) (by kernel_rfl) (h_free rfl) ?_ ?_ ?_; rotate_left; (focus (intro v hv; go_simp; rfl)); go_simp)
      refine h_done (by kernel_rfl) ?_
      go_wp2_with fail
      go_roundw
      case rel => exact ⟨k + 1, _, _, _, rfl, vint (by omega), by omega, Lib.hid (by rw [HST2.out]; exact K2.out), Lib.hid (B.out.trans (J2.out.mono B.out.size))⟩
      case measure => simp [intOf]; omega
    · obtain rfl : n = k := by omega
      have ht : L.take n = L := List.take_of_length_le (by rw [HL.out]; exact Nat.le_refl _)
      rw [ht] at F
      clear ht hbl hlk
      go_wp2_with fail
      go_ret
      exact ⟨_, _, _, rfl, F.out, by omega, B.out⟩
end Go.Proofs.YtjolmjbhpokgmaaGreat.W
