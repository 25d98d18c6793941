/- LAYER 20 (manifest): pieces: ReadPieces of the program, there and back. -/
import Derived.Test.YtjolmjbhpokgmaaGreatMfPp
import Derived.Test.YtjolmjbhpokgmaaGreatLn
import Derived.Test.YtjolmjbhpokgmaaGreatPackR5
import Derived.Test.YtjolmjbhpokgmaaGreatMfA
set_option linter.unusedSimpArgs false
set_option linter.unusedVariables false
namespace Go.Proofs.YtjolmjbhpokgmaaGreat.W
open Go Go.ChangeShapes Go.WideShapes Go.ChangeAt Go.RowKit
open Go.Proofs.YtjolmjbhpokgmaaGreat.P (enc dec)
open Go.Proofs.YtjolmjbhpokgmaaGreat.S

theorem pcNb : pcE.Nb where
  z := by intro x hx; simp [Value.cells, B] at hx
  c := by intro s x hx; simp [B] at hx
  p := by decide
theorem nob_pc (s : Pc) : NoB s.cells := pcNb.c s
theorem pc_fill (y : Pc) : Instr.fill (fun i => some (i * pcE.k, pcE.k)) ((Array.range (1 * pcE.k)).map (pcE.z.cells[· % pcE.z.cells.size]!)) [(0, .agg (pcE.cells y).toArray)] = some (pcE.cells y).toArray := by
  obtain ⟨ps, pz⟩ := y
  kernel_rfl
theorem gw_belowM {p : Nat} {w w1 w2 : World} (h : Gw p w w1) (hb : Below w.heap.size w1 w2) : Gw p w w2 := ⟨hb.os.trans h.os, hb.tape.trans h.tape, hb.output.trans h.output, Nat.le_trans h.size hb.size, fun k hk hn => (hb.block k hk).trans (h.block k hk hn)⟩
theorem RP.putM' {w w' : World} {p g : Nat} {t : TypeId} {l : List UInt8} {e : Int} {L : List Value} (h : RP w p l e) (hpg : p ≠ g) (hq : Row w g t L) (hnb : NoB L) (hu : Upd w w' g) : RP w' p l e := by
  obtain ⟨a, cap, hh, hr⟩ := h.ex
  exact ⟨⟨a, cap, by rw [hu.block p hpg]; exact hh, hr.upd' hu (hr.apart hq (fun x hx => hnb x (by simpa using hx)))⟩, h.small, h.hnone⟩
theorem LsN.own_neM {α : Type} {E : El α} {w : World} {base g : Nat} {v : Value} {L : List α} {t : TypeId} {C : List Value} (h : LsN E w base v L) (hr : Row w g t C) (ht : E.eT ≠ t) : v.ownBlock ≠ some g := by
  rcases h with ⟨rfl, -⟩ | ⟨b, cap, cur, rfl, -, hh, -⟩
  · simp [Value.ownBlock]
  · intro e
    have : b = g := by simpa [Value.ownBlock] using e
    subst this
    unfold Row at hr
    rw [hh] at hr
    simp at hr
    exact ht hr.2
theorem textR_noneM {most : Int} {l : List UInt8} {e : Int} (h : (textR most l e).2.2 ≠ 0) : (textR most l e).1 = [] := by
  unfold textR at h ⊢
  split
  · rfl
  · rename_i h1
    rw [if_neg h1] at h
    split
    · rfl
    · rename_i h2; rw [if_neg h2] at h; simp at h
theorem textR_sizeM (most : Int) (hm : 0 ≤ most) (l : List UInt8) (e : Int) : ((textR most l e).1.length : Int) ≤ most := by
  by_cases he : e = 0
  · subst he
    by_cases h0 : (textR most l 0).2.2 = 0
    · exact (text_back most l h0).2
    · rw [textR_noneM h0]; simpa using hm
  · have h1 : (textR most l e).1 = [] := by unfold textR; rw [numR_err he]; dsimp only; rw [if_pos he]
    rw [h1]; simpa using hm
theorem numR_leM (most : Int) (hm : 0 ≤ most) (l : List UInt8) (e : Int) : ((numR most l e).1 : Int) ≤ most := by
  by_cases he : e = 0
  · subst he
    by_cases h0 : (numR most l 0).2.2 = 0
    · exact (num_back most l h0).2
    · have : (numR most l 0).1 = 0 := by
        unfold numR at h0 ⊢
        repeat' split
        all_goals first | rfl | (simp_all)
      rw [this]; simpa using hm
  · rw [numR_err he]; simpa using hm
theorem str_sizeM (l : List UInt8) : (str l).size = l.length := by
  show (List.toArray l).size = _
  rw [List.size_toArray]
/-- a piece as it is read -/
def rdPc (l : List UInt8) (e : Int) : Pc × List UInt8 × Int :=
  let t := textR 32 l e; let n := numR 256 t.2.1 t.2.2
  if pokM ⟨str t.1, (n.1 : Int)⟩ = true then (⟨str t.1, (n.1 : Int)⟩, n.2.1, n.2.2) else (⟨str t.1, (n.1 : Int)⟩, failL n.2.1 n.2.2 3, failE n.2.2 3)
def rdPcs : Nat → List UInt8 → Int → List Pc × List UInt8 × Int
  | 0, l, e => ([], l, e)
  | n + 1, l, e => ((rdPcs n l e).1 ++ [(rdPc (rdPcs n l e).2.1 (rdPcs n l e).2.2).1], (rdPc (rdPcs n l e).2.1 (rdPcs n l e).2.2).2)
/-- what lists.Read gives: none behind an error -/
def lsLm {α : Type} (q : List α × List UInt8 × Int) : List α := if q.2.2 = 0 then q.1 else []
def rdPL (l : List UInt8) (e : Int) : List Pc × List UInt8 × Int := let k := numR 8 l e; (lsLm (rdPcs k.1 k.2.1 k.2.2), (rdPcs k.1 k.2.1 k.2.2).2)
theorem rdPc_fst (l : List UInt8) (e : Int) : (rdPc l e).1 = ⟨str (textR 32 l e).1, ((numR 256 (textR 32 l e).2.1 (textR 32 l e).2.2).1 : Int)⟩ := by unfold rdPc; dsimp only; split <;> rfl
theorem rdPc_fit (l : List UInt8) (e : Int) : (rdPc l e).1.fit := by
  rw [rdPc_fst]
  have h1 := textR_sizeM 32 (by decide) l e
  have h2 := numR_lt 256 (textR 32 l e).2.1 (textR 32 l e).2.2
  refine ⟨?_, ⟨by dsimp only; omega, h2⟩⟩
  dsimp only
  rw [str_sizeM]; unfold maxLen; omega
theorem rdPc_sum (l : List UInt8) (e : Int) : (rdPc l e).1.sum.size ≤ 32 := by
  rw [rdPc_fst]
  have h1 := textR_sizeM 32 (by decide) l e
  dsimp only
  rw [str_sizeM]; omega
theorem rdPcs_mem (P : Pc → Prop) (h : ∀ l e, P (rdPc l e).1) (l : List UInt8) (e : Int) : ∀ n, ∀ s ∈ (rdPcs n l e).1, P s
  | 0, s, hs => by simp [rdPcs] at hs
  | n + 1, s, hs => by
    simp only [rdPcs, List.mem_append, List.mem_singleton] at hs
    rcases hs with hs | rfl
    · exact rdPcs_mem P h l e n s hs
    · exact h _ _
theorem rdPcs_fit (l : List UInt8) (e : Int) : ∀ n, ∀ s ∈ (rdPcs n l e).1, s.fit := rdPcs_mem Pc.fit rdPc_fit l e
theorem rdPcs_len (l : List UInt8) (e : Int) : ∀ n, (rdPcs n l e).1.length = n
  | 0 => rfl
  | n + 1 => by simp [rdPcs, rdPcs_len l e n]
theorem rdPL_mem (P : Pc → Prop) (h : ∀ l e, P (rdPc l e).1) (l : List UInt8) (e : Int) : ∀ s ∈ (rdPL l e).1, P s := by
  intro s hs
  unfold rdPL lsLm at hs
  dsimp only at hs
  split at hs
  · exact rdPcs_mem P h _ _ _ s hs
  · cases hs
theorem rdPL_len (l : List UInt8) (e : Int) : (rdPL l e).1.length ≤ 8 := by
  have := numR_leM 8 (by decide) l e
  unfold rdPL lsLm
  dsimp only
  split
  · rw [rdPcs_len]; omega
  · simp
theorem pbuiltPc (s : ByteArray) (a : Int) : Tryz.prog.built 47 [(0, .string s), (1, .int .i64 a)] = some (Pc.cells ⟨s, a⟩).toArray := by kernel_rfl
set_option maxRecDepth 100000 in
set_option maxHeartbeats 8000000 in
theorem preadpiece (p : Nat) (l : List UInt8) (e : Int) (w : World) (h : RP w p l e) :
    Calls Tryz.prog 40 #[.pointer (some ⟨p, 0, none⟩)] w fun x w' => x = .returned (.agg (rdPc l e).1.cells.toArray) ∧ RP w' p (rdPc l e).2.1 (rdPc l e).2.2 ∧ Gw p w w' := by
  have H := Lib.hid h
  have HSZ := Lib.hid pc_size
  have MZ := Lib.hid pc_zero
  have hpl := h.lt
  have hfit := rdPc_fit l e
  rw [rdPc_fst] at hfit
  have hrd : rdPc l e = rdPc l e := rfl
  conv at hrd => rhs; unfold rdPc
  obtain ⟨tx, l1, e1, hq1⟩ : ∃ x y z, textR 32 l e = (x, y, z) := ⟨_, _, _, rfl⟩
  simp only [hq1] at hrd hfit
  obtain ⟨n, l2, e2, hq2⟩ : ∃ x y z, numR 256 l1 e1 = (x, y, z) := ⟨_, _, _, rfl⟩
  simp only [hq2] at hrd hfit
  have HPK := Lib.hid (fun w => ppiece ⟨str tx, (n : Int)⟩ w hfit)
  obtain ⟨ok, hok⟩ : ∃ b, pokM ⟨str tx, (n : Int)⟩ = b := ⟨_, rfl⟩
  rw [hok] at HPK hrd
  rw [hrd]
  have HQ1 := Lib.hid hq1
  have HQ2 := Lib.hid hq2
  clear h hrd hq1 hq2 hfit hok
  cases ok
  · rw [if_neg (by decide)]
    dsimp only
    go_enter Tryz.func40, Tryz.ntmps40
    go_wp2_with (first
      | ((with_reducible refine alloc_row (o := ⟨some 2, _, _, _, _, _⟩) rfl _ rfl _ MZ.out ?_); intro w1 hr hb hz; have R1 := Lib.hid hr; have P1 := Lib.hid (H.out.mono hb); have G1 := Lib.hid (Gw.of_below (g := p) hb); have NP := Lib.hid (show p ≠ w.heap.size by omega); clear hr hb hz)
      | (go_at_call 62; (with_reducible refine (ptextR p 32 l e w1 P1.out).mono ?_); rw [HQ1.out]; rintro x w2 ⟨rfl, hP, hu⟩; have P2 := Lib.hid hP; have R2 := Lib.hid (R1.out.upd hu NP.out.symm); have G2 := Lib.hid (G1.out.trans (Gw.upd hu)); clear hP hu)
      | (go_at_call 61; (with_reducible refine (pnumR p 256 l1 e1 w2 P2.out).mono ?_); rw [HQ2.out]; rintro x w3 ⟨rfl, hP, hu⟩; have P3 := Lib.hid hP; have R3 := Lib.hid (R2.out.upd hu NP.out.symm); have G3 := Lib.hid (G2.out.trans (Gw.upd hu)); clear hP hu)
      | ((with_reducible refine build_row (o := ⟨some 8, _, _, _, _, _⟩) rfl _ _ rfl (Pc.cells ⟨str tx, (n : Int)⟩) ?_ ?_); (focus (go_simp; exact pbuiltPc _ _)))
      | ((with_reducible refine alloc_row (o := ⟨some 3, _, _, _, _, _⟩) rfl _ rfl _ MZ.out ?_); intro w4 hr hb hz; have T4 := Lib.hid hr; have P4 := Lib.hid (P3.out.mono hb); have R4 := Lib.hid (R3.out.below hb R3.out.lt); have G4 := Lib.hid (G3.out.trans (Gw.of_below hb)); have PT := Lib.hid (Nat.ne_of_lt P3.out.lt); have RT := Lib.hid (Nat.ne_of_lt R3.out.lt); clear hr hb hz)
      | ((with_reducible refine store_row (o := ⟨none, _, _, _, _, _⟩) rfl _ (.tmp 3) _ rfl w3.heap.size (Pc.cells ⟨str tx, (n : Int)⟩) ?_ ?_ 47 _ T4.out ?_ ?_ ?_ ?_); (focus go_simp); (focus (first | (go_simp; done) | (go_simp; rfl))); (focus (exact HSZ.out)); (focus rfl); (focus (exact pc_one _)); intro w5 hr hu; have T5 := Lib.hid hr; have P5 := Lib.hid (P4.out.putM' PT.out T4.out (nob_pc pcZ) hu); have R5 := Lib.hid (R4.out.upd hu RT.out); have G5 := Lib.hid (G4.out.tail G3.out.size hu); clear hr hu)
      | ((with_reducible refine load_row (o := ⟨some 9, _, _, _, _, _⟩) rfl _ _ rfl w3.heap.size ?_ _ (Pc.cells ⟨str tx, (n : Int)⟩) _ T5.out Tryz.underlying47 rfl ?_ ?_); (focus go_simp); (focus (exact HSZ.out)))
      | (go_at_call 66; (with_reducible refine (HPK.out w5).mono ?_); rintro x w6 ⟨rfl, hb⟩; have T6 := Lib.hid (T5.out.below hb T5.out.lt); have P6 := Lib.hid (P5.out.mono hb); have R6 := Lib.hid (R5.out.below hb R5.out.lt); have G6 := Lib.hid (G5.out.trans (Gw.of_below hb)); clear hb)
      | (go_at_call 34; (with_reducible refine (pfail p l2 e2 3 w6 P6.out).mono ?_); rintro x w7 ⟨rfl, hP, hu⟩; have P7 := Lib.hid hP; have T7 := Lib.hid (T6.out.upd hu PT.out.symm); have R7 := Lib.hid (R6.out.upd hu NP.out.symm); have G7 := Lib.hid (G6.out.trans (Gw.upd hu)); clear hP hu)
      | ((with_reducible refine load_row (o := ⟨some 14, _, _, _, _, _⟩) rfl _ _ rfl w3.heap.size ?_ _ (Pc.cells ⟨str tx, (n : Int)⟩) _ T7.out Tryz.underlying47 rfl ?_ ?_); (focus go_simp); (focus (exact HSZ.out)))
      | ((with_reducible refine store_row (o := ⟨none, _, _, _, _, _⟩) rfl _ (.tmp 2) _ rfl w.heap.size (Pc.cells ⟨str tx, (n : Int)⟩) ?_ ?_ 47 _ R7.out ?_ ?_ ?_ ?_); (focus go_simp); (focus (first | (go_simp; done) | (go_simp; rfl))); (focus (exact HSZ.out)); (focus rfl); (focus (exact pc_one _)); intro w8 hr hu; have R8 := Lib.hid hr; have P8 := Lib.hid (P7.out.putM' NP.out R7.out (nob_pc pcZ) hu); have G8 := Lib.hid (G7.out.tail (Nat.le_refl _) hu); clear hr hu))
    exact bodyPost_ret (results_cell_row rfl _ _ w.heap.size 47 _ _ _ (by go_simp) R8.out Tryz.underlying47 rfl HSZ.out) rfl ⟨rfl, P8.out, G8.out⟩
  · rw [if_pos rfl]
    dsimp only
    go_enter Tryz.func40, Tryz.ntmps40
    go_wp2_with (first
      | ((with_reducible refine alloc_row (o := ⟨some 2, _, _, _, _, _⟩) rfl _ rfl _ MZ.out ?_); intro w1 hr hb hz; have R1 := Lib.hid hr; have P1 := Lib.hid (H.out.mono hb); have G1 := Lib.hid (Gw.of_below (g := p) hb); have NP := Lib.hid (show p ≠ w.heap.size by omega); clear hr hb hz)
      | (go_at_call 62; (with_reducible refine (ptextR p 32 l e w1 P1.out).mono ?_); rw [HQ1.out]; rintro x w2 ⟨rfl, hP, hu⟩; have P2 := Lib.hid hP; have R2 := Lib.hid (R1.out.upd hu NP.out.symm); have G2 := Lib.hid (G1.out.trans (Gw.upd hu)); clear hP hu)
      | (go_at_call 61; (with_reducible refine (pnumR p 256 l1 e1 w2 P2.out).mono ?_); rw [HQ2.out]; rintro x w3 ⟨rfl, hP, hu⟩; have P3 := Lib.hid hP; have R3 := Lib.hid (R2.out.upd hu NP.out.symm); have G3 := Lib.hid (G2.out.trans (Gw.upd hu)); clear hP hu)
      | ((with_reducible refine build_row (o := ⟨some 8, _, _, _, _, _⟩) rfl _ _ rfl (Pc.cells ⟨str tx, (n : Int)⟩) ?_ ?_); (focus (go_simp; exact pbuiltPc _ _)))
      | ((with_reducible refine alloc_row (o := ⟨some 3, _, _, _, _, _⟩) rfl _ rfl _ MZ.out ?_); intro w4 hr hb hz; have T4 := Lib.hid hr; have P4 := Lib.hid (P3.out.mono hb); have R4 := Lib.hid (R3.out.below hb R3.out.lt); have G4 := Lib.hid (G3.out.trans (Gw.of_below hb)); have PT := Lib.hid (Nat.ne_of_lt P3.out.lt); have RT := Lib.hid (Nat.ne_of_lt R3.out.lt); clear hr hb hz)
      | ((with_reducible refine store_row (o := ⟨none, _, _, _, _, _⟩) rfl _ (.tmp 3) _ rfl w3.heap.size (Pc.cells ⟨str tx, (n : Int)⟩) ?_ ?_ 47 _ T4.out ?_ ?_ ?_ ?_); (focus go_simp); (focus (first | (go_simp; done) | (go_simp; rfl))); (focus (exact HSZ.out)); (focus rfl); (focus (exact pc_one _)); intro w5 hr hu; have T5 := Lib.hid hr; have P5 := Lib.hid (P4.out.putM' PT.out T4.out (nob_pc pcZ) hu); have R5 := Lib.hid (R4.out.upd hu RT.out); have G5 := Lib.hid (G4.out.tail G3.out.size hu); clear hr hu)
      | ((with_reducible refine load_row (o := ⟨some 9, _, _, _, _, _⟩) rfl _ _ rfl w3.heap.size ?_ _ (Pc.cells ⟨str tx, (n : Int)⟩) _ T5.out Tryz.underlying47 rfl ?_ ?_); (focus go_simp); (focus (exact HSZ.out)))
      | (go_at_call 66; (with_reducible refine (HPK.out w5).mono ?_); rintro x w6 ⟨rfl, hb⟩; have T6 := Lib.hid (T5.out.below hb T5.out.lt); have P6 := Lib.hid (P5.out.mono hb); have R6 := Lib.hid (R5.out.below hb R5.out.lt); have G6 := Lib.hid (G5.out.trans (Gw.of_below hb)); clear hb)
      | ((with_reducible refine load_row (o := ⟨some 14, _, _, _, _, _⟩) rfl _ _ rfl w3.heap.size ?_ _ (Pc.cells ⟨str tx, (n : Int)⟩) _ T6.out Tryz.underlying47 rfl ?_ ?_); (focus go_simp); (focus (exact HSZ.out)))
      | ((with_reducible refine store_row (o := ⟨none, _, _, _, _, _⟩) rfl _ (.tmp 2) _ rfl w.heap.size (Pc.cells ⟨str tx, (n : Int)⟩) ?_ ?_ 47 _ R6.out ?_ ?_ ?_ ?_); (focus go_simp); (focus (first | (go_simp; done) | (go_simp; rfl))); (focus (exact HSZ.out)); (focus rfl); (focus (exact pc_one _)); intro w8 hr hu; have R8 := Lib.hid hr; have P8 := Lib.hid (P6.out.putM' NP.out R6.out (nob_pc pcZ) hu); have G8 := Lib.hid (G6.out.tail (Nat.le_refl _) hu); clear hr hu))
    exact bodyPost_ret (results_cell_row rfl _ _ w.heap.size 47 _ _ _ (by go_simp) R8.out Tryz.underlying47 rfl HSZ.out) rfl ⟨rfl, P8.out, G8.out⟩
set_option maxRecDepth 100000 in
set_option maxHeartbeats 16000000 in
theorem plsreadp (p : Nat) (l : List UInt8) (e : Int) (w : World) (h : RP w p l e) (n : Nat) (l1 : List UInt8) (e1 : Int) (hq : numR 8 l e = (n, l1, e1)) (hn : n ≤ 8) :
    Calls Tryz.prog 39 #[.pointer (some ⟨p, 0, none⟩), .int .i64 8, .func (.func 40) #[] #[]] w fun x w' => ∃ a m c, x = .returned (.slice a m c) ∧ (lsLm (rdPcs n l1 e1)).length = m ∧ LsN pcE w' w.heap.size (.slice a m c) (lsLm (rdPcs n l1 e1)) ∧ RP w' p (rdPcs n l1 e1).2.1 (rdPcs n l1 e1).2.2 ∧ Gw p w w' := by
  have H := Lib.hid h
  have HQ := Lib.hid hq
  have HSZ := Lib.hid pc_size
  obtain ⟨Z, hZ⟩ : ∃ Z, rdPcs n l1 e1 = Z := ⟨_, rfl⟩
  rw [hZ]
  have HZ := Lib.hid hZ
  clear h hq hZ
  go_enter Tryz.func39, Tryz.ntmps39
  go_wp2_with (first
    | (go_at_call 61; (with_reducible refine (pnumR p 8 l e w H.out).mono ?_); rw [HQ.out]; rintro x w1 ⟨rfl, hP, hu⟩; have P1 := Lib.hid hP; have G1 := Lib.hid (Gw.upd hu); clear hP hu))
  go_loopw [7, 11] (fun v i wr => ∃ (k : Nat) (Lk : List Pc) (lk : List UInt8) (ek : Int) (ad : Option Addr) (m cc : Nat), v = .slice ad m cc ∧ i = .int .i64 (k : Int) ∧ k ≤ n ∧ Lk.length = m ∧ Hid (rdPcs k l1 e1 = (Lk, lk, ek)) ∧ Hid (LsN pcE wr w.heap.size (.slice ad m cc) Lk) ∧ Hid (RP wr p lk ek) ∧ Hid (Gw p w wr)) (fun _ i _ => n - (intOf i).toNat)
  case atStart => exact ⟨0, [], l1, e1, none, 0, 0, rfl, rfl, Nat.zero_le _, rfl, Lib.hid rfl, Lib.hid (LsN.nil _ _), P1, G1⟩
  case round =>
    obtain ⟨k, Lk, lk, ek, ad, m, cc, rfl, rfl, hk, hlm, HK, N, P, G⟩ := hrel
    have HLM := Lib.hid hlm
    have hmk : m ≤ 8 := by have := rdPcs_len l1 e1 k; rw [HK.out] at this; dsimp only at this; omega
    clear hlm
    by_cases hlt : k < n
    · obtain ⟨s, lx, ex, hrd⟩ : ∃ x y z, rdPc lk ek = (x, y, z) := ⟨_, _, _, rfl⟩
      have hft := rdPc_fit lk ek
      rw [hrd] at hft
      have HRH := Lib.hid (preadpiece p lk ek wr P.out)
      rw [hrd] at HRH
      have FT := Lib.hid hft
      have HK2 := Lib.hid (show rdPcs (k + 1) l1 e1 = (Lk ++ [s], lx, ex) by simp only [rdPcs]; rw [HK.out]; dsimp only; rw [hrd])
      have g2 : (k : Int) < (n : Int) := by omega
      clear hrd hft
      go_wp2_with (first
        | (go_at_call 40; (with_reducible refine HRH.out.mono ?_); rintro x w3 ⟨rfl, hP, hu⟩; have P3 := Lib.hid hP; have N3 := Lib.hid (LsN.rp pcNb N.out P.out hu); have G3 := Lib.hid (G.out.trans hu); clear hP hu)
        | ((with_reducible refine build_ls pcOk pc_fill (o := ⟨some 17, _, _, _, _, _⟩) rfl _ rfl s ?_ ?_ (by decide) ?_); (focus (first | (go_simp; done) | (go_simp; rfl))); (focus (exact FT.out)); intro w4 hl hb hz; have Q4 := Lib.hid hl; have P4 := Lib.hid (P3.out.mono hb); have N4 := Lib.hid (N3.out.kept hb); have G4 := Lib.hid (G3.out.trans (Gw.of_below hb)); clear hl hb hz)
        | (at_builtin; (with_reducible refine append_lsn pcOk pcNb rfl _ _ rfl w.heap.size (.slice ad m cc) Lk ?_ N4.out _ 0 1 1 [s] ?_ Q4.out (by decide) ?_ G4.out.size ?_); (focus (first | (go_simp; done) | (go_simp; rfl))); (focus (first | (go_simp; done) | (go_simp; rfl))); (focus (rw [HLM.out]; omega)); intro v5 w5 hN hb hg; have P5 := Lib.hid (RP.ownL pcNb P4.out N4.out hg); have G5 := Lib.hid (gw_belowM G4.out hb); obtain ⟨m5, hm5⟩ : ∃ q, (Lk ++ [s]).length = q := ⟨_, rfl⟩; obtain ⟨a5, c5, hv5, -, -⟩ := (hN.lso pcOk).ls pcOk (fun x hx => by (have := rdPcs_fit l1 e1 (k + 1)); rw [HK2.out] at this; exact this x hx); rw [hm5] at hv5; subst hv5; have N5 := Lib.hid hN; have M5 := Lib.hid hm5; clear hN hb hg hm5))
      go_roundw
      case rel => exact ⟨k + 1, _, lx, ex, a5, m5, c5, rfl, vint (by omega), by omega, M5.out, HK2, N5, P5, G5⟩
      case measure => simp [intOf]; omega
    · obtain rfl : n = k := by omega
      have hZ := HZ.out
      rw [HK.out] at hZ
      by_cases hek : ek = 0
      · subst hek
        have HLS := Lib.hid (show lsLm Z = Lk by rw [← hZ]; unfold lsLm; rw [if_pos rfl])
        have HZ2 := Lib.hid (show Z.2 = (lk, 0) by rw [← hZ])
        clear hZ
        go_wp2_with (first
          | (go_at_call 13; (with_reducible refine (perr p lk 0 wr P.out).mono ?_); rintro x w' ⟨rfl, rfl⟩))
        go_ret
        exact ⟨ad, m, cc, rfl, by rw [HLS.out]; exact HLM.out, by rw [HLS.out]; exact N.out, by rw [HZ2.out]; exact P.out, G.out⟩
      · have hq : (ek == 0) = false := by simpa using hek
        have hq2 : (ek != 0) = true := by simpa using hek
        have HLS := Lib.hid (show lsLm Z = [] by rw [← hZ]; unfold lsLm; dsimp only; rw [if_neg hek])
        have HZ2 := Lib.hid (show Z.2 = (lk, ek) by rw [← hZ])
        clear hZ
        go_wp2_with (first
          | (go_at_call 13; (with_reducible refine (perr p lk ek wr P.out).mono ?_); rintro x w' ⟨rfl, rfl⟩))
        go_ret
        exact ⟨none, 0, 0, rfl, by rw [HLS.out]; rfl, by rw [HLS.out]; exact LsN.nil _ _, by rw [HZ2.out]; exact P.out, G.out⟩
set_option maxRecDepth 100000 in
theorem preadps (p : Nat) (l : List UInt8) (e : Int) (w : World) (h : RP w p l e) :
    Calls Tryz.prog 10 #[.pointer (some ⟨p, 0, none⟩)] w fun x w' => ∃ a m c, x = .returned (.slice a m c) ∧ (rdPL l e).1.length = m ∧ LsN pcE w' w.heap.size (.slice a m c) (rdPL l e).1 ∧ RP w' p (rdPL l e).2.1 (rdPL l e).2.2 ∧ Gw p w w' := by
  have hn := numR_leM 8 (by decide) l e
  obtain ⟨n, l1, e1, hq⟩ : ∃ x y z, numR 8 l e = (x, y, z) := ⟨_, _, _, rfl⟩
  have hpl : rdPL l e = (lsLm (rdPcs n l1 e1), (rdPcs n l1 e1).2) := by unfold rdPL; simp only [hq]
  rw [hq] at hn
  have HP := Lib.hid (plsreadp p l e w h n l1 e1 hq (by dsimp only at hn; omega))
  rw [hpl]
  clear h hpl hq hn
  go_enter Tryz.func10, Tryz.ntmps10
  go_wp2_with (first
    | (go_at_call 39; (with_reducible refine HP.out.mono ?_); rintro x w1 ⟨a1, m1, c1, rfl, h1, h2, h3, h4⟩; have H1 := Lib.hid h1; have H2 := Lib.hid h2; have H3 := Lib.hid h3; have H4 := Lib.hid h4; clear h1 h2 h3 h4))
  go_ret
  exact ⟨_, _, _, rfl, H1.out, H2.out, H3.out, H4.out⟩
theorem str_dataM (s : ByteArray) : str s.data.toList = s := by
  obtain ⟨⟨l⟩⟩ := s
  rfl
theorem pokM_iff {p : Pc} : pokM p = true ↔ p.sum.size = 32 ∧ 1 ≤ p.size ∧ p.size ≤ 256 := by
  unfold pokM
  rw [Bool.and_eq_true, decide_eq_true_eq, in64_iff]
theorem rdPc_put {p : Pc} (h : pokM p = true) (t : List UInt8) : rdPc (codeP p ++ t) 0 = (p, t, 0) := by
  have h0 := h
  obtain ⟨h1, h2, h3⟩ := pokM_iff.1 h
  have a1 := text_enc 32 p.sum (enc p.size.toNat ++ t) (by omega) (by omega)
  have a2 := num_enc 256 p.size.toNat t (by omega) (by omega)
  have e1 : codeP p ++ t = enc p.sum.size ++ (p.sum.data.toList ++ (enc p.size.toNat ++ t)) := by unfold codeP; simp
  unfold rdPc
  rw [e1]
  simp only [a1, a2]
  rw [str_dataM, show ((p.size.toNat : Nat) : Int) = p.size by omega, if_pos h0]
theorem rdPcs_put (L : List Pc) (hL : L.all pokM = true) (t : List UInt8) : ∀ n, n ≤ L.length → rdPcs n (L.flatMap codeP ++ t) 0 = (L.take n, (L.drop n).flatMap codeP ++ t, 0)
  | 0, _ => by simp [rdPcs]
  | n + 1, hn => by
    have ih := rdPcs_put L hL t n (by omega)
    have hlt : n < L.length := by omega
    have hd : L.drop n = L[n] :: L.drop (n + 1) := List.drop_eq_getElem_cons hlt
    simp only [rdPcs]
    rw [ih]
    dsimp only
    rw [hd, List.flatMap_cons, List.append_assoc, rdPc_put (List.all_eq_true.1 hL _ (List.getElem_mem hlt))]
    rw [List.take_succ_eq_append_getElem hlt]
theorem rdPL_put (L : List Pc) (hL : L.all pokM = true) (h8 : L.length ≤ 8) (t : List UInt8) : rdPL (enc L.length ++ (L.flatMap codeP ++ t)) 0 = (L, t, 0) := by
  have a1 := num_enc 8 L.length (L.flatMap codeP ++ t) (by omega) (by omega)
  have a2 := rdPcs_put L hL t L.length (Nat.le_refl _)
  rw [List.take_of_length_le (Nat.le_refl _), List.drop_of_length_le (Nat.le_refl _)] at a2
  simp only [List.flatMap_nil, List.nil_append] at a2
  unfold rdPL
  simp only [a1, a2]
  unfold lsLm
  rw [if_pos rfl]
end Go.Proofs.YtjolmjbhpokgmaaGreat.W
