/- LAYER 16 (msg): what the program's calls promise; awake of the law. -/
import Derived.Test.YtdcioeoofngibaaMsF
import Derived.Test.YtdcioeoofngibaaMsK
import Derived.Test.YtdcioeoofngibaaLg
import Derived.Lib.SlBytesConst
set_option linter.unusedSimpArgs false
set_option linter.unusedVariables false
namespace Go.Proofs.Ytdcioeoofngibaa.W
open Go Go.ChangeShapes Go.WideShapes Go.ChangeAt Go.RowKit
open Go.Proofs.Ytdcioeoofngibaa.P (enc dec)

def encMV (q : MF) : List UInt8 := if q.chk = 0 then encM q else []
abbrev MsCheckP (f : FuncId) : Prop := ∀ (m : Ms) (d : List UInt8) (L : List (En × List UInt8)) (w : World), MsF w m d L → fewMV m L = true → Calls Try.prog f #[.agg m.cells.toArray] w fun x w' => x = .returned (.int .i64 (m.pl d L).chk) ∧ Below w.heap.size w w'
abbrev MsSameP (f : FuncId) : Prop := ∀ (m m' : Ms) (d d' : List UInt8) (L L' : List (En × List UInt8)) (w : World), MsF w m d L → MsF w m' d' L' → m.en ≤ 1000000 → m'.en ≤ 1000000 → Calls Try.prog f #[.agg m.cells.toArray, .agg m'.cells.toArray] w fun x w' => x = .returned (.bool ((m.pl d L).same (m'.pl d' L'))) ∧ Below w.heap.size w w'
abbrev MsAllP (f : FuncId) : Prop := ∀ (a a' : Option Addr) (n c n' c' : Nat) (L M : List Mt) (w : World), Mss w a n L → Mss w a' n' M → ∀ V : Bool, (V = true ↔ sameL L M) → Calls Try.prog f #[.slice a n c, .slice a' n' c'] w fun x w' => x = .returned (.bool V) ∧ Below w.heap.size w w'
abbrev MsEncP (f : FuncId) : Prop := ∀ (m : Ms) (d : List UInt8) (L : List (En × List UInt8)) (w : World), MsF w m d L → fewMV m L = true → Calls Try.prog f #[.agg m.cells.toArray] w fun x w' => ∃ a n c, x = .returned (.tuple #[.slice a n c, .int .i64 (m.pl d L).chk]) ∧ Rd w' a n c (encMV (m.pl d L)) ∧ Below w.heap.size w w'
/-- what reading answers: there and back (which error it answers is not asked here) -/
structure DecOK (D : List UInt8 → MF × Int) : Prop where
  there : ∀ m : MF, m.chk = 0 → D (encM m) = (m, 0)
  back : ∀ b m, D b = (m, 0) → m.chk = 0 ∧ encM m = b
abbrev MsDecP (f : FuncId) (D : List UInt8 → MF × Int) : Prop := ∀ (a : Option Addr) (n c : Nat) (b : List UInt8) (w : World), Rd w a n c b → n ≤ 1000000 → Calls Try.prog f #[.slice a n c] w fun x w' => ∃ m d L, x = .returned (.tuple #[.agg (Ms.cells m).toArray, .int .i64 (D b).2]) ∧ MsF w' m d L ∧ m.pl d L = (D b).1 ∧ Below w.heap.size w w'
theorem encZ9 (n : Int) (h : n ≤ 9223372036854775807) : (encZ n).length ≤ 9 := P.enc_len n.toNat (by omega)
theorem chk01M (q : MF) : q.chk = 0 ∨ q.chk = 1 := by unfold MF.chk; split <;> simp
theorem sumlen {m : MF} (h : MFits m) (f : Nat) (hf : f < 9) : (putM m f).length ≤ 140000 := by
  rcases (show f = 0 ∨ f = 1 ∨ f = 2 ∨ f = 3 ∨ f = 4 ∨ f = 5 ∨ f = 6 ∨ f = 7 ∨ f = 8 by omega) with rfl | rfl | rfl | rfl | rfl | rfl | rfl | rfl | rfl
  · have := h.ix; have := encZ9 m.ix (by omega); simp [putM]; omega
  · have := h.lt; have := encZ9 m.lt (by omega); simp [putM]; omega
  · have := h.cm; have := encZ9 m.cm (by omega); simp [putM]; omega
  · have := h.rn; have := encZ9 m.rn (by omega); simp [putM]; omega
  · have := h.cf; have := encZ9 m.cf (by omega); simp [putM]; omega
  · simp [putM]
  · have h1 := h.l
    have h2 := P.enc_len m.l.length (by omega)
    have h3 : ∀ L : List EP, (∀ x ∈ L, okE x = true) → (L.flatMap codeP).length ≤ L.length * 4132 := by
      intro L
      induction L with
      | nil => intro _; simp
      | cons x L ih =>
        intro hx
        obtain ⟨q1, q2, q3, q4⟩ := okE_facts (hx x (by simp))
        have i1 := ih (fun y hy => hx y (by simp [hy]))
        have e1 := encZ9 x.1 (by omega)
        have e2 := encZ9 x.2.1 (by omega)
        have e3 := encZ9 x.2.2.1 (by omega)
        have e4 := P.enc_len x.2.2.2.length (by omega)
        have hc : (codeP x).length ≤ 4132 := by
          unfold codeP
          simp only [List.length_append]
          omega
        rw [List.flatMap_cons, List.length_append, List.length_cons]
        omega
    have h4 := h3 m.l h.es
    simp [putM]
    simp at h4
    omega
  · have h1 := h.d; have h2 := P.enc_len m.d.length (by omega); simp [putM]; omega
  · have h1 := h.s; have h2 := P.enc_len m.s.length (by omega); simp [putM]; omega
theorem encM_len {m : MF} (h : m.chk = 0) : (encM m).length ≤ 1000000 := by
  have hf := MF.facts (chk_zero h).1
  have h1 : ∀ fs : List Nat, (∀ f ∈ fs, f < 9) → (fs.flatMap (putM m)).length ≤ fs.length * 140000 := by
    intro fs
    induction fs with
    | nil => intro _; simp
    | cons f fs ih =>
      intro hx
      have := ih (fun y hy => hx y (by simp [hy]))
      have := sumlen hf f (hx f (by simp))
      rw [List.flatMap_cons, List.length_append, List.length_cons]
      omega
  have h2 := h1 _ (fields_lt9 m.k)
  have h3 := fields_len m.k
  have := hf.k; have := hf.fr; have := hf.dt; have := hf.tm
  have e1 := encZ9 m.k (by omega)
  have e2 := encZ9 m.fr (by omega)
  have e3 := encZ9 m.dt (by omega)
  have e4 := encZ9 m.tm (by omega)
  unfold encM
  simp only [List.length_append]
  omega
theorem encMV_len (m : MF) : (encMV m).length ≤ 1000000 := by
  unfold encMV
  split
  · rename_i h; exact encM_len h
  · simp
/-- what was read and may be is small -/
theorem few_of {w : World} {m : Ms} {d : List UInt8} {L : List (En × List UInt8)} (h : MsF w m d L) (hc : (m.pl d L).chk = 0) : fewMV m L = true := by
  have hf := MF.facts (chk_zero hc).1
  have h1 := hf.d
  have h2 := hf.s
  have h3 := hf.l
  have h4 := h.rd.hlen
  unfold Ms.pl at h1 h2 h3
  dsimp only at h1 h2 h3
  have h5 : m.s.data.toList.length = m.s.size := rfl
  rw [List.length_map] at h3
  unfold fewMV
  rw [decide_eq_true (by omega), decide_eq_true (by omega), decide_eq_true (by omega), Bool.true_and, Bool.true_and, Bool.true_and, List.all_eq_true]
  intro p hp
  obtain ⟨-, -, -, h6⟩ := okE_facts (hf.es (pe p) (List.mem_map.2 ⟨p, hp, rfl⟩))
  have h7 := (h.es.hfit p hp).rd.hlen
  unfold pe at h6
  dsimp only at h6
  exact decide_eq_true (by omega)
def awM : Ms := ⟨4, 1, 0, 3, 0, 0, 0, 0, 0, true, none, 0, 0, none, 0, 0, ByteArray.empty⟩
theorem awM_fit (w : World) : MsF w awM [] [] := ⟨⟨by decide, by decide⟩, ⟨by decide, by decide⟩, ⟨by decide, by decide⟩, ⟨by decide, by decide⟩, ⟨by decide, by decide⟩, ⟨by decide, by decide⟩, ⟨by decide, by decide⟩, ⟨by decide, by decide⟩, ⟨by decide, by decide⟩, Ents.nil w, Rd_nil w, by decide⟩
theorem built_aw : Try.prog.built 25 [(0, .int .i64 4), (1, .int .i64 1), (2, .int .i64 0), (3, .int .i64 3), (9, .bool true)] = some awM.cells.toArray := by kernel_rfl
theorem chk_aw : (awM.pl [] []).chk = 0 := by decide +kernel
theorem enc_aw : encMV (awM.pl [] []) = [4, 1, 0, 3, 1] := by decide +kernel
theorem few_aw : fewMV awM [] = true := by decide
set_option maxRecDepth 100000 in
set_option maxHeartbeats 8000000 in
theorem awake16 (hE : MsEncP 13) (w : World) : Calls Try.prog 6 #[] w fun e w' => e = .returned (.bool true) ∧ Below w.heap.size w w' := by
  have HE := Lib.hid (hE awM [] [] w (awM_fit w) few_aw)
  rw [chk_aw, enc_aw] at HE
  have kc := fun (w : World) (C : Array Value) (n c : Nat) => Lib.run_convert_bytes_const (P := Try.prog) w 23 5 C n c Try.underlying23 Try.underlying5
  clear hE
  go_enter Try.func6, Try.ntmps6
  go_wp2_with (first
    | ((with_reducible refine build_row (o := ⟨some 4, _, _, _, _, _⟩) rfl _ _ rfl awM.cells ?_ ?_); (focus (go_simp; exact built_aw)))
    | (go_at_call 13; refine HE.out.mono ?_; rintro e w2 ⟨a2, m2, c2, rfl, hr2, hb2⟩; obtain rfl : m2 = 5 := hr2.hlen.symm; have R2 := Lib.hid hr2; have B2 := Lib.hid hb2; clear hr2 hb2)
    | (go_at_call 15; refine (sequal a2 _ 5 5 c2 5 [4, 1, 0, 3, 1] [4, 1, 0, 3, 1] _ (R2.out.mono ((Below.refl _ w2).alloc (Nat.le_refl _) _)) (rd_new w2 [4, 1, 0, 3, 1] _ _ rfl (by decide))).mono ?_; rintro e w3 ⟨rfl, hq3⟩; have B3 := Lib.hid ((B2.out.alloc B2.out.size _).trans (hq3.below w.heap.size)); clear hq3))
  go_ret
  exact ⟨by simp, B3.out⟩
end Go.Proofs.Ytdcioeoofngibaa.W
