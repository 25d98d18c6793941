/- LAYER 28 (chunk): the program's times, with, New, sums, Used, Loose. -/
import Derived.Test.YtkncbckmgcklfaaDoorCkA
import Derived.Test.YtkncbckmgcklfaaDoorBi
set_option linter.unusedSimpArgs false
set_option linter.unusedVariables false
namespace Go.Proofs.YtkncbckmgcklfaaDoor.W
open Go Go.ChangeShapes Go.WideShapes Go.ChangeAt Go.RowKit
open Go.Proofs.YtkncbckmgcklfaaDoor.P (shaL shaL_len)

-- ---- times
theorem timed_eq : ∀ (t : List Int) (x : Int), t.Pairwise (· < ·) → timedL t x = if x ∈ t then t else t.take (t.countP (· < x)) ++ [x] ++ t.drop (t.countP (· < x))
  | [], x, _ => by simp [timedL]
  | y :: r, x, h => by
    obtain ⟨h1, h2⟩ := List.pairwise_cons.1 h
    have ih := timed_eq r x h2
    unfold timedL
    by_cases hxy : x < y
    · have hn : x ∉ y :: r := by
        intro hm
        rcases List.mem_cons.1 hm with e | hm
        · omega
        · have := h1 x hm; omega
      have hc : (y :: r).countP (· < x) = 0 := by
        rw [List.countP_eq_zero]
        intro z hz
        rcases List.mem_cons.1 hz with rfl | hz
        · simp; omega
        · have := h1 z hz; simp; omega
      rw [if_pos hxy, if_neg hn, hc]; rfl
    · by_cases hyx : x = y
      · rw [if_neg hxy, if_pos hyx, if_pos (by rw [hyx]; exact List.mem_cons_self ..)]
      · have hlt : y < x := by omega
        have hc : (y :: r).countP (· < x) = r.countP (· < x) + 1 := by rw [List.countP_cons_of_pos (by simpa using hlt)]
        rw [if_neg hxy, if_neg hyx, ih, hc]
        by_cases hm : x ∈ r
        · rw [if_pos hm, if_pos (List.mem_cons_of_mem _ hm)]
        · rw [if_neg hm, if_neg (fun hm2 => (List.mem_cons.1 hm2).elim hyx hm)]
          rfl
theorem timed_len (t : List Int) (x : Int) : (timedL t x).length ≤ t.length + 1 := by
  induction t with
  | nil => simp [timedL]
  | cons y r ih =>
    unfold timedL
    split
    · simp
    · split
      · simp
      · simp only [List.length_cons]; omega
theorem timed_mem (t : List Int) (x : Int) : ∀ z ∈ timedL t x, z = x ∨ z ∈ t := by
  induction t with
  | nil => intro z hz; simp [timedL] at hz; exact .inl hz
  | cons y r ih =>
    intro z hz
    unfold timedL at hz
    split at hz
    · rcases List.mem_cons.1 hz with h | h
      · exact .inl h
      · exact .inr h
    · split at hz
      · exact .inr hz
      · rcases List.mem_cons.1 hz with h | h
        · exact .inr (by rw [h]; exact List.mem_cons_self ..)
        · rcases ih z h with h | h
          · exact .inl h
          · exact .inr (List.mem_cons_of_mem _ h)
theorem timed_ris : ∀ (t : List Int) (x : Int), t.Pairwise (· < ·) → (timedL t x).Pairwise (· < ·)
  | [], x, _ => by simp [timedL]
  | y :: r, x, h => by
    obtain ⟨h1, h2⟩ := List.pairwise_cons.1 h
    unfold timedL
    split
    · refine List.pairwise_cons.2 ⟨fun z hz => ?_, h⟩
      rcases List.mem_cons.1 hz with rfl | hz
      · assumption
      · have := h1 z hz; omega
    · split
      · exact h
      · refine List.pairwise_cons.2 ⟨fun z hz => ?_, timed_ris r x h2⟩
        rcases timed_mem r x z hz with rfl | hz
        · omega
        · exact h1 z hz
theorem timed_pos (t : List Int) (x : Int) : timedL t x ≠ [] := by
  cases t with
  | nil => simp [timedL]
  | cons y r => unfold timedL; split <;> (try split) <;> simp
theorem bi1r {w : World} {ops : Array Oper} {rest : List Oper} {o : Oper} {a : Act} {Q : Exit → Act → World → Prop} (hgd : o.guard = none) (x0 : Operand)
    (ho : o.op = .buildSlice 48 1 #[(0, x0)]) (v0 : Int) (h0 : a.eval x0 = .int .i64 v0)
    (hk : ∀ w', Row w' w.heap.size 3 [.int .i64 v0] → Below w.heap.size w w' → w'.heap.size = w.heap.size + 1 → wpList Tryd.prog ops Q rest (a.put o.dst (.slice (some ⟨w.heap.size, 0, none⟩) 1 1)) w') : wpList Tryd.prog ops Q (o :: rest) a w := by
  obtain ⟨i0, hi0, hz0, hz1, hz2⟩ := info_parts infoInt19
  refine wpList_buildSlice hgd 48 3 1 _ ho #[.int .i64 v0] i0 _ Tryd.underlying48 hi0 hz0 (by rw [hz1]; decide) (by rw [hz1]; decide) (fill_i1 w o a x0 v0 i0 hz1 h0) ?_
  exact hk _ (Row.new _ _ [.int .i64 v0]) ((Below.refl _ _).alloc (Nat.le_refl _) _) (by simp)
/-- what the call may have changed: but for v's own block nothing that lay in w -/
theorem kp_below {v : Value} {w w' w'' : World} (h : Below w.heap.size w w') (k : Kp v w' w'') : Kp v w w'' := fun g hg hn => (k g (Nat.lt_of_lt_of_le hg h.size) hn).trans (h.block g hg)
set_option maxRecDepth 100000 in
set_option maxHeartbeats 4000000 in
theorem cwith (v : Value) (L : List Int) (x : Int) (w : World) (hv : LsO intE w 0 v L) (hf : ∀ z ∈ L, SI64 z) (hx : SI64 x) (hs : L.Pairwise (· < ·)) (hn : L.length ≤ 900) :
    Calls Tryd.prog 25 #[v, .int .i64 x] w fun e w' => ∃ v', e = .returned v' ∧ LsO intE w' 0 v' (timedL L x) ∧ (∀ g, v'.ownBlock = some g → v.ownBlock = some g ∨ w.heap.size ≤ g) ∧ Below 0 w w' ∧ Kp v w w' := by
  have HV := Lib.hid hv
  obtain ⟨a, c, ev, hl, -⟩ := hv.ls intOk hf
  have hsl := hl.sl
  have hcl : L.countP (· < x) ≤ L.length := List.countP_le_length
  have HE := Lib.hid (timed_eq L x hs)
  obtain ⟨n, hnn⟩ : ∃ n, L.length = n := ⟨_, rfl⟩
  obtain ⟨k, hk⟩ : ∃ k, L.countP (· < x) = k := ⟨_, rfl⟩
  obtain ⟨T, hT⟩ : ∃ T, timedL L x = T := ⟨_, rfl⟩
  rw [hnn] at hsl hn hcl ev
  rw [hk] at hcl HE
  rw [hT] at HE ⊢
  have PB := Lib.hid (pbinary a n c L x w hsl hs (by omega))
  rw [hk] at PB
  have EV := Lib.hid ev
  have HF := Lib.hid hf
  have HX := Lib.hid hx
  have HNN := Lib.hid hnn
  have HN := Lib.hid hn
  have HCL := Lib.hid hcl
  clear hv hf hx hs hn hl hsl hnn hk hT hcl
  by_cases hin : x ∈ L
  · have e1 : T = L := by rw [HE.out, if_pos hin]
    rw [show decide (x ∈ L) = true by simpa using hin] at PB
    subst ev
    rw [e1]
    go_enter Tryd.func25, Tryd.ntmps25
    go_wp2_with (go_at_call 41; (with_reducible refine PB.out.mono ?_); rintro e w1 ⟨rfl, hq⟩; have Q1 := Lib.hid hq; clear hq)
    go_ret
    have hb := Q1.out.below w.heap.size
    exact ⟨_, rfl, HV.out.kept hb, fun g e => .inl e, hb.mono (Nat.zero_le _), fun g hg _ => hb.block g hg⟩
  · have e1 : T = L.take k ++ [x] ++ L.drop k := by rw [HE.out, if_neg hin]
    rw [show decide (x ∈ L) = false by simpa using hin] at PB
    subst ev
    rw [e1]
    go_enter Tryd.func25, Tryd.ntmps25
    go_wp2_with (first
      | (go_at_call 41; (with_reducible refine PB.out.mono ?_); rintro e w1 ⟨rfl, hq⟩; have Q1 := Lib.hid (hq.below w.heap.size); clear hq)
      | ((with_reducible refine bi1r (o := ⟨some 18, _, _, _, _, _⟩) rfl _ rfl x ?_ ?_); (focus (first | (go_simp; done) | (go_simp; rfl))); intro w2 hr hb hz; have R2 := Lib.hid hr; have B2 := Lib.hid hb; have V2 := Lib.hid (HV.out.kept (Q1.out.trans (hb.mono Q1.out.size))); clear hr hb hz)
      | (go_at_call 42; refine (iinsert2 (.slice a n c) 0 n k w1.heap.size L x w2 V2.out HF.out HX.out HNN.out HCL.out (by have := HN.out; omega) R2.out ?_ (Nat.zero_le _)).mono ?_; (focus (intro e; exact Nat.lt_irrefl _ (Nat.lt_of_lt_of_le (World.ownsRow.lt HV.out _ e).2 Q1.out.size))); rintro e w3 ⟨v', rfl, h1, h2, h3, h4⟩; have W3 := Lib.hid h4; have O3 := Lib.hid h1; have B3 := Lib.hid h2; have K3 := Lib.hid h3; clear h1 h2 h3 h4))
    go_ret
    have hb2 := Q1.out.trans (B2.out.mono Q1.out.size)
    refine ⟨_, rfl, O3.out, ?_, (hb2.mono (Nat.zero_le _)).trans B3.out, kp_below hb2 K3.out⟩
    exact fun g hg => (W3.out g hg).imp id (fun h => Nat.le_trans hb2.size h)
end Go.Proofs.YtkncbckmgcklfaaDoor.W
