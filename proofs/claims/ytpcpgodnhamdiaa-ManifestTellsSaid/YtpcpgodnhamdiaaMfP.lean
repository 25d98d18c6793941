/- LAYER 20 (manifest): the reference's Needs. -/
import Derived.Test.YtpcpgodnhamdiaaMfM
import Derived.Test.YtpcpgodnhamdiaaRf2
set_option linter.unusedSimpArgs false
set_option linter.unusedVariables false
namespace Go.Proofs.Ytpcpgodnhamdiaa.W
open Go Go.ChangeShapes Go.WideShapes Go.ChangeAt Go.RowKit
open Go.Proofs.Ytpcpgodnhamdiaa.P (enc dec)
open Go.Proofs.Ytpcpgodnhamdiaa.S

def posM (s : ByteArray) : List ByteArray → Nat
  | [] => 0
  | x :: L => if ltM x s then posM s L + 1 else 0
def insM (L : List ByteArray) (s : ByteArray) : List ByteArray :=
  match L[posM s L]? with
  | some x => if eqM x s = true then L else L.take (posM s L) ++ [s] ++ L.drop (posM s L)
  | none => L.take (posM s L) ++ [s] ++ L.drop (posM s L)
def needsR (L : List ByteArray) : List ByteArray := L.foldl insM []
theorem posM_at {s : ByteArray} : ∀ (L : List ByteArray) (k : Nat), k ≤ L.length → (∀ j, j < k → ∀ y, L[j]? = some y → ltM y s = true) → (∀ y, L[k]? = some y → ltM y s = false) → posM s L = k
  | [], k, hk, _, _ => by simp at hk; simp [posM, hk]
  | y :: L, 0, _, _, h => by
    have := h y rfl
    simp [posM, this]
  | y :: L, k + 1, hk, hl, h => by
    have h0 := hl 0 (by omega) y rfl
    have ih := posM_at L k (by simpa using hk) (fun j hj z hz => hl (j + 1) (by omega) z (by simpa using hz)) (fun z hz => h z (by simpa using hz))
    simp only [posM]
    rw [h0, ih]
    rfl
theorem insM_len (L : List ByteArray) (s : ByteArray) : (insM L s).length ≤ L.length + 1 := by
  have hl : (L.take (posM s L) ++ [s] ++ L.drop (posM s L)).length = L.length + 1 := by simp; omega
  unfold insM
  split
  · split
    · omega
    · rw [hl]; omega
  · rw [hl]; omega
theorem fold_len : ∀ (M A : List ByteArray), (M.foldl insM A).length ≤ A.length + M.length
  | [], A => by simp
  | s :: M, A => by
    have h1 := fold_len M (insM A s)
    have h2 := insM_len A s
    rw [List.foldl_cons, List.length_cons]; omega
theorem LsO.form6 {α : Type} {E : El α} {w : World} {base : Nat} {v : Value} {L : List α} (h : LsO E w base v L) : (v = .slice none 0 0 ∧ L = []) ∨ ∃ g c, v = .slice (some ⟨g, 0, none⟩) L.length c ∧ base ≤ g := by
  obtain ⟨h1, h2⟩ := h
  rcases h2 with ⟨rfl, h0⟩ | ⟨g, cap, cur, rfl, hg, -⟩
  · refine .inl ⟨rfl, List.eq_nil_of_length_eq_zero (by omega)⟩
  · exact .inr ⟨g, cap, rfl, hg⟩
theorem sumsM_fit {w : World} {a : Option Addr} {n c : Nat} {X : List SnX} (h : Ls snE w a n c X) : ∀ s ∈ sumsM (X.map (·.s)), s.size ≤ maxLen := by
  intro s hs
  unfold sumsM at hs
  obtain ⟨x, hx, hs⟩ := List.mem_flatMap.1 hs
  obtain ⟨y, hy, rfl⟩ := List.mem_map.1 hx
  obtain ⟨p, hp, rfl⟩ := List.mem_map.1 hs
  exact ((h.hfit y hy).P.hfit p hp).sum
theorem insM_mem {L : List ByteArray} {s x : ByteArray} (h : x ∈ insM L s) : x ∈ L ∨ x = s := by
  have hl : x ∈ L.take (posM s L) ++ [s] ++ L.drop (posM s L) → x ∈ L ∨ x = s := fun h => by
    rcases List.mem_append.1 h with h | h
    · rcases List.mem_append.1 h with h | h
      · exact .inl (List.mem_of_mem_take h)
      · exact .inr (List.mem_singleton.1 h)
    · exact .inl (List.mem_of_mem_drop h)
  unfold insM at h
  split at h
  · split at h
    · exact .inl h
    · exact hl h
  · exact hl h
theorem fold_mem : ∀ (M A : List ByteArray) (x : ByteArray), x ∈ M.foldl insM A → x ∈ A ∨ x ∈ M
  | [], A, x, h => .inl h
  | s :: M, A, x, h => by
    rw [List.foldl_cons] at h
    rcases fold_mem M _ x h with h | h
    · rcases insM_mem h with h | rfl
      · exact .inl h
      · exact .inr (List.mem_cons_self ..)
    · exact .inr (List.mem_cons_of_mem _ h)
set_option maxRecDepth 100000 in
set_option maxHeartbeats 32000000 in
theorem umneeds (a : Option Addr) (n c : Nat) (L : List Sn) (w : World) (h : SnL w a n c L) (hf : FewP L) (hn : n ≤ 900) :
    Calls Try.prog 27 #[.slice a n c] w fun x w' => ∃ v, x = .returned v ∧ LsO strE w' w.heap.size v (needsR (sumsM L)) ∧ Below w.heap.size w w' := by
  obtain ⟨X, hX, hXL⟩ := h
  have H := Lib.hid hX
  have HLN := Lib.hid (show L.length = n by rw [← hXL, List.length_map, hX.hlen])
  have HXL := Lib.hid hXL
  have HFP := Lib.hid hf
  have hm := hX.hmax
  have hle := hX.hle
  have HSF := Lib.hid (show ∀ s ∈ sumsM L, s.size ≤ maxLen by rw [← hXL]; exact sumsM_fit hX)
  have HSL := Lib.hid (show ∀ k, (sumsM (L.take k)).length ≤ 900000 from fun k => by
    have h1 := sumsM_len (L.take k) (fun x hx => hf x (List.mem_of_mem_take hx))
    have h2 : (L.take k).length ≤ n := by rw [List.length_take, ← HLN.out]; omega
    omega)
  have HSM := Lib.hid (show ∀ k s, s ∈ sumsM (L.take k) → s.size ≤ maxLen from fun k s hs => HSF.out s (by
    unfold sumsM at hs ⊢
    obtain ⟨x, hx, hs⟩ := List.mem_flatMap.1 hs
    exact List.mem_flatMap.2 ⟨x, List.mem_of_mem_take hx, hs⟩))
  clear hX hXL hn hf
  go_enter Try.func27, Try.ntmps27
  go_wp2_with fail
  go_loopw [3, 4] (fun v i wr => ∃ k : Nat, i = .int .i64 (k : Int) ∧ k ≤ n ∧ Hid (LsO strE wr w.heap.size v (needsR (sumsM (L.take k)))) ∧ Hid (Below w.heap.size w wr)) (fun _ i _ => n - (intOf i).toNat)
  case atStart => exact ⟨0, rfl, Nat.zero_le _, Lib.hid (LsO.nil _ _), Lib.hid (Below.refl _ _)⟩
  case round =>
    obtain ⟨k, rfl, hk, O, B⟩ := hrel
    by_cases hlt : k < n
    · obtain ⟨b, off, x, rfl, hx, hcell, -⟩ := H.out.at snOk (Below.refl _ _) k hlt
      have HFX := H.out.hfit x (List.mem_of_getElem? hx)
      have HNX := Lib.hid (sumsM_next L k x.s (map_at HXL.out hx))
      have HPL := Lib.hid (HFP.out.at (map_at HXL.out hx))
      have HK := Lib.hid (HSL.out k)
      obtain ⟨⟨xs, xn, xb, xt, xk, P⟩, xa, xm, xc⟩ := x
      have C5 := Lib.hid (hcell 5 (.slice xa xm xc) rfl)
      have FP := Lib.hid (show Ls pcE w xa xm xc P from HFX.P)
      have pm1 := HFX.P.hmax
      have pm2 := HFX.P.hle
      dsimp only at pm1 pm2 HNX HPL
      have g1 : (0 : Int) ≤ (k : Int) := by omega
      have g2 : (k : Int) < (n : Int) := by omega
      clear hx hcell HFX
      go_wp2_with fail
      go_loopw [3, 5] (fun v i wq => ∃ j : Nat, i = .int .i64 (j : Int) ∧ j ≤ xm ∧ Hid (LsO strE wq w.heap.size v (needsR (sumsM (L.take k) ++ (P.take j).map (·.sum)))) ∧ Hid (Below w.heap.size w wq)) (fun _ i _ => xm - (intOf i).toNat)
      case atStart => exact ⟨0, rfl, Nat.zero_le _, Lib.hid (by simpa using O.out), B⟩
      case round =>
        obtain ⟨j, rfl, hj, Q, BQ⟩ := hrel
        have c5 : wr.cell? ⟨b, off + k * 6 + 5, none⟩ = some (.slice xa xm xc) := (BQ.out.cell (p := ⟨b, off + k * 6 + 5, none⟩) (World.block_lt_of_cell? w _ C5.out)).trans C5.out
        by_cases hjt : j < xm
        · obtain ⟨pb, poff, p, rfl, hp, hpc, hpf⟩ := FP.out.at pcOk BQ.out j hjt
          have HPN := Lib.hid (show needsR (sumsM (L.take k) ++ (P.take (j + 1)).map (·.sum)) = insM (needsR (sumsM (L.take k) ++ (P.take j).map (·.sum))) p.sum by
            rw [psum_next P j p hp, ← List.append_assoc]; unfold needsR; rw [List.foldl_append]; rfl)
          have HML0 := Lib.hid (show (needsR (sumsM (L.take k) ++ (P.take j).map (·.sum))).length ≤ 901000 by
            have h0 := fold_len (sumsM (L.take k) ++ (P.take j).map (·.sum)) []
            have h1 := HK.out
            have h2 := HPL.out
            unfold needsR
            rw [List.length_append, List.length_map, List.length_take] at h0
            simp only [List.length_nil] at h0
            omega)
          have HOF := Lib.hid (show ∀ s ∈ needsR (sumsM (L.take k) ++ (P.take j).map (·.sum)), s.size ≤ maxLen from fun s hs => by
            rcases fold_mem _ _ s hs with h | h
            · cases h
            · rcases List.mem_append.1 h with h | h
              · exact HSM.out k s h
              · obtain ⟨q, hq, rfl⟩ := List.mem_map.1 h
                exact (FP.out.hfit q (List.mem_of_mem_take hq)).sum)
          obtain ⟨ps, pz⟩ := p
          have FS := Lib.hid (show ps.size ≤ maxLen from hpf.sum)
          have p0 := hpc 0 (.string ps) rfl
          rw [Nat.add_zero] at p0
          have j1 : (0 : Int) ≤ (j : Int) := by omega
          have j2 : (j : Int) < (xm : Int) := by omega
          dsimp only at HPN
          clear hp hpc hpf
          obtain ⟨OUT, hOUT⟩ : ∃ OUT, needsR (sumsM (L.take k) ++ (P.take j).map (·.sum)) = OUT := ⟨_, rfl⟩
          have HFO := Lib.hid hOUT
          have Q' := Q
          rw [hOUT] at Q' HML0 HOF
          rcases Q'.out.form6 with ⟨rfl, hO0⟩ | ⟨g, c2, rfl, hg⟩
          · subst hO0
            have HIN := Lib.hid (show insM [] ps = [] ++ [ps] ++ [] from rfl)
            have B2 := Lib.hid (Below.refl wr.heap.size wr)
            go_wp2_with fail
            go_loopw [7] (fun i wz => i = .int .i64 0 ∧ wz = wr) (fun i _ => 0)
            case atStart => exact ⟨rfl, rfl⟩
            case round =>
              obtain ⟨rfl, rfl⟩ := hrel
              go_wp2_with fail
              have LK := Lib.hid (Ls.nil (E := strE) wr.drew)
              have LR := Lib.hid (Ls.nil (E := strE) wr.drew)
              obtain ⟨Rl, hRl⟩ : ∃ Rl : List (Value → World → Prop), Rl = [fun v _ => v = .slice none 0 0, fun v _ => v = .int .i64 0, fun v _ => v = .slice none 0 0, fun v w => LsO strE w wr.drew.heap.size v ([] : List ByteArray), fun v _ => v = .string ps, fun v w => ∃ b, v = Value.slice (some ⟨b, 0, none⟩) 1 1 ∧ Ls strE w (some ⟨b, 0, none⟩) 1 1 [ps], fun v w => LsO strE w wr.drew.heap.size v (([] : List ByteArray) ++ [ps]), fun v _ => v = .slice none 0 0, fun v _ => v = .int .i64 0, fun v _ => v = .slice none 0 0, fun v w => LsO strE w wr.drew.heap.size v (([] : List ByteArray) ++ [ps] ++ ([] : List ByteArray)), fun v w => LsO strE w wr.drew.heap.size v (([] : List ByteArray) ++ [ps] ++ ([] : List ByteArray))] := ⟨_, rfl⟩
              have hmono : MonoL Rl := by rw [hRl]; exact ⟨(fun _ _ _ h _ => h), ⟨(fun _ _ _ h _ => h), ⟨(fun _ _ _ h _ => h), ⟨(fun v w1 w2 h hb => LsO.kept h hb), ⟨(fun _ _ _ h _ => h), ⟨(fun v w1 w2 h hb => by obtain ⟨b, h1, h2⟩ := h; exact ⟨b, h1, h2.mono strOk hb⟩), ⟨(fun v w1 w2 h hb => LsO.kept h hb), ⟨(fun _ _ _ h _ => h), ⟨(fun _ _ _ h _ => h), ⟨(fun _ _ _ h _ => h), ⟨(fun v w1 w2 h hb => LsO.kept h hb), ⟨(fun v w1 w2 h hb => LsO.kept h hb), trivial⟩⟩⟩⟩⟩⟩⟩⟩⟩⟩⟩⟩
              refine region_facts2 (by kernel_rfl) (by kernel_rfl) [59, 60, 61, 62, 63, 64, 65, 66, 67, 68, 69, 3] rfl (by decide) (by simp) (fun i v w => (Rl.getD i (fun _ _ => True)) v w) (fun i j => if i = 11 then j == 10 else true) (fun i => [0, 1, 2, 4, 7, 8, 9].contains i) (fun i => i == 11) (fun i => i == 6 || i == 10) (by kernel_rfl) ?_ (fun i v w1 w2 h hb => monoL_get hmono i v w1 w2 h hb) ?_ ?_
              · intro i v w1 w2 hpu h _
                rcases (show i = 0 ∨ i = 1 ∨ i = 2 ∨ i = 4 ∨ i = 7 ∨ i = 8 ∨ i = 9 by simpa using hpu) with rfl | rfl | rfl | rfl | rfl | rfl | rfl <;> (subst hRl; exact h)
              · intro i o ho vs b w' hI K hK
                have hil := (List.getElem?_eq_some_iff.1 ho).1
                have hil : i < 12 := hil
                subst hRl
                rcases (show i = 0 ∨ i = 1 ∨ i = 2 ∨ i = 3 ∨ i = 4 ∨ i = 5 ∨ i = 6 ∨ i = 7 ∨ i = 8 ∨ i = 9 ∨ i = 10 ∨ i = 11 by omega) with rfl | rfl | rfl | rfl | rfl | rfl | rfl | rfl | rfl | rfl | rfl | rfl
                · injection ho with ho
                  subst ho
                  have e3 : b.eval (.tmp 3) = (.slice none 0 0 : Value) := (hI.old2 3 (by intro j hj; have : ∀ j, j < 12 → [59, 60, 61, 62, 63, 64, 65, 66, 67, 68, 69, 3].getD j 0 = 3 → j = 11 := (by decide); intro e; rw [this j hj e]; kernel_rfl)).trans (by go_simp)
                  refine rf_val (by rfl) (.slice none 0 0) (by simp only [execOp]; simp only [e3]; rfl) ?_
                  exact hK _ _ (fun _ => Below.refl _ _) (Below.refl _ _) rfl
                · injection ho with ho
                  subst ho
                  have e7 : b.eval (.tmp 7) = (.int .i64 0 : Value) := (hI.old 7 (by decide)).trans (by go_simp)
                  refine rf_val (by rfl) (.int .i64 0) (by simp only [execOp]; simp only [e7]; rfl) ?_
                  exact hK _ _ (fun _ => Below.refl _ _) (Below.refl _ _) rfl
                · injection ho with ho
                  subst ho
                  have e59 : b.eval (.tmp 59) = (.slice none 0 0 : Value) := (hI.dep 0 (by rfl) (by kernel_rfl) (by decide)).1.trans (hI.dep 0 (by rfl) (by kernel_rfl) (by decide)).2
                  have e60 : b.eval (.tmp 60) = (.int .i64 0 : Value) := (hI.dep 1 (by rfl) (by kernel_rfl) (by decide)).1.trans (hI.dep 1 (by rfl) (by kernel_rfl) (by decide)).2
                  refine rf_val (by rfl) (.slice none 0 0) (by simp only [execOp]; simp only [Option.map_none, Option.map_some, e59, e60]; go_simp; try (intro hh; exfalso; omega)) ?_
                  exact hK _ _ (fun _ => Below.refl _ _) (Below.refl _ _) rfl
                · injection ho with ho
                  subst ho
                  have e61 : b.eval (.tmp 61) = (.slice none 0 0 : Value) := (hI.dep 2 (by rfl) (by kernel_rfl) (by decide)).1.trans (hI.dep 2 (by rfl) (by kernel_rfl) (by decide)).2
                  refine append_ls strOk rfl (.const (.slice none 0 0)) (.tmp 61) rfl wr.drew.heap.size (.slice none 0 0) [] rfl (LsO.nil _ _) none 0 0 ([] : List ByteArray) e61 (LK.out.mono strOk hI.bel) (by simp) hI.bel.size ?_
                  intro v2 w2 hN hb2 hg2 hv2
                  exact wpl_nil (hK _ _ (fun _ => ⟨hg2.os, hg2.tape, hg2.output, hg2.size, fun k hk => hg2.block k hk (by simp [Value.ownBlock])⟩) hb2 hN)
                · injection ho with ho
                  subst ho
                  have e6 : b.eval (.tmp 6) = (.string ps : Value) := (hI.old 6 (by decide)).trans (by go_simp)
                  refine rf_val (by rfl) (.string ps) (by simp only [execOp]; simp only [e6]; rfl) ?_
                  exact hK _ _ (fun _ => Below.refl _ _) (Below.refl _ _) rfl
                · injection ho with ho
                  subst ho
                  have e63 : b.eval (.tmp 63) = (.string ps : Value) := (hI.dep 4 (by rfl) (by kernel_rfl) (by decide)).1.trans (hI.dep 4 (by rfl) (by kernel_rfl) (by decide)).2
                  refine build_str rfl (.tmp 63) rfl ps e63 FS.out ?_
                  intro w2 hl hb2
                  exact wpl_nil (hK _ _ (fun _ => hb2) (hb2.mono hI.bel.size) ⟨w'.heap.size, rfl, hl⟩)
                · injection ho with ho
                  subst ho
                  have e62 := (hI.dep 3 (by rfl) (by kernel_rfl) (by decide)).1
                  have r62 := (hI.dep 3 (by rfl) (by kernel_rfl) (by decide)).2
                  have e64 := (hI.dep 5 (by rfl) (by kernel_rfl) (by decide)).1
                  have r64 := (hI.dep 5 (by rfl) (by kernel_rfl) (by decide)).2
                  obtain ⟨b5, h5, hl5⟩ := r64
                  rw [h5] at e64
                  refine append_ls strOk rfl (.tmp 62) (.tmp 64) rfl wr.drew.heap.size (vs 3) ([] : List ByteArray) e62 r62 (some ⟨b5, 0, none⟩) 1 1 [ps] e64 hl5 (by simp) hI.bel.size ?_
                  intro v2 w2 hN hb2 hg2 hv2
                  exact wpl_nil (hK _ _ (fun h => by cases h) hb2 hN)
                · injection ho with ho
                  subst ho
                  have e3 : b.eval (.tmp 3) = (.slice none 0 0 : Value) := (hI.old2 3 (by intro j hj; have : ∀ j, j < 12 → [59, 60, 61, 62, 63, 64, 65, 66, 67, 68, 69, 3].getD j 0 = 3 → j = 11 := (by decide); intro e; rw [this j hj e]; kernel_rfl)).trans (by go_simp)
                  refine rf_val (by rfl) (.slice none 0 0) (by simp only [execOp]; simp only [e3]; rfl) ?_
                  exact hK _ _ (fun _ => Below.refl _ _) (Below.refl _ _) rfl
                · injection ho with ho
                  subst ho
                  have e7 : b.eval (.tmp 7) = (.int .i64 0 : Value) := (hI.old 7 (by decide)).trans (by go_simp)
                  refine rf_val (by rfl) (.int .i64 0) (by simp only [execOp]; simp only [e7]; rfl) ?_
                  exact hK _ _ (fun _ => Below.refl _ _) (Below.refl _ _) rfl
                · injection ho with ho
                  subst ho
                  have e66 : b.eval (.tmp 66) = (.slice none 0 0 : Value) := (hI.dep 7 (by rfl) (by kernel_rfl) (by decide)).1.trans (hI.dep 7 (by rfl) (by kernel_rfl) (by decide)).2
                  have e67 : b.eval (.tmp 67) = (.int .i64 0 : Value) := (hI.dep 8 (by rfl) (by kernel_rfl) (by decide)).1.trans (hI.dep 8 (by rfl) (by kernel_rfl) (by decide)).2
                  refine rf_val (by rfl) (.slice none 0 0) (by simp only [execOp]; simp only [Option.map_none, Option.map_some, e66, e67]; go_simp; try (intro hh; exfalso; omega)) ?_
                  exact hK _ _ (fun _ => Below.refl _ _) (Below.refl _ _) rfl
                · injection ho with ho
                  subst ho
                  have e65 := (hI.dep 6 (by rfl) (by kernel_rfl) (by decide)).1
                  have r65 := (hI.dep 6 (by rfl) (by kernel_rfl) (by decide)).2
                  have e68 : b.eval (.tmp 68) = (.slice none 0 0 : Value) := (hI.dep 9 (by rfl) (by kernel_rfl) (by decide)).1.trans (hI.dep 9 (by rfl) (by kernel_rfl) (by decide)).2
                  refine append_ls strOk rfl (.tmp 65) (.tmp 68) rfl wr.drew.heap.size (vs 6) (([] : List ByteArray) ++ [ps]) e65 r65 none 0 0 ([] : List ByteArray) e68 (LR.out.mono strOk hI.bel) (by simp) hI.bel.size ?_
                  intro v2 w2 hN hb2 hg2 hv2
                  exact wpl_nil (hK _ _ (fun h => by cases h) hb2 hN)
                · injection ho with ho
                  subst ho
                  have e69 := (hI.dep 10 (by rfl) (by kernel_rfl) (by decide)).1
                  have r69 := (hI.dep 10 (by rfl) (by kernel_rfl) (by decide)).2
                  refine rf_val (by rfl) (vs 10) (by simp only [execOp]; rw [show b.eval (.tmp 69) = vs 10 from e69]; rfl) ?_
                  exact hK _ _ (fun _ => Below.refl _ _) (Below.refl _ _) r69
              · intro vs w6 hb6 hall
                subst hRl
                have F11 := Lib.hid (show LsO strE w6 wr.drew.heap.size (vs 11) (([] : List ByteArray) ++ [ps] ++ ([] : List ByteArray)) from hall 11 (by decide) (by decide))
                have B6 := Lib.hid (B2.out.trans (((Below.refl _ _).drew.trans (hb6.mono (Nat.le_refl _))).mono B2.out.size))
                clear hall
                dsimp only [rfPut]
                go_simp
                generalize vs 11 = v11 at *
                go_wp2_with fail
                go_roundw
                case rel => exact ⟨j + 1, vint (by omega), by omega, Lib.hid (by rw [HPN.out, HFO.out, HIN.out]; exact F11.out.base (Nat.le_trans BQ.out.size B2.out.size)), Lib.hid (BQ.out.trans (B6.out.mono BQ.out.size))⟩
                case measure => simp [intOf]; omega
          · obtain ⟨m, hmm⟩ : ∃ m, OUT.length = m := ⟨_, rfl⟩
            have LO := Lib.hid (show Ls strE wr (some ⟨g, 0, none⟩) m c2 OUT by rw [← hmm]; exact lso_out strOk Q'.out rfl HOF.out)
            rw [hmm]
            have HML := Lib.hid (show m ≤ 901000 by rw [← hmm]; exact HML0.out)
            have HM := Lib.hid hmm
            have hc2 := LO.out.hle
            have hc3 := LO.out.hmax
            clear hg hmm
            go_wp2_with fail
            go_loopw [7] (fun i wz => ∃ q : Nat, i = .int .i64 (q : Int) ∧ q ≤ m ∧ Hid (∀ j, j < q → ∀ y, OUT[j]? = some y → ltM y ps = true) ∧ wz = wr) (fun i _ => m - (intOf i).toNat)
            case atStart => exact ⟨0, rfl, Nat.zero_le _, Lib.hid (fun j hj => absurd hj (Nat.not_lt_zero _)), rfl⟩
            case round =>
              obtain ⟨q, rfl, hq, PW, rfl⟩ := hrel
              have B2 := Lib.hid (Below.refl wr.heap.size wr)
              by_cases hqm : q < m
              · obtain ⟨b9, off9, x, hab, hx, hcell, -⟩ := LO.out.at strOk B2.out q hqm
                obtain ⟨rfl, rfl⟩ : g = b9 ∧ 0 = off9 := by injection hab with hab; injection hab with e1 e2; exact ⟨e1, e2⟩
                have E0 : wr.cell? ⟨g, q, none⟩ = some (.string x) := by have h7 := hcell 0 (.string x) rfl; rw [show 0 + q * strE.k + 0 = q by show 0 + q * 1 + 0 = q; omega] at h7; exact h7
                have HX := Lib.hid hx
                have q1 : (0 : Int) ≤ (q : Int) := by omega
                have q2 : (q : Int) < (m : Int) := by omega
                obtain ⟨t, ht⟩ : ∃ t, ltM x ps = t := ⟨_, rfl⟩
                have he : Op.bytesLess x.toList ps.toList = t := ht
                have HT := Lib.hid ht
                clear hx hcell hab ht
                rcases t with _ | _
                · have HAT := Lib.hid (show posM ps OUT = q from posM_at OUT q (by rw [HM.out]; omega) PW.out (fun y hy => by rw [HX.out] at hy; injection hy with hy; rw [← hy]; exact HT.out))
                  obtain ⟨t2, ht2⟩ : ∃ t2, eqM x ps = t2 := ⟨_, rfl⟩
                  have he2 : (x.toList == ps.toList) = t2 := ht2
                  have he3 : (x.toList != ps.toList) = !t2 := by rw [bne, he2]
                  have qm : ((q : Int) == (m : Int)) = false := beq_eq_false_iff_ne.2 (by omega)
                  have qn : ¬ ((q : Int) = (m : Int)) := by omega
                  rcases t2 with _ | _
                  · have HIN := Lib.hid (show insM OUT ps = OUT.take q ++ [ps] ++ OUT.drop q by
                      unfold insM; rw [HAT.out, HX.out]; dsimp only; rw [if_neg (by rw [ht2]; decide)])
                    go_wp2_with fail
                    have LD := Lib.hid (LO.out.mono strOk (B2.out.trans (Below.refl _ _).drew))
                    have LK := Lib.hid (show Ls strE wr.drew (some ⟨g, 0, none⟩) q c2 (OUT.take q) from LD.out.first q (by omega))
                    have LR := Lib.hid (show Ls strE wr.drew _ (m - q) (c2 - q) (OUT.drop q) from LD.out.rest q (by omega))
                    have hnc := LD.out.hle
                    have hcm := LD.out.hmax
                    obtain ⟨Rl, hRl⟩ : ∃ Rl : List (Value → World → Prop), Rl = [fun v _ => v = .slice (some ⟨g, 0, none⟩) m c2, fun v _ => v = .int .i64 (q : Int), fun v _ => v = .slice (some ⟨g, 0, none⟩) q c2, fun v w => LsO strE w wr.drew.heap.size v (OUT.take q), fun v _ => v = .string ps, fun v w => ∃ b, v = Value.slice (some ⟨b, 0, none⟩) 1 1 ∧ Ls strE w (some ⟨b, 0, none⟩) 1 1 [ps], fun v w => LsO strE w wr.drew.heap.size v ((OUT.take q) ++ [ps]), fun v _ => v = .slice (some ⟨g, 0, none⟩) m c2, fun v _ => v = .int .i64 (q : Int), fun v _ => v = .slice (if c2 = q then some ⟨g, 0, none⟩ else (some (⟨g, 0, none⟩ : Addr)).map (fun x => x.add (q * strE.k))) (m - q) (c2 - q), fun v w => LsO strE w wr.drew.heap.size v ((OUT.take q) ++ [ps] ++ (OUT.drop q)), fun v w => LsO strE w wr.drew.heap.size v ((OUT.take q) ++ [ps] ++ (OUT.drop q))] := ⟨_, rfl⟩
                    have hmono : MonoL Rl := by rw [hRl]; exact ⟨(fun _ _ _ h _ => h), ⟨(fun _ _ _ h _ => h), ⟨(fun _ _ _ h _ => h), ⟨(fun v w1 w2 h hb => LsO.kept h hb), ⟨(fun _ _ _ h _ => h), ⟨(fun v w1 w2 h hb => by obtain ⟨b, h1, h2⟩ := h; exact ⟨b, h1, h2.mono strOk hb⟩), ⟨(fun v w1 w2 h hb => LsO.kept h hb), ⟨(fun _ _ _ h _ => h), ⟨(fun _ _ _ h _ => h), ⟨(fun _ _ _ h _ => h), ⟨(fun v w1 w2 h hb => LsO.kept h hb), ⟨(fun v w1 w2 h hb => LsO.kept h hb), trivial⟩⟩⟩⟩⟩⟩⟩⟩⟩⟩⟩⟩
                    refine region_facts2 (by kernel_rfl) (by kernel_rfl) [59, 60, 61, 62, 63, 64, 65, 66, 67, 68, 69, 3] rfl (by decide) (by simp) (fun i v w => (Rl.getD i (fun _ _ => True)) v w) (fun i j => if i = 11 then j == 10 else true) (fun i => [0, 1, 2, 4, 7, 8, 9].contains i) (fun i => i == 11) (fun i => i == 6 || i == 10) (by kernel_rfl) ?_ (fun i v w1 w2 h hb => monoL_get hmono i v w1 w2 h hb) ?_ ?_
                    · intro i v w1 w2 hpu h _
                      rcases (show i = 0 ∨ i = 1 ∨ i = 2 ∨ i = 4 ∨ i = 7 ∨ i = 8 ∨ i = 9 by simpa using hpu) with rfl | rfl | rfl | rfl | rfl | rfl | rfl <;> (subst hRl; exact h)
                    · intro i o ho vs b w' hI K hK
                      have hil := (List.getElem?_eq_some_iff.1 ho).1
                      have hil : i < 12 := hil
                      subst hRl
                      rcases (show i = 0 ∨ i = 1 ∨ i = 2 ∨ i = 3 ∨ i = 4 ∨ i = 5 ∨ i = 6 ∨ i = 7 ∨ i = 8 ∨ i = 9 ∨ i = 10 ∨ i = 11 by omega) with rfl | rfl | rfl | rfl | rfl | rfl | rfl | rfl | rfl | rfl | rfl | rfl
                      · injection ho with ho
                        subst ho
                        have e3 : b.eval (.tmp 3) = (.slice (some ⟨g, 0, none⟩) m c2 : Value) := (hI.old2 3 (by intro j hj; have : ∀ j, j < 12 → [59, 60, 61, 62, 63, 64, 65, 66, 67, 68, 69, 3].getD j 0 = 3 → j = 11 := (by decide); intro e; rw [this j hj e]; kernel_rfl)).trans (by go_simp)
                        refine rf_val (by rfl) (.slice (some ⟨g, 0, none⟩) m c2) (by simp only [execOp]; simp only [e3]; rfl) ?_
                        exact hK _ _ (fun _ => Below.refl _ _) (Below.refl _ _) rfl
                      · injection ho with ho
                        subst ho
                        have e7 : b.eval (.tmp 7) = (.int .i64 (q : Int) : Value) := (hI.old 7 (by decide)).trans (by go_simp)
                        refine rf_val (by rfl) (.int .i64 (q : Int)) (by simp only [execOp]; simp only [e7]; rfl) ?_
                        exact hK _ _ (fun _ => Below.refl _ _) (Below.refl _ _) rfl
                      · injection ho with ho
                        subst ho
                        have e59 : b.eval (.tmp 59) = (.slice (some ⟨g, 0, none⟩) m c2 : Value) := (hI.dep 0 (by rfl) (by kernel_rfl) (by decide)).1.trans (hI.dep 0 (by rfl) (by kernel_rfl) (by decide)).2
                        have e60 : b.eval (.tmp 60) = (.int .i64 (q : Int) : Value) := (hI.dep 1 (by rfl) (by kernel_rfl) (by decide)).1.trans (hI.dep 1 (by rfl) (by kernel_rfl) (by decide)).2
                        refine rf_val (by rfl) (.slice (some ⟨g, 0, none⟩) q c2) (by simp only [execOp]; simp only [Option.map_none, Option.map_some, e59, e60]; go_simp; try (intro hh; exfalso; omega)) ?_
                        exact hK _ _ (fun _ => Below.refl _ _) (Below.refl _ _) rfl
                      · injection ho with ho
                        subst ho
                        have e61 : b.eval (.tmp 61) = (.slice (some ⟨g, 0, none⟩) q c2 : Value) := (hI.dep 2 (by rfl) (by kernel_rfl) (by decide)).1.trans (hI.dep 2 (by rfl) (by kernel_rfl) (by decide)).2
                        refine append_ls strOk rfl (.const (.slice none 0 0)) (.tmp 61) rfl wr.drew.heap.size (.slice none 0 0) [] rfl (LsO.nil _ _) (some ⟨g, 0, none⟩) q c2 (OUT.take q) e61 (LK.out.mono strOk hI.bel) (by have := HML.out; simp; omega) hI.bel.size ?_
                        intro v2 w2 hN hb2 hg2 hv2
                        exact wpl_nil (hK _ _ (fun _ => ⟨hg2.os, hg2.tape, hg2.output, hg2.size, fun k hk => hg2.block k hk (by simp [Value.ownBlock])⟩) hb2 hN)
                      · injection ho with ho
                        subst ho
                        have e6 : b.eval (.tmp 6) = (.string ps : Value) := (hI.old 6 (by decide)).trans (by go_simp)
                        refine rf_val (by rfl) (.string ps) (by simp only [execOp]; simp only [e6]; rfl) ?_
                        exact hK _ _ (fun _ => Below.refl _ _) (Below.refl _ _) rfl
                      · injection ho with ho
                        subst ho
                        have e63 : b.eval (.tmp 63) = (.string ps : Value) := (hI.dep 4 (by rfl) (by kernel_rfl) (by decide)).1.trans (hI.dep 4 (by rfl) (by kernel_rfl) (by decide)).2
                        refine build_str rfl (.tmp 63) rfl ps e63 FS.out ?_
                        intro w2 hl hb2
                        exact wpl_nil (hK _ _ (fun _ => hb2) (hb2.mono hI.bel.size) ⟨w'.heap.size, rfl, hl⟩)
                      · injection ho with ho
                        subst ho
                        have e62 := (hI.dep 3 (by rfl) (by kernel_rfl) (by decide)).1
                        have r62 := (hI.dep 3 (by rfl) (by kernel_rfl) (by decide)).2
                        have e64 := (hI.dep 5 (by rfl) (by kernel_rfl) (by decide)).1
                        have r64 := (hI.dep 5 (by rfl) (by kernel_rfl) (by decide)).2
                        obtain ⟨b5, h5, hl5⟩ := r64
                        rw [h5] at e64
                        refine append_ls strOk rfl (.tmp 62) (.tmp 64) rfl wr.drew.heap.size (vs 3) (OUT.take q) e62 r62 (some ⟨b5, 0, none⟩) 1 1 [ps] e64 hl5 (by have := HML.out; have := HM.out; rw [List.length_take]; omega) hI.bel.size ?_
                        intro v2 w2 hN hb2 hg2 hv2
                        exact wpl_nil (hK _ _ (fun h => by cases h) hb2 hN)
                      · injection ho with ho
                        subst ho
                        have e3 : b.eval (.tmp 3) = (.slice (some ⟨g, 0, none⟩) m c2 : Value) := (hI.old2 3 (by intro j hj; have : ∀ j, j < 12 → [59, 60, 61, 62, 63, 64, 65, 66, 67, 68, 69, 3].getD j 0 = 3 → j = 11 := (by decide); intro e; rw [this j hj e]; kernel_rfl)).trans (by go_simp)
                        refine rf_val (by rfl) (.slice (some ⟨g, 0, none⟩) m c2) (by simp only [execOp]; simp only [e3]; rfl) ?_
                        exact hK _ _ (fun _ => Below.refl _ _) (Below.refl _ _) rfl
                      · injection ho with ho
                        subst ho
                        have e7 : b.eval (.tmp 7) = (.int .i64 (q : Int) : Value) := (hI.old 7 (by decide)).trans (by go_simp)
                        refine rf_val (by rfl) (.int .i64 (q : Int)) (by simp only [execOp]; simp only [e7]; rfl) ?_
                        exact hK _ _ (fun _ => Below.refl _ _) (Below.refl _ _) rfl
                      · injection ho with ho
                        subst ho
                        have e66 : b.eval (.tmp 66) = (.slice (some ⟨g, 0, none⟩) m c2 : Value) := (hI.dep 7 (by rfl) (by kernel_rfl) (by decide)).1.trans (hI.dep 7 (by rfl) (by kernel_rfl) (by decide)).2
                        have e67 : b.eval (.tmp 67) = (.int .i64 (q : Int) : Value) := (hI.dep 8 (by rfl) (by kernel_rfl) (by decide)).1.trans (hI.dep 8 (by rfl) (by kernel_rfl) (by decide)).2
                        refine rf_val (by rfl) (.slice (if c2 = q then some ⟨g, 0, none⟩ else (some (⟨g, 0, none⟩ : Addr)).map (fun x => x.add (q * strE.k))) (m - q) (c2 - q)) (by simp only [execOp]; simp only [Option.map_none, Option.map_some, e66, e67]; go_simp; try (intro hh; exfalso; omega)) ?_
                        exact hK _ _ (fun _ => Below.refl _ _) (Below.refl _ _) rfl
                      · injection ho with ho
                        subst ho
                        have e65 := (hI.dep 6 (by rfl) (by kernel_rfl) (by decide)).1
                        have r65 := (hI.dep 6 (by rfl) (by kernel_rfl) (by decide)).2
                        have e68 : b.eval (.tmp 68) = (.slice (if c2 = q then some ⟨g, 0, none⟩ else (some (⟨g, 0, none⟩ : Addr)).map (fun x => x.add (q * strE.k))) (m - q) (c2 - q) : Value) := (hI.dep 9 (by rfl) (by kernel_rfl) (by decide)).1.trans (hI.dep 9 (by rfl) (by kernel_rfl) (by decide)).2
                        refine append_ls strOk rfl (.tmp 65) (.tmp 68) rfl wr.drew.heap.size (vs 6) ((OUT.take q) ++ [ps]) e65 r65 _ (m - q) (c2 - q) (OUT.drop q) e68 (LR.out.mono strOk hI.bel) (by have := HML.out; have := HM.out; rw [List.length_append, List.length_take]; simp; omega) hI.bel.size ?_
                        intro v2 w2 hN hb2 hg2 hv2
                        exact wpl_nil (hK _ _ (fun h => by cases h) hb2 hN)
                      · injection ho with ho
                        subst ho
                        have e69 := (hI.dep 10 (by rfl) (by kernel_rfl) (by decide)).1
                        have r69 := (hI.dep 10 (by rfl) (by kernel_rfl) (by decide)).2
                        refine rf_val (by rfl) (vs 10) (by simp only [execOp]; rw [show b.eval (.tmp 69) = vs 10 from e69]; rfl) ?_
                        exact hK _ _ (fun _ => Below.refl _ _) (Below.refl _ _) r69
                    · intro vs w6 hb6 hall
                      subst hRl
                      have F11 := Lib.hid (show LsO strE w6 wr.drew.heap.size (vs 11) ((OUT.take q) ++ [ps] ++ (OUT.drop q)) from hall 11 (by decide) (by decide))
                      have B6 := Lib.hid (B2.out.trans (((Below.refl _ _).drew.trans (hb6.mono (Nat.le_refl _))).mono B2.out.size))
                      clear hall
                      dsimp only [rfPut]
                      go_simp
                      generalize vs 11 = v11 at *
                      go_wp2_with fail
                      go_roundw
                      case rel => exact ⟨j + 1, vint (by omega), by omega, Lib.hid (by rw [HPN.out, HFO.out, HIN.out]; exact F11.out.base (Nat.le_trans BQ.out.size B2.out.size)), Lib.hid (BQ.out.trans (B6.out.mono BQ.out.size))⟩
                      case measure => simp [intOf]; omega
                  · have HIN := Lib.hid (show insM OUT ps = OUT by
                      unfold insM; rw [HAT.out, HX.out]; dsimp only; rw [if_pos ht2])
                    go_wp2_with fail
                    go_roundw
                    case rel => exact ⟨j + 1, vint (by omega), by omega, Lib.hid (by rw [HPN.out, HFO.out, HIN.out]; rw [HM.out] at Q'; exact Q'.out), BQ⟩
                    case measure => simp [intOf]; omega
                · have PN := Lib.hid (show ∀ j, j < q + 1 → ∀ y, OUT[j]? = some y → ltM y ps = true from fun j hj y hy => by
                    by_cases hjk : j < q
                    · exact PW.out j hjk y hy
                    · obtain rfl : j = q := by omega
                      rw [HX.out] at hy
                      injection hy with hy
                      rw [← hy]; exact HT.out)
                  go_wp2_with fail
                  go_roundw
                  case rel => exact ⟨q + 1, vint (by omega), by omega, PN, trivial⟩
                  case measure => simp [intOf]; omega
              · obtain rfl : m = q := by omega
                have HAT := Lib.hid (show posM ps OUT = m from posM_at OUT m (by rw [HM.out]; omega) PW.out (fun y hy => by rw [List.getElem?_eq_none (by rw [HM.out]; exact Nat.le_refl _)] at hy; cases hy))
                have HIN := Lib.hid (show insM OUT ps = OUT.take m ++ [ps] ++ OUT.drop m by
                  unfold insM; rw [HAT.out, List.getElem?_eq_none (by rw [HM.out]; exact Nat.le_refl _)])
                go_wp2_with fail
                have LD := Lib.hid (LO.out.mono strOk (B2.out.trans (Below.refl _ _).drew))
                have LK := Lib.hid (show Ls strE wr.drew (some ⟨g, 0, none⟩) m c2 (OUT.take m) from LD.out.first m (by omega))
                have LR := Lib.hid (show Ls strE wr.drew _ (m - m) (c2 - m) (OUT.drop m) from LD.out.rest m (by omega))
                have hnc := LD.out.hle
                have hcm := LD.out.hmax
                obtain ⟨Rl, hRl⟩ : ∃ Rl : List (Value → World → Prop), Rl = [fun v _ => v = .slice (some ⟨g, 0, none⟩) m c2, fun v _ => v = .int .i64 (m : Int), fun v _ => v = .slice (some ⟨g, 0, none⟩) m c2, fun v w => LsO strE w wr.drew.heap.size v (OUT.take m), fun v _ => v = .string ps, fun v w => ∃ b, v = Value.slice (some ⟨b, 0, none⟩) 1 1 ∧ Ls strE w (some ⟨b, 0, none⟩) 1 1 [ps], fun v w => LsO strE w wr.drew.heap.size v ((OUT.take m) ++ [ps]), fun v _ => v = .slice (some ⟨g, 0, none⟩) m c2, fun v _ => v = .int .i64 (m : Int), fun v _ => v = .slice (if c2 = m then some ⟨g, 0, none⟩ else (some (⟨g, 0, none⟩ : Addr)).map (fun x => x.add (m * strE.k))) (m - m) (c2 - m), fun v w => LsO strE w wr.drew.heap.size v ((OUT.take m) ++ [ps] ++ (OUT.drop m)), fun v w => LsO strE w wr.drew.heap.size v ((OUT.take m) ++ [ps] ++ (OUT.drop m))] := ⟨_, rfl⟩
                have hmono : MonoL Rl := by rw [hRl]; exact ⟨(fun _ _ _ h _ => h), ⟨(fun _ _ _ h _ => h), ⟨(fun _ _ _ h _ => h), ⟨(fun v w1 w2 h hb => LsO.kept h hb), ⟨(fun _ _ _ h _ => h), ⟨(fun v w1 w2 h hb => by obtain ⟨b, h1, h2⟩ := h; exact ⟨b, h1, h2.mono strOk hb⟩), ⟨(fun v w1 w2 h hb => LsO.kept h hb), ⟨(fun _ _ _ h _ => h), ⟨(fun _ _ _ h _ => h), ⟨(fun _ _ _ h _ => h), ⟨(fun v w1 w2 h hb => LsO.kept h hb), ⟨(fun v w1 w2 h hb => LsO.kept h hb), trivial⟩⟩⟩⟩⟩⟩⟩⟩⟩⟩⟩⟩
                refine region_facts2 (by kernel_rfl) (by kernel_rfl) [59, 60, 61, 62, 63, 64, 65, 66, 67, 68, 69, 3] rfl (by decide) (by simp) (fun i v w => (Rl.getD i (fun _ _ => True)) v w) (fun i j => if i = 11 then j == 10 else true) (fun i => [0, 1, 2, 4, 7, 8, 9].contains i) (fun i => i == 11) (fun i => i == 6 || i == 10) (by kernel_rfl) ?_ (fun i v w1 w2 h hb => monoL_get hmono i v w1 w2 h hb) ?_ ?_
                · intro i v w1 w2 hpu h _
                  rcases (show i = 0 ∨ i = 1 ∨ i = 2 ∨ i = 4 ∨ i = 7 ∨ i = 8 ∨ i = 9 by simpa using hpu) with rfl | rfl | rfl | rfl | rfl | rfl | rfl <;> (subst hRl; exact h)
                · intro i o ho vs b w' hI K hK
                  have hil := (List.getElem?_eq_some_iff.1 ho).1
                  have hil : i < 12 := hil
                  subst hRl
                  rcases (show i = 0 ∨ i = 1 ∨ i = 2 ∨ i = 3 ∨ i = 4 ∨ i = 5 ∨ i = 6 ∨ i = 7 ∨ i = 8 ∨ i = 9 ∨ i = 10 ∨ i = 11 by omega) with rfl | rfl | rfl | rfl | rfl | rfl | rfl | rfl | rfl | rfl | rfl | rfl
                  · injection ho with ho
                    subst ho
                    have e3 : b.eval (.tmp 3) = (.slice (some ⟨g, 0, none⟩) m c2 : Value) := (hI.old2 3 (by intro j hj; have : ∀ j, j < 12 → [59, 60, 61, 62, 63, 64, 65, 66, 67, 68, 69, 3].getD j 0 = 3 → j = 11 := (by decide); intro e; rw [this j hj e]; kernel_rfl)).trans (by go_simp)
                    refine rf_val (by rfl) (.slice (some ⟨g, 0, none⟩) m c2) (by simp only [execOp]; simp only [e3]; rfl) ?_
                    exact hK _ _ (fun _ => Below.refl _ _) (Below.refl _ _) rfl
                  · injection ho with ho
                    subst ho
                    have e7 : b.eval (.tmp 7) = (.int .i64 (m : Int) : Value) := (hI.old 7 (by decide)).trans (by go_simp)
                    refine rf_val (by rfl) (.int .i64 (m : Int)) (by simp only [execOp]; simp only [e7]; rfl) ?_
                    exact hK _ _ (fun _ => Below.refl _ _) (Below.refl _ _) rfl
                  · injection ho with ho
                    subst ho
                    have e59 : b.eval (.tmp 59) = (.slice (some ⟨g, 0, none⟩) m c2 : Value) := (hI.dep 0 (by rfl) (by kernel_rfl) (by decide)).1.trans (hI.dep 0 (by rfl) (by kernel_rfl) (by decide)).2
                    have e60 : b.eval (.tmp 60) = (.int .i64 (m : Int) : Value) := (hI.dep 1 (by rfl) (by kernel_rfl) (by decide)).1.trans (hI.dep 1 (by rfl) (by kernel_rfl) (by decide)).2
                    refine rf_val (by rfl) (.slice (some ⟨g, 0, none⟩) m c2) (by simp only [execOp]; simp only [Option.map_none, Option.map_some, e59, e60]; go_simp; try (intro hh; exfalso; omega)) ?_
                    exact hK _ _ (fun _ => Below.refl _ _) (Below.refl _ _) rfl
                  · injection ho with ho
                    subst ho
                    have e61 : b.eval (.tmp 61) = (.slice (some ⟨g, 0, none⟩) m c2 : Value) := (hI.dep 2 (by rfl) (by kernel_rfl) (by decide)).1.trans (hI.dep 2 (by rfl) (by kernel_rfl) (by decide)).2
                    refine append_ls strOk rfl (.const (.slice none 0 0)) (.tmp 61) rfl wr.drew.heap.size (.slice none 0 0) [] rfl (LsO.nil _ _) (some ⟨g, 0, none⟩) m c2 (OUT.take m) e61 (LK.out.mono strOk hI.bel) (by have := HML.out; simp; omega) hI.bel.size ?_
                    intro v2 w2 hN hb2 hg2 hv2
                    exact wpl_nil (hK _ _ (fun _ => ⟨hg2.os, hg2.tape, hg2.output, hg2.size, fun k hk => hg2.block k hk (by simp [Value.ownBlock])⟩) hb2 hN)
                  · injection ho with ho
                    subst ho
                    have e6 : b.eval (.tmp 6) = (.string ps : Value) := (hI.old 6 (by decide)).trans (by go_simp)
                    refine rf_val (by rfl) (.string ps) (by simp only [execOp]; simp only [e6]; rfl) ?_
                    exact hK _ _ (fun _ => Below.refl _ _) (Below.refl _ _) rfl
                  · injection ho with ho
                    subst ho
                    have e63 : b.eval (.tmp 63) = (.string ps : Value) := (hI.dep 4 (by rfl) (by kernel_rfl) (by decide)).1.trans (hI.dep 4 (by rfl) (by kernel_rfl) (by decide)).2
                    refine build_str rfl (.tmp 63) rfl ps e63 FS.out ?_
                    intro w2 hl hb2
                    exact wpl_nil (hK _ _ (fun _ => hb2) (hb2.mono hI.bel.size) ⟨w'.heap.size, rfl, hl⟩)
                  · injection ho with ho
                    subst ho
                    have e62 := (hI.dep 3 (by rfl) (by kernel_rfl) (by decide)).1
                    have r62 := (hI.dep 3 (by rfl) (by kernel_rfl) (by decide)).2
                    have e64 := (hI.dep 5 (by rfl) (by kernel_rfl) (by decide)).1
                    have r64 := (hI.dep 5 (by rfl) (by kernel_rfl) (by decide)).2
                    obtain ⟨b5, h5, hl5⟩ := r64
                    rw [h5] at e64
                    refine append_ls strOk rfl (.tmp 62) (.tmp 64) rfl wr.drew.heap.size (vs 3) (OUT.take m) e62 r62 (some ⟨b5, 0, none⟩) 1 1 [ps] e64 hl5 (by have := HML.out; have := HM.out; rw [List.length_take]; omega) hI.bel.size ?_
                    intro v2 w2 hN hb2 hg2 hv2
                    exact wpl_nil (hK _ _ (fun h => by cases h) hb2 hN)
                  · injection ho with ho
                    subst ho
                    have e3 : b.eval (.tmp 3) = (.slice (some ⟨g, 0, none⟩) m c2 : Value) := (hI.old2 3 (by intro j hj; have : ∀ j, j < 12 → [59, 60, 61, 62, 63, 64, 65, 66, 67, 68, 69, 3].getD j 0 = 3 → j = 11 := (by decide); intro e; rw [this j hj e]; kernel_rfl)).trans (by go_simp)
                    refine rf_val (by rfl) (.slice (some ⟨g, 0, none⟩) m c2) (by simp only [execOp]; simp only [e3]; rfl) ?_
                    exact hK _ _ (fun _ => Below.refl _ _) (Below.refl _ _) rfl
                  · injection ho with ho
                    subst ho
                    have e7 : b.eval (.tmp 7) = (.int .i64 (m : Int) : Value) := (hI.old 7 (by decide)).trans (by go_simp)
                    refine rf_val (by rfl) (.int .i64 (m : Int)) (by simp only [execOp]; simp only [e7]; rfl) ?_
                    exact hK _ _ (fun _ => Below.refl _ _) (Below.refl _ _) rfl
                  · injection ho with ho
                    subst ho
                    have e66 : b.eval (.tmp 66) = (.slice (some ⟨g, 0, none⟩) m c2 : Value) := (hI.dep 7 (by rfl) (by kernel_rfl) (by decide)).1.trans (hI.dep 7 (by rfl) (by kernel_rfl) (by decide)).2
                    have e67 : b.eval (.tmp 67) = (.int .i64 (m : Int) : Value) := (hI.dep 8 (by rfl) (by kernel_rfl) (by decide)).1.trans (hI.dep 8 (by rfl) (by kernel_rfl) (by decide)).2
                    refine rf_val (by rfl) (.slice (if c2 = m then some ⟨g, 0, none⟩ else (some (⟨g, 0, none⟩ : Addr)).map (fun x => x.add (m * strE.k))) (m - m) (c2 - m)) (by simp only [execOp]; simp only [Option.map_none, Option.map_some, e66, e67]; go_simp; try (intro hh; exfalso; omega)) ?_
                    exact hK _ _ (fun _ => Below.refl _ _) (Below.refl _ _) rfl
                  · injection ho with ho
                    subst ho
                    have e65 := (hI.dep 6 (by rfl) (by kernel_rfl) (by decide)).1
                    have r65 := (hI.dep 6 (by rfl) (by kernel_rfl) (by decide)).2
                    have e68 : b.eval (.tmp 68) = (.slice (if c2 = m then some ⟨g, 0, none⟩ else (some (⟨g, 0, none⟩ : Addr)).map (fun x => x.add (m * strE.k))) (m - m) (c2 - m) : Value) := (hI.dep 9 (by rfl) (by kernel_rfl) (by decide)).1.trans (hI.dep 9 (by rfl) (by kernel_rfl) (by decide)).2
                    refine append_ls strOk rfl (.tmp 65) (.tmp 68) rfl wr.drew.heap.size (vs 6) ((OUT.take m) ++ [ps]) e65 r65 _ (m - m) (c2 - m) (OUT.drop m) e68 (LR.out.mono strOk hI.bel) (by have := HML.out; have := HM.out; rw [List.length_append, List.length_take]; simp; omega) hI.bel.size ?_
                    intro v2 w2 hN hb2 hg2 hv2
                    exact wpl_nil (hK _ _ (fun h => by cases h) hb2 hN)
                  · injection ho with ho
                    subst ho
                    have e69 := (hI.dep 10 (by rfl) (by kernel_rfl) (by decide)).1
                    have r69 := (hI.dep 10 (by rfl) (by kernel_rfl) (by decide)).2
                    refine rf_val (by rfl) (vs 10) (by simp only [execOp]; rw [show b.eval (.tmp 69) = vs 10 from e69]; rfl) ?_
                    exact hK _ _ (fun _ => Below.refl _ _) (Below.refl _ _) r69
                · intro vs w6 hb6 hall
                  subst hRl
                  have F11 := Lib.hid (show LsO strE w6 wr.drew.heap.size (vs 11) ((OUT.take m) ++ [ps] ++ (OUT.drop m)) from hall 11 (by decide) (by decide))
                  have B6 := Lib.hid (B2.out.trans (((Below.refl _ _).drew.trans (hb6.mono (Nat.le_refl _))).mono B2.out.size))
                  clear hall
                  dsimp only [rfPut]
                  go_simp
                  generalize vs 11 = v11 at *
                  go_wp2_with fail
                  go_roundw
                  case rel => exact ⟨j + 1, vint (by omega), by omega, Lib.hid (by rw [HPN.out, HFO.out, HIN.out]; exact F11.out.base (Nat.le_trans BQ.out.size B2.out.size)), Lib.hid (BQ.out.trans (B6.out.mono BQ.out.size))⟩
                  case measure => simp [intOf]; omega
        · obtain rfl : xm = j := by omega
          have hpt : P.take xm = P := List.take_of_length_le (by rw [FP.out.hlen]; exact Nat.le_refl _)
          rw [hpt, ← HNX.out] at Q
          go_wp2_with fail
          go_roundw
          case rel => exact ⟨k + 1, vint (by omega), by omega, Q, BQ⟩
          case measure => simp [intOf]; omega
    · obtain rfl : n = k := by omega
      have ht : L.take n = L := List.take_of_length_le (by rw [HLN.out]; exact Nat.le_refl _)
      rw [ht] at O
      clear ht
      go_wp2_with fail
      go_ret
      exact ⟨_, rfl, O.out, B.out⟩
end Go.Proofs.Ytpcpgodnhamdiaa.W
