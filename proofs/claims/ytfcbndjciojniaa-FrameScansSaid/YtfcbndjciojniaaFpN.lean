/- LAYER 10 (frame): frames, one behind the other, and a beginning of them: what a scan finds (no memory). -/
import Derived.Test.YtfcbndjciojniaaFrT
set_option linter.unusedSimpArgs false
set_option linter.unusedVariables false
namespace Go.Proofs.Ytfcbndjciojniaa.W
open Go Go.ChangeShapes Go.WideShapes Go.ChangeAt Go.RowKit
open Go.Proofs.Ytfcbndjciojniaa.P (enc dec)
open Go.Proofs.Ytfcbndjciojniaa.A (more)

theorem dec_more : ∀ (f i acc : Nat) (l r : List UInt8), (dec f i acc l).2.2 = 0 → dec f i acc (l ++ r) = dec f i acc l
  | 0, _, _, _, _, h => by simp [P.dec] at h
  | f + 1, _, _, [], _, h => by simp [P.dec] at h
  | f + 1, i, acc, x :: t, r, h => by
    rw [List.cons_append]
    unfold P.dec at h ⊢
    split
    · rfl
    · rename_i h1
      rw [if_neg h1] at h
      split
      · rfl
      · rename_i h2
        rw [if_neg h2] at h
        exact dec_more f _ _ t r h
theorem sum4_len (s : Int) : (sum4 s).length = 4 := rfl
theorem numR_enc (n : Nat) (t : List UInt8) (hn : n ≤ 262144) : numR 262144 (enc n ++ t) 0 = (n, t, 0) := by
  have hd := P.dec_enc n (by omega) t
  rw [numR_ok (by rw [hd]) (by rw [hd]; omega), hd]
  simp
theorem next_seal (x r : List UInt8) (hx : x.length ≤ 262144) : nextF (sealF x ++ r) = (x, (sealF x).length, 0) := by
  have hb : sealF x ++ r = enc x.length ++ (x ++ (sum4 (more 1 (headF x)) ++ r)) := by simp [sealF, headF]
  have hn := numR_enc x.length (x ++ (sum4 (more 1 (headF x)) ++ r)) hx
  rw [← hb] at hn
  unfold nextF
  rw [hn]
  dsimp only
  rw [if_neg (by simp), if_neg (by simp [sum4_len]), List.take_left, if_neg (by simp)]
theorem next_part (x r : List UInt8) (k : Nat) (hx : x.length ≤ 262144) (hk : k < (sealF x).length) : (nextF ((sealF x ++ r).take k)).2.2 ≠ 0 := by
  have hb : sealF x = enc x.length ++ (x ++ sum4 (more 1 (headF x))) := by simp [sealF, headF]
  rw [List.take_append_of_le_length (by omega)]
  by_cases hke : k < (enc x.length).length
  · have hl : (sealF x).take k = (enc x.length).take k := by rw [hb, List.take_append_of_le_length (by omega)]
    rw [hl]
    have hd : (dec 9 0 0 ((enc x.length).take k)).2.2 ≠ 0 := by
      intro h
      have h1 := dec_more 9 0 0 _ ((enc x.length).drop k) h
      rw [List.take_append_drop] at h1
      have h2 := P.dec_enc x.length (by omega) []
      rw [List.append_nil, h1] at h2
      have h3 := P.dec_size 9 0 0 _ h
      rw [h2] at h3
      simp only [List.length_take] at h3
      omega
    have hn := numR_bad (most := 262144) hd
    have hne : (numR 262144 ((enc x.length).take k) 0).2.2 ≠ 0 := by rw [hn]; exact hd
    unfold nextF
    rw [if_pos hne]
    exact hne
  · have hl : (sealF x).take k = enc x.length ++ (x ++ sum4 (more 1 (headF x))).take (k - (enc x.length).length) := by
      rw [hb, List.take_append, List.take_of_length_le (by omega)]
    rw [hl]
    have hn := numR_enc x.length ((x ++ sum4 (more 1 (headF x))).take (k - (enc x.length).length)) hx
    unfold nextF
    rw [hn]
    dsimp only
    have hs : (sealF x).length = (enc x.length).length + x.length + 4 := seal_len x
    rw [if_neg (by simp), if_pos (by rw [List.length_take]; omega)]
    simp
theorem next_nil : (nextF []).2.2 ≠ 0 := by decide +kernel
/-- frames, one behind the other -/
def cat (Xs : List (List UInt8)) : List UInt8 := (Xs.map sealF).flatten
theorem cat_cons (x : List UInt8) (Xs : List (List UInt8)) : cat (x :: Xs) = sealF x ++ cat Xs := by simp [cat]
theorem cat_append (Xs Ys : List (List UInt8)) : cat (Xs ++ Ys) = cat Xs ++ cat Ys := by simp [cat]
theorem cat_len (Xs : List (List UInt8)) : Xs.length ≤ (cat Xs).length := by
  induction Xs with
  | nil => simp
  | cons x t ih => rw [cat_cons, List.length_append, List.length_cons, seal_len]; omega
theorem scan_cat (R : List UInt8) (hR : (nextF R).2.2 ≠ 0) : ∀ (Xs : List (List UInt8)) (P : List UInt8) (f : Nat), (∀ x ∈ Xs, x.length ≤ 262144) → Xs.length < f → scanG (P ++ (cat Xs ++ R)) f P.length = (Xs, P.length + (cat Xs).length)
  | [], P, f, _, hf => by
    obtain ⟨g, rfl⟩ : ∃ g, f = g + 1 := ⟨f - 1, by simp at hf; omega⟩
    unfold scanG
    rw [List.drop_left, show cat [] = [] from rfl, List.nil_append, if_pos hR]
    rfl
  | x :: t, P, f, hx, hf => by
    obtain ⟨g, rfl⟩ : ∃ g, f = g + 1 := ⟨f - 1, by simp at hf; omega⟩
    have ih := scan_cat R hR t (P ++ sealF x) g (fun y hy => hx y (List.mem_cons_of_mem _ hy)) (by simp at hf; omega)
    have hn := next_seal x (cat t ++ R) (hx x (by simp))
    unfold scanG
    rw [List.drop_left, cat_cons, List.append_assoc, hn]
    dsimp only
    rw [if_neg (by simp)]
    rw [List.append_assoc, List.length_append] at ih
    rw [ih, List.length_append]
    simp only [Prod.mk.injEq, true_and]
    omega
theorem scanF_cat (Xs : List (List UInt8)) (R : List UInt8) (hR : (nextF R).2.2 ≠ 0) (hx : ∀ x ∈ Xs, x.length ≤ 262144) : scanF (cat Xs ++ R) = (Xs, (cat Xs).length) := by
  have h := scan_cat R hR Xs [] ((cat Xs ++ R).length + 1) hx (by have := cat_len Xs; rw [List.length_append]; omega)
  simpa [scanF] using h
theorem scan_take (Xs : List (List UInt8)) (at' w : Nat) (hx : ∀ x ∈ Xs, x.length ≤ 262144) (hat : at' ≤ (cat Xs).length) (h1 : (cat (Xs.take w)).length ≤ at') (h2 : Xs.length ≤ w ∨ at' < (cat (Xs.take (w + 1))).length) :
    scanF ((cat Xs).take at') = (Xs.take w, (cat (Xs.take w)).length) := by
  have hsplit : cat Xs = cat (Xs.take w) ++ cat (Xs.drop w) := by rw [← cat_append, List.take_append_drop]
  have ht : (cat Xs).take at' = cat (Xs.take w) ++ (cat (Xs.drop w)).take (at' - (cat (Xs.take w)).length) := by
    rw [hsplit, List.take_append, List.take_of_length_le h1]
  rw [ht]
  refine scanF_cat _ _ ?_ (fun x hm => hx x (List.mem_of_mem_take hm))
  rcases hdr : Xs.drop w with _ | ⟨x, t⟩
  · rw [show cat [] = [] from rfl, List.take_nil]; exact next_nil
  · have hw : w < Xs.length := by
      have := congrArg List.length hdr
      rw [List.length_drop, List.length_cons] at this
      omega
    have hlt : at' < (cat (Xs.take (w + 1))).length := h2.resolve_left (by omega)
    have hx1 : Xs.take (w + 1) = Xs.take w ++ [x] := by
      rw [List.take_add, hdr]; rfl
    rw [hx1, cat_append, List.length_append] at hlt
    have hc1 : cat [x] = sealF x := by simp [cat]
    rw [hc1] at hlt
    rw [cat_cons]
    have hm : x ∈ Xs := List.mem_of_mem_drop (by rw [hdr]; simp)
    exact next_part x _ _ (hx x hm) (by omega)
/-- how many of the first ends are not behind a place -/
def wN (E : Nat → Nat) (at' : Nat) : Nat → Nat
  | 0 => 0
  | j + 1 => if E j ≤ at' then wN E at' j + 1 else wN E at' j
theorem wN_spec (C : Nat → Nat) (at' : Nat) (hC : ∀ i j, i ≤ j → C i ≤ C j) (h0 : C 0 ≤ at') : ∀ j, wN (fun k => C (k + 1)) at' j ≤ j ∧ C (wN (fun k => C (k + 1)) at' j) ≤ at' ∧ (wN (fun k => C (k + 1)) at' j = j ∨ at' < C (wN (fun k => C (k + 1)) at' j + 1))
  | 0 => ⟨Nat.le_refl _, h0, .inl rfl⟩
  | j + 1 => by
    obtain ⟨h1, h2, h3⟩ := wN_spec C at' hC h0 j
    unfold wN
    by_cases hE : C (j + 1) ≤ at'
    · rw [if_pos hE]
      have e : wN (fun k => C (k + 1)) at' j = j := by
        rcases h3 with h3 | h3
        · exact h3
        · have := hC (wN (fun k => C (k + 1)) at' j + 1) (j + 1) (by omega)
          omega
      rw [e]
      exact ⟨Nat.le_refl _, hE, .inl rfl⟩
    · rw [if_neg hE]
      refine ⟨by omega, h2, ?_⟩
      rcases h3 with h3 | h3
      · rw [h3]; exact .inr (by omega)
      · exact .inr h3
end Go.Proofs.Ytfcbndjciojniaa.W
