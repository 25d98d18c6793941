/- LAYER 19 (ledger), plain: ledgers that may be stay so; what was reserved and released. -/
import Derived.Test.YtiopcojkdglapaaLdO
set_option linter.unusedSimpArgs false
set_option linter.unusedVariables false
namespace Go.Proofs.Ytiopcojkdglapaa.W
open Go Go.ChangeShapes Go.WideShapes Go.ChangeAt Go.RowKit

theorem dropH_sub : ∀ (L : List Hd) (i : Int), (dropH L i).Sublist L
  | [], _ => List.Sublist.refl _
  | s :: L, i => by
    simp only [dropH]
    split
    · exact List.Sublist.cons _ (List.Sublist.refl _)
    · exact (dropH_sub L i).cons_cons s
theorem drop_sum : ∀ (L : List Hd) (i : Int), (findH L i).2 = true → sumH (dropH L i) + (findH L i).1.by' = sumH L ∧ (dropH L i).length + 1 = L.length ∧ (findH L i).1 ∈ L
  | [], _, h => by simp [findH] at h
  | s :: L, i, h => by
    simp only [findH, dropH] at h ⊢
    split
    · rename_i he
      (try rw [if_pos he])
      exact ⟨by rw [sumH_cons]; show sumH L + s.by' = _; omega, rfl, by simp⟩
    · rename_i he
      rw [if_neg he] at h
      (try rw [if_neg he])
      obtain ⟨h1, h2, h3⟩ := drop_sum L i h
      exact ⟨by rw [sumH_cons, sumH_cons]; omega, by simp [h2], by simp [h3]⟩
theorem found_by {l : Ld} (h : OkL l) {i : Int} (hf : (findH l.L i).2 = true) : 0 ≤ (findH l.L i).1.by' ∧ (findH l.L i).1.by' ≤ l.h := by
  obtain ⟨h1, h2, h3⟩ := drop_sum l.L i hf
  have hm := fun s hs => (chkH_mem l.L none h.hs s hs).1.by'
  have h4 := hm _ h3
  have h5 := sumH_pos (L := dropH l.L i) (fun s hs => (hm s ((dropH_sub l.L i).subset hs)).1)
  have := h.sum
  exact ⟨h4.1, by omega⟩
theorem release_ok {l : Ld} (h : OkL l) (i : Int) : OkL (l.release i).1 := by
  unfold Ld.release
  split
  · exact h
  · rename_i hf
    have hf : (findH l.L i).2 = true := by simpa using hf
    obtain ⟨h1, h2, h3⟩ := drop_sum l.L i hf
    obtain ⟨h4, h5⟩ := found_by h hf
    have hh := h.h
    have hs := h.sum
    have hl := h.le
    exact ⟨h.q, h.u, ⟨by show 0 ≤ l.h - _; omega, by show l.h - _ ≤ _; omega⟩, h.n, by show (dropH l.L i).length ≤ 8; have := h.len; omega, chkH_sub l.L _ none none (dropH_sub l.L i) h.hs (fun _ e => by cases e), by show sumH (dropH l.L i) = l.h - _; omega, by show l.u + (l.h - _) ≤ l.q; omega⟩
theorem release_find {l : Ld} {i : Int} (hf : (findH l.L i).2 = true) : (l.release i).1 = { l with h := l.h - (findH l.L i).1.by', L := dropH l.L i } := by
  unfold Ld.release; rw [if_neg (by simp [hf])]
theorem spend_ok {l : Ld} (h : OkL l) (i b : Int) : OkL (l.spend i b).1 := by
  unfold Ld.spend
  split
  · exact h
  · split
    · exact h
    · rename_i hf hb
      have hf : (findH l.L i).2 = true := by simpa using hf
      have hb : in64 b 0 (findH l.L i).1.by' = true := by simpa using hb
      have hb := in64_iff.1 hb
      have hr := release_ok h i
      have he := release_find hf
      obtain ⟨h4, h5⟩ := found_by h hf
      have hu := h.u; have hq := h.q; have hl := h.le; have hh := h.h
      rw [he] at hr ⊢
      exact ⟨hr.q, ⟨by show 0 ≤ l.u + b; omega, by show l.u + b ≤ _; omega⟩, hr.h, hr.n, hr.len, hr.hs, hr.sum, by show l.u + b + (l.h - (findH l.L i).1.by') ≤ l.q; omega⟩
theorem free_ok {l : Ld} (h : OkL l) (b : Int) : OkL (l.free b).1 := by
  unfold Ld.free
  split
  · exact h
  · rename_i hb
    have hb : in64 b 0 l.u = true := by simpa using hb
    have hb := in64_iff.1 hb
    have hu := h.u; have hl := h.le
    exact ⟨h.q, ⟨by show 0 ≤ l.u - b; omega, by show l.u - b ≤ _; omega⟩, h.h, h.n, h.len, h.hs, h.sum, by show l.u - b + l.h ≤ l.q; omega⟩
theorem quota_ok {l : Ld} (h : OkL l) (b : Int) : OkL (l.quota b).1 := by
  unfold Ld.quota
  split
  · exact h
  · split
    · exact h
    · rename_i hb hc
      have hb : in64 b 0 T40 = true := by simpa using hb
      have hb := in64_iff.1 hb
      exact ⟨⟨hb.1, hb.2⟩, h.u, h.h, h.n, h.len, h.hs, h.sum, by show l.u + l.h ≤ b; omega⟩
theorem expire_ok {l : Ld} (h : OkL l) (now : Int) : OkL (l.expire now).1 := by
  unfold Ld.expire
  have h1 := sumH_filter (fun s => decide (s.un < now)) l.L
  have hm := fun s hs => (chkH_mem l.L none h.hs s hs).1.by'.1
  have h2 := sumH_pos (L := l.L.filter (fun s => decide (s.un < now))) (fun s hs => hm s (List.filter_sublist.subset hs))
  have h3 := sumH_pos (L := l.L.filter (fun s => !decide (s.un < now))) (fun s hs => hm s (List.filter_sublist.subset hs))
  have h4 := List.length_filter_le (fun s => !decide (s.un < now)) l.L
  have hh := h.h; have hs := h.sum; have hl := h.le; have hn := h.len
  exact ⟨h.q, h.u, ⟨by show 0 ≤ l.h - _; omega, by show l.h - _ ≤ _; omega⟩, h.n, by show (l.L.filter _).length ≤ 8; omega, chkH_sub l.L _ none none List.filter_sublist h.hs (fun _ e => by cases e), by show sumH (l.L.filter _) = l.h - _; omega, by show l.u + (l.h - _) ≤ l.q; omega⟩
theorem reserve_ok {l : Ld} (h : OkL l) (x : Hd) : OkL (l.reserve x).1 := by
  unfold Ld.reserve
  split
  · exact h
  · split
    · exact h
    · split
      · exact h
      · rename_i h1 h2 h3
        have h1 : OkH { x with id := l.n } := ok_hd.1 (by simpa using h1)
        have hb := h1.by'
        have hb : 0 ≤ x.by' ∧ x.by' ≤ 1099511627776 := hb
        have hq := h.q; have hu := h.u; have hh := h.h; have hn := h.n; have hs := h.sum
        have h2 : ¬ (8 ≤ l.L.length) ∧ ¬ (T31 ≤ l.n) := by simpa using h2
        have h22 : ¬ (2147483648 ≤ l.n) := h2.2
        refine ⟨h.q, h.u, ⟨by show 0 ≤ l.h + x.by'; omega, by show l.h + x.by' ≤ _; omega⟩, ⟨by show 1 ≤ l.n + 1; omega, by show l.n + 1 ≤ _; omega⟩, by show (l.L ++ [_]).length ≤ 8; simp; omega, ?_, by show sumH (l.L ++ [_]) = l.h + x.by'; rw [sumH_app, hs]; simp [sumH], by show l.u + (l.h + x.by') ≤ l.q; omega⟩
        exact chkH_app (by show l.n ≤ l.n + 1; omega) l.L none { x with id := l.n } h.hs h1 (Int.le_refl _) (by show l.n < l.n + 1; omega) (fun _ e => by cases e)
theorem find_app19 : ∀ (L : List Hd) (x : Hd), (∀ s ∈ L, s.id ≠ x.id) → findH (L ++ [x]) x.id = (x, true) ∧ dropH (L ++ [x]) x.id = L
  | [], x, _ => by simp [findH, dropH]
  | s :: L, x, h => by
    obtain ⟨h1, h2⟩ := find_app19 L x (fun y hy => h y (by simp [hy]))
    have h3 := h s (by simp)
    simp only [List.cons_append, findH, dropH, if_neg h3]
    exact ⟨h1, by rw [h2]⟩
/-- what was reserved and released -/
theorem back19 {l : Ld} (h : OkL l) (x : Hd) (he : (l.reserve x).2.2 = 0) : ((l.reserve x).1.release (l.reserve x).2.1).2 = 0 ∧ { ((l.reserve x).1.release (l.reserve x).2.1).1 with n := l.n } = l ∧ (l.reserve x).1.h - l.h = x.by' := by
  unfold Ld.reserve at he ⊢
  split at he
  · cases he
  · split at he
    · cases he
    · split at he
      · cases he
      · rename_i h1 h2 h3
        rw [if_neg h1, if_neg h2, if_neg h3]
        have hne : ∀ s ∈ l.L, s.id ≠ ({ x with id := l.n } : Hd).id := fun s hs => by
          have := (chkH_mem l.L none h.hs s hs).2
          show s.id ≠ l.n
          omega
        obtain ⟨hf, hd⟩ := find_app19 l.L { x with id := l.n } hne
        have hf : findH (l.L ++ [{ x with id := l.n }]) l.n = ({ x with id := l.n }, true) := hf
        have hd : dropH (l.L ++ [{ x with id := l.n }]) l.n = l.L := hd
        dsimp only
        unfold Ld.release
        dsimp only
        rw [hf, if_neg (by simp)]
        refine ⟨rfl, ?_, by omega⟩
        dsimp only
        rw [hd]
        obtain ⟨q, u, hh, n, L⟩ := l
        simp
        (try omega)
theorem back19_bad {l : Ld} (x : Hd) (he : (l.reserve x).2.2 ≠ 0) : (l.reserve x).1 = l ∧ (l.reserve x).2.1 = 0 := by
  unfold Ld.reserve at he ⊢
  split at he
  · rename_i h1; rw [if_pos h1]; exact ⟨rfl, rfl⟩
  · rename_i h1
    rw [if_neg h1]
    split at he
    · rename_i h2; rw [if_pos h2]; exact ⟨rfl, rfl⟩
    · rename_i h2
      rw [if_neg h2]
      split at he
      · rename_i h3; rw [if_pos h3]; exact ⟨rfl, rfl⟩
      · exact absurd rfl he
end Go.Proofs.Ytiopcojkdglapaa.W
