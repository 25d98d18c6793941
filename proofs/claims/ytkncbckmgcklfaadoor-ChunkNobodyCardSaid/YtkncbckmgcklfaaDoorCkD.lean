/- LAYER 28 (chunk): a store of the program of which one file is another one, or that has one more, or fewer. -/
import Derived.Test.YtkncbckmgcklfaaDoorCkC
set_option linter.unusedSimpArgs false
set_option linter.unusedVariables false
namespace Go.Proofs.YtkncbckmgcklfaaDoor.W
open Go Go.ChangeShapes Go.WideShapes Go.ChangeAt Go.RowKit
open Go.Proofs.YtkncbckmgcklfaaDoor.P (shaL shaL_len)

/-- no two of them have one block -/
def Apart (g : FX → Option Nat) (X : List FX) : Prop := X.Pairwise fun x y => ∀ b, g x = some b → g y ≠ some b
theorem apart_set {g : FX → Option Nat} {X : List FX} {i : Nat} {x y : FX} (hp : Apart g X) (hi : X[i]? = some x) (hy : ∀ b, g y = some b → g x = some b ∨ ∀ z ∈ X, g z ≠ some b) : Apart g (X.set i y) := by
  unfold Apart at *
  rw [List.pairwise_iff_getElem] at hp ⊢
  obtain ⟨hil, hix⟩ := List.getElem?_eq_some_iff.1 hi
  intro j k hj hk hjk b hb
  rw [List.length_set] at hj hk
  rw [List.getElem_set] at hb ⊢
  by_cases h1 : i = j
  · subst h1
    rw [if_pos rfl] at hb
    rw [if_neg (by omega)]
    rcases hy b hb with h2 | h2
    · exact hp i k hj hk hjk b (by rw [hix]; exact h2)
    · exact h2 _ (List.getElem_mem hk)
  · rw [if_neg h1] at hb
    by_cases h2 : i = k
    · subst h2
      rw [if_pos rfl]
      intro h3
      rcases hy b h3 with h4 | h4
      · exact hp j i hj hk hjk b hb (by rw [hix]; exact h4)
      · exact h4 _ (List.getElem_mem hj) hb
    · rw [if_neg h2]
      exact hp j k hj hk hjk b hb
theorem apart_ins {g : FX → Option Nat} {X : List FX} {k : Nat} {y : FX} (hp : Apart g X) (hy : ∀ b, g y = some b → ∀ z ∈ X, g z ≠ some b) : Apart g (X.take k ++ y :: X.drop k) := by
  unfold Apart at *
  rw [List.pairwise_append]
  refine ⟨hp.sublist (List.take_sublist _ _), List.pairwise_cons.2 ⟨fun z hz b hb => hy b hb z (List.mem_of_mem_drop hz), hp.sublist (List.drop_sublist _ _)⟩, fun a ha b hb q hq => ?_⟩
  rcases List.mem_cons.1 hb with rfl | hb
  · exact fun h => hy q h a (List.mem_of_mem_take ha) hq
  · have h2 : (X.take k ++ X.drop k).Pairwise (fun x y => ∀ b, g x = some b → g y ≠ some b) := by rw [List.take_append_drop]; exact hp
    exact (List.pairwise_append.1 h2).2.2 a ha b hb q hq
theorem apart_at {g : FX → Option Nat} {X : List FX} (h : Apart g X) {x y : FX} (hx : x ∈ X) (hy : y ∈ X) (hne : x ≠ y) {b : Nat} (h1 : g x = some b) (h2 : g y = some b) : False := by
  unfold Apart at h
  induction X with
  | nil => cases hx
  | cons z X ih =>
    obtain ⟨p1, p2⟩ := List.pairwise_cons.1 h
    rcases List.mem_cons.1 hx with ex | hx'
    · rcases List.mem_cons.1 hy with ey | hy'
      · exact hne (by rw [ex, ey])
      · exact p1 y hy' b (by rw [← ex]; exact h1) h2
    · rcases List.mem_cons.1 hy with ey | hy'
      · exact p1 x hx' b (by rw [← ey]; exact h2) h1
      · exact ih p2 hx' hy'
theorem CK.pb {w : World} {p m : Nat} {room : Int} {X : List FX} {S : Nat → Prop} (h : CK w p m room X S) : Apart (fun x => x.bv.ownBlock) X := h.sb
theorem CK.pt {w : World} {p m : Nat} {room : Int} {X : List FX} {S : Nat → Prop} (h : CK w p m room X S) : Apart (fun x => x.tv.ownBlock) X := h.st
theorem keys_set {X : List FX} {i : Nat} {x y : FX} (hi : X[i]? = some x) (e : y.f.s = x.f.s) : (X.set i y).map (·.f.s) = X.map (·.f.s) := by
  obtain ⟨hil, hix⟩ := List.getElem?_eq_some_iff.1 hi
  rw [List.map_set]
  refine List.ext_getElem? fun j => ?_
  by_cases h : i = j
  · subst h
    rw [List.getElem?_set_self (by simpa using hil), List.getElem?_map, hi, e]; rfl
  · rw [List.getElem?_set_ne h]
theorem ris_of_keys {X Y : List FX} (h : Ris (MX X)) (e : Y.map (·.f.s) = X.map (·.f.s)) : Ris (MX Y) := by
  have key : ∀ Z : List FX, Ris (MX Z) ↔ (Z.map (·.f.s)).Pairwise (fun a b => ltM a b = true) := fun Z => by
    unfold Ris MX
    rw [List.pairwise_map, List.pairwise_map]
  rw [key] at h ⊢
  rw [e]; exact h
theorem ris_set {X : List FX} (h : Ris (MX X)) {i : Nat} {x y : FX} (hi : X[i]? = some x) (e : y.f.s = x.f.s) : Ris (MX (X.set i y)) := ris_of_keys h (keys_set hi e)
theorem mx_mem {X : List FX} {p : Ent} : p ∈ MX X ↔ ∃ x ∈ X, p = (x.f.s, x.val) := by
  unfold MX
  rw [List.mem_map]
  exact ⟨fun ⟨q, h, e⟩ => ⟨q, h, e.symm⟩, fun ⟨q, h, e⟩ => ⟨q, h, e.symm⟩⟩
theorem mx_set {X : List FX} (h : Ris (MX X)) {i : Nat} {x y : FX} (hi : X[i]? = some x) (e : y.f.s = x.f.s) (p : Ent) : p ∈ MX (X.set i y) ↔ p = (x.f.s, y.val) ∨ (p ∈ MX X ∧ p.1 ≠ x.f.s) := by
  obtain ⟨hil, hix⟩ := List.getElem?_eq_some_iff.1 hi
  have hxm : x ∈ X := List.mem_of_getElem? hi
  rw [mx_mem, mx_mem]
  constructor
  · rintro ⟨z, hz, rfl⟩
    rcases List.mem_or_eq_of_mem_set hz with h1 | rfl
    · by_cases hzx : z.f.s = x.f.s
      · obtain ⟨j, hj⟩ := List.getElem?_of_mem hz
        by_cases hji : i = j
        · subst hji
          rw [List.getElem?_set_self hil] at hj
          injection hj with hj
          exact .inl (by rw [← hj, e])
        · rw [List.getElem?_set_ne hji] at hj
          have : z = x := risx_uniq h h1 hxm hzx
          subst this
          have hn : X.Pairwise (fun a b => a.f.s ≠ b.f.s) := by
            have h2 := ris_ne h
            unfold MX at h2
            rwa [List.pairwise_map] at h2
          obtain ⟨hjl, hjx⟩ := List.getElem?_eq_some_iff.1 hj
          rw [List.pairwise_iff_getElem] at hn
          rcases Nat.lt_or_gt_of_ne hji with h3 | h3
          · exact absurd (by rw [hix, hjx]) (hn i j hil hjl h3)
          · exact absurd (by rw [hix, hjx]) (hn j i hjl hil h3)
      · exact .inr ⟨⟨z, h1, rfl⟩, hzx⟩
    · exact .inl (by rw [e])
  · rintro (rfl | ⟨⟨z, hz, rfl⟩, h2⟩)
    · exact ⟨y, List.mem_set hil y, by rw [e]⟩
    · obtain ⟨j, hj⟩ := List.getElem?_of_mem hz
      have hji : i ≠ j := by
        rintro rfl
        rw [hi] at hj
        injection hj with hj
        exact h2 (by rw [hj])
      exact ⟨z, List.mem_of_getElem? (by rw [List.getElem?_set_ne hji]; exact hj), rfl⟩
theorem set_f {X : List FX} {i : Nat} {y : FX} : (X.set i y).map (·.f) = (X.map (·.f)).set i y.f := List.map_set ..
/-- of the map alone something else is there -/
theorem CK.turn {w w' : World} {p m : Nat} {room : Int} {X Y : List FX} {S : Nat → Prop} (h : CK w p m room X S) (hg : w.grownBy w' (some m)) (hsm : SM w' m Y.length (MX Y))
    (hb : Apart (fun x => x.bv.ownBlock) Y) (ht : Apart (fun x => x.tv.ownBlock) Y) (ob : ∀ x ∈ Y, Fr w 0 x.bv x.f.b) (ot : ∀ x ∈ Y, LsO intE w 0 x.tv x.f.t)
    (Sb : ∀ x ∈ Y, ∀ g, x.bv.ownBlock = some g → S g) (St : ∀ x ∈ Y, ∀ g, x.tv.ownBlock = some g → S g) : CK w' p m room Y S ∧ Ft S w w' := by
  have hne : ∀ g, g ≠ m → w.heap[g]? = w.heap[g]? := fun _ _ => rfl
  have hpm : p ≠ m := (h.sm.norow h.rp).symm
  have keep : ∀ g, g < w.heap.size → g ≠ m → w'.heap[g]? = w.heap[g]? := fun g hlt hn => hg.block g hlt (fun e => hn (by injection e))
  have nb : ∀ x ∈ Y, ∀ g, x.bv.ownBlock = some g → g ≠ m := fun x hx g e e2 => by
    obtain ⟨a, c, ev, -, -⟩ := (ob x hx).form
    have h2 := (ob x hx).2
    rcases h2 with ⟨e3, -⟩ | ⟨q, cap, cur, e3, -, hh, -⟩
    · rw [e3] at e; cases e
    · rw [e3] at e
      have : q = g := by injection e
      obtain ⟨es, clock, hb2, -⟩ := h.sm.own
      rw [this, e2, hb2] at hh
      cases hh
  have nt : ∀ x ∈ Y, ∀ g, x.tv.ownBlock = some g → g ≠ m := fun x hx g e e2 => by
    have h2 := (ot x hx).2
    rcases h2 with ⟨e3, -⟩ | ⟨q, cap, cur, e3, -, hh, -⟩
    · rw [e3] at e; cases e
    · rw [e3] at e
      have : q = g := by injection e
      obtain ⟨es, clock, hb2, -⟩ := h.sm.own
      rw [this, e2, hb2] at hh
      cases hh
  refine ⟨{ rp := ?_, sm := hsm, ob := fun x hx => (ob x hx).keep fun g e => keep g ((ob x hx).blt e) (nb x hx g e), ot := fun x hx => (ot x hx).keep fun g e => keep g ((ot x hx).blt e) (nt x hx g e), sb := hb, st := ht, Sp := h.Sp, Sm := h.Sm, Sb := Sb, St := St, lt := fun k hk => Nat.lt_of_lt_of_le (h.lt k hk) hg.size }, ⟨hg.os, hg.tape, hg.output, hg.size, fun k hk hn => keep k hk (fun e => hn (e ▸ h.Sm))⟩⟩
  exact (keep p h.rp.lt hpm).trans h.rp
end Go.Proofs.YtkncbckmgcklfaaDoor.W
