/- LAYER 9 (disk): what a disk is, without memory: its slots' bytes, how many are sure, the room; what each call answers and makes of it. THE REFERENCE keeps to it: one contract a call, for every slot and size. -/
import Derived.Test.YtlohfalpcppcjaaDkN
import Derived.Test.YtlohfalpcppcjaaDkU
set_option linter.unusedSimpArgs false
set_option linter.unusedVariables false
namespace Go.Proofs.Ytlohfalpcppcjaa.W
open Go Go.ChangeShapes Go.WideShapes Go.ChangeAt Go.RowKit

structure DSt where
  B : List (List UInt8)
  s : List Int
  most : Int
def DSt.at (d : DSt) (slot : Int) : List UInt8 := d.B.getD slot.toNat []
def DSt.apE (d : DSt) (slot : Int) (l : List UInt8) : Int := if slotV d.B slot = false then 1 else if d.most - ((d.at slot).length : Int) < (l.length : Int) then 7 else 0
def DSt.ap (d : DSt) (slot : Int) (l : List UInt8) : DSt := if d.apE slot l = 0 then { d with B := d.B.set slot.toNat (d.at slot ++ l) } else d
def DSt.clE (d : DSt) (slot : Int) : Int := if slotV d.B slot = false then 1 else 0
def DSt.cl (d : DSt) (slot : Int) : DSt := if slotV d.B slot = false then d else { d with B := d.B.set slot.toNat [], s := d.s.set slot.toNat (min (d.s.getD slot.toNat 0) 0) }
def DSt.cutE (d : DSt) (slot size : Int) : Int := if slotV d.B slot = false then 1 else if size < 0 ∨ ((d.at slot).length : Int) < size then 1 else 0
def DSt.cut (d : DSt) (slot size : Int) : DSt := if d.cutE slot size = 0 then { d with B := d.B.set slot.toNat ((d.at slot).take size.toNat), s := d.s.set slot.toNat (min (d.s.getD slot.toNat 0) (size.toNat : Int)) } else d
def DSt.sync (d : DSt) : DSt := { d with s := syncN d.B d.s d.B.length }
def DSt.loose (d : DSt) : Int := looseN d.B d.s d.B.length
def DSt.crash (d : DSt) (ks : List Int) : DSt := { d with B := (crN ks d.B d.s d.B.length).1, s := (crN ks d.B d.s d.B.length).2.1 }
def DSt.size (d : DSt) (slot : Int) : Int := if slotV d.B slot = false then 0 else ((d.at slot).length : Int)
def DSt.rd (d : DSt) (slot : Int) : List UInt8 := if slotV d.B slot = false then [] else d.at slot
def DSt.new (n room : Nat) : DSt := ⟨List.replicate n [], List.replicate n 0, room⟩

/-- the reference's disk is d; all its blocks lie in S -/
def XP (w : World) (p : Nat) (S : Nat → Prop) (d : DSt) : Prop := ∃ gb gs vs, DX w p gb gs vs S d.B d.s d.most ∧ DSure d.B d.s
theorem XP.ft {F : Nat → Prop} {w w' : World} {p : Nat} {S : Nat → Prop} {d : DSt} (h : XP w p S d) (k : Ft F w w') (hd : Disj S F) : XP w' p S d := by
  obtain ⟨gb, gs, vs, hx, hs⟩ := h
  exact ⟨gb, gs, vs, hx.ft k hd, hs⟩
theorem XP.lt {w : World} {p : Nat} {S : Nat → Prop} {d : DSt} (h : XP w p S d) : ∀ k, S k → k < w.heap.size := by
  obtain ⟨gb, gs, vs, hx, hs⟩ := h
  exact hx.lt
theorem XP.n16 {w : World} {p : Nat} {S : Nat → Prop} {d : DSt} (h : XP w p S d) : d.B.length ≤ 16 := by
  obtain ⟨gb, gs, vs, hx, hs⟩ := h
  exact hx.n16
theorem DSure.app {Bs : List (List UInt8)} {Ss : List Int} (h : DSure Bs Ss) (k : Nat) (l : List UInt8) : DSure (Bs.set k (Bs.getD k [] ++ l)) Ss := by
  intro i hi
  have h1 := h i (by simpa using hi)
  have hb : (Bs.set k (Bs.getD k [] ++ l)).getD i [] = if k = i then Bs.getD i [] ++ l else Bs.getD i [] := by
    simp only [List.getD_eq_getElem?_getD, List.getElem?_set]
    by_cases hik : k = i
    · subst hik
      have hk : k < Bs.length := by simpa using hi
      simp [hk]
    · simp [hik]
  rw [hb]
  split
  · rw [List.length_append]; omega
  · exact h1
theorem syncN_at (Bs : List (List UInt8)) (Ss : List Int) (hl : Ss.length = Bs.length) : ∀ k, k ≤ Bs.length → (syncN Bs Ss k).length = Bs.length ∧ ∀ i, (syncN Bs Ss k).getD i 0 = if i < k then ((Bs.getD i []).length : Int) else Ss.getD i 0
  | 0, _ => ⟨hl, fun i => by simp [syncN]⟩
  | k + 1, hk => by
    obtain ⟨h1, h2⟩ := syncN_at Bs Ss hl k (by omega)
    unfold syncN
    refine ⟨by simpa using h1, fun i => ?_⟩
    by_cases hik : k = i
    · subst hik
      have hlt : k < Bs.length := hk
      simp [List.getD_eq_getElem?_getD, List.getElem?_set, h1, hlt]
    · have : ((syncN Bs Ss k).set k ((Bs.getD k []).length : Int)).getD i 0 = (syncN Bs Ss k).getD i 0 := by
        simp only [List.getD_eq_getElem?_getD, List.getElem?_set, if_neg hik]
      rw [this, h2 i]
      by_cases hlt : i < k
      · rw [if_pos hlt, if_pos (by omega)]
      · rw [if_neg hlt, if_neg (by omega)]
theorem DSure.sync {Bs : List (List UInt8)} {Ss : List Int} (hl : Ss.length = Bs.length) : DSure Bs (syncN Bs Ss Bs.length) := by
  intro i hi
  rw [(syncN_at Bs Ss hl _ (Nat.le_refl _)).2 i, if_pos hi]
  omega

theorem xp_new {w w' : World} {n room p gb gs : Nat} (h : DNew w w' n room p gb gs) : XP w' p (fun k => w.heap.size ≤ k ∧ k < w'.heap.size) (DSt.new n room) :=
  ⟨gb, gs, _, h.1, fun i hi => by simp only [DSt.new]; rw [getD_rep, getD_rep]; simp⟩
theorem xp_append (p : Nat) (S : Nat → Prop) (d : DSt) (slot : Int) (a : Option Addr) (m c : Nat) (l : List UInt8) (w : World) (h : XP w p S d) (hr : Rd w a m c l) :
    Calls Try.prog 26 #[.pointer (some ⟨p, 0, none⟩), .int .i64 slot, .slice a m c] w fun e w' => e = .returned (.int .i64 (d.apE slot l)) ∧ ∃ S', XP w' p S' (d.ap slot l) ∧ Ft S w w' ∧ Grew w S S' := by
  obtain ⟨gb, gs, vs, hx, hs⟩ := h
  have hm := hr.hlen
  cases hb : slotV d.B slot
  · refine (xappend_bad p gb gs vs S d.B d.s d.most slot a m c w hx hb).mono ?_
    rintro e w' ⟨rfl, rfl⟩
    have he : d.apE slot l = 1 := by unfold DSt.apE; rw [if_pos hb]
    refine ⟨by rw [he], S, ?_, Ft.refl _ _, Grew.refl _ _⟩
    unfold DSt.ap
    rw [he, if_neg (by decide)]
    exact ⟨gb, gs, vs, hx, hs⟩
  · obtain ⟨k, rfl, hk⟩ := slot_nat hb
    by_cases hf : d.most - ((d.B.getD k []).length : Int) < (m : Int)
    · refine (xappend_full p gb gs vs S d.B d.s d.most k a m c l w hx hk hr hf).mono ?_
      rintro e w' ⟨rfl, hw⟩
      have he : d.apE (k : Int) l = 7 := by unfold DSt.apE; rw [if_neg (by rw [hb]; decide), if_pos (by unfold DSt.at; rw [Int.toNat_natCast]; omega)]
      refine ⟨by rw [he], S, ?_, Ft.of_below hw, Grew.refl _ _⟩
      unfold DSt.ap
      rw [he, if_neg (by decide)]
      exact ⟨gb, gs, vs, hx.mono hw, hs⟩
    · refine (xappend_ok p gb gs vs S d.B d.s d.most k a m c l w hx hk hr (by omega)).mono ?_
      rintro e w' ⟨rfl, vs', S', h1, h2, h3⟩
      have he : d.apE (k : Int) l = 0 := by unfold DSt.apE; rw [if_neg (by rw [hb]; decide), if_neg (by unfold DSt.at; rw [Int.toNat_natCast]; omega)]
      refine ⟨by rw [he], S', ?_, h2, h3⟩
      unfold DSt.ap
      rw [he, if_pos rfl]
      exact ⟨gb, gs, vs', h1, hs.app k l⟩
theorem xp_clear (p : Nat) (S : Nat → Prop) (d : DSt) (slot : Int) (w : World) (h : XP w p S d) :
    Calls Try.prog 27 #[.pointer (some ⟨p, 0, none⟩), .int .i64 slot] w fun e w' => e = .returned (.int .i64 (d.clE slot)) ∧ ∃ S', XP w' p S' (d.cl slot) ∧ Ft S w w' ∧ Grew w S S' := by
  obtain ⟨gb, gs, vs, hx, hs⟩ := h
  cases hb : slotV d.B slot
  · refine (xclear_slot p gb gs vs S d.B d.s d.most slot w hx hb).mono ?_
    rintro e w' ⟨rfl, rfl⟩
    unfold DSt.clE DSt.cl
    rw [if_pos hb, if_pos hb]
    exact ⟨rfl, S, ⟨gb, gs, vs, hx, hs⟩, Ft.refl _ _, Grew.refl _ _⟩
  · obtain ⟨k, rfl, hk⟩ := slot_nat hb
    refine (xclear_ok p gb gs vs S d.B d.s d.most k w hx hk).mono ?_
    rintro e w' ⟨rfl, vs', S', h1, h2, h3⟩
    unfold DSt.clE DSt.cl
    rw [if_neg (by rw [hb]; decide), if_neg (by rw [hb]; decide)]
    have h0 := hs k hk
    exact ⟨rfl, S', ⟨gb, gs, vs', h1, hs.step hx.ls k hk [] _ (by rw [Int.toNat_natCast, Int.min_eq_right h0.1]; simp)⟩, h2, h3⟩
theorem xp_cut (p : Nat) (S : Nat → Prop) (d : DSt) (slot size : Int) (w : World) (h : XP w p S d) :
    Calls Try.prog 28 #[.pointer (some ⟨p, 0, none⟩), .int .i64 slot, .int .i64 size] w fun e w' => e = .returned (.int .i64 (d.cutE slot size)) ∧ ∃ S', XP w' p S' (d.cut slot size) ∧ Ft S w w' ∧ Grew w S S' := by
  obtain ⟨gb, gs, vs, hx, hs⟩ := h
  cases hb : slotV d.B slot
  · refine (xcut_slot p gb gs vs S d.B d.s d.most slot size w hx hb).mono ?_
    rintro e w' ⟨rfl, rfl⟩
    have he : d.cutE slot size = 1 := by unfold DSt.cutE; rw [if_pos hb]
    unfold DSt.cut
    rw [he, if_neg (by decide)]
    exact ⟨rfl, S, ⟨gb, gs, vs, hx, hs⟩, Ft.refl _ _, Grew.refl _ _⟩
  · obtain ⟨k, rfl, hk⟩ := slot_nat hb
    by_cases hf : size < 0 ∨ ((d.B.getD k []).length : Int) < size
    · refine (xcut_size p gb gs vs S d.B d.s d.most k size w hx hk hf).mono ?_
      rintro e w' ⟨rfl, rfl⟩
      have he : d.cutE (k : Int) size = 1 := by unfold DSt.cutE; rw [if_neg (by rw [hb]; decide), if_pos (by unfold DSt.at; rw [Int.toNat_natCast]; exact hf)]
      unfold DSt.cut
      rw [he, if_neg (by decide)]
      exact ⟨rfl, S, ⟨gb, gs, vs, hx, hs⟩, Ft.refl _ _, Grew.refl _ _⟩
    · have he : d.cutE (k : Int) size = 0 := by unfold DSt.cutE; rw [if_neg (by rw [hb]; decide), if_neg (by unfold DSt.at; rw [Int.toNat_natCast]; exact hf)]
      obtain ⟨s, rfl⟩ : ∃ s : Nat, size = (s : Int) := ⟨size.toNat, by omega⟩
      refine (xcut_ok p gb gs vs S d.B d.s d.most k s w hx hk (by omega)).mono ?_
      rintro e w' ⟨rfl, vs', S', h1, h2, h3⟩
      unfold DSt.cut
      rw [he, if_pos rfl]
      have h0 := hs k hk
      exact ⟨rfl, S', ⟨gb, gs, vs', h1, hs.step hx.ls k hk _ _ (by unfold DSt.at; simp only [Int.toNat_natCast, List.length_take]; omega)⟩, h2, h3⟩
theorem xp_sync (p : Nat) (S : Nat → Prop) (d : DSt) (w : World) (h : XP w p S d) :
    Calls Try.prog 29 #[.pointer (some ⟨p, 0, none⟩)] w fun e w' => e = .returned (.int .i64 d.loose) ∧ XP w' p S d.sync ∧ Ft S w w' := by
  obtain ⟨gb, gs, vs, hx, hs⟩ := h
  refine (xsync p gb gs vs S d.B d.s d.most w hx hs).mono ?_
  rintro e w' ⟨rfl, h1, h2⟩
  exact ⟨rfl, ⟨gb, gs, vs, h1, DSure.sync hx.ls⟩, h2⟩
theorem xp_loose (p : Nat) (S : Nat → Prop) (d : DSt) (w : World) (h : XP w p S d) :
    Calls Try.prog 33 #[.pointer (some ⟨p, 0, none⟩)] w fun e w' => e = .returned (.int .i64 d.loose) ∧ Below w.heap.size w w' := by
  obtain ⟨gb, gs, vs, hx, hs⟩ := h
  exact xloose p gb gs vs S d.B d.s d.most w hx hs
theorem xp_crash (p : Nat) (S : Nat → Prop) (d : DSt) (ka : Option Addr) (kl kc : Nat) (ks : List Int) (w : World) (h : XP w p S d) (hk : Sl .i64 w ka kl ks) (hka : kl ≠ 0 → ∀ b off, ka = some ⟨b, off, none⟩ → ¬ S b) :
    Calls Try.prog 30 #[.pointer (some ⟨p, 0, none⟩), .slice ka kl kc] w fun e w' => e = .returned (.tuple #[]) ∧ ∃ S', XP w' p S' (d.crash ks) ∧ Ft S w w' ∧ Grew w S S' := by
  obtain ⟨gb, gs, vs, hx, hs⟩ := h
  refine (xcrash p gb gs vs S d.B d.s d.most ka kl kc ks w hx hs hk hka).mono ?_
  rintro e w' ⟨rfl, vs', S', h1, h2, h3, h4⟩
  exact ⟨rfl, S', ⟨gb, gs, vs', h1, h2⟩, h3, h4⟩
theorem xp_size (p : Nat) (S : Nat → Prop) (d : DSt) (slot : Int) (w : World) (h : XP w p S d) :
    Calls Try.prog 32 #[.pointer (some ⟨p, 0, none⟩), .int .i64 slot] w fun e w' => e = .returned (.int .i64 (d.size slot)) ∧ w = w' := by
  obtain ⟨gb, gs, vs, hx, hs⟩ := h
  unfold DSt.size
  cases hb : slotV d.B slot
  · exact xsize_bad p gb gs vs S d.B d.s d.most slot w hx hb
  · obtain ⟨k, rfl, hk⟩ := slot_nat hb
    exact xsize_ok p gb gs vs S d.B d.s d.most k w hx hk
theorem xp_read (p : Nat) (S : Nat → Prop) (d : DSt) (slot : Int) (w : World) (h : XP w p S d) :
    Calls Try.prog 31 #[.pointer (some ⟨p, 0, none⟩), .int .i64 slot] w fun e w' => ∃ v, e = .returned (.tuple #[v, .int .i64 (d.clE slot)]) ∧ Fr w' w.heap.size v (d.rd slot) ∧ Below w.heap.size w w' := by
  obtain ⟨gb, gs, vs, hx, hs⟩ := h
  unfold DSt.clE DSt.rd
  cases hb : slotV d.B slot
  · refine (xread_bad p gb gs vs S d.B d.s d.most slot w hx hb).mono ?_
    rintro e w' ⟨rfl, rfl⟩
    exact ⟨_, rfl, Fr.nil _ _, Below.refl _ _⟩
  · obtain ⟨k, rfl, hk⟩ := slot_nat hb
    exact xread_ok p gb gs vs S d.B d.s d.most k w hx hk
end Go.Proofs.Ytlohfalpcppcjaa.W
