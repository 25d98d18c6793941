/- LAYER 9 (disk): the laws' own 'awake', out of what a disk of the program promises. -/
import Derived.Test.YtlohfalpcppcjaaDoE
import Derived.Lib.SlBytesConst
set_option linter.unusedSimpArgs false
set_option linter.unusedVariables false
namespace Go.Proofs.Ytlohfalpcppcjaa.W
open Go Go.ChangeShapes Go.WideShapes Go.ChangeAt Go.RowKit
variable {PD : World → Nat → (Nat → Prop) → DSt → Prop}

/-- what New of the program promises, for slots and room that may be -/
def DkNew (PD : World → Nat → (Nat → Prop) → DSt → Prop) : Prop := ∀ (n room : Nat) (w : World), 1 ≤ n → n ≤ 16 → room ≤ 524288 →
  Calls Try.prog 8 #[.int .i64 (n : Int), .int .i64 (room : Int)] w fun e w' => ∃ p S, e = .returned (.tuple #[.pointer (some ⟨p, 0, none⟩), .int .i64 0]) ∧ PD w' p S (DSt.new n room) ∧ Below w.heap.size w w' ∧ ∀ k, S k → w.heap.size ≤ k
theorem rd_mark (w : World) (l : List UInt8) (cs : Array Value) (t : TypeId) (fr : Nat × Nat) (hc : cs = (l.map B).toArray) (hl : l.length ≤ 9223372036854775807) :
    Rd (w.alloc (.cells cs t fr)) (some ⟨w.heap.size, 0, none⟩) l.length l.length l := by
  subst hc
  refine ⟨rfl, Nat.le_refl _, hl, (fun h => by cases h), .inr ⟨_, 0, rfl, by simp, fun i hi => ?_⟩⟩
  rw [cell_of_row _ w.heap.size (0 + i) _ t _ (heap_alloc_new w _)]; simp [hi]
theorem Ft.step {w v v' : World} {S S' : Nat → Prop} (h : Below w.heap.size w v ∧ ∀ k, S k → w.heap.size ≤ k) (f : Ft S v v') (g : Grew v S S') : Below w.heap.size w v' ∧ ∀ k, S' k → w.heap.size ≤ k :=
  ⟨h.1.trans (f.below h.1.size h.2), fun k hk => (g k hk).elim (h.2 k) fun hl => Nat.le_trans h.1.size hl⟩
theorem Ft.made {w v : World} {S : Nat → Prop} (h : Below w.heap.size w v ∧ ∀ k, S k → w.heap.size ≤ k) (o : Obj) : Below w.heap.size w (v.alloc o) ∧ ∀ k, S k → w.heap.size ≤ k :=
  ⟨h.1.alloc h.1.size o, h.2⟩
theorem DkC.alloc {w : World} {p : Nat} {S : Nat → Prop} {d : DSt} (hC : DkC PD) (h : PD w p S d) (o : Obj) : PD (w.alloc o) p S d :=
  hC.ft h (Ft.of_below (F := fun _ => False) ((Below.refl w.heap.size w).alloc (Nat.le_refl _) o)) (fun _ _ x => x)
def aw2 : DSt := (DSt.new 2 3).ap 0 [97, 98]
def aw3 : DSt := aw2.sync
def aw4 : DSt := aw3.ap 0 [99]
def aw5 : DSt := aw4.ap 0 [100]
def aw6 : DSt := aw5.crash []
theorem ae1 : (DSt.new 2 3).apE 0 [97, 98] = 0 := by decide
theorem ae2 : aw2.loose = 2 := by decide
theorem ae3 : aw3.apE 0 [99] = 0 := by decide
theorem ae4 : aw4.apE 0 [100] = 7 := by decide
theorem ae6 : aw6.clE 0 = 0 ∧ aw6.rd 0 = [97, 98] := by decide
set_option maxRecDepth 100000 in
set_option maxHeartbeats 4000000 in
theorem awake_two (hC : DkC PD) (hN : DkNew PD) (w : World) : Calls Try.prog 12 #[] w fun e w' => e = .returned (.bool true) ∧ Below w.heap.size w w' := by
  have HC := Lib.hid hC
  have HN := Lib.hid (hN 2 3 w (by decide) (by decide) (by decide))
  have kc := fun (w : World) (C : Array Value) (n c : Nat) => Lib.run_convert_bytes_const (P := Try.prog) w 30 5 C n c Try.underlying30 Try.underlying5
  clear hC hN
  go_enter Try.func12, Try.ntmps12
  go_wp2_with (first
    | (go_at_call 8; refine HN.out.mono ?_; rintro e w1 ⟨p, S, rfl, hp1, hb1, hs1⟩; have P1 := Lib.hid hp1; have B1 := Lib.hid hb1; have S1 := Lib.hid hs1; clear hp1 hb1 hs1)
    | (go_at_call 13; (refine (HC.out.append p _ _ 0 _ _ _ [97, 98] _ (HC.out.alloc P1.out _) (rd_mark _ [97, 98] _ _ _ rfl (by decide)) (fun b off e hs => by cases e; exact absurd (HC.out.lt P1.out _ hs) (Nat.lt_irrefl _))).mono ?_); rw [ae1]; rintro e w2 ⟨rfl, S2, hp, hf, hg⟩; have P2 := Lib.hid hp; have F2 := Lib.hid hf; have G2 := Lib.hid hg; clear hp hf hg P1)
    | (go_at_call 14; (refine (HC.out.sync p _ _ _ (show PD w2 p S2 aw2 from P2.out)).mono ?_); rw [ae2]; rintro e w3 ⟨rfl, S3, hp, hf, hg⟩; have P3 := Lib.hid (show PD w3 p S3 aw3 from hp); have F3 := Lib.hid hf; have G3 := Lib.hid hg; clear hp hf hg P2)
    | (go_at_call 13; (refine (HC.out.append p _ _ 0 _ _ _ [99] _ (HC.out.alloc P3.out _) (rd_mark _ [99] _ _ _ rfl (by decide)) (fun b off e hs => by cases e; exact absurd (HC.out.lt P3.out _ hs) (Nat.lt_irrefl _))).mono ?_); rw [ae3]; rintro e w4 ⟨rfl, S4, hp, hf, hg⟩; have P4 := Lib.hid hp; have F4 := Lib.hid hf; have G4 := Lib.hid hg; clear hp hf hg P3)
    | (go_at_call 13; (refine (HC.out.append p _ _ 0 _ _ _ [100] _ (HC.out.alloc P4.out _) (rd_mark _ [100] _ _ _ rfl (by decide)) (fun b off e hs => by cases e; exact absurd (HC.out.lt P4.out _ hs) (Nat.lt_irrefl _))).mono ?_); rw [show DSt.apE (aw3.ap 0 [99]) 0 [100] = 7 from ae4]; rintro e w5 ⟨rfl, S5, hp, hf, hg⟩; have P5 := Lib.hid hp; have F5 := Lib.hid hf; have G5 := Lib.hid hg; clear hp hf hg P4)
    | (go_at_call 16; (refine (HC.out.crash p _ _ none 0 0 [] _ (show PD w5 p S5 aw5 from P5.out) ⟨rfl, by decide, by simp, .inl rfl⟩ (fun _ b off e => by cases e)).mono ?_); rintro e w6 ⟨rfl, S6, hp, hf, hg⟩; have P6 := Lib.hid (show PD w6 p S6 aw6 from hp); have F6 := Lib.hid hf; have G6 := Lib.hid hg; clear hp hf hg P5)
    | (go_at_call 17; (refine (HC.out.read p _ _ 0 _ P6.out).mono ?_); rw [ae6.1, ae6.2]; rintro e w7 ⟨v7, rfl, hf7, hb7⟩; obtain ⟨a7, c7, rfl, hr7⟩ := hf7.form' 2 rfl; have B7 := Lib.hid hb7; have hcv := conv_rd hr7; clear hf7 hr7 hb7))
  go_ret
  have K5 := Ft.step (Ft.made (Ft.step (Ft.made (Ft.step (Ft.step (Ft.made ⟨B1.out, S1.out⟩ _) F2.out G2.out) F3.out G3.out) _) F4.out G4.out) _) F5.out G5.out
  have K6 := Ft.step K5 F6.out G6.out
  have hstr : str [97, 98] = ⟨#[97, 98]⟩ := rfl
  exact ⟨by first | (congr 1; simp [hstr]; done) | (go_simp; rw [hstr]; rfl) | (go_simp; simp [hstr]; done) | (simp [hstr]), K6.1.trans (B7.out.mono K6.1.size)⟩
end Go.Proofs.Ytlohfalpcppcjaa.W
