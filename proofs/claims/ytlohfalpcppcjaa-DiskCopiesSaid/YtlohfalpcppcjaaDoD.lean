/- LAYER 9 (disk): the laws' own 'do' and 'same', out of what a disk of the program promises (DkC: to be proved of the code that landed). -/
import Derived.Test.YtlohfalpcppcjaaDkV
import Derived.Test.YtlohfalpcppcjaaDoO
set_option linter.unusedSimpArgs false
set_option linter.unusedVariables false
namespace Go.Proofs.Ytlohfalpcppcjaa.W
open Go Go.ChangeShapes Go.WideShapes Go.ChangeAt Go.RowKit

theorem Row.c5 {w : World} {g : Nat} {t : TypeId} {a b c d e : Value} (h : Row w g t [a, b, c, d, e]) :
    w.cell? ⟨g, 0, none⟩ = some a ∧ w.cell? ⟨g, 1, none⟩ = some b ∧ w.cell? ⟨g, 2, none⟩ = some c ∧ w.cell? ⟨g, 3, none⟩ = some d ∧ w.cell? ⟨g, 4, none⟩ = some e := by
  refine ⟨?_, ?_, ?_, ?_, ?_⟩ <;> (rw [h.cellV]; rfl)
/-- PD w p S d: the program's disk at p is d, all its blocks lie in S; what its calls promise -/
structure DkC (PD : World → Nat → (Nat → Prop) → DSt → Prop) : Prop where
  ft : ∀ {F w w' p S d}, PD w p S d → Ft F w w' → Disj S F → PD w' p S d
  lt : ∀ {w p S d}, PD w p S d → ∀ k, S k → k < w.heap.size
  append : ∀ p S d (slot : Int) (a : Option Addr) (m c : Nat) (l : List UInt8) w, PD w p S d → Rd w a m c l → (∀ b off, a = some ⟨b, off, none⟩ → ¬ S b) →
    Calls Try.prog 13 #[.pointer (some ⟨p, 0, none⟩), .int .i64 slot, .slice a m c] w fun e w' => e = .returned (.int .i64 (d.apE slot l)) ∧ ∃ S', PD w' p S' (d.ap slot l) ∧ Ft S w w' ∧ Grew w S S'
  clear : ∀ p S d (slot : Int) w, PD w p S d →
    Calls Try.prog 21 #[.pointer (some ⟨p, 0, none⟩), .int .i64 slot] w fun e w' => e = .returned (.int .i64 (d.clE slot)) ∧ ∃ S', PD w' p S' (d.cl slot) ∧ Ft S w w' ∧ Grew w S S'
  cut : ∀ p S d (slot size : Int) w, PD w p S d →
    Calls Try.prog 22 #[.pointer (some ⟨p, 0, none⟩), .int .i64 slot, .int .i64 size] w fun e w' => e = .returned (.int .i64 (d.cutE slot size)) ∧ ∃ S', PD w' p S' (d.cut slot size) ∧ Ft S w w' ∧ Grew w S S'
  sync : ∀ p S d w, PD w p S d → Calls Try.prog 14 #[.pointer (some ⟨p, 0, none⟩)] w fun e w' => e = .returned (.int .i64 d.loose) ∧ ∃ S', PD w' p S' d.sync ∧ Ft S w w' ∧ Grew w S S'
  crash : ∀ p S d (ka : Option Addr) (kl kc : Nat) (ks : List Int) w, PD w p S d → Sl .i64 w ka kl ks → (kl ≠ 0 → ∀ b off, ka = some ⟨b, off, none⟩ → ¬ S b) →
    Calls Try.prog 16 #[.pointer (some ⟨p, 0, none⟩), .slice ka kl kc] w fun e w' => e = .returned (.tuple #[]) ∧ ∃ S', PD w' p S' (d.crash ks) ∧ Ft S w w' ∧ Grew w S S'
  size : ∀ p S d (slot : Int) w, PD w p S d → Calls Try.prog 23 #[.pointer (some ⟨p, 0, none⟩), .int .i64 slot] w fun e w' => e = .returned (.int .i64 (d.size slot)) ∧ Below w.heap.size w w'
  read : ∀ p S d (slot : Int) w, PD w p S d →
    Calls Try.prog 17 #[.pointer (some ⟨p, 0, none⟩), .int .i64 slot] w fun e w' => ∃ v, e = .returned (.tuple #[v, .int .i64 (d.clE slot)]) ∧ Fr w' w.heap.size v (d.rd slot) ∧ Below w.heap.size w w'
  loose : ∀ p S d w, PD w p S d → Calls Try.prog 15 #[.pointer (some ⟨p, 0, none⟩)] w fun e w' => e = .returned (.int .i64 d.loose) ∧ Below w.heap.size w w'
  room : ∀ p S d w, PD w p S d → Calls Try.prog 24 #[.pointer (some ⟨p, 0, none⟩)] w fun e w' => e = .returned (.int .i64 d.most) ∧ Below w.heap.size w w'
  slots : ∀ p S d w, PD w p S d → Calls Try.prog 25 #[.pointer (some ⟨p, 0, none⟩)] w fun e w' => e = .returned (.int .i64 (d.B.length : Int)) ∧ Below w.heap.size w w'

/-- both disks side by side are d -/
structure Two (PD : World → Nat → (Nat → Prop) → DSt → Prop) (w : World) (p q : Nat) (S T : Nat → Prop) (d : DSt) : Prop where
  l : PD w p S d
  r : XP w q T d
  ap : Disj S T
/-- what a call on both leaves -/
def Did (PD : World → Nat → (Nat → Prop) → DSt → Prop) (w w' : World) (p q : Nat) (S T : Nat → Prop) : Prop :=
  ∃ S' T' d', Two PD w' p q S' T' d' ∧ Ft (fun b => S b ∨ T b) w w' ∧ Grew w S S' ∧ Grew w T T'

variable {PD : World → Nat → (Nat → Prop) → DSt → Prop}
theorem Two.below (hC : DkC PD) {w w' : World} {p q : Nat} {S T : Nat → Prop} {d : DSt} (h : Two PD w p q S T d) (k : Below w.heap.size w w') : Two PD w' p q S T d :=
  ⟨hC.ft h.l (Ft.of_below (F := fun _ => False) k) (fun _ _ x => x), h.r.ft (Ft.of_below (F := fun _ => False) k) (fun _ _ x => x), h.ap⟩
/-- the program's disk was called, then the reference's: both ways of telling of it meet -/
theorem Two.did (hC : DkC PD) {w w1 w2 : World} {p q : Nat} {S T S' T' : Nat → Prop} {d d' : DSt} (h : Two PD w p q S T d) (h1 : PD w1 p S' d') (f1 : Ft S w w1) (g1 : Grew w S S') (h2 : XP w2 q T' d') (f2 : Ft T w1 w2) (g2 : Grew w1 T T') : Did PD w w2 p q S T := by
  have hT : ∀ b, T b → b < w.heap.size := h.r.lt
  have hST : Disj S' T := h.ap.grew g1 hT
  refine ⟨S', T', d', ⟨hC.ft h1 f2 hST, h2, ?_⟩, (f1.mono fun _ x => .inl x).trans (f2.mono fun _ x => .inr x), g1, fun b hb => (g2 b hb).elim .inl fun hl => .inr (Nat.le_trans f1.size hl)⟩
  intro b hs ht
  rcases g2 b ht with ht | ht
  · exact hST b hs ht
  · exact absurd (hC.lt h1 b hs) (Nat.not_lt.2 ht)
/-- the reference's, behind a call on the program's -/
theorem Two.right {w w1 : World} {p q : Nat} {S T : Nat → Prop} {d : DSt} (h : Two PD w p q S T d) (f1 : Ft S w w1) : XP w1 q T d := h.r.ft f1 h.ap.symm

/-- what a call left, told from the world before the Do was boxed -/
theorem Did.of {w w1 w2 : World} {p q : Nat} {S T : Nat → Prop} {d : DSt} (_h1 : Two PD w1 p q S T d) (_h : Two PD w p q S T d) (hb : Below w.heap.size w w1) (h : Did PD w1 w2 p q S T) : Did PD w w2 p q S T := by
  obtain ⟨S', T', d', a, b, c, e⟩ := h
  exact ⟨S', T', d', a, (Ft.of_below hb).trans b, fun k hk => (c k hk).elim .inl fun hl => .inr (Nat.le_trans hb.size hl), fun k hk => (e k hk).elim .inl fun hl => .inr (Nat.le_trans hb.size hl)⟩

set_option maxRecDepth 100000 in
set_option maxHeartbeats 4000000 in
theorem do_clear (hC : DkC PD) (p q : Nat) (S T : Nat → Prop) (d : DSt) (slot n : Int) (ba : Option Addr) (bn bc : Nat) (ka : Option Addr) (kn kc : Nat) (w : World) (h : Two PD w p q S T d) (hslot : -9223372036854775808 ≤ slot ∧ slot ≤ 9223372036854775807) (hn : -9223372036854775808 ≤ n ∧ n ≤ 9223372036854775807) (hlb : (bn : Int) ≤ 600) (hlk : (kn : Int) ≤ 30) :
    Calls Try.prog 10 #[.pointer (some ⟨p, 0, none⟩), .pointer (some ⟨q, 0, none⟩), .agg #[.int .i64 2, .int .i64 slot, .int .i64 n, .slice ba bn bc, .slice ka kn kc]] w fun e w' => e = .returned (.bool true) ∧ Did PD w w' p q S T := by
  have HC := Lib.hid hC
  have H := Lib.hid h
  clear h hC
  go_enter Try.func10, Try.ntmps10
  go_wp2_with (with_reducible refine box_row (o := ⟨some 5, _, _, _, _, _⟩) rfl _ _ rfl [.int .i64 2, .int .i64 slot, .int .i64 n, .slice ba bn bc, .slice ka kn kc] rfl ?_; intro w1 hr1 hb1 hz1; have R1 := Lib.hid hr1; have B1 := Lib.hid hb1; have Z1 := Lib.hid hz1; obtain ⟨c0, c1, c2, c3, c4⟩ := hr1.c5; clear hr1 hb1 hz1)
  have HN : Hid ((¬ S w.heap.size) ∧ ¬ T w.heap.size) := Lib.hid ⟨fun hs => absurd (HC.out.lt H.out.l _ hs) (Nat.lt_irrefl _), fun ht => absurd (H.out.r.lt _ ht) (Nat.lt_irrefl _)⟩
  have H1 := Lib.hid (H.out.below HC.out B1.out)
  refine region_h (fun v => Row v w.heap.size 33 [.int .i64 2, .int .i64 slot, .int .i64 n, .slice ba bn bc, .slice ka kn kc]) (by kernel_rfl) (by kernel_rfl) R1.out ?_
  have HD := Lib.hid (H1.out.below HC.out (Below.refl _ _).drew)
  have RD : Hid (Row w1.drew w.heap.size 33 [.int .i64 2, .int .i64 slot, .int .i64 n, .slice ba bn bc, .slice ka kn kc]) := Lib.hid R1.out
  have BD := Lib.hid (B1.out.drew)
  obtain ⟨wd, hwd⟩ : ∃ wd, w1.drew = wd := ⟨_, rfl⟩
  rw [hwd] at HD RD BD ⊢
  clear hwd c0 c1 c2 c3 c4
  (refine h_read 0 rfl (by kernel_rfl) (by kernel_rfl) (h_free rfl) ?_ ?_ ?_; rotate_left; (focus (intro v hv; go_simp; rfl)); go_simp)
  (refine h_read 1 rfl (by kernel_rfl) (by kernel_rfl) (h_free rfl) ?_ ?_ ?_; rotate_left; (focus (intro v hv; go_simp; rfl)); go_simp)
  (refine h_read 2 rfl (by kernel_rfl) (by kernel_rfl) (h_free rfl) ?_ ?_ ?_; rotate_left; (focus (intro v hv; have c0 := hv.c5.1; have c1 := hv.c5.2.1; have c2 := hv.c5.2.2.1; have c3 := hv.c5.2.2.2.1; have c4 := hv.c5.2.2.2.2; go_simp; rfl)); go_simp)
  (refine h_read 4 rfl (by kernel_rfl) (by kernel_rfl) (h_free rfl) ?_ ?_ ?_; rotate_left; (focus (intro v hv; go_simp; rfl)); go_simp)
  (refine h_read 5 rfl (by kernel_rfl) (by kernel_rfl) (h_free rfl) ?_ ?_ ?_; rotate_left; (focus (intro v hv; go_simp; rfl)); go_simp)
  (refine h_read 6 rfl (by kernel_rfl) (by kernel_rfl) (h_free rfl) ?_ ?_ ?_; rotate_left; (focus (intro v hv; have c0 := hv.c5.1; have c1 := hv.c5.2.1; have c2 := hv.c5.2.2.1; have c3 := hv.c5.2.2.2.1; have c4 := hv.c5.2.2.2.2; go_simp; rfl)); go_simp)
  (refine h_call 3 rfl (by kernel_rfl) (h_free rfl) 21 ?_ ?_ ?_; rotate_left; (focus (go_simp; rfl)))
  refine (HC.out.clear p S d slot wd HD.out.l).mono ?_
  rintro e w2 ⟨rfl, S', h1, f1, g1⟩
  refine ⟨_, rfl, RD.out.ft f1 (HN.out.1), ?_⟩
  have R2 := Lib.hid (RD.out.ft f1 (HN.out.1))
  have P1 := Lib.hid h1; have F1 := Lib.hid f1; have G1 := Lib.hid g1
  have Q1 := Lib.hid (HD.out.right f1)
  clear h1 f1 g1
  go_simp
  (refine h_call 7 rfl (by kernel_rfl) (h_free rfl) 27 ?_ ?_ ?_; rotate_left; (focus (go_simp; rfl)))
  refine (xp_clear q T d slot w2 Q1.out).mono ?_
  rintro e w3 ⟨rfl, T', h2, f2, g2⟩
  have DD := Lib.hid (HD.out.did HC.out P1.out F1.out G1.out h2 f2 g2)
  refine ⟨_, rfl, R2.out.ft f2 (HN.out.2), ?_⟩
  clear h2 f2 g2
  go_simp
  (refine h_read 8 rfl (by kernel_rfl) (by kernel_rfl) (h_free rfl) ?_ ?_ ?_; rotate_left; (focus (intro v hv; go_simp; rfl)); go_simp)
  (refine h_read 9 rfl (by kernel_rfl) (by kernel_rfl) (h_free rfl) ?_ ?_ ?_; rotate_left; (focus (intro v hv; go_simp; rfl)); go_simp)
  refine h_done (by kernel_rfl) ?_
  go_wp2_with fail
  go_ret
  exact ⟨by simp, Did.of HD.out H.out BD.out DD.out⟩

set_option maxRecDepth 100000 in
set_option maxHeartbeats 4000000 in
theorem do_cut (hC : DkC PD) (p q : Nat) (S T : Nat → Prop) (d : DSt) (slot n : Int) (ba : Option Addr) (bn bc : Nat) (ka : Option Addr) (kn kc : Nat) (w : World) (h : Two PD w p q S T d) (hslot : -9223372036854775808 ≤ slot ∧ slot ≤ 9223372036854775807) (hn : -9223372036854775808 ≤ n ∧ n ≤ 9223372036854775807) (hlb : (bn : Int) ≤ 600) (hlk : (kn : Int) ≤ 30) :
    Calls Try.prog 10 #[.pointer (some ⟨p, 0, none⟩), .pointer (some ⟨q, 0, none⟩), .agg #[.int .i64 3, .int .i64 slot, .int .i64 n, .slice ba bn bc, .slice ka kn kc]] w fun e w' => e = .returned (.bool true) ∧ Did PD w w' p q S T := by
  have HC := Lib.hid hC
  have H := Lib.hid h
  clear h hC
  go_enter Try.func10, Try.ntmps10
  go_wp2_with (with_reducible refine box_row (o := ⟨some 5, _, _, _, _, _⟩) rfl _ _ rfl [.int .i64 3, .int .i64 slot, .int .i64 n, .slice ba bn bc, .slice ka kn kc] rfl ?_; intro w1 hr1 hb1 hz1; have R1 := Lib.hid hr1; have B1 := Lib.hid hb1; have Z1 := Lib.hid hz1; obtain ⟨c0, c1, c2, c3, c4⟩ := hr1.c5; clear hr1 hb1 hz1)
  have HN : Hid ((¬ S w.heap.size) ∧ ¬ T w.heap.size) := Lib.hid ⟨fun hs => absurd (HC.out.lt H.out.l _ hs) (Nat.lt_irrefl _), fun ht => absurd (H.out.r.lt _ ht) (Nat.lt_irrefl _)⟩
  have H1 := Lib.hid (H.out.below HC.out B1.out)
  refine region_h (fun v => Row v w.heap.size 33 [.int .i64 3, .int .i64 slot, .int .i64 n, .slice ba bn bc, .slice ka kn kc]) (by kernel_rfl) (by kernel_rfl) R1.out ?_
  have HD := Lib.hid (H1.out.below HC.out (Below.refl _ _).drew)
  have RD : Hid (Row w1.drew w.heap.size 33 [.int .i64 3, .int .i64 slot, .int .i64 n, .slice ba bn bc, .slice ka kn kc]) := Lib.hid R1.out
  have BD := Lib.hid (B1.out.drew)
  obtain ⟨wd, hwd⟩ : ∃ wd, w1.drew = wd := ⟨_, rfl⟩
  rw [hwd] at HD RD BD ⊢
  clear hwd c0 c1 c2 c3 c4
  (refine h_read 0 rfl (by kernel_rfl) (by kernel_rfl) (h_free rfl) ?_ ?_ ?_; rotate_left; (focus (intro v hv; go_simp; rfl)); go_simp)
  (refine h_read 1 rfl (by kernel_rfl) (by kernel_rfl) (h_free rfl) ?_ ?_ ?_; rotate_left; (focus (intro v hv; go_simp; rfl)); go_simp)
  (refine h_read 2 rfl (by kernel_rfl) (by kernel_rfl) (h_free rfl) ?_ ?_ ?_; rotate_left; (focus (intro v hv; have c0 := hv.c5.1; have c1 := hv.c5.2.1; have c2 := hv.c5.2.2.1; have c3 := hv.c5.2.2.2.1; have c4 := hv.c5.2.2.2.2; go_simp; rfl)); go_simp)
  (refine h_read 3 rfl (by kernel_rfl) (by kernel_rfl) (h_free rfl) ?_ ?_ ?_; rotate_left; (focus (intro v hv; go_simp; rfl)); go_simp)
  (refine h_read 4 rfl (by kernel_rfl) (by kernel_rfl) (h_free rfl) ?_ ?_ ?_; rotate_left; (focus (intro v hv; have c0 := hv.c5.1; have c1 := hv.c5.2.1; have c2 := hv.c5.2.2.1; have c3 := hv.c5.2.2.2.1; have c4 := hv.c5.2.2.2.2; go_simp; rfl)); go_simp)
  (refine h_read 6 rfl (by kernel_rfl) (by kernel_rfl) (h_free rfl) ?_ ?_ ?_; rotate_left; (focus (intro v hv; go_simp; rfl)); go_simp)
  (refine h_read 7 rfl (by kernel_rfl) (by kernel_rfl) (h_free rfl) ?_ ?_ ?_; rotate_left; (focus (intro v hv; go_simp; rfl)); go_simp)
  (refine h_read 8 rfl (by kernel_rfl) (by kernel_rfl) (h_free rfl) ?_ ?_ ?_; rotate_left; (focus (intro v hv; have c0 := hv.c5.1; have c1 := hv.c5.2.1; have c2 := hv.c5.2.2.1; have c3 := hv.c5.2.2.2.1; have c4 := hv.c5.2.2.2.2; go_simp; rfl)); go_simp)
  (refine h_read 9 rfl (by kernel_rfl) (by kernel_rfl) (h_free rfl) ?_ ?_ ?_; rotate_left; (focus (intro v hv; go_simp; rfl)); go_simp)
  (refine h_read 10 rfl (by kernel_rfl) (by kernel_rfl) (h_free rfl) ?_ ?_ ?_; rotate_left; (focus (intro v hv; have c0 := hv.c5.1; have c1 := hv.c5.2.1; have c2 := hv.c5.2.2.1; have c3 := hv.c5.2.2.2.1; have c4 := hv.c5.2.2.2.2; go_simp; rfl)); go_simp)
  (refine h_call 5 rfl (by kernel_rfl) (h_free rfl) 22 ?_ ?_ ?_; rotate_left; (focus (go_simp; rfl)))
  refine (HC.out.cut p S d slot n wd HD.out.l).mono ?_
  rintro e w2 ⟨rfl, S', h1, f1, g1⟩
  refine ⟨_, rfl, RD.out.ft f1 (HN.out.1), ?_⟩
  have R2 := Lib.hid (RD.out.ft f1 (HN.out.1))
  have P1 := Lib.hid h1; have F1 := Lib.hid f1; have G1 := Lib.hid g1
  have Q1 := Lib.hid (HD.out.right f1)
  clear h1 f1 g1
  go_simp
  (refine h_call 11 rfl (by kernel_rfl) (h_free rfl) 28 ?_ ?_ ?_; rotate_left; (focus (go_simp; rfl)))
  refine (xp_cut q T d slot n w2 Q1.out).mono ?_
  rintro e w3 ⟨rfl, T', h2, f2, g2⟩
  have DD := Lib.hid (HD.out.did HC.out P1.out F1.out G1.out h2 f2 g2)
  refine ⟨_, rfl, R2.out.ft f2 (HN.out.2), ?_⟩
  clear h2 f2 g2
  go_simp
  (refine h_read 12 rfl (by kernel_rfl) (by kernel_rfl) (h_free rfl) ?_ ?_ ?_; rotate_left; (focus (intro v hv; go_simp; rfl)); go_simp)
  (refine h_read 13 rfl (by kernel_rfl) (by kernel_rfl) (h_free rfl) ?_ ?_ ?_; rotate_left; (focus (intro v hv; go_simp; rfl)); go_simp)
  refine h_done (by kernel_rfl) ?_
  go_wp2_with fail
  go_ret
  exact ⟨by simp, Did.of HD.out H.out BD.out DD.out⟩

/-- a call that only read -/
theorem Two.same {w w1 : World} {p q : Nat} {S T : Nat → Prop} {d : DSt} (hC : DkC PD) (h : Two PD w p q S T d) (hb : Below w.heap.size w w1) : Did PD w w1 p q S T :=
  ⟨S, T, d, h.below hC hb, Ft.of_below hb, Grew.refl _ _, Grew.refl _ _⟩

set_option maxRecDepth 100000 in
set_option maxHeartbeats 4000000 in
theorem do_size (hC : DkC PD) (p q : Nat) (S T : Nat → Prop) (d : DSt) (op : Int) (hop : op < 0 ∨ 6 < op) (slot n : Int) (ba : Option Addr) (bn bc : Nat) (ka : Option Addr) (kn kc : Nat) (w : World) (h : Two PD w p q S T d) (hslot : -9223372036854775808 ≤ slot ∧ slot ≤ 9223372036854775807) (hn : -9223372036854775808 ≤ n ∧ n ≤ 9223372036854775807) (hlb : (bn : Int) ≤ 600) (hlk : (kn : Int) ≤ 30) :
    Calls Try.prog 10 #[.pointer (some ⟨p, 0, none⟩), .pointer (some ⟨q, 0, none⟩), .agg #[.int .i64 op, .int .i64 slot, .int .i64 n, .slice ba bn bc, .slice ka kn kc]] w fun e w' => e = .returned (.bool true) ∧ Did PD w w' p q S T := by
  have HC := Lib.hid hC
  have H := Lib.hid h
  clear h hC
  obtain ⟨e0, e1, e2, e3, e4, e5, e6⟩ : (op == 0) = false ∧ (op == 1) = false ∧ (op == 2) = false ∧ (op == 3) = false ∧ (op == 4) = false ∧ (op == 5) = false ∧ (op == 6) = false := by refine ⟨?_, ?_, ?_, ?_, ?_, ?_, ?_⟩ <;> (simp; omega)
  go_enter Try.func10, Try.ntmps10
  go_wp2_with (with_reducible refine box_row (o := ⟨some 5, _, _, _, _, _⟩) rfl _ _ rfl [.int .i64 op, .int .i64 slot, .int .i64 n, .slice ba bn bc, .slice ka kn kc] rfl ?_; intro w1 hr1 hb1 hz1; have R1 := Lib.hid hr1; have B1 := Lib.hid hb1; have Z1 := Lib.hid hz1; obtain ⟨c0, c1, c2, c3, c4⟩ := hr1.c5; clear hr1 hb1 hz1)
  have HN : Hid ((¬ S w.heap.size) ∧ ¬ T w.heap.size) := Lib.hid ⟨fun hs => absurd (HC.out.lt H.out.l _ hs) (Nat.lt_irrefl _), fun ht => absurd (H.out.r.lt _ ht) (Nat.lt_irrefl _)⟩
  have H1 := Lib.hid (H.out.below HC.out B1.out)
  refine region_h (fun v => Row v w.heap.size 33 [.int .i64 op, .int .i64 slot, .int .i64 n, .slice ba bn bc, .slice ka kn kc]) (by kernel_rfl) (by kernel_rfl) R1.out ?_
  have HD := Lib.hid (H1.out.below HC.out (Below.refl _ _).drew)
  have RD : Hid (Row w1.drew w.heap.size 33 [.int .i64 op, .int .i64 slot, .int .i64 n, .slice ba bn bc, .slice ka kn kc]) := Lib.hid R1.out
  have BD := Lib.hid (B1.out.drew)
  obtain ⟨wd, hwd⟩ : ∃ wd, w1.drew = wd := ⟨_, rfl⟩
  rw [hwd] at HD RD BD ⊢
  clear hwd c0 c1 c2 c3 c4
  (refine h_read 0 rfl (by kernel_rfl) (by kernel_rfl) (h_free rfl) ?_ ?_ ?_; rotate_left; (focus (intro v hv; go_simp; rfl)); go_simp)
  (refine h_read 1 rfl (by kernel_rfl) (by kernel_rfl) (h_free rfl) ?_ ?_ ?_; rotate_left; (focus (intro v hv; go_simp; rfl)); go_simp)
  (refine h_read 2 rfl (by kernel_rfl) (by kernel_rfl) (h_free rfl) ?_ ?_ ?_; rotate_left; (focus (intro v hv; have c0 := hv.c5.1; have c1 := hv.c5.2.1; have c2 := hv.c5.2.2.1; have c3 := hv.c5.2.2.2.1; have c4 := hv.c5.2.2.2.2; go_simp; rfl)); go_simp)
  (refine h_read 4 rfl (by kernel_rfl) (by kernel_rfl) (h_free rfl) ?_ ?_ ?_; rotate_left; (focus (intro v hv; go_simp; rfl)); go_simp)
  (refine h_read 5 rfl (by kernel_rfl) (by kernel_rfl) (h_free rfl) ?_ ?_ ?_; rotate_left; (focus (intro v hv; go_simp; rfl)); go_simp)
  (refine h_read 6 rfl (by kernel_rfl) (by kernel_rfl) (h_free rfl) ?_ ?_ ?_; rotate_left; (focus (intro v hv; have c0 := hv.c5.1; have c1 := hv.c5.2.1; have c2 := hv.c5.2.2.1; have c3 := hv.c5.2.2.2.1; have c4 := hv.c5.2.2.2.2; go_simp; rfl)); go_simp)
  (refine h_call 3 rfl (by kernel_rfl) (h_free rfl) 23 ?_ ?_ ?_; rotate_left; (focus (go_simp; rfl)))
  refine (HC.out.size p S d slot wd HD.out.l).mono ?_
  rintro e w2 ⟨rfl, hb2⟩
  have R2 := Lib.hid (RD.out.below hb2 RD.out.lt)
  refine ⟨_, rfl, R2.out, ?_⟩
  have B2 := Lib.hid hb2
  have T2 := Lib.hid (HD.out.below HC.out hb2)
  clear hb2
  go_simp
  (refine h_call 7 rfl (by kernel_rfl) (h_free rfl) 32 ?_ ?_ ?_; rotate_left; (focus (go_simp; rfl)))
  refine (xp_size q T d slot w2 T2.out.r).mono ?_
  rintro e w3 ⟨rfl, rfl⟩
  have DD := Lib.hid (HD.out.same HC.out B2.out)
  refine ⟨_, rfl, R2.out, ?_⟩
  go_simp
  (refine h_read 8 rfl (by kernel_rfl) (by kernel_rfl) (h_free rfl) ?_ ?_ ?_; rotate_left; (focus (intro v hv; go_simp; rfl)); go_simp)
  (refine h_read 9 rfl (by kernel_rfl) (by kernel_rfl) (h_free rfl) ?_ ?_ ?_; rotate_left; (focus (intro v hv; go_simp; rfl)); go_simp)
  refine h_done (by kernel_rfl) ?_
  go_wp2_with fail
  go_ret
  exact ⟨by simp, Did.of HD.out H.out BD.out DD.out⟩

set_option maxRecDepth 100000 in
set_option maxHeartbeats 4000000 in
theorem do_sync (hC : DkC PD) (p q : Nat) (S T : Nat → Prop) (d : DSt) (slot n : Int) (ba : Option Addr) (bn bc : Nat) (ka : Option Addr) (kn kc : Nat) (w : World) (h : Two PD w p q S T d) (hslot : -9223372036854775808 ≤ slot ∧ slot ≤ 9223372036854775807) (hn : -9223372036854775808 ≤ n ∧ n ≤ 9223372036854775807) (hlb : (bn : Int) ≤ 600) (hlk : (kn : Int) ≤ 30) :
    Calls Try.prog 10 #[.pointer (some ⟨p, 0, none⟩), .pointer (some ⟨q, 0, none⟩), .agg #[.int .i64 4, .int .i64 slot, .int .i64 n, .slice ba bn bc, .slice ka kn kc]] w fun e w' => e = .returned (.bool true) ∧ Did PD w w' p q S T := by
  have HC := Lib.hid hC
  have H := Lib.hid h
  clear h hC
  go_enter Try.func10, Try.ntmps10
  go_wp2_with (with_reducible refine box_row (o := ⟨some 5, _, _, _, _, _⟩) rfl _ _ rfl [.int .i64 4, .int .i64 slot, .int .i64 n, .slice ba bn bc, .slice ka kn kc] rfl ?_; intro w1 hr1 hb1 hz1; have R1 := Lib.hid hr1; have B1 := Lib.hid hb1; have Z1 := Lib.hid hz1; obtain ⟨c0, c1, c2, c3, c4⟩ := hr1.c5; clear hr1 hb1 hz1)
  have H1 := Lib.hid (H.out.below HC.out B1.out)
  go_wp2_with (first
    | (go_at_call 14; (refine (HC.out.sync p S d _ H1.out.l).mono ?_); rintro e w2 ⟨rfl, S', h1, f1, g1⟩; have P1 := Lib.hid h1; have F1 := Lib.hid f1; have G1 := Lib.hid g1; have Q1 := Lib.hid (H1.out.right f1); clear h1 f1 g1)
    | (go_at_call 29; (refine (xp_sync q T d _ Q1.out).mono ?_); rintro e w3 ⟨rfl, h2, f2⟩; have DD := Lib.hid (H1.out.did HC.out P1.out F1.out G1.out h2 f2 (Grew.refl _ _)); clear h2 f2))
  go_ret
  exact ⟨by simp, Did.of H1.out H.out B1.out DD.out⟩

theorem Sl.ft {F : Nat → Prop} {k : IntKind} {w w' : World} {a : Option Addr} {len : Nat} {l : List Int} (h : Sl k w a len l) (hf : Ft F w w') (hn : len ≠ 0 → ∀ b off, a = some ⟨b, off, none⟩ → ¬ F b) : Sl k w' a len l := by
  obtain ⟨h1, h2, h3, h4⟩ := h
  refine ⟨h1, h2, h3, ?_⟩
  rcases h4 with h4 | ⟨b, off, rfl, hlt, hc⟩
  · exact .inl h4
  · by_cases h0 : len = 0
    · exact .inl h0
    · exact .inr ⟨b, off, rfl, Nat.lt_of_lt_of_le hlt hf.size, fun i hi => (World.cell?_of_block (hf.block b hlt (hn h0 b off rfl))).trans (hc i hi)⟩

set_option maxRecDepth 100000 in
set_option maxHeartbeats 4000000 in
theorem do_crash (hC : DkC PD) (p q : Nat) (S T : Nat → Prop) (d : DSt) (ks : List Int) (slot n : Int) (ba : Option Addr) (bn bc : Nat) (ka : Option Addr) (kn kc : Nat) (w : World) (h : Two PD w p q S T d) (hslot : -9223372036854775808 ≤ slot ∧ slot ≤ 9223372036854775807) (hn : -9223372036854775808 ≤ n ∧ n ≤ 9223372036854775807) (hlb : (bn : Int) ≤ 600) (hlk : (kn : Int) ≤ 30) (hsl : Sl .i64 w ka kn ks) (hka : kn ≠ 0 → ∀ b off, ka = some ⟨b, off, none⟩ → ¬ S b ∧ ¬ T b) :
    Calls Try.prog 10 #[.pointer (some ⟨p, 0, none⟩), .pointer (some ⟨q, 0, none⟩), .agg #[.int .i64 5, .int .i64 slot, .int .i64 n, .slice ba bn bc, .slice ka kn kc]] w fun e w' => e = .returned (.bool true) ∧ Did PD w w' p q S T := by
  have HC := Lib.hid hC
  have H := Lib.hid h
  have SL := Lib.hid hsl
  have HKA := Lib.hid hka
  clear h hC hsl hka
  go_enter Try.func10, Try.ntmps10
  go_wp2_with (with_reducible refine box_row (o := ⟨some 5, _, _, _, _, _⟩) rfl _ _ rfl [.int .i64 5, .int .i64 slot, .int .i64 n, .slice ba bn bc, .slice ka kn kc] rfl ?_; intro w1 hr1 hb1 hz1; have R1 := Lib.hid hr1; have B1 := Lib.hid hb1; have Z1 := Lib.hid hz1; obtain ⟨c0, c1, c2, c3, c4⟩ := hr1.c5; clear hr1 hb1 hz1)
  have HN : Hid ((¬ S w.heap.size) ∧ ¬ T w.heap.size) := Lib.hid ⟨fun hs => absurd (HC.out.lt H.out.l _ hs) (Nat.lt_irrefl _), fun ht => absurd (H.out.r.lt _ ht) (Nat.lt_irrefl _)⟩
  have H1 := Lib.hid (H.out.below HC.out B1.out)
  have SL1 := Lib.hid (SL.out.mono B1.out)
  go_wp2_with (first
    | (go_at_call 16; (refine (HC.out.crash p S d ka kn kc ks _ H1.out.l SL1.out fun hz b off e => (HKA.out hz b off e).1).mono ?_); rintro e w2 ⟨rfl, S', h1, f1, g1⟩; clear c0 c1 c2 c3 c4; have R2 := Lib.hid (R1.out.ft f1 HN.out.1); obtain ⟨c0, c1, c2, c3, c4⟩ := R2.out.c5; have P1 := Lib.hid h1; have F1 := Lib.hid f1; have G1 := Lib.hid g1; have Q1 := Lib.hid (H1.out.right f1); have SL2 := Lib.hid (SL1.out.ft f1 fun hz b off e => (HKA.out hz b off e).1); clear h1 f1 g1)
    | (go_at_call 30; (refine (xp_crash q T d ka kn kc ks _ Q1.out SL2.out fun hz b off e => (HKA.out hz b off e).2).mono ?_); rintro e w3 ⟨rfl, T', h2, f2, g2⟩; clear c0 c1 c2 c3 c4; have R3 := Lib.hid (R2.out.ft f2 HN.out.2); have DD := Lib.hid (H1.out.did HC.out P1.out F1.out G1.out h2 f2 g2); clear h2 f2 g2))
  obtain ⟨S3, T3, d3, t3, f3, g3, k3⟩ := DD.out
  have HD := Lib.hid (t3.below HC.out (Below.refl _ _).drew)
  have F3 := Lib.hid (f3.trans (Ft.of_below (Below.refl _ _).drew))
  have G3 := Lib.hid g3
  have K3 := Lib.hid k3
  clear t3 f3 g3 k3 DD
  refine region_h (fun v => Row v w.heap.size 33 [.int .i64 5, .int .i64 slot, .int .i64 n, .slice ba bn bc, .slice ka kn kc]) (by kernel_rfl) (by kernel_rfl) R3.out ?_
  have RD : Hid (Row w3.drew w.heap.size 33 [.int .i64 5, .int .i64 slot, .int .i64 n, .slice ba bn bc, .slice ka kn kc]) := Lib.hid R3.out
  obtain ⟨wd, hwd⟩ : ∃ wd, w3.drew = wd := ⟨_, rfl⟩
  rw [hwd] at HD RD F3 ⊢
  clear hwd
  (refine h_read 0 rfl (by kernel_rfl) (by kernel_rfl) (h_free rfl) ?_ ?_ ?_; rotate_left; (focus (intro v hv; go_simp; rfl)); go_simp)
  (refine h_read 1 rfl (by kernel_rfl) (by kernel_rfl) (h_free rfl) ?_ ?_ ?_; rotate_left; (focus (intro v hv; go_simp; rfl)); go_simp)
  (refine h_read 2 rfl (by kernel_rfl) (by kernel_rfl) (h_free rfl) ?_ ?_ ?_; rotate_left; (focus (intro v hv; have c0 := hv.c5.1; have c1 := hv.c5.2.1; have c2 := hv.c5.2.2.1; have c3 := hv.c5.2.2.2.1; have c4 := hv.c5.2.2.2.2; go_simp; rfl)); go_simp)
  (refine h_read 4 rfl (by kernel_rfl) (by kernel_rfl) (h_free rfl) ?_ ?_ ?_; rotate_left; (focus (intro v hv; go_simp; rfl)); go_simp)
  (refine h_read 5 rfl (by kernel_rfl) (by kernel_rfl) (h_free rfl) ?_ ?_ ?_; rotate_left; (focus (intro v hv; go_simp; rfl)); go_simp)
  (refine h_read 6 rfl (by kernel_rfl) (by kernel_rfl) (h_free rfl) ?_ ?_ ?_; rotate_left; (focus (intro v hv; have c0 := hv.c5.1; have c1 := hv.c5.2.1; have c2 := hv.c5.2.2.1; have c3 := hv.c5.2.2.2.1; have c4 := hv.c5.2.2.2.2; go_simp; rfl)); go_simp)
  (refine h_call 3 rfl (by kernel_rfl) (h_free rfl) 23 ?_ ?_ ?_; rotate_left; (focus (go_simp; rfl)))
  refine (HC.out.size p S3 d3 slot wd HD.out.l).mono ?_
  rintro e w4 ⟨rfl, hb2⟩
  have R4 := Lib.hid (RD.out.below hb2 RD.out.lt)
  refine ⟨_, rfl, R4.out, ?_⟩
  have B4 := Lib.hid hb2
  have T4 := Lib.hid (HD.out.below HC.out hb2)
  clear hb2
  go_simp
  (refine h_call 7 rfl (by kernel_rfl) (h_free rfl) 32 ?_ ?_ ?_; rotate_left; (focus (go_simp; rfl)))
  refine (xp_size q T3 d3 slot w4 T4.out.r).mono ?_
  rintro e w5 ⟨rfl, rfl⟩
  refine ⟨_, rfl, R4.out, ?_⟩
  go_simp
  (refine h_read 8 rfl (by kernel_rfl) (by kernel_rfl) (h_free rfl) ?_ ?_ ?_; rotate_left; (focus (intro v hv; go_simp; rfl)); go_simp)
  (refine h_read 9 rfl (by kernel_rfl) (by kernel_rfl) (h_free rfl) ?_ ?_ ?_; rotate_left; (focus (intro v hv; go_simp; rfl)); go_simp)
  refine h_done (by kernel_rfl) ?_
  go_wp2_with fail
  go_ret
  exact ⟨by simp, Did.of H1.out H.out B1.out ⟨S3, T3, d3, T4.out, F3.out.trans (Ft.of_below B4.out), G3.out, K3.out⟩⟩

theorem Fr.ft {F : Nat → Prop} {w w' : World} {base : Nat} {v : Value} {l : List UInt8} (h : Fr w base v l) (k : Ft F w w') (hn : ∀ b, base ≤ b → b < w.heap.size → ¬ F b) : Fr w' base v l := by
  have hlt := World.ownsRow.lt h
  obtain ⟨h1, h2⟩ := h
  refine ⟨h1, ?_⟩
  rcases h2 with h2 | ⟨q, cap, cur, rfl, hq, hh, r⟩
  · exact .inl h2
  · exact .inr ⟨q, cap, cur, rfl, hq, by rw [k.block q (hlt q rfl).2 (hn q hq (hlt q rfl).2)]; exact hh, r⟩
/-- blocks of the call's own were written behind what a call left -/
theorem Did.give {w w2 w4 w5 : World} {p q base : Nat} {S T : Nat → Prop} (hC : DkC PD) (hS : ∀ b, S b → b < base) (hT : ∀ b, T b → b < base) (hd : Did PD w2 w4 p q S T) (k : Ft (fun b => base ≤ b ∧ b < w2.heap.size) w4 w5) (hb : Below w.heap.size w w2) (hbase : w.heap.size ≤ base) : Did PD w w5 p q S T := by
  obtain ⟨S', T', d', a, b, c, e⟩ := hd
  have h2 := hb.size
  have dS : Disj S' (fun b => base ≤ b ∧ b < w2.heap.size) := fun x hx ⟨h, h'⟩ => (c x hx).elim (fun hs => absurd (hS x hs) (Nat.not_lt.2 h)) fun hl => absurd h' (Nat.not_lt.2 hl)
  have dT : Disj T' (fun b => base ≤ b ∧ b < w2.heap.size) := fun x hx ⟨h, h'⟩ => (e x hx).elim (fun hs => absurd (hT x hs) (Nat.not_lt.2 h)) fun hl => absurd h' (Nat.not_lt.2 hl)
  exact ⟨S', T', d', ⟨hC.ft a.l k dS, a.r.ft k dT, a.ap⟩, ((Ft.of_below hb).trans b).on k (fun x hx => .inr (Nat.le_trans hbase hx.1)),
    fun x hx => (c x hx).elim .inl fun hl => .inr (Nat.le_trans h2 hl), fun x hx => (e x hx).elim .inl fun hl => .inr (Nat.le_trans h2 hl)⟩

set_option maxRecDepth 100000 in
set_option maxHeartbeats 4000000 in
theorem do_append0 (hC : DkC PD) (p q : Nat) (S T : Nat → Prop) (d : DSt) (l : List UInt8) (slot n : Int) (ba : Option Addr) (bn bc : Nat) (ka : Option Addr) (kn kc : Nat) (w : World) (h : Two PD w p q S T d) (hslot : -9223372036854775808 ≤ slot ∧ slot ≤ 9223372036854775807) (hn : -9223372036854775808 ≤ n ∧ n ≤ 9223372036854775807) (hlb : (bn : Int) ≤ 600) (hlk : (kn : Int) ≤ 30) (hrb : Rd w ba bn bc l) (hba : bn ≠ 0 → ∀ b off, ba = some ⟨b, off, none⟩ → ¬ S b ∧ ¬ T b) :
    Calls Try.prog 10 #[.pointer (some ⟨p, 0, none⟩), .pointer (some ⟨q, 0, none⟩), .agg #[.int .i64 0, .int .i64 slot, .int .i64 n, .slice ba bn bc, .slice ka kn kc]] w fun e w' => e = .returned (.bool true) ∧ Did PD w w' p q S T := by
  have HC := Lib.hid hC
  have H := Lib.hid h
  have HR := Lib.hid hrb
  have HBA := Lib.hid hba
  clear h hC hrb hba
  go_enter Try.func10, Try.ntmps10
  go_wp2_with (with_reducible refine box_row (o := ⟨some 5, _, _, _, _, _⟩) rfl _ _ rfl [.int .i64 0, .int .i64 slot, .int .i64 n, .slice ba bn bc, .slice ka kn kc] rfl ?_; intro w1 hr1 hb1 hz1; have R1 := Lib.hid hr1; have B1 := Lib.hid hb1; have Z1 := Lib.hid hz1; obtain ⟨c0, c1, c2, c3, c4⟩ := hr1.c5; clear hr1 hb1 hz1)
  have HN : Hid ((¬ S w.heap.size) ∧ ¬ T w.heap.size) := Lib.hid ⟨fun hs => absurd (HC.out.lt H.out.l _ hs) (Nat.lt_irrefl _), fun ht => absurd (H.out.r.lt _ ht) (Nat.lt_irrefl _)⟩
  have HL : Hid (l.length = bn) := Lib.hid (HR.out.hlen)
  have H1 := Lib.hid (H.out.below HC.out B1.out)
  refine (sclone ba bn bc l w1 (HR.out.mono B1.out) (by omega)).mono ?_
  rintro e w2 ⟨v7, rfl, hf7, hb2⟩
  obtain ⟨a7, c7, rfl, hr7⟩ := hf7.form' bn HL.out
  have F7 := Lib.hid hf7
  have R7 := Lib.hid hr7
  have N7 := Lib.hid hf7.new
  have B2 := Lib.hid (B1.out.trans (hb2.mono B1.out.size))
  have RR2 := Lib.hid ((HR.out.mono B1.out).mono hb2)
  have R2 := Lib.hid (R1.out.below hb2 R1.out.lt)
  have H2 := Lib.hid (H1.out.below HC.out hb2)
  have LS : Hid (∀ b, S b → b < w1.heap.size) := Lib.hid fun b hb => Nat.lt_of_lt_of_le (HC.out.lt H.out.l b hb) B1.out.size
  have LT : Hid (∀ b, T b → b < w1.heap.size) := Lib.hid fun b hb => Nat.lt_of_lt_of_le (H.out.r.lt b hb) B1.out.size
  clear hf7 hr7 hb2 c0 c1 c2 c3 c4
  go_wp2_with fail
  refine region_h (fun v => Row v w.heap.size 33 [.int .i64 0, .int .i64 slot, .int .i64 n, .slice ba bn bc, .slice ka kn kc]) (by kernel_rfl) (by kernel_rfl) R2.out ?_
  have HD := Lib.hid (H2.out.below HC.out (Below.refl _ _).drew)
  have RD : Hid (Row w2.drew w.heap.size 33 [.int .i64 0, .int .i64 slot, .int .i64 n, .slice ba bn bc, .slice ka kn kc]) := Lib.hid R2.out
  have BD := Lib.hid (B2.out.drew)
  have F7D := Lib.hid (F7.out.kept (Below.refl _ _).drew)
  have R7D := Lib.hid (R7.out.mono (Below.refl _ _).drew)
  have RRD := Lib.hid (RR2.out.mono (Below.refl _ _).drew)
  have ZD : Hid (w2.heap.size ≤ w2.drew.heap.size) := Lib.hid (Nat.le_refl _)
  obtain ⟨wd, hwd⟩ : ∃ wd, w2.drew = wd := ⟨_, rfl⟩
  rw [hwd] at HD RD BD F7D R7D RRD ZD ⊢
  clear hwd
  (refine h_read 0 rfl (by kernel_rfl) (by kernel_rfl) (h_free rfl) ?_ ?_ ?_; rotate_left; (focus (intro v hv; go_simp; rfl)); go_simp)
  (refine h_read 1 rfl (by kernel_rfl) (by kernel_rfl) (h_free rfl) ?_ ?_ ?_; rotate_left; (focus (intro v hv; go_simp; rfl)); go_simp)
  (refine h_read 2 rfl (by kernel_rfl) (by kernel_rfl) (h_free rfl) ?_ ?_ ?_; rotate_left; (focus (intro v hv; have c0 := hv.c5.1; have c1 := hv.c5.2.1; have c2 := hv.c5.2.2.1; have c3 := hv.c5.2.2.2.1; have c4 := hv.c5.2.2.2.2; go_simp; rfl)); go_simp)
  (refine h_read 3 rfl (by kernel_rfl) (by kernel_rfl) (h_free rfl) ?_ ?_ ?_; rotate_left; (focus (intro v hv; go_simp; rfl)); go_simp)
  (refine h_read 5 rfl (by kernel_rfl) (by kernel_rfl) (h_free rfl) ?_ ?_ ?_; rotate_left; (focus (intro v hv; go_simp; rfl)); go_simp)
  (refine h_read 6 rfl (by kernel_rfl) (by kernel_rfl) (h_free rfl) ?_ ?_ ?_; rotate_left; (focus (intro v hv; go_simp; rfl)); go_simp)
  (refine h_read 7 rfl (by kernel_rfl) (by kernel_rfl) (h_free rfl) ?_ ?_ ?_; rotate_left; (focus (intro v hv; have c0 := hv.c5.1; have c1 := hv.c5.2.1; have c2 := hv.c5.2.2.1; have c3 := hv.c5.2.2.2.1; have c4 := hv.c5.2.2.2.2; go_simp; rfl)); go_simp)
  (refine h_read 8 rfl (by kernel_rfl) (by kernel_rfl) (h_free rfl) ?_ ?_ ?_; rotate_left; (focus (intro v hv; go_simp; rfl)); go_simp)
  (refine h_read 9 rfl (by kernel_rfl) (by kernel_rfl) (h_free rfl) ?_ ?_ ?_; rotate_left; (focus (intro v hv; have c0 := hv.c5.1; have c1 := hv.c5.2.1; have c2 := hv.c5.2.2.1; have c3 := hv.c5.2.2.2.1; have c4 := hv.c5.2.2.2.2; go_simp; rfl)); go_simp)
  (refine h_call 4 rfl (by kernel_rfl) (h_free rfl) 13 ?_ ?_ ?_; rotate_left; (focus (go_simp; rfl)))
  refine (HC.out.append p S d slot a7 bn c7 l wd HD.out.l R7D.out fun b off e hs => absurd (LS.out b hs) (Nat.not_lt.2 (N7.out b off e).1)).mono ?_
  rintro e w3 ⟨rfl, S', h1, f1, g1⟩
  have R3 := Lib.hid (RD.out.ft f1 (HN.out.1))
  refine ⟨_, rfl, R3.out, ?_⟩
  have P1 := Lib.hid h1; have F1 := Lib.hid f1; have G1 := Lib.hid g1
  have Q1 := Lib.hid (HD.out.right f1)
  have RR3 := Lib.hid (RRD.out.ft f1 fun hz b off e => (HBA.out hz b off e).1)
  have F73 := Lib.hid (F7D.out.ft f1 fun b hb _ hs => absurd (LS.out b hs) (Nat.not_lt.2 hb))
  clear h1 f1 g1
  go_simp
  (refine h_call 10 rfl (by kernel_rfl) (h_free rfl) 26 ?_ ?_ ?_; rotate_left; (focus (go_simp; rfl)))
  refine (xp_append q T d slot ba bn bc l w3 Q1.out RR3.out).mono ?_
  rintro e w4 ⟨rfl, T', h2, f2, g2⟩
  have DD := Lib.hid (HD.out.did HC.out P1.out F1.out G1.out h2 f2 g2)
  have F74 := Lib.hid (F73.out.ft f2 fun b hb _ hs => absurd (LT.out b hs) (Nat.not_lt.2 hb))
  have Z4 := Lib.hid (Nat.le_trans F1.out.size f2.size)
  refine ⟨_, rfl, R3.out.ft f2 (HN.out.2), ?_⟩
  clear h2 f2 g2
  go_simp
  (refine h_read 11 rfl (by kernel_rfl) (by kernel_rfl) (h_free rfl) ?_ ?_ ?_; rotate_left; (focus (intro v hv; go_simp; rfl)); go_simp)
  (refine h_read 12 rfl (by kernel_rfl) (by kernel_rfl) (h_free rfl) ?_ ?_ ?_; rotate_left; (focus (intro v hv; go_simp; rfl)); go_simp)
  refine h_done (by kernel_rfl) ?_
  go_wp2_with fail
  go_loopw [48] (fun i wq => ∃ (r : Nat) (y : List UInt8), r ≤ bn ∧ i = .int .i64 r ∧ y.length = bn ∧ Hid (Fr wq w1.heap.size (.slice a7 bn c7) y ∧ Ft (fun b => w1.heap.size ≤ b ∧ b < wd.heap.size) w4 wq)) (fun i _ => bn - (intOf i).toNat)
  case atStart => exact ⟨0, l, Nat.zero_le _, rfl, HL.out, Lib.hid ⟨F74.out, Ft.refl _ _⟩⟩
  case round =>
    obtain ⟨r, y, hr, rfl, hy, HI⟩ := hrel
    by_cases hrn : r < bn
    · obtain ⟨g7, cap7, e7, hle7, hge7, hlt7⟩ := HI.out.1.pos (by intro e; rw [e] at hy; simp at hy; omega)
      injection e7 with e1 e2 e3
      subst e1
      have hn7 := N7.out g7 0 rfl
      have hcq := HI.out.1.cellAt r (by omega) hy.symm
      have hfz := HI.out.1.frozenAt r hy.symm
      have HI3 := Lib.hid (show Fr (wr.setCell ⟨g7, r, none⟩ (.int .u8 255)) w1.heap.size (.slice (some ⟨g7, 0, none⟩) bn c7) (y.set r 255) ∧ Ft (fun b => w1.heap.size ≤ b ∧ b < wd.heap.size) w4 (wr.setCell ⟨g7, r, none⟩ (.int .u8 255)) from
        ⟨HI.out.1.set r 255 hy.symm, HI.out.2.trans (Ft.of_upd (Upd.setCell wr g7 r _) ⟨hge7, Nat.lt_of_lt_of_le hn7.2 ZD.out⟩)⟩)
      have HYL := Lib.hid (show (y.set r 255).length = bn by rw [List.length_set]; exact hy)
      obtain ⟨z, hz⟩ : ∃ z : Int, ((y.getD r 0).toNat : Int) = z := ⟨_, rfl⟩
      unfold B at hcq
      rw [hz] at hcq
      clear hz HI hy e2 e3 hle7 hge7 hlt7 hn7
      go_wp2_with fail
      go_roundw
      case rel => exact ⟨r + 1, y.set r 255, by omega, by go_num, HYL.out, HI3⟩
      case measure => simp [intOf]; omega
    · go_wp2_with fail
      go_ret
      exact ⟨by simp, Did.give HC.out LS.out LT.out DD.out HI.out.2 BD.out B1.out.size⟩

set_option maxRecDepth 100000 in
set_option maxHeartbeats 4000000 in
theorem do_append1 (hC : DkC PD) (p q : Nat) (S T : Nat → Prop) (d : DSt) (l : List UInt8) (slot n : Int) (ba : Option Addr) (bn bc : Nat) (ka : Option Addr) (kn kc : Nat) (w : World) (h : Two PD w p q S T d) (hslot : -9223372036854775808 ≤ slot ∧ slot ≤ 9223372036854775807) (hn : -9223372036854775808 ≤ n ∧ n ≤ 9223372036854775807) (hlb : (bn : Int) ≤ 600) (hlk : (kn : Int) ≤ 30) (hrb : Rd w ba bn bc l) (hba : bn ≠ 0 → ∀ b off, ba = some ⟨b, off, none⟩ → ¬ S b ∧ ¬ T b) :
    Calls Try.prog 10 #[.pointer (some ⟨p, 0, none⟩), .pointer (some ⟨q, 0, none⟩), .agg #[.int .i64 1, .int .i64 slot, .int .i64 n, .slice ba bn bc, .slice ka kn kc]] w fun e w' => e = .returned (.bool true) ∧ Did PD w w' p q S T := by
  have HC := Lib.hid hC
  have H := Lib.hid h
  have HR := Lib.hid hrb
  have HBA := Lib.hid hba
  clear h hC hrb hba
  go_enter Try.func10, Try.ntmps10
  go_wp2_with (with_reducible refine box_row (o := ⟨some 5, _, _, _, _, _⟩) rfl _ _ rfl [.int .i64 1, .int .i64 slot, .int .i64 n, .slice ba bn bc, .slice ka kn kc] rfl ?_; intro w1 hr1 hb1 hz1; have R1 := Lib.hid hr1; have B1 := Lib.hid hb1; have Z1 := Lib.hid hz1; obtain ⟨c0, c1, c2, c3, c4⟩ := hr1.c5; clear hr1 hb1 hz1)
  have HN : Hid ((¬ S w.heap.size) ∧ ¬ T w.heap.size) := Lib.hid ⟨fun hs => absurd (HC.out.lt H.out.l _ hs) (Nat.lt_irrefl _), fun ht => absurd (H.out.r.lt _ ht) (Nat.lt_irrefl _)⟩
  have HL : Hid (l.length = bn) := Lib.hid (HR.out.hlen)
  have H1 := Lib.hid (H.out.below HC.out B1.out)
  refine (sclone ba bn bc l w1 (HR.out.mono B1.out) (by omega)).mono ?_
  rintro e w2 ⟨v7, rfl, hf7, hb2⟩
  obtain ⟨a7, c7, rfl, hr7⟩ := hf7.form' bn HL.out
  have F7 := Lib.hid hf7
  have R7 := Lib.hid hr7
  have N7 := Lib.hid hf7.new
  have B2 := Lib.hid (B1.out.trans (hb2.mono B1.out.size))
  have RR2 := Lib.hid ((HR.out.mono B1.out).mono hb2)
  have R2 := Lib.hid (R1.out.below hb2 R1.out.lt)
  have H2 := Lib.hid (H1.out.below HC.out hb2)
  have LS : Hid (∀ b, S b → b < w1.heap.size) := Lib.hid fun b hb => Nat.lt_of_lt_of_le (HC.out.lt H.out.l b hb) B1.out.size
  have LT : Hid (∀ b, T b → b < w1.heap.size) := Lib.hid fun b hb => Nat.lt_of_lt_of_le (H.out.r.lt b hb) B1.out.size
  clear hf7 hr7 hb2 c0 c1 c2 c3 c4
  go_wp2_with fail
  refine region_h (fun v => Row v w.heap.size 33 [.int .i64 1, .int .i64 slot, .int .i64 n, .slice ba bn bc, .slice ka kn kc]) (by kernel_rfl) (by kernel_rfl) R2.out ?_
  have HD := Lib.hid (H2.out.below HC.out (Below.refl _ _).drew)
  have RD : Hid (Row w2.drew w.heap.size 33 [.int .i64 1, .int .i64 slot, .int .i64 n, .slice ba bn bc, .slice ka kn kc]) := Lib.hid R2.out
  have BD := Lib.hid (B2.out.drew)
  have F7D := Lib.hid (F7.out.kept (Below.refl _ _).drew)
  have R7D := Lib.hid (R7.out.mono (Below.refl _ _).drew)
  have RRD := Lib.hid (RR2.out.mono (Below.refl _ _).drew)
  have ZD : Hid (w2.heap.size ≤ w2.drew.heap.size) := Lib.hid (Nat.le_refl _)
  obtain ⟨wd, hwd⟩ : ∃ wd, w2.drew = wd := ⟨_, rfl⟩
  rw [hwd] at HD RD BD F7D R7D RRD ZD ⊢
  clear hwd
  (refine h_read 0 rfl (by kernel_rfl) (by kernel_rfl) (h_free rfl) ?_ ?_ ?_; rotate_left; (focus (intro v hv; go_simp; rfl)); go_simp)
  (refine h_read 1 rfl (by kernel_rfl) (by kernel_rfl) (h_free rfl) ?_ ?_ ?_; rotate_left; (focus (intro v hv; go_simp; rfl)); go_simp)
  (refine h_read 2 rfl (by kernel_rfl) (by kernel_rfl) (h_free rfl) ?_ ?_ ?_; rotate_left; (focus (intro v hv; have c0 := hv.c5.1; have c1 := hv.c5.2.1; have c2 := hv.c5.2.2.1; have c3 := hv.c5.2.2.2.1; have c4 := hv.c5.2.2.2.2; go_simp; rfl)); go_simp)
  (refine h_read 3 rfl (by kernel_rfl) (by kernel_rfl) (h_free rfl) ?_ ?_ ?_; rotate_left; (focus (intro v hv; go_simp; rfl)); go_simp)
  (refine h_read 5 rfl (by kernel_rfl) (by kernel_rfl) (h_free rfl) ?_ ?_ ?_; rotate_left; (focus (intro v hv; go_simp; rfl)); go_simp)
  (refine h_read 6 rfl (by kernel_rfl) (by kernel_rfl) (h_free rfl) ?_ ?_ ?_; rotate_left; (focus (intro v hv; go_simp; rfl)); go_simp)
  (refine h_read 7 rfl (by kernel_rfl) (by kernel_rfl) (h_free rfl) ?_ ?_ ?_; rotate_left; (focus (intro v hv; have c0 := hv.c5.1; have c1 := hv.c5.2.1; have c2 := hv.c5.2.2.1; have c3 := hv.c5.2.2.2.1; have c4 := hv.c5.2.2.2.2; go_simp; rfl)); go_simp)
  (refine h_read 8 rfl (by kernel_rfl) (by kernel_rfl) (h_free rfl) ?_ ?_ ?_; rotate_left; (focus (intro v hv; go_simp; rfl)); go_simp)
  (refine h_read 9 rfl (by kernel_rfl) (by kernel_rfl) (h_free rfl) ?_ ?_ ?_; rotate_left; (focus (intro v hv; have c0 := hv.c5.1; have c1 := hv.c5.2.1; have c2 := hv.c5.2.2.1; have c3 := hv.c5.2.2.2.1; have c4 := hv.c5.2.2.2.2; go_simp; rfl)); go_simp)
  (refine h_call 4 rfl (by kernel_rfl) (h_free rfl) 13 ?_ ?_ ?_; rotate_left; (focus (go_simp; rfl)))
  refine (HC.out.append p S d slot a7 bn c7 l wd HD.out.l R7D.out fun b off e hs => absurd (LS.out b hs) (Nat.not_lt.2 (N7.out b off e).1)).mono ?_
  rintro e w3 ⟨rfl, S', h1, f1, g1⟩
  have R3 := Lib.hid (RD.out.ft f1 (HN.out.1))
  refine ⟨_, rfl, R3.out, ?_⟩
  have P1 := Lib.hid h1; have F1 := Lib.hid f1; have G1 := Lib.hid g1
  have Q1 := Lib.hid (HD.out.right f1)
  have RR3 := Lib.hid (RRD.out.ft f1 fun hz b off e => (HBA.out hz b off e).1)
  have F73 := Lib.hid (F7D.out.ft f1 fun b hb _ hs => absurd (LS.out b hs) (Nat.not_lt.2 hb))
  clear h1 f1 g1
  go_simp
  (refine h_call 10 rfl (by kernel_rfl) (h_free rfl) 26 ?_ ?_ ?_; rotate_left; (focus (go_simp; rfl)))
  refine (xp_append q T d slot ba bn bc l w3 Q1.out RR3.out).mono ?_
  rintro e w4 ⟨rfl, T', h2, f2, g2⟩
  have DD := Lib.hid (HD.out.did HC.out P1.out F1.out G1.out h2 f2 g2)
  have F74 := Lib.hid (F73.out.ft f2 fun b hb _ hs => absurd (LT.out b hs) (Nat.not_lt.2 hb))
  have Z4 := Lib.hid (Nat.le_trans F1.out.size f2.size)
  refine ⟨_, rfl, R3.out.ft f2 (HN.out.2), ?_⟩
  clear h2 f2 g2
  go_simp
  (refine h_read 11 rfl (by kernel_rfl) (by kernel_rfl) (h_free rfl) ?_ ?_ ?_; rotate_left; (focus (intro v hv; go_simp; rfl)); go_simp)
  (refine h_read 12 rfl (by kernel_rfl) (by kernel_rfl) (h_free rfl) ?_ ?_ ?_; rotate_left; (focus (intro v hv; go_simp; rfl)); go_simp)
  refine h_done (by kernel_rfl) ?_
  go_wp2_with fail
  go_loopw [48] (fun i wq => ∃ (r : Nat) (y : List UInt8), r ≤ bn ∧ i = .int .i64 r ∧ y.length = bn ∧ Hid (Fr wq w1.heap.size (.slice a7 bn c7) y ∧ Ft (fun b => w1.heap.size ≤ b ∧ b < wd.heap.size) w4 wq)) (fun i _ => bn - (intOf i).toNat)
  case atStart => exact ⟨0, l, Nat.zero_le _, rfl, HL.out, Lib.hid ⟨F74.out, Ft.refl _ _⟩⟩
  case round =>
    obtain ⟨r, y, hr, rfl, hy, HI⟩ := hrel
    by_cases hrn : r < bn
    · obtain ⟨g7, cap7, e7, hle7, hge7, hlt7⟩ := HI.out.1.pos (by intro e; rw [e] at hy; simp at hy; omega)
      injection e7 with e1 e2 e3
      subst e1
      have hn7 := N7.out g7 0 rfl
      have hcq := HI.out.1.cellAt r (by omega) hy.symm
      have hfz := HI.out.1.frozenAt r hy.symm
      have HI3 := Lib.hid (show Fr (wr.setCell ⟨g7, r, none⟩ (.int .u8 255)) w1.heap.size (.slice (some ⟨g7, 0, none⟩) bn c7) (y.set r 255) ∧ Ft (fun b => w1.heap.size ≤ b ∧ b < wd.heap.size) w4 (wr.setCell ⟨g7, r, none⟩ (.int .u8 255)) from
        ⟨HI.out.1.set r 255 hy.symm, HI.out.2.trans (Ft.of_upd (Upd.setCell wr g7 r _) ⟨hge7, Nat.lt_of_lt_of_le hn7.2 ZD.out⟩)⟩)
      have HYL := Lib.hid (show (y.set r 255).length = bn by rw [List.length_set]; exact hy)
      obtain ⟨z, hz⟩ : ∃ z : Int, ((y.getD r 0).toNat : Int) = z := ⟨_, rfl⟩
      unfold B at hcq
      rw [hz] at hcq
      clear hz HI hy e2 e3 hle7 hge7 hlt7 hn7
      go_wp2_with fail
      go_roundw
      case rel => exact ⟨r + 1, y.set r 255, by omega, by go_num, HYL.out, HI3⟩
      case measure => simp [intOf]; omega
    · go_wp2_with fail
      go_ret
      exact ⟨by simp, Did.give HC.out LS.out LT.out DD.out HI.out.2 BD.out B1.out.size⟩

set_option maxRecDepth 100000 in
set_option maxHeartbeats 4000000 in
theorem do_read (hC : DkC PD) (p q : Nat) (S T : Nat → Prop) (d : DSt) (slot n : Int) (ba : Option Addr) (bn bc : Nat) (ka : Option Addr) (kn kc : Nat) (w : World) (h : Two PD w p q S T d) (hslot : -9223372036854775808 ≤ slot ∧ slot ≤ 9223372036854775807) (hn : -9223372036854775808 ≤ n ∧ n ≤ 9223372036854775807) (hlb : (bn : Int) ≤ 600) (hlk : (kn : Int) ≤ 30) :
    Calls Try.prog 10 #[.pointer (some ⟨p, 0, none⟩), .pointer (some ⟨q, 0, none⟩), .agg #[.int .i64 6, .int .i64 slot, .int .i64 n, .slice ba bn bc, .slice ka kn kc]] w fun e w' => e = .returned (.bool true) ∧ Did PD w w' p q S T := by
  have HC := Lib.hid hC
  have H := Lib.hid h
  clear h hC
  go_enter Try.func10, Try.ntmps10
  go_wp2_with (with_reducible refine box_row (o := ⟨some 5, _, _, _, _, _⟩) rfl _ _ rfl [.int .i64 6, .int .i64 slot, .int .i64 n, .slice ba bn bc, .slice ka kn kc] rfl ?_; intro w1 hr1 hb1 hz1; have R1 := Lib.hid hr1; have B1 := Lib.hid hb1; have Z1 := Lib.hid hz1; obtain ⟨c0, c1, c2, c3, c4⟩ := hr1.c5; clear hr1 hb1 hz1)
  obtain ⟨l, hl⟩ : ∃ l, d.rd slot = l := ⟨_, rfl⟩
  obtain ⟨m, hm⟩ : ∃ m, l.length = m := ⟨_, rfl⟩
  have HRD := Lib.hid hl
  have HM := Lib.hid hm
  clear hl hm
  have H1 := Lib.hid (H.out.below HC.out B1.out)
  go_wp2_with (first
    | (go_at_call 17; (refine (HC.out.read p S d slot _ H1.out.l).mono ?_); rw [HRD.out]; rintro e w2 ⟨v7, rfl, hf7, hb2⟩; obtain ⟨a7, c7, rfl, hr7⟩ := hf7.form' m HM.out; clear c0 c1 c2 c3 c4; have R2 := Lib.hid (R1.out.below hb2 R1.out.lt); obtain ⟨c0, c1, c2, c3, c4⟩ := R2.out.c5; have F7 := Lib.hid hf7; have R7 := Lib.hid hr7; have N7 := Lib.hid hf7.new; have B2 := Lib.hid (B1.out.trans (hb2.mono B1.out.size)); have H2 := Lib.hid (H1.out.below HC.out hb2); have Z2 := Lib.hid hb2.size; clear hf7 hr7 hb2)
    | (go_at_call 31; (refine (xp_read q T d slot _ H2.out.r).mono ?_); rw [HRD.out]; rintro e w3 ⟨v8, rfl, hf8, hb3⟩; obtain ⟨a8, c8, rfl, hr8⟩ := hf8.form' m HM.out; clear c0 c1 c2 c3 c4; have F73 := Lib.hid (F7.out.kept hb3); have R73 := Lib.hid (R7.out.mono hb3); have R8 := Lib.hid hr8; have B3 := Lib.hid (B2.out.trans (hb3.mono B2.out.size)); have H3 := Lib.hid (H2.out.below HC.out hb3); have Z3 := Lib.hid hb3.size; clear hf8 hr8 hb3)
    | (go_at_call 19; (refine (sequal a7 a8 m m c7 c8 l l _ R73.out R8.out).mono ?_); rintro e w4 ⟨rfl, hq⟩; have Q4 := Lib.hid hq; clear hq))
  have B4 := Lib.hid (B3.out.trans (Q4.out.below _))
  have F74 := Lib.hid (F73.out.kept (Q4.out.below _))
  have H4 := Lib.hid (H3.out.below HC.out (Q4.out.below _))
  have Z4 : Hid (w2.heap.size ≤ w4.heap.size) := Lib.hid (Nat.le_trans Z3.out (Q4.out.below 0).size)
  have LS : Hid (∀ b, S b → b < w1.heap.size) := Lib.hid fun b hb => Nat.lt_of_lt_of_le (HC.out.lt H.out.l b hb) B1.out.size
  have LT : Hid (∀ b, T b → b < w1.heap.size) := Lib.hid fun b hb => Nat.lt_of_lt_of_le (H.out.r.lt b hb) B1.out.size
  have hm9 := R7.out.hmax
  have hl9 := R7.out.hle
  go_loopw [125] (fun i wq => ∃ (r : Nat) (y : List UInt8), r ≤ m ∧ i = .int .i64 r ∧ y.length = m ∧ Hid (Fr wq w1.heap.size (.slice a7 m c7) y ∧ Ft (fun b => w1.heap.size ≤ b ∧ b < w4.heap.size) w4 wq)) (fun i _ => m - (intOf i).toNat)
  case atStart => exact ⟨0, l, Nat.zero_le _, rfl, HM.out, Lib.hid ⟨F74.out, Ft.refl _ _⟩⟩
  case round =>
    obtain ⟨r, y, hr, rfl, hy, HI⟩ := hrel
    by_cases hrn : r < m
    · obtain ⟨g7, cap7, e7, hle7, hge7, hlt7⟩ := HI.out.1.pos (by intro e; rw [e] at hy; simp at hy; omega)
      injection e7 with e1 e2 e3
      subst e1
      have hn7 := N7.out g7 0 rfl
      have hcq := HI.out.1.cellAt r (by omega) hy.symm
      have hfz := HI.out.1.frozenAt r hy.symm
      have HI3 := Lib.hid (show Fr (wr.setCell ⟨g7, r, none⟩ (.int .u8 255)) w1.heap.size (.slice (some ⟨g7, 0, none⟩) m c7) (y.set r 255) ∧ Ft (fun b => w1.heap.size ≤ b ∧ b < w4.heap.size) w4 (wr.setCell ⟨g7, r, none⟩ (.int .u8 255)) from
        ⟨HI.out.1.set r 255 hy.symm, HI.out.2.trans (Ft.of_upd (Upd.setCell wr g7 r _) ⟨hge7, Nat.lt_of_lt_of_le hn7.2 Z4.out⟩)⟩)
      have HYL := Lib.hid (show (y.set r 255).length = m by rw [List.length_set]; exact hy)
      obtain ⟨z, hz⟩ : ∃ z : Int, ((y.getD r 0).toNat : Int) = z := ⟨_, rfl⟩
      unfold B at hcq
      rw [hz] at hcq
      clear hz HI hy e2 e3 hle7 hge7 hlt7 hn7
      go_wp2_with fail
      go_roundw
      case rel => exact ⟨r + 1, y.set r 255, by omega, by go_num, HYL.out, HI3⟩
      case measure => simp [intOf]; omega
    · go_wp2_with fail
      go_ret
      exact ⟨by simp, Did.give HC.out LS.out LT.out (H4.out.same HC.out (Below.refl _ _)) HI.out.2 B4.out B1.out.size⟩

set_option maxRecDepth 100000 in
set_option maxHeartbeats 4000000 in
theorem do_long (hC : DkC PD) (p q : Nat) (S T : Nat → Prop) (d : DSt) (op : Int) (slot n : Int) (ba : Option Addr) (bn bc : Nat) (ka : Option Addr) (kn kc : Nat) (w : World) (h : Two PD w p q S T d) (hslot : -9223372036854775808 ≤ slot ∧ slot ≤ 9223372036854775807) (hn : -9223372036854775808 ≤ n ∧ n ≤ 9223372036854775807) (hlong : (600 : Int) < bn ∨ (30 : Int) < kn) :
    Calls Try.prog 10 #[.pointer (some ⟨p, 0, none⟩), .pointer (some ⟨q, 0, none⟩), .agg #[.int .i64 op, .int .i64 slot, .int .i64 n, .slice ba bn bc, .slice ka kn kc]] w fun e w' => e = .returned (.bool true) ∧ Did PD w w' p q S T := by
  have HC := Lib.hid hC
  have H := Lib.hid h
  clear h hC
  go_enter Try.func10, Try.ntmps10
  go_wp2_with (with_reducible refine box_row (o := ⟨some 5, _, _, _, _, _⟩) rfl _ _ rfl [.int .i64 op, .int .i64 slot, .int .i64 n, .slice ba bn bc, .slice ka kn kc] rfl ?_; intro w1 hr1 hb1 hz1; have R1 := Lib.hid hr1; have B1 := Lib.hid hb1; have Z1 := Lib.hid hz1; obtain ⟨c0, c1, c2, c3, c4⟩ := hr1.c5; clear hr1 hb1 hz1)
  all_goals (go_ret; exact ⟨rfl, H.out.same HC.out B1.out⟩)

theorem do_any (hC : DkC PD) (p q : Nat) (S T : Nat → Prop) (d : DSt) (k : DoC) (w : World) (h : Two PD w p q S T d) (hk : DoW w k) (hb : k.b.2.1 ≠ 0 → ∀ b off, k.b.1 = some ⟨b, off, none⟩ → ¬ S b ∧ ¬ T b) (hks : k.k.2.1 ≠ 0 → ∀ b off, k.k.1 = some ⟨b, off, none⟩ → ¬ S b ∧ ¬ T b) :
    Calls Try.prog 10 #[.pointer (some ⟨p, 0, none⟩), .pointer (some ⟨q, 0, none⟩), .agg k.cells.toArray] w fun e w' => e = .returned (.bool true) ∧ Did PD w w' p q S T := by
  obtain ⟨op, slot, n, ⟨ba, bn, bc⟩, ⟨ka, kn, kc⟩⟩ := k
  obtain ⟨⟨hop, hslot, hn⟩, ⟨zb, hzb⟩, ⟨zk, hzk⟩⟩ := hk
  by_cases hlong : (600 : Int) < bn ∨ (30 : Int) < kn
  · exact do_long hC p q S T d op slot n ba bn bc ka kn kc w h hslot hn hlong
  · have h1 : (bn : Int) ≤ 600 := by omega
    have h2 : (kn : Int) ≤ 30 := by omega
    rcases (by omega : op = 0 ∨ op = 1 ∨ op = 2 ∨ op = 3 ∨ op = 4 ∨ op = 5 ∨ op = 6 ∨ (op < 0 ∨ 6 < op)) with rfl | rfl | rfl | rfl | rfl | rfl | rfl | ho
    · exact do_append0 hC p q S T d _ slot n ba bn bc ka kn kc w h hslot hn h1 h2 (Rd.of_row hzb) hb
    · exact do_append1 hC p q S T d _ slot n ba bn bc ka kn kc w h hslot hn h1 h2 (Rd.of_row hzb) hb
    · exact do_clear hC p q S T d slot n ba bn bc ka kn kc w h hslot hn h1 h2
    · exact do_cut hC p q S T d slot n ba bn bc ka kn kc w h hslot hn h1 h2
    · exact do_sync hC p q S T d slot n ba bn bc ka kn kc w h hslot hn h1 h2
    · exact do_crash hC p q S T d _ slot n ba bn bc ka kn kc w h hslot hn h1 h2 (Sl.of_row hzk).1 hks
    · exact do_read hC p q S T d slot n ba bn bc ka kn kc w h hslot hn h1 h2
    · exact do_size hC p q S T d op ho slot n ba bn bc ka kn kc w h hslot hn h1 h2
end Go.Proofs.Ytlohfalpcppcjaa.W
