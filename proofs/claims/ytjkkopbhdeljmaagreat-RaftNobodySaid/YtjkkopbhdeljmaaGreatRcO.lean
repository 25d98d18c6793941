/- LAYER 11 (record): entries and records by value; within, Entry, SameEntry, Same of both. -/
import Derived.Test.YtjkkopbhdeljmaaGreatByt
import Derived.Test.YtjkkopbhdeljmaaGreatQ
set_option linter.unusedSimpArgs false
set_option linter.unusedVariables false
namespace Go.Proofs.YtjkkopbhdeljmaaGreat.W
open Go Go.ChangeShapes Go.WideShapes Go.ChangeAt Go.RowKit
open Go.Proofs.YtjkkopbhdeljmaaGreat.P (enc dec)

/-- an entry, as it is handed over -/
structure En where
  ix : Int
  tm : Int
  kd : Int
  a : Option Addr
  n : Nat
  c : Nat
def En.cells (e : En) : List Value := [.int .i64 e.ix, .int .i64 e.tm, .int .i64 e.kd, .slice e.a e.n e.c]
def En.zero : En := ⟨0, 0, 0, none, 0, 0⟩
/-- a record, as it is handed over -/
structure Rc where
  k : Int
  t : Int
  v : Int
  e : En
  i : Int
  f : Int
  a : Option Addr
  n : Nat
  c : Nat
def Rc.cells (r : Rc) : List Value := [.int .i64 r.k, .int .i64 r.t, .int .i64 r.v, .int .i64 r.e.ix, .int .i64 r.e.tm, .int .i64 r.e.kd, .slice r.e.a r.e.n r.e.c, .int .i64 r.i, .int .i64 r.f, .slice r.a r.n r.c]
/-- numbers of 64 bits -/
def I64 (x : Int) : Prop := -9223372036854775808 ≤ x ∧ x ≤ 9223372036854775807
structure EnF (w : World) (e : En) (l : List UInt8) : Prop where
  ix : I64 e.ix
  tm : I64 e.tm
  kd : I64 e.kd
  rd : Rd w e.a e.n e.c l
structure RcF (w : World) (r : Rc) (l s : List UInt8) : Prop where
  k : I64 r.k
  t : I64 r.t
  v : I64 r.v
  e : EnF w r.e l
  i : I64 r.i
  f : I64 r.f
  rd : Rd w r.a r.n r.c s
theorem EnF.mono {w w' : World} {e : En} {l : List UInt8} (h : EnF w e l) (hb : Below w.heap.size w w') : EnF w' e l := ⟨h.ix, h.tm, h.kd, h.rd.mono hb⟩
theorem RcF.mono {w w' : World} {r : Rc} {l s : List UInt8} (h : RcF w r l s) (hb : Below w.heap.size w w') : RcF w' r l s := ⟨h.k, h.t, h.v, h.e.mono hb, h.i, h.f, h.rd.mono hb⟩
theorem Row.q4 {w : World} {g : Nat} {t : TypeId} {a b c d : Value} (h : Row w g t [a, b, c, d]) : w.cell? ⟨g, 0, none⟩ = some a ∧ w.cell? ⟨g, 1, none⟩ = some b ∧ w.cell? ⟨g, 2, none⟩ = some c ∧ w.cell? ⟨g, 3, none⟩ = some d := by
  refine ⟨?_, ?_, ?_, ?_⟩ <;> (rw [h.cellV]; rfl)
theorem Row.q10 {w : World} {g : Nat} {t : TypeId} {a0 a1 a2 a3 a4 a5 a6 a7 a8 a9 : Value} (h : Row w g t [a0, a1, a2, a3, a4, a5, a6, a7, a8, a9]) :
    w.cell? ⟨g, 0, none⟩ = some a0 ∧ w.cell? ⟨g, 1, none⟩ = some a1 ∧ w.cell? ⟨g, 2, none⟩ = some a2 ∧ w.cell? ⟨g, 3, none⟩ = some a3 ∧ w.cell? ⟨g, 4, none⟩ = some a4 ∧ w.cell? ⟨g, 5, none⟩ = some a5 ∧ w.cell? ⟨g, 6, none⟩ = some a6 ∧ w.cell? ⟨g, 7, none⟩ = some a7 ∧ w.cell? ⟨g, 8, none⟩ = some a8 ∧ w.cell? ⟨g, 9, none⟩ = some a9 := by
  refine ⟨?_, ?_, ?_, ?_, ?_, ?_, ?_, ?_, ?_, ?_⟩ <;> (rw [h.cellV]; rfl)
/-- the entry in a record's cells -/
theorem Row.ent {w : World} {g : Nat} {t : TypeId} {r : Rc} (h : Row w g t r.cells) : ∀ j v, r.e.cells[j]? = some v → w.cell? ⟨g, 3 + j, none⟩ = some v := by
  intro j v hj
  have hj4 : j < 4 := (List.getElem?_eq_some_iff.1 hj).1
  rw [h.cellV, ← hj]
  have : j = 0 ∨ j = 1 ∨ j = 2 ∨ j = 3 := by omega
  rcases this with rfl | rfl | rfl | rfl <;> rfl
theorem en_size : (Tryz.prog.info? 69).map (·.size) = some 4 := by kernel_rfl
theorem rc_size : (Tryz.prog.info? 134).map (·.size) = some 10 := by kernel_rfl

def inV (n lo hi : Int) : Bool := decide (lo ≤ n) && decide (n ≤ hi)
def enOk (e : En) : Bool := inV e.ix 1 2147483648 && (inV e.tm 0 2147483648 && (inV e.kd 0 2 && decide (e.n ≤ 4096)))
def sameE (e f : En) (l m : List UInt8) : Bool := (e.ix == f.ix) && ((e.tm == f.tm) && ((e.kd == f.kd) && decide (l = m)))
def sameR (r s : Rc) (l m p q : List UInt8) : Bool := (r.k == s.k) && ((r.t == s.t) && ((r.v == s.v) && ((r.i == s.i) && ((r.f == s.f) && (sameE r.e s.e l m && decide (p = q))))))

set_option maxHeartbeats 400000 in
theorem rwithin (n lo hi : Int) (w : World) : Calls Tryz.prog 120 #[.int .i64 n, .int .i64 lo, .int .i64 hi] w fun e w' => e = .returned (.bool (inV n lo hi)) ∧ w = w' := by
  have HI := Lib.hid (rfl : inV n lo hi = (decide (lo ≤ n) && decide (n ≤ hi)))
  by_cases h1 : lo ≤ n <;> by_cases h2 : n ≤ hi
  all_goals
    go_enter Tryz.func120, Tryz.ntmps120
    go_wp2
    go_ret
    exact ⟨one (vbool (by unfold inV; simp [h1, h2])), rfl⟩
theorem ch3 : ∀ b0 b1 b2 : Bool, (b0 = false) ∨ (b0 = true ∧ b1 = false) ∨ (b0 = true ∧ b1 = true ∧ b2 = false) ∨ (b0 = true ∧ b1 = true ∧ b2 = true) := by
  intro b0 b1 b2
  cases b0 <;> cases b1 <;> cases b2 <;> simp
theorem ch4 : ∀ b0 b1 b2 b3 : Bool, (b0 = false) ∨ (b0 = true ∧ b1 = false) ∨ (b0 = true ∧ b1 = true ∧ b2 = false) ∨ (b0 = true ∧ b1 = true ∧ b2 = true ∧ b3 = false) ∨ (b0 = true ∧ b1 = true ∧ b2 = true ∧ b3 = true) := by
  intro b0 b1 b2 b3
  cases b0 <;> cases b1 <;> cases b2 <;> cases b3 <;> simp
theorem ch7 : ∀ b0 b1 b2 b3 b4 b5 b6 : Bool, (b0 = false) ∨ (b0 = true ∧ b1 = false) ∨ (b0 = true ∧ b1 = true ∧ b2 = false) ∨ (b0 = true ∧ b1 = true ∧ b2 = true ∧ b3 = false) ∨ (b0 = true ∧ b1 = true ∧ b2 = true ∧ b3 = true ∧ b4 = false) ∨ (b0 = true ∧ b1 = true ∧ b2 = true ∧ b3 = true ∧ b4 = true ∧ b5 = false) ∨ (b0 = true ∧ b1 = true ∧ b2 = true ∧ b3 = true ∧ b4 = true ∧ b5 = true ∧ b6 = false) ∨ (b0 = true ∧ b1 = true ∧ b2 = true ∧ b3 = true ∧ b4 = true ∧ b5 = true ∧ b6 = true) := by
  intro b0 b1 b2 b3 b4 b5 b6
  cases b0 <;> cases b1 <;> cases b2 <;> cases b3 <;> cases b4 <;> cases b5 <;> cases b6 <;> simp

set_option maxRecDepth 100000 in
set_option maxHeartbeats 4000000 in
theorem rentry (e : En) (w : World) : Calls Tryz.prog 88 #[.agg e.cells.toArray] w fun x w' => x = .returned (.bool (enOk e)) ∧ Below w.heap.size w w' := by
  obtain ⟨ix, tm, kd, a, n, c⟩ := e
  obtain ⟨b0, h0⟩ : ∃ b, inV ix 1 2147483648 = b := ⟨_, rfl⟩
  obtain ⟨b1, h1⟩ : ∃ b, inV tm 0 2147483648 = b := ⟨_, rfl⟩
  obtain ⟨b2, h2⟩ : ∃ b, inV kd 0 2 = b := ⟨_, rfl⟩
  obtain ⟨b3, h3⟩ : ∃ b, decide (n ≤ 4096) = b := ⟨_, rfl⟩
  have hx : enOk ⟨ix, tm, kd, a, n, c⟩ = (b0 && (b1 && (b2 && b3))) := by unfold enOk; rw [h0, h1, h2, h3]
  have h3' : decide ((n : Int) ≤ 4096) = b3 := by rw [← h3, decide_eq_decide]; omega
  have HX := Lib.hid hx
  have H0 := Lib.hid h0
  have H1 := Lib.hid h1
  have H2 := Lib.hid h2
  unfold En.cells
  dsimp only
  clear h0 h1 h2 h3 hx
  rcases ch4 b0 b1 b2 b3 with rfl | ⟨rfl, rfl⟩ | ⟨rfl, rfl, rfl⟩ | ⟨rfl, rfl, rfl, rfl⟩ | ⟨rfl, rfl, rfl, rfl⟩
  all_goals
    go_enter Tryz.func88, Tryz.ntmps88
    go_wp2_with (first
      | (with_reducible refine box_row (o := ⟨some 1, _, _, _, _, _⟩) rfl _ _ rfl [.int .i64 ix, .int .i64 tm, .int .i64 kd, .slice a n c] rfl ?_; intro w1 hr1 hb1 hz1; obtain ⟨c0, c1, c2, c3⟩ := hr1.q4; have B1 := Lib.hid hb1; clear hr1 hb1 hz1)
      | (go_at_call 120; with_reducible refine (rwithin ix 1 2147483648 _).mono ?_; rw [H0.out]; rintro x w' ⟨rfl, rfl⟩)
      | (go_at_call 120; with_reducible refine (rwithin tm 0 2147483648 _).mono ?_; rw [H1.out]; rintro x w' ⟨rfl, rfl⟩)
      | (go_at_call 120; with_reducible refine (rwithin kd 0 2 _).mono ?_; rw [H2.out]; rintro x w' ⟨rfl, rfl⟩))
    go_ret
    exact ⟨one (vbool (by rw [HX.out]; simp)), B1.out⟩


set_option maxRecDepth 100000 in
set_option maxHeartbeats 4000000 in
theorem rsameE (e f : En) (l m : List UInt8) (w : World) (he : Rd w e.a e.n e.c l) (hf : Rd w f.a f.n f.c m) : Calls Tryz.prog 138 #[.agg e.cells.toArray, .agg f.cells.toArray] w fun x w' => x = .returned (.bool (sameE e f l m)) ∧ Below w.heap.size w w' := by
  obtain ⟨ix, tm, kd, a, n, c⟩ := e
  obtain ⟨ix', tm', kd', a', n', c'⟩ := f
  obtain ⟨b0, h0⟩ : ∃ b, (ix == ix') = b := ⟨_, rfl⟩
  obtain ⟨b1, h1⟩ : ∃ b, (tm == tm') = b := ⟨_, rfl⟩
  obtain ⟨b2, h2⟩ : ∃ b, (kd == kd') = b := ⟨_, rfl⟩
  obtain ⟨b3, h3⟩ : ∃ b, decide (l = m) = b := ⟨_, rfl⟩
  have hx : sameE ⟨ix, tm, kd, a, n, c⟩ ⟨ix', tm', kd', a', n', c'⟩ l m = (b0 && (b1 && (b2 && b3))) := by unfold sameE; rw [h0, h1, h2, ← h3]
  dsimp only at he hf
  have HX := Lib.hid hx
  have HE := Lib.hid he
  have HF := Lib.hid hf
  have H3 := Lib.hid h3
  unfold En.cells
  dsimp only
  clear hx he hf h3
  rcases ch4 b0 b1 b2 b3 with rfl | ⟨rfl, rfl⟩ | ⟨rfl, rfl, rfl⟩ | ⟨rfl, rfl, rfl, rfl⟩ | ⟨rfl, rfl, rfl, rfl⟩
  all_goals
    go_enter Tryz.func138, Tryz.ntmps138
    go_wp2_with (first
      | (with_reducible refine box_row (o := ⟨some 2, _, _, _, _, _⟩) rfl _ _ rfl [.int .i64 ix, .int .i64 tm, .int .i64 kd, .slice a n c] rfl ?_; intro w1 hr1 hb1 hz1; have HR1 := Lib.hid hr1; have B1 := Lib.hid hb1; clear hr1 hb1 hz1)
      | (with_reducible refine box_row (o := ⟨some 3, _, _, _, _, _⟩) rfl _ _ rfl [.int .i64 ix', .int .i64 tm', .int .i64 kd', .slice a' n' c'] rfl ?_; intro w2 hr2 hb2 hz2; obtain ⟨c0, c1, c2, c3⟩ := (HR1.out.below hb2 HR1.out.lt).q4; obtain ⟨d0, d1, d2, d3⟩ := hr2.q4; have B2 := Lib.hid (B1.out.trans (hb2.mono B1.out.size)); have R1 := Lib.hid (HE.out.mono B2.out); have R2 := Lib.hid (HF.out.mono B2.out); clear hr2 hb2 hz2)
      | (go_at_call 145; refine (bequal a a' n c n' c' l m _ R1.out R2.out).mono ?_; rw [H3.out]; rintro x w' ⟨rfl, rfl⟩))
    go_ret
    exact ⟨one (vbool (by rw [HX.out]; simp)), B2.out⟩

end Go.Proofs.YtjkkopbhdeljmaaGreat.W
