/- LAYER 28 (chunk): files, plain and in memory; a store of the program in memory. -/
import Derived.Test.YtkfhppbmnjmnoaaGreatDoorSm
import Derived.Test.YtkfhppbmnjmnoaaGreatDoorIzI
import Derived.Test.YtkfhppbmnjmnoaaGreatDoorFoot
import Derived.Test.YtkfhppbmnjmnoaaGreatDoorShaE
set_option linter.unusedSimpArgs false
set_option linter.unusedVariables false
namespace Go.Proofs.YtkfhppbmnjmnoaaGreatDoor.W
open Go Go.ChangeShapes Go.WideShapes Go.ChangeAt Go.RowKit
open Go.Proofs.YtkfhppbmnjmnoaaGreatDoor.P (shaL shaL_len)

/-- a file, plain: its sum, its bytes, how many of them are sure, its times -/
structure Fi where
  s : ByteArray
  b : List UInt8
  su : Nat
  t : List Int
/-- a file, and where its bytes and times lie -/
structure FX where
  f : Fi
  bv : Value
  tv : Value
@[reducible] def fiC (s : ByteArray) (bv : Value) (su : Nat) (tv : Value) : List Value := [.string s, bv, .int .i64 (su : Int), tv]
@[reducible] def FX.cells (x : FX) : List Value := fiC x.f.s x.bv x.f.su x.tv
@[reducible] def FX.val (x : FX) : Value := .agg x.cells.toArray
def MX (X : List FX) : List Ent := X.map fun x => (x.f.s, x.val)
theorem file_size : (Tryz.prog.info? 44).map (·.size) = some 4 := by kernel_rfl
theorem file_zero : (Tryz.prog.info? 44).map (·.zero) = some (some (.agg (fiC ⟨#[]⟩ (.slice none 0 0) 0 (.slice none 0 0)).toArray)) := by kernel_rfl
theorem file_zv (w : World) : (zeroValue 44).run Tryz.prog w = .ok (.agg (fiC ⟨#[]⟩ (.slice none 0 0) 0 (.slice none 0 0)).toArray) w := by kernel_rfl
theorem map_type : Tryz.prog.underlying 64 = some (.map 9 44) := Tryz.underlying64
-- ---- plain
def sumOf (b : List UInt8) : ByteArray := str (shaL b)
theorem sumOf_size (b : List UInt8) : (sumOf b).size = 32 := by unfold sumOf; rw [str_size, shaL_len]
def usedC (L : List Fi) : Nat := (L.map (·.b.length)).sum
def isLoose (f : Fi) : Bool := decide (f.su < f.b.length)
def looseC (L : List Fi) : Nat := (L.filter isLoose).length
def intactC (f : Fi) : Bool := decide (sumOf f.b = f.s)
def findC (s : ByteArray) (L : List Fi) : Option Fi := L.find? fun f => decide (f.s = s)
def timedL : List Int → Int → List Int
  | [], x => [x]
  | y :: r, x => if x < y then x :: y :: r else if x = y then y :: r else y :: timedL r x
def putL : List Fi → Fi → List Fi
  | [], f => [f]
  | g :: r, f => if ltM f.s g.s then f :: g :: r else if f.s = g.s then f :: r else g :: putL r f
def putC (room : Int) (L : List Fi) (b : List UInt8) (time : Int) : List Fi × ByteArray × Int :=
  if b.length < 1 ∨ 256 < b.length then (L, ⟨#[]⟩, 1) else
  match findC (sumOf b) L with
  | none => if room < (usedC L : Int) + b.length then (L, ⟨#[]⟩, 7) else (putL L ⟨sumOf b, b, 0, [time]⟩, sumOf b, 0)
  | some f => if f.b = b then (putL L ⟨f.s, f.b, f.su, timedL f.t time⟩, sumOf b, 0) else if intactC f = true then (L, ⟨#[]⟩, 15)
    else if room < (usedC L : Int) - f.b.length + b.length then (L, ⟨#[]⟩, 7) else (putL L ⟨sumOf b, b, 0, timedL f.t time⟩, sumOf b, 0)
def getC (L : List Fi) (s : ByteArray) : List UInt8 × Int :=
  match findC s L with
  | none => ([], 6)
  | some f => if intactC f = true then (f.b, 0) else ([], 20)
def syncC (L : List Fi) : List Fi := L.map fun f => ⟨f.s, f.b, f.b.length, f.t⟩
/-- how many of so many bytes stay, as the nx-th of ks says -/
def stayV (ks : List Int) (nx : Nat) (loose : Int) : Int := if ks.length = 0 then 0 else min (max (ks.getD (nx % ks.length) 0) 0) loose
def cutF (f : Fi) (n : Nat) : Fi := ⟨f.s, f.b.take n, n, f.t⟩
def crashC (ks : List Int) : Nat → List Fi → List Fi
  | _, [] => []
  | nx, f :: r => if isLoose f = true then
      (if f.su + (stayV ks nx ((f.b.length : Int) - f.su)).toNat = 0 then crashC ks (nx + 1) r else cutF f (f.su + (stayV ks nx ((f.b.length : Int) - f.su)).toNat) :: crashC ks (nx + 1) r)
    else f :: crashC ks nx r
def rotC (L : List Fi) (i at' bits : Int) : List Fi :=
  match L[(i % (L.length : Int)).toNat]? with
  | none => L
  | some f => L.set (i % (L.length : Int)).toNat ⟨f.s, f.b.set (at' % (f.b.length : Int)).toNat ((f.b.getD (at' % (f.b.length : Int)).toNat 0) ^^^ UInt8.ofNat (bits % 256).toNat), f.su, f.t⟩
def oldC (time : Int) (live : List Int) (f : Fi) : Bool := f.t.all fun t => !(decide (time ≤ t) || decide (t ∈ live))
def goesC (time : Int) (needs : List ByteArray) (live : List Int) (f : Fi) : Bool := !(needs.any fun s => decide (s = f.s)) && oldC time live f
/-- files stand by their sums, rising -/
def RisC (L : List Fi) : Prop := L.Pairwise fun f g => ltM f.s g.s = true
/-- a file may be, T times at most -/
structure FiOk (T : Nat) (f : Fi) : Prop where
  s : f.s.size ≤ 1000000
  b1 : 1 ≤ f.b.length
  b2 : f.b.length ≤ 256
  su : f.su ≤ f.b.length
  tl : f.t.length ≤ T
  t64 : ∀ t ∈ f.t, SI64 t
  tr : f.t.Pairwise (· < ·)
structure StOk (T : Nat) (room : Int) (L : List Fi) : Prop where
  ris : RisC L
  ok : ∀ f ∈ L, FiOk T f
  us : (usedC L : Int) ≤ room
  rm : room ≤ 524288
theorem used_len {T : Nat} : ∀ {L : List Fi}, (∀ f ∈ L, FiOk T f) → L.length ≤ usedC L
  | [], _ => Nat.zero_le _
  | f :: L, h => by
    have h1 := used_len (fun g hg => h g (List.mem_cons_of_mem _ hg))
    have h2 := (h f (List.mem_cons_self ..)).b1
    unfold usedC at h1 ⊢
    rw [List.map_cons, List.sum_cons, List.length_cons]; omega
theorem StOk.len {T : Nat} {room : Int} {L : List Fi} (h : StOk T room L) : L.length ≤ 524288 := by
  have h1 := used_len h.ok
  have h2 := h.us
  have h3 := h.rm
  omega
-- ---- in memory
theorem Fr.keep {w w' : World} {base : Nat} {v : Value} {l : List UInt8} (h : Fr w base v l) (hk : ∀ g, v.ownBlock = some g → w'.heap[g]? = w.heap[g]?) : Fr w' base v l := by
  obtain ⟨h1, h2⟩ := h
  refine ⟨h1, ?_⟩
  rcases h2 with h2 | ⟨g, cap, cur, rfl, hg, hh, r⟩
  · exact .inl h2
  · exact .inr ⟨g, cap, cur, rfl, hg, by rw [hk g rfl]; exact hh, r⟩
theorem Fr.blt {w : World} {base g : Nat} {v : Value} {l : List UInt8} (h : Fr w base v l) (e : v.ownBlock = some g) : g < w.heap.size := (World.ownsRow.lt h g e).2
theorem LsO.blt {α : Type} {E : El α} {w : World} {base g : Nat} {v : Value} {L : List α} (h : LsO E w base v L) (e : v.ownBlock = some g) : g < w.heap.size := (World.ownsRow.lt h g e).2
/-- the store of the program in memory; all its blocks lie in S -/
structure CK (w : World) (p m : Nat) (room : Int) (X : List FX) (S : Nat → Prop) : Prop where
  rp : Row w p 66 [.int .i64 room, .map (some m)]
  sm : SM w m X.length (MX X)
  ob : ∀ x ∈ X, Fr w 0 x.bv x.f.b
  ot : ∀ x ∈ X, LsO intE w 0 x.tv x.f.t
  sb : X.Pairwise fun x y => ∀ g, x.bv.ownBlock = some g → y.bv.ownBlock ≠ some g
  st : X.Pairwise fun x y => ∀ g, x.tv.ownBlock = some g → y.tv.ownBlock ≠ some g
  Sp : S p
  Sm : S m
  Sb : ∀ x ∈ X, ∀ g, x.bv.ownBlock = some g → S g
  St : ∀ x ∈ X, ∀ g, x.tv.ownBlock = some g → S g
  lt : ∀ k, S k → k < w.heap.size
theorem CK.ft {F : Nat → Prop} {w w' : World} {p m : Nat} {room : Int} {X : List FX} {S : Nat → Prop} (h : CK w p m room X S) (k : Ft F w w') (hd : Disj S F) : CK w' p m room X S :=
  { h with
    rp := h.rp.ft k (hd p h.Sp)
    sm := h.sm.block (k.block m h.sm.lt (hd m h.Sm))
    ob := fun x hx => (h.ob x hx).keep fun g e => k.block g ((h.ob x hx).blt e) (hd g (h.Sb x hx g e))
    ot := fun x hx => (h.ot x hx).keep fun g e => k.block g ((h.ot x hx).blt e) (hd g (h.St x hx g e))
    lt := fun b hb => Nat.lt_of_lt_of_le (h.lt b hb) k.size }
theorem CK.mono {w w' : World} {p m : Nat} {room : Int} {X : List FX} {S : Nat → Prop} (h : CK w p m room X S) (k : Below w.heap.size w w') : CK w' p m room X S :=
  h.ft (Ft.of_below (F := fun _ => False) k) (fun _ _ h => h)
theorem CK.grow {w : World} {p m : Nat} {room : Int} {X : List FX} {S S' : Nat → Prop} (h : CK w p m room X S) (hs : ∀ k, S k → S' k) (hl : ∀ k, S' k → k < w.heap.size) : CK w p m room X S' :=
  { h with Sp := hs p h.Sp, Sm := hs m h.Sm, Sb := fun x hx g e => hs g (h.Sb x hx g e), St := fun x hx g e => hs g (h.St x hx g e), lt := hl }
theorem SM.tight {w : World} {b n : Nat} {M : List Ent} (h : SM w b n M) : SM w b M.length M := by
  obtain ⟨es, clock, hb, F, hs, hD⟩ := h.own
  refine ⟨es, clock, hb, F, ?_, hD⟩
  have e : (entS M).length = es.size := by
    injection hD with hD
    rw [hD, length_read]
  rw [← e]; simp [entS]
theorem CK.at {w : World} {p m : Nat} {room : Int} {X : List FX} {S : Nat → Prop} (h : CK w p m room X S) {x : FX} (hx : x ∈ X) : (x.f.s, x.val) ∈ MX X := List.mem_map.2 ⟨x, hx, rfl⟩
theorem mx_ris {X : List FX} : Ris (MX X) ↔ RisC (X.map (·.f)) := by
  unfold Ris RisC MX
  rw [List.pairwise_map, List.pairwise_map]
theorem risc_uniq {L : List Fi} (h : RisC L) {f g : Fi} (hf : f ∈ L) (hg : g ∈ L) (e : f.s = g.s) : f = g := by
  induction L with
  | nil => cases hf
  | cons x M ih =>
    obtain ⟨h1, h2⟩ := List.pairwise_cons.1 h
    have ne : ∀ y ∈ M, x.s ≠ y.s := fun y hy e => by have := h1 y hy; rw [e, ltM_self] at this; cases this
    rcases List.mem_cons.1 hf with ep | hp'
    · rcases List.mem_cons.1 hg with eq | hq'
      · rw [ep, eq]
      · exact absurd (by rw [← ep]; exact e) (ne g hq')
    · rcases List.mem_cons.1 hg with eq | hq'
      · exact absurd (by rw [← eq]; exact e.symm) (ne f hp')
      · exact ih h2 hp' hq'
theorem find_or (s : ByteArray) (L : List Fi) : (findC s L = none ∧ ∀ f ∈ L, f.s ≠ s) ∨ ∃ f, findC s L = some f ∧ f ∈ L ∧ f.s = s := by
  unfold findC
  cases h : L.find? (fun f => decide (f.s = s)) with
  | none => exact .inl ⟨rfl, fun f hf => by have := List.find?_eq_none.1 h f hf; simpa using this⟩
  | some f => exact .inr ⟨f, rfl, List.mem_of_find?_eq_some h, by have := List.find?_some h; simpa using this⟩
theorem find_x {X : List FX} {f : Fi} (h : f ∈ X.map (·.f)) : ∃ x ∈ X, x.f = f := by
  obtain ⟨x, h1, h2⟩ := List.mem_map.1 h; exact ⟨x, h1, h2⟩
end Go.Proofs.YtkfhppbmnjmnoaaGreatDoor.W
