/- LAYER 20 (manifest): pieces and snapshots as they come in; plain. -/
import Derived.Test.YtjolmjbhpokgmaaGreatLs
import Derived.Test.YtjolmjbhpokgmaaGreatCavO
import Derived.Test.YtjolmjbhpokgmaaGreatCavH
import Derived.Test.YtjolmjbhpokgmaaGreatBi
set_option linter.unusedSimpArgs false
set_option linter.unusedVariables false
namespace Go.Proofs.YtjolmjbhpokgmaaGreat.W
open Go Go.ChangeShapes Go.WideShapes Go.ChangeAt Go.RowKit
open Go.Proofs.YtjolmjbhpokgmaaGreat.P (enc dec)

/-- a piece -/
structure Pc where
  sum : ByteArray
  size : Int
structure Pc.fit (p : Pc) : Prop where
  sum : p.sum.size ≤ maxLen
  size : SI64 p.size
@[reducible] def Pc.cells (p : Pc) : List Value := [.string p.sum, .int .i64 p.size]
def pcZ : Pc := ⟨⟨#[]⟩, 0⟩
@[reducible] def pcE : El Pc := ⟨23, 47, 2, 24, .agg #[.string ⟨#[]⟩, .int .i64 0], Pc.cells, fun _ p => p.fit⟩
theorem pcOk : pcE.Ok Tryz.prog where
  und := Tryz.underlying23
  info := by kernel_rfl
  zs := rfl
  pos := by decide
  len := fun _ => rfl
  one := fun s v hv => by simp at hv; rcases hv with rfl | rfl <;> rfl
  mono := fun _ _ _ h _ => h
  small := by decide
theorem pc_size : (Tryz.prog.info? 47).map (·.size) = some 2 := by kernel_rfl
theorem pc_zero : (Tryz.prog.info? 47).map (·.zero) = some (some (.agg (Pc.cells pcZ).toArray)) := by kernel_rfl
theorem pc_one (s : Pc) : ∀ v ∈ s.cells, v.oneCell' = true := pcOk.one s
/-- a snapshot, plain -/
structure Sn where
  sp : ByteArray
  nm : ByteArray
  by' : Int
  ti : Int
  ke : Int
  P : List Pc
/-- a snapshot, and where its pieces lie -/
structure SnX where
  s : Sn
  a : Option Addr
  m : Nat
  c : Nat
@[reducible] def snC (sp nm : ByteArray) (b t k : Int) (a : Option Addr) (m c : Nat) : List Value := [.string sp, .string nm, .int .i64 b, .int .i64 t, .int .i64 k, .slice a m c]
@[reducible] def SnX.cells (x : SnX) : List Value := snC x.s.sp x.s.nm x.s.by' x.s.ti x.s.ke x.a x.m x.c
structure SnX.fit (w : World) (x : SnX) : Prop where
  sp : x.s.sp.size ≤ maxLen
  nm : x.s.nm.size ≤ maxLen
  by' : SI64 x.s.by'
  ti : SI64 x.s.ti
  ke : SI64 x.s.ke
  P : Ls pcE w x.a x.m x.c x.s.P
def snZ : Sn := ⟨⟨#[]⟩, ⟨#[]⟩, 0, 0, 0, []⟩
@[reducible] def snE : El SnX := ⟨22, 45, 6, 80, .agg #[.string ⟨#[]⟩, .string ⟨#[]⟩, .int .i64 0, .int .i64 0, .int .i64 0, .slice none 0 0], SnX.cells, fun w x => x.fit w⟩
theorem snOk : snE.Ok Tryz.prog where
  und := Tryz.underlying22
  info := by kernel_rfl
  zs := rfl
  pos := by decide
  len := fun _ => rfl
  one := fun s v hv => by simp at hv; rcases hv with rfl | rfl | rfl | rfl | rfl | rfl <;> rfl
  mono := fun x w w' h hb => ⟨h.sp, h.nm, h.by', h.ti, h.ke, h.P.mono pcOk hb⟩
  small := by decide
theorem sn_size : (Tryz.prog.info? 45).map (·.size) = some 6 := by kernel_rfl
theorem sn_zero : (Tryz.prog.info? 45).map (·.zero) = some (some (.agg (snC ⟨#[]⟩ ⟨#[]⟩ 0 0 0 none 0 0).toArray)) := by kernel_rfl
theorem sn_one (sp nm : ByteArray) (b t k : Int) (a : Option Addr) (m c : Nat) : ∀ v ∈ snC sp nm b t k a m c, v.oneCell' = true := by
  intro v hv; simp at hv; rcases hv with rfl | rfl | rfl | rfl | rfl | rfl <;> rfl
theorem Row.h6s {w : World} {g : Nat} {t : TypeId} {a b c d e f : Value} (h : Row w g t [a, b, c, d, e, f]) : w.cell? ⟨g, 0, none⟩ = some a ∧ w.cell? ⟨g, 1, none⟩ = some b ∧ w.cell? ⟨g, 2, none⟩ = some c ∧ w.cell? ⟨g, 3, none⟩ = some d ∧ w.cell? ⟨g, 4, none⟩ = some e ∧ w.cell? ⟨g, 5, none⟩ = some f := by
  refine ⟨?_, ?_, ?_, ?_, ?_, ?_⟩ <;> (rw [h.cellV]; rfl)
theorem Row.l2 {w : World} {g : Nat} {t : TypeId} {a b : Value} (h : Row w g t [a, b]) : w.cell? ⟨g, 0, none⟩ = some a ∧ w.cell? ⟨g, 1, none⟩ = some b := by
  refine ⟨?_, ?_⟩ <;> (rw [h.cellV]; rfl)
-- ---- plain
def ltM (a b : ByteArray) : Bool := Op.bytesLess a.toList b.toList
def eqM (a b : ByteArray) : Bool := a.toList == b.toList
theorem eqM_iff (a b : ByteArray) : eqM a b = true ↔ a = b := by
  unfold eqM
  rw [ByteArray.toList_eq, ByteArray.toList_eq]
  constructor
  · intro h
    have h := by simpa using h
    exact ByteArray.ext h
  · rintro rfl; simp
theorem eqM_ne {a b : ByteArray} : eqM a b = false ↔ a ≠ b := by
  constructor
  · intro h e
    rw [(eqM_iff a b).2 e] at h; cases h
  · intro h
    cases hq : eqM a b with
    | false => rfl
    | true => exact absurd ((eqM_iff a b).1 hq) h
theorem ml_self : ∀ x : List UInt8, Op.bytesLess x x = false
  | [] => rfl
  | a :: x => by simp [Op.bytesLess, ml_self x]
theorem ml_total : ∀ (x y : List UInt8), Op.bytesLess x y = false → x ≠ y → Op.bytesLess y x = true
  | [], [], _, h => absurd rfl h
  | [], _ :: _, h, _ => by simp [Op.bytesLess] at h
  | _ :: _, [], _, _ => by simp [Op.bytesLess]
  | a :: x, b :: y, h, hne => by
    simp only [Op.bytesLess, Bool.or_eq_false_iff, decide_eq_false_iff_not, Bool.and_eq_false_iff] at h
    simp only [Op.bytesLess, Bool.or_eq_true, decide_eq_true_eq, Bool.and_eq_true, beq_iff_eq]
    have h1 : ¬ a.toNat < b.toNat := h.1
    by_cases hab : a = b
    · subst hab
      refine .inr ⟨rfl, ml_total x y ?_ (fun e => hne (by rw [e]))⟩
      rcases h.2 with h2 | h2
      · simp at h2
      · exact h2
    · have h2 : a.toNat ≠ b.toNat := fun e => hab (UInt8.toNat_inj.1 e)
      exact .inl (show b.toNat < a.toNat by omega)
theorem ml_asym : ∀ (x y : List UInt8), Op.bytesLess x y = true → Op.bytesLess y x = false
  | [], [], h => by simp [Op.bytesLess] at h
  | [], _ :: _, _ => by simp [Op.bytesLess]
  | _ :: _, [], h => by simp [Op.bytesLess] at h
  | a :: x, b :: y, h => by
    simp only [Op.bytesLess, Bool.or_eq_true, decide_eq_true_eq, Bool.and_eq_true, beq_iff_eq] at h
    simp only [Op.bytesLess, Bool.or_eq_false_iff, decide_eq_false_iff_not, Bool.and_eq_false_iff]
    rcases h with h | ⟨rfl, h⟩
    · refine ⟨fun h2 => ?_, .inl ?_⟩
      · have h1 : a.toNat < b.toNat := h
        have h3 : b.toNat < a.toNat := h2
        omega
      · simp; intro e; subst e; exact absurd (show b.toNat < b.toNat from h) (by omega)
    · exact ⟨fun h2 => absurd (show a.toNat < a.toNat from h2) (by omega), .inr (ml_asym x y h)⟩
theorem ltM_asym {a b : ByteArray} (h : ltM a b = true) : ltM b a = false := ml_asym _ _ h
theorem ltM_self (a : ByteArray) : ltM a a = false := ml_self _
theorem ltM_total {a b : ByteArray} (h : ltM a b = false) (he : a ≠ b) : ltM b a = true :=
  ml_total _ _ h (fun e => he ((eqM_iff a b).1 (by unfold eqM; rw [e]; simp)))
/-- a stands ahead of b -/
def belowM (a b : Sn) : Bool := ltM a.sp b.sp || (eqM a.sp b.sp && ltM a.nm b.nm)
def callM (sp nm : ByteArray) (s : Sn) : Bool := eqM s.sp sp && eqM s.nm nm
def pokM (p : Pc) : Bool := decide (p.sum.size = 32) && in64 p.size 1 256
def sumM (P : List Pc) : Int := (P.map (·.size)).sum
def bytesM (P : List Pc) : Int × Int := if P.length ≤ 8 ∧ P.all pokM = true then (sumM P, 0) else (0, 1)
def okM (s : Sn) : Bool := decide ((bytesM s.P).2 = 0) && (decide ((bytesM s.P).1 = s.by') && (nameV s.sp && (nameV s.nm && (in64 s.ti 0 1099511627776 && in64 s.ke 0 1099511627776))))
def behM (p : Option Sn) (s : Sn) : Bool := match p with | none => true | some q => belowM q s
def chkM : Option Sn → List Sn → Bool
  | _, [] => true
  | p, s :: L => okM s && (behM p s && chkM (some s) L)
def checkM (L : List Sn) : Bool := decide (L.length ≤ 12) && chkM none L
/-- the place of the first one of that name; how many there are, if none -/
def atM (sp nm : ByteArray) : List Sn → Nat
  | [] => 0
  | s :: L => if callM sp nm s then 0 else atM sp nm L + 1
def hasM (sp nm : ByteArray) (L : List Sn) : Bool := L.any (callM sp nm)
/-- how many stand ahead of the first one that is above s -/
def aheadM (s : Sn) : List Sn → Nat
  | [] => 0
  | x :: L => if belowM s x then 0 else aheadM s L + 1
def addM (L : List Sn) (s : Sn) : List Sn × Int :=
  if okM s = false then (L, 1) else if hasM s.sp s.nm L = true then (L, 15) else if 12 ≤ L.length then (L, 7) else (L.take (aheadM s L) ++ [s] ++ L.drop (aheadM s L), 0)
def keepM (L : List Sn) (i : Nat) : Int := (L.getD i snZ).ke
def bytM (L : List Sn) (i : Nat) : Int := (L.getD i snZ).by'
def removeM (L : List Sn) (sp nm : ByteArray) (now : Int) : List Sn × Int × Int :=
  if hasM sp nm L = false then (L, 0, 6) else if now < keepM L (atM sp nm L) then (L, 0, 22) else (L.take (atM sp nm L) ++ L.drop (atM sp nm L + 1), bytM L (atM sp nm L), 0)
def findM (L : List Sn) (sp nm : ByteArray) : Sn × Bool := if hasM sp nm L = true then (L.getD (atM sp nm L) snZ, true) else (snZ, false)
def namesM (L : List Sn) (sp : ByteArray) : List ByteArray := (L.filter (fun s => eqM s.sp sp)).map (·.nm)
def sumsM (L : List Sn) : List ByteArray := L.flatMap (fun s => s.P.map (·.sum))
theorem at_has (sp nm : ByteArray) : ∀ L : List Sn, (hasM sp nm L = false ∧ atM sp nm L = L.length ∧ ∀ (i : Nat) (x : Sn), L[i]? = some x → callM sp nm x = false) ∨
    ∃ y, hasM sp nm L = true ∧ L[atM sp nm L]? = some y ∧ callM sp nm y = true ∧ ∀ i, i < atM sp nm L → ∀ x, L[i]? = some x → callM sp nm x = false
  | [] => .inl ⟨rfl, rfl, fun i x h => by simp at h⟩
  | s :: L => by
    cases h : callM sp nm s with
    | true => exact .inr ⟨s, by simp [hasM, h], by simp [atM, h], h, fun i hi => by simp [atM, h] at hi⟩
    | false =>
      rcases at_has sp nm L with ⟨h1, h2, h3⟩ | ⟨y, h1, h2, h3, h4⟩
      · refine .inl ⟨by simp [hasM, h]; simpa [hasM] using h1, by simp [atM, h, h2], fun i x hx => ?_⟩
        cases i with
        | zero => simp at hx; rw [← hx]; exact h
        | succ i => exact h3 i x (by simpa using hx)
      · refine .inr ⟨y, by simp [hasM] at h1 ⊢; exact .inr h1, by simp [atM, h]; exact h2, h3, fun i hi x hx => ?_⟩
        cases i with
        | zero => simp at hx; rw [← hx]; exact h
        | succ i => exact h4 i (by simp [atM, h] at hi; omega) x (by simpa using hx)
theorem ahead_le (s : Sn) : ∀ L : List Sn, aheadM s L ≤ L.length
  | [] => Nat.le_refl _
  | x :: L => by
    have := ahead_le s L
    simp only [aheadM]; split <;> simp <;> omega
theorem ahead_or (s : Sn) : ∀ L : List Sn, (aheadM s L = L.length ∧ ∀ (i : Nat) (x : Sn), L[i]? = some x → belowM s x = false) ∨
    ∃ y, aheadM s L < L.length ∧ L[aheadM s L]? = some y ∧ belowM s y = true ∧ ∀ i, i < aheadM s L → ∀ x, L[i]? = some x → belowM s x = false
  | [] => .inl ⟨rfl, fun i x h => by simp at h⟩
  | x :: L => by
    cases h : belowM s x with
    | true => exact .inr ⟨x, by simp [aheadM, h], by simp [aheadM, h], h, fun i hi => by simp [aheadM, h] at hi⟩
    | false =>
      rcases ahead_or s L with ⟨h1, h2⟩ | ⟨y, h1, h2, h3, h4⟩
      · refine .inl ⟨by simp [aheadM, h, h1], fun i z hz => ?_⟩
        cases i with
        | zero => simp at hz; rw [← hz]; exact h
        | succ i => exact h2 i z (by simpa using hz)
      · refine .inr ⟨y, by simp [aheadM, h]; omega, by simp [aheadM, h]; exact h2, h3, fun i hi z hz => ?_⟩
        cases i with
        | zero => simp at hz; rw [← hz]; exact h
        | succ i => exact h4 i (by simp [aheadM, h] at hi; omega) z (by simpa using hz)
end Go.Proofs.YtjolmjbhpokgmaaGreat.W
