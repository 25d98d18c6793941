/- LAYER 19 (ledger): holds and ledgers as they come in; plain. -/
import Derived.Test.YtiopcojkdglapaaLs
import Derived.Test.YtiopcojkdglapaaCavO
import Derived.Test.YtiopcojkdglapaaCavH
set_option linter.unusedSimpArgs false
set_option linter.unusedVariables false
namespace Go.Proofs.Ytiopcojkdglapaa.W
open Go Go.ChangeShapes Go.WideShapes Go.ChangeAt Go.RowKit
open Go.Proofs.Ytiopcojkdglapaa.P (enc dec)

/-- a hold -/
structure Hd where
  id : Int
  cl : Int
  by' : Int
  un : Int
  ti : Int
  sp : ByteArray
def SI64 (x : Int) : Prop := -9223372036854775808 ≤ x ∧ x ≤ 9223372036854775807
structure Hd.fit (s : Hd) : Prop where
  id : SI64 s.id
  cl : SI64 s.cl
  by' : SI64 s.by'
  un : SI64 s.un
  ti : SI64 s.ti
  sp : s.sp.size ≤ maxLen
@[reducible] def Hd.cells (s : Hd) : List Value := [.int .i64 s.id, .int .i64 s.cl, .int .i64 s.by', .int .i64 s.un, .int .i64 s.ti, .string s.sp]
def hdZ : Hd := ⟨0, 0, 0, 0, 0, ⟨#[]⟩⟩
@[reducible] def hdE : El Hd := ⟨48, 52, 6, 56, .agg #[.int .i64 0, .int .i64 0, .int .i64 0, .int .i64 0, .int .i64 0, .string ⟨#[]⟩], Hd.cells, fun _ s => s.fit⟩
theorem hdOk : hdE.Ok Try.prog where
  und := Try.underlying48
  info := by kernel_rfl
  zs := rfl
  pos := by decide
  len := fun _ => rfl
  one := fun s v hv => by simp at hv; rcases hv with rfl | rfl | rfl | rfl | rfl | rfl <;> rfl
  mono := fun _ _ _ h _ => h
  small := by decide
theorem hd_size : (Try.prog.info? 52).map (·.size) = some 6 := by kernel_rfl
theorem hd_zero : (Try.prog.info? 52).map (·.zero) = some (some (.agg (Hd.cells hdZ).toArray)) := by kernel_rfl
theorem hd_one (s : Hd) : ∀ v ∈ s.cells, v.oneCell' = true := hdOk.one s
/-- a ledger, plain -/
structure Ld where
  q : Int
  u : Int
  h : Int
  n : Int
  L : List Hd
/-- a ledger's cells -/
@[reducible] def ldC (q u h n : Int) (a : Option Addr) (m c : Nat) : List Value := [.int .i64 q, .int .i64 u, .int .i64 h, .int .i64 n, .slice a m c]
theorem ld_size : (Try.prog.info? 50).map (·.size) = some 5 := by kernel_rfl
theorem ld_zero : (Try.prog.info? 50).map (·.zero) = some (some (.agg (ldC 0 0 0 0 none 0 0).toArray)) := by kernel_rfl
theorem ld_one (q u h n : Int) (a : Option Addr) (m c : Nat) : ∀ v ∈ ldC q u h n a m c, v.oneCell' = true := by
  intro v hv; simp at hv; rcases hv with rfl | rfl | rfl | rfl | rfl <;> rfl
-- ---- plain
def in64 (n lo hi : Int) : Bool := decide (lo ≤ n) && decide (n ≤ hi)
def T40 : Int := 1099511627776
def T31 : Int := 2147483648
def Hd.ok (s : Hd) : Bool := in64 s.id 1 T31 && (in64 s.cl 0 7 && (in64 s.by' 0 T40 && (in64 s.un 0 T40 && (in64 s.ti 0 T40 && nameV s.sp))))
/-- holds that may be, from the first on: behind one of that id, below n -/
def chkH (n : Int) : Option Int → List Hd → Bool
  | _, [] => true
  | p, s :: L => s.ok && (decide (s.id < n) && ((match p with | none => true | some i => decide (i < s.id)) && chkH n (some s.id) L))
def sumH (L : List Hd) : Int := (L.map (·.by')).sum
def Ld.ok (l : Ld) : Bool := in64 l.q 0 T40 && (in64 l.u 0 T40 && (in64 l.h 0 T40 && (in64 l.n 1 T31 && (decide (l.L.length ≤ 8) && (chkH l.n none l.L && (decide (sumH l.L = l.h) && decide (l.u + l.h ≤ l.q)))))))
def findH : List Hd → Int → Hd × Bool
  | [], _ => (hdZ, false)
  | s :: L, i => if s.id = i then (s, true) else findH L i
/-- without the first one of that id -/
def dropH : List Hd → Int → List Hd
  | [], _ => []
  | s :: L, i => if s.id = i then L else s :: dropH L i
def Ld.reserve (l : Ld) (h : Hd) : Ld × Int × Int :=
  if ({ h with id := l.n } : Hd).ok = false then (l, 0, 1) else
  if 8 ≤ l.L.length ∨ T31 ≤ l.n then (l, 0, 7) else
  if l.q < l.u + l.h + h.by' then (l, 0, 14) else
  ({ l with h := l.h + h.by', n := l.n + 1, L := l.L ++ [{ h with id := l.n }] }, l.n, 0)
def Ld.release (l : Ld) (i : Int) : Ld × Int :=
  if (findH l.L i).2 = false then (l, 6) else ({ l with h := l.h - (findH l.L i).1.by', L := dropH l.L i }, 0)
def Ld.spend (l : Ld) (i b : Int) : Ld × Int :=
  if (findH l.L i).2 = false then (l, 6) else if in64 b 0 (findH l.L i).1.by' = false then (l, 14) else ({ (l.release i).1 with u := l.u + b }, 0)
def Ld.free (l : Ld) (b : Int) : Ld × Int := if in64 b 0 l.u = false then (l, 1) else ({ l with u := l.u - b }, 0)
def Ld.quota (l : Ld) (b : Int) : Ld × Int := if in64 b 0 T40 = false then (l, 1) else if b < l.u + l.h then (l, 22) else ({ l with q := b }, 0)
def Ld.expire (l : Ld) (now : Int) : Ld × Int :=
  ({ l with h := l.h - sumH (l.L.filter (fun s => decide (s.un < now))), L := l.L.filter (fun s => !decide (s.un < now)) }, ((l.L.filter (fun s => decide (s.un < now))).length : Int))
-- ---- what these keep
theorem in64_iff {n lo hi : Int} : in64 n lo hi = true ↔ lo ≤ n ∧ n ≤ hi := by unfold in64; simp
structure OkH (s : Hd) : Prop where
  id : 1 ≤ s.id ∧ s.id ≤ 2147483648
  cl : 0 ≤ s.cl ∧ s.cl ≤ 7
  by' : 0 ≤ s.by' ∧ s.by' ≤ 1099511627776
  un : 0 ≤ s.un ∧ s.un ≤ 1099511627776
  ti : 0 ≤ s.ti ∧ s.ti ≤ 1099511627776
  sp : nameV s.sp = true
theorem ok_hd {s : Hd} : s.ok = true ↔ OkH s := by
  unfold Hd.ok T31 T40
  simp only [Bool.and_eq_true, in64_iff]
  exact ⟨fun ⟨a, b, c, d, e, f⟩ => ⟨a, b, c, d, e, f⟩, fun ⟨a, b, c, d, e, f⟩ => ⟨a, b, c, d, e, f⟩⟩
structure OkL (l : Ld) : Prop where
  q : 0 ≤ l.q ∧ l.q ≤ 1099511627776
  u : 0 ≤ l.u ∧ l.u ≤ 1099511627776
  h : 0 ≤ l.h ∧ l.h ≤ 1099511627776
  n : 1 ≤ l.n ∧ l.n ≤ 2147483648
  len : l.L.length ≤ 8
  hs : chkH l.n none l.L = true
  sum : sumH l.L = l.h
  le : l.u + l.h ≤ l.q
theorem ok_ld {l : Ld} : l.ok = true ↔ OkL l := by
  unfold Ld.ok T31 T40
  simp only [Bool.and_eq_true, in64_iff, decide_eq_true_eq]
  exact ⟨fun ⟨a, b, c, d, e, f, g, h⟩ => ⟨a, b, c, d, e, f, g, h⟩, fun ⟨a, b, c, d, e, f, g, h⟩ => ⟨a, b, c, d, e, f, g, h⟩⟩
theorem chkH_mem {n : Int} : ∀ (L : List Hd) (p : Option Int), chkH n p L = true → ∀ s ∈ L, OkH s ∧ s.id < n
  | [], _, _, s, hs => by cases hs
  | x :: L, p, h, s, hs => by
    simp only [chkH, Bool.and_eq_true, decide_eq_true_eq] at h
    rcases List.mem_cons.1 hs with rfl | hs
    · exact ⟨ok_hd.1 h.1, h.2.1⟩
    · exact chkH_mem L _ h.2.2.2 s hs
theorem sumH_cons (s : Hd) (L : List Hd) : sumH (s :: L) = s.by' + sumH L := by simp [sumH]
theorem sumH_app (L M : List Hd) : sumH (L ++ M) = sumH L + sumH M := by simp [sumH]
theorem sumH_pos {L : List Hd} (h : ∀ s ∈ L, 0 ≤ s.by') : 0 ≤ sumH L := by
  induction L with
  | nil => simp [sumH]
  | cons s L ih =>
    rw [sumH_cons]
    have := h s (by simp)
    have := ih (fun x hx => h x (by simp [hx]))
    omega
theorem sumH_filter (p : Hd → Bool) : ∀ L : List Hd, sumH (L.filter p) + sumH (L.filter (fun s => !p s)) = sumH L
  | [] => by simp [sumH]
  | s :: L => by
    have ih := sumH_filter p L
    cases h : p s <;> simp only [List.filter_cons, h, sumH_cons] <;> simp only [Bool.not_true, Bool.not_false, if_true, if_false, Bool.false_eq_true, sumH_cons] <;> omega
theorem chkH_app {n m : Int} (hnm : n ≤ m) : ∀ (L : List Hd) (p : Option Int) (x : Hd), chkH n p L = true → OkH x → n ≤ x.id → x.id < m → (∀ i, p = some i → i < x.id) → chkH m p (L ++ [x]) = true
  | [], p, x, _, hx, h1, h2, hp => by
    simp only [List.nil_append, chkH, Bool.and_true, Bool.and_eq_true, decide_eq_true_eq]
    refine ⟨ok_hd.2 hx, h2, ?_⟩
    cases p with
    | none => rfl
    | some i => simpa using hp i rfl
  | s :: L, p, x, h, hx, h1, h2, hp => by
    simp only [List.cons_append, chkH, Bool.and_eq_true, decide_eq_true_eq] at h ⊢
    exact ⟨h.1, by omega, h.2.2.1, chkH_app hnm L _ x h.2.2.2 hx h1 h2 (fun i e => by injection e with e; omega)⟩
theorem chkH_sub {n : Int} : ∀ (L M : List Hd) (p q : Option Int), M.Sublist L → chkH n p L = true → (∀ i, q = some i → ∃ j, p = some j ∧ i ≤ j) → chkH n q M = true := by
  intro L
  induction L with
  | nil => intro M p q hs _ _; rw [List.sublist_nil.1 hs]; rfl
  | cons s L ih =>
    intro M p q hs h hpq
    simp only [chkH, Bool.and_eq_true, decide_eq_true_eq] at h
    obtain ⟨h1, h2, h3, h4⟩ := h
    have hlt : ∀ i, q = some i → i < s.id := fun i e => by
      obtain ⟨j, rfl, hij⟩ := hpq i e
      have : j < s.id := by simpa using h3
      omega
    cases hs with
    | cons _ hs => exact ih M (some s.id) q hs h4 (fun i e => ⟨s.id, rfl, by have := hlt i e; omega⟩)
    | cons_cons _ hs =>
      rename_i M'
      simp only [chkH, Bool.and_eq_true, decide_eq_true_eq]
      refine ⟨h1, h2, ?_, ih M' (some s.id) (some s.id) hs h4 (fun i e => ⟨s.id, rfl, by injection e with e; omega⟩)⟩
      cases q with
      | none => rfl
      | some i => simpa using hlt i rfl
end Go.Proofs.Ytiopcojkdglapaa.W
