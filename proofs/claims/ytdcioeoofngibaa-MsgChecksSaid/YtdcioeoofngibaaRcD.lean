/- LAYER 11 (record): read of the program. -/
import Derived.Test.YtdcioeoofngibaaRcR
set_option linter.unusedSimpArgs false
set_option linter.unusedVariables false
namespace Go.Proofs.Ytdcioeoofngibaa.W
open Go Go.ChangeShapes Go.WideShapes Go.ChangeAt Go.RowKit
open Go.Proofs.Ytdcioeoofngibaa.P (enc dec)

/-- a record, read: its numbers and its bytes -/
structure RF where
  k : Int
  t : Int
  v : Int
  ix : Int
  tm : Int
  kd : Int
  dt : List UInt8
  i : Int
  f : Int
  sn : List UInt8
def RF.z (k : Int) : RF := ⟨k, 0, 0, 0, 0, 0, [], 0, 0, []⟩
def RF.rc (F : RF) (ea : Option Addr) (en ec : Nat) (a : Option Addr) (n c : Nat) : Rc := ⟨F.k, F.t, F.v, ⟨F.ix, F.tm, F.kd, ea, en, ec⟩, F.i, F.f, a, n, c⟩
def rd1 (l : List UInt8) (e : Int) : RF × List UInt8 × Int :=
  let p := numR 2147483648 l e
  let q := numR 2147483648 p.2.1 p.2.2
  let r := numR 127 q.2.1 q.2.2
  let s := textR 131072 r.2.1 r.2.2
  (⟨1, q.1, 0, 0, 0, 0, [], p.1, r.1, s.1⟩, s.2.1, s.2.2)
def rd2 (l : List UInt8) (e : Int) : RF × List UInt8 × Int :=
  let p := numR 2147483648 l e
  let q := numR 7 p.2.1 p.2.2
  (⟨2, p.1, q.1, 0, 0, 0, [], 0, 0, []⟩, q.2.1, q.2.2)
def rd3 (l : List UInt8) (e : Int) : RF × List UInt8 × Int :=
  let p := rdE l e
  (⟨3, 0, 0, p.1.1, p.1.2.1, p.1.2.2.1, p.1.2.2.2, 0, 0, []⟩, p.2.1, p.2.2)
def rd4 (l : List UInt8) (e : Int) : RF × List UInt8 × Int :=
  let p := numR 2147483648 l e
  (⟨4, 0, 0, 0, 0, 0, [], p.1, 0, []⟩, p.2.1, p.2.2)
/-- what reading a record answers, what is left, the error -/
def rdK (k : Nat) (l : List UInt8) (e : Int) : RF × List UInt8 × Int :=
  if k = 1 then rd1 l e else if k = 2 then rd2 l e else if k = 3 then rd3 l e else if k = 4 then rd4 l e else (RF.z k, l, e)
def rdR (l : List UInt8) (e : Int) : RF × List UInt8 × Int := rdK (numR 4 l e).1 (numR 4 l e).2.1 (numR 4 l e).2.2
theorem NB_rc (r : Rc) : NB r.cells := by
  intro x hx
  simp [Rc.cells, B] at hx
theorem NB_ls (x0 x1 x2 x3 x4 x5 x7 x8 : Int) (a b : Option Addr) (m c n d : Nat) : NB [.int .i64 x0, .int .i64 x1, .int .i64 x2, .int .i64 x3, .int .i64 x4, .int .i64 x5, .slice a m c, .int .i64 x7, .int .i64 x8, .slice b n d] := by
  intro x hx
  simp [B] at hx
theorem text_small (most : Int) (hm : most ≤ 140737488355000) (l : List UInt8) (e : Int) : (textR most l e).1.length ≤ 140737488355000 := by
  by_cases hz : (textR most l e).2.2 = 0
  · by_cases he : e = 0
    · subst he; have := (text_back most l hz).2; omega
    · rw [textR_err he] at hz; exact absurd hz he
  · rw [textR_none hz]; decide
end Go.Proofs.Ytdcioeoofngibaa.W
