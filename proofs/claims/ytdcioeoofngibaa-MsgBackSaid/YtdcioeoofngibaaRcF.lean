/- LAYER 11 (record): Decode of the program. -/
import Derived.Test.YtdcioeoofngibaaRcD
import Derived.Test.YtdcioeoofngibaaRcC
set_option linter.unusedSimpArgs false
set_option linter.unusedVariables false
namespace Go.Proofs.Ytdcioeoofngibaa.W
open Go Go.ChangeShapes Go.WideShapes Go.ChangeAt Go.RowKit
open Go.Proofs.Ytdcioeoofngibaa.P (enc dec)

theorem chk_any (F : RF) (ea : Option Addr) (en ec : Nat) (a : Option Addr) (n c : Nat) (l s : List UInt8) : chkR (F.rc ea en ec a n c) l s = chkR (F.rc none en 0 none n 0) l s := by
  obtain ⟨k, t, v, ix, tm, kd, dt, i, f, sn⟩ := F
  have h1 : fitsR (RF.rc ⟨k, t, v, ix, tm, kd, dt, i, f, sn⟩ ea en ec a n c) = fitsR (RF.rc ⟨k, t, v, ix, tm, kd, dt, i, f, sn⟩ none en 0 none n 0) := rfl
  have h2 : selfR (RF.rc ⟨k, t, v, ix, tm, kd, dt, i, f, sn⟩ ea en ec a n c) l s = selfR (RF.rc ⟨k, t, v, ix, tm, kd, dt, i, f, sn⟩ none en 0 none n 0) l s := by
    unfold selfR RF.rc
    rcases kinds k with rfl | rfl | rfl | rfl | ⟨k1, k2, k3, k4⟩
    · rfl
    · rfl
    · rfl
    · rfl
    · have n1 : ¬ k = 1 := by simpa using k1
      have n2 : ¬ k = 2 := by simpa using k2
      have n3 : ¬ k = 3 := by simpa using k3
      have n4 : ¬ k = 4 := by simpa using k4
      unfold Rc.own
      dsimp only
      simp only [if_neg n1, if_neg n2, if_neg n3, if_neg n4]
      rfl
  unfold chkR
  rw [h1, h2]
def chkF (F : RF) : Int := chkR (F.rc none F.dt.length 0 none F.sn.length 0) F.dt F.sn
theorem chkF_of {w : World} {F : RF} {ea a : Option Addr} {en ec n c : Nat} (h : Rd w ea en ec F.dt) (k : Rd w a n c F.sn) : chkR (F.rc ea en ec a n c) F.dt F.sn = chkF F := by
  rw [chk_any]; unfold chkF; rw [h.hlen, k.hlen]
theorem chkF01 (F : RF) : chkF F = 0 ∨ chkF F = 1 := by unfold chkF chkR; split <;> simp
/-- what is answered of what was read -/
def decV (q : RF × List UInt8 × Int) : RF × Int :=
  if chkF q.1 = 0 then (if endV q.2.1 q.2.2 = 0 then (q.1, 0) else (RF.z 0, endV q.2.1 q.2.2)) else (RF.z 0, failE q.2.2 3)
theorem endF (l : List UInt8) (e : Int) : endV (failL l e 3) (failE e 3) = failE e 3 := by unfold endV; rw [if_pos (failE_ne e)]
theorem endE {l : List UInt8} {e : Int} (h : e ≠ 0) : endV l e = e := by unfold endV; rw [if_pos h]
theorem failN {e : Int} (h : e ≠ 0) : failE e 3 = e := by unfold failE; rw [if_pos (.inl h)]
end Go.Proofs.Ytdcioeoofngibaa.W
