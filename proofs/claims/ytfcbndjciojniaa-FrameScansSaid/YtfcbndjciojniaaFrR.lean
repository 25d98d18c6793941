/- CONTRACTS of layer 10 (frame): the reference's Seal. -/
import Derived.Test.YtfcbndjciojniaaAdlW
import Derived.Test.YtfcbndjciojniaaPackR5
set_option linter.unusedSimpArgs false
set_option linter.unusedVariables false
namespace Go.Proofs.Ytfcbndjciojniaa.W
open Go Go.ChangeShapes Go.WideShapes Go.ChangeAt Go.RowKit
open Go.Proofs.Ytfcbndjciojniaa.P (enc)
open Go.Proofs.Ytfcbndjciojniaa.A (more)

/-- the bytes of a sum, the highest first -/
def sum4 (s : Int) : List UInt8 := [UInt8.ofNat (s / 16777216).toNat, UInt8.ofNat (s / 65536).toNat, UInt8.ofNat (s / 256).toNat, UInt8.ofNat s.toNat]
theorem byte_mod (x : Int) (h : 0 ≤ x) : Value.int .u8 (x % 256) = B (UInt8.ofNat x.toNat) := by
  unfold B
  congr 1
  rw [UInt8.toNat_ofNat']
  omega
theorem sum4_cells (s : Int) (h : 0 ≤ s) : (#[.int .u8 (s / 16777216 % 256), .int .u8 (s / 65536 % 256), .int .u8 (s / 256 % 256), .int .u8 (s % 256)] : Array Value) = ((sum4 s).map B).toArray := by
  rw [byte_mod _ (by omega), byte_mod _ (by omega), byte_mod _ (by omega), byte_mod _ h]
  rfl
/-- a frame -/
def headF (b : List UInt8) : List UInt8 := enc b.length ++ b
def sealF (b : List UInt8) : List UInt8 := headF b ++ sum4 (more 1 (headF b))

set_option maxRecDepth 100000 in
set_option maxHeartbeats 4000000 in
theorem useal_ok (a : Option Addr) (n c : Nat) (l : List UInt8) (w : World) (hr : Rd w a n c l) (hn : n ≤ 262144) :
    Calls Try.prog 32 #[.slice a n c] w fun e w' => ∃ v, e = .returned (.tuple #[v, .int .i64 0]) ∧ Fr w' w.heap.size v (sealF l) ∧ Below w.heap.size w w' := by
  have HR := Lib.hid hr
  have hl := hr.hlen
  obtain ⟨s, hs⟩ : ∃ s, str l = s := ⟨_, rfl⟩
  have hsz : s.size = n := by rw [← hs, str_size, hl]
  have hsd : s.data.toList = l := by rw [← hs, str_data]
  have cv := conv_rd hr
  rw [hs] at cv
  obtain ⟨E, hE⟩ : ∃ E, headF l = E := ⟨_, rfl⟩
  have hE2 : [] ++ (enc s.size ++ s.data.toList) = E := by rw [List.nil_append, hsz, hsd, ← hE, headF, hl]
  have HE2 := Lib.hid hE2
  have HE := Lib.hid hE
  have HSZ := Lib.hid hsz
  have hel : E.length ≤ 262153 := by
    have := P.enc_len l.length (by omega)
    rw [← hE, headF, List.length_append]; omega
  have HEL := Lib.hid hel
  obtain ⟨M, hM⟩ : ∃ M, more 1 E = M := ⟨_, rfl⟩
  have hM0 : 0 ≤ M := by rw [← hM]; exact (A.wh_rng _ _).1
  have HM := Lib.hid hM
  have HM0 := Lib.hid hM0
  have HC4 := Lib.hid (sum4_cells M hM0)
  have HSF := Lib.hid (show E ++ sum4 M = sealF l by rw [← hM, ← hE]; rfl)
  clear hr hl hs hsz hsd hE hE2 hel hM hM0
  go_enter Try.func32, Try.ntmps32
  go_wp2_with (first
    | (go_at_call 55; refine (rtext none 0 0 s [] w (Rd_nil w) (by have := HSZ.out; omega) (by decide)).mono ?_; rw [HE2.out]; rintro e w1 ⟨v1, rfl, hf1, hb1⟩; obtain ⟨a1, c1, hv1, hr1⟩ := hf1.form' E.length rfl; subst hv1; have F1 := Lib.hid hf1; have R1 := Lib.hid hr1; have B1 := Lib.hid hb1; clear hf1 hr1 hb1 cv)
    | (go_at_call 56; refine (qsum a1 E.length c1 E w1 R1.out).mono ?_; rw [HM.out]; rintro e w2 ⟨rfl, rfl⟩)
    | (at_builtin; refine append_rd rfl _ _ rfl w.heap.size (.slice a1 E.length c1) E rfl (F1.out.alloc _) (some ⟨w1.heap.size, 0, none⟩) 4 4 (sum4 M) rfl (rd_new w1 (sum4 M) _ _ HC4.out (by simp [sum4])) (by have := HEL.out; omega) (by have := B1.out.size; simp; omega) ?_; intro v5 w5 hf5 hb5 _; rw [HSF.out] at hf5; have F5 := Lib.hid hf5; have B5 := Lib.hid (((B1.out.alloc B1.out.size _)).trans hb5); clear hf5 hb5))
  go_ret2
  exact ⟨_, rfl, F5.out, B5.out⟩

set_option maxRecDepth 100000 in
theorem useal_long (a : Option Addr) (n c : Nat) (w : World) (hn : 262144 < n) :
    Calls Try.prog 32 #[.slice a n c] w fun e w' => e = .returned (.tuple #[.slice none 0 0, .int .i64 5]) ∧ w = w' := by
  go_enter Try.func32, Try.ntmps32
  go_wp2_with fail
  go_ret2
  exact ⟨rfl, rfl⟩

end Go.Proofs.Ytfcbndjciojniaa.W
