/- LAYER 28 (chunk): the program's Put. -/
import Derived.Test.YtkncbckmgcklfaaDoorCkI
set_option linter.unusedSimpArgs false
set_option linter.unusedVariables false
namespace Go.Proofs.YtkncbckmgcklfaaDoor.W
open Go Go.ChangeShapes Go.WideShapes Go.ChangeAt Go.RowKit
open Go.Proofs.YtkncbckmgcklfaaDoor.P (shaL shaL_len)

def putX : List FX → FX → List FX
  | [], y => [y]
  | g :: r, y => if ltM y.f.s g.f.s then y :: g :: r else if y.f.s = g.f.s then y :: r else g :: putX r y
theorem put_f : ∀ (X : List FX) (y : FX), (putX X y).map (·.f) = putL (X.map (·.f)) y.f
  | [], y => rfl
  | g :: r, y => by
    simp only [putX, putL, List.map_cons]
    split
    · rfl
    · split
      · rfl
      · rw [List.map_cons, put_f r y]
theorem ris_cons {x : FX} {X : List FX} : Ris (MX (x :: X)) ↔ (∀ z ∈ X, ltM x.f.s z.f.s = true) ∧ Ris (MX X) := by
  unfold Ris MX
  rw [List.pairwise_map, List.pairwise_map, List.pairwise_cons]
theorem mt_trans {a b c : ByteArray} (h1 : ltM a b = true) (h2 : ltM b c = true) : ltM a c = true := by
  rw [← kS_before] at h1 h2 ⊢
  exact before_trans h1 h2
theorem put_mem : ∀ {X : List FX} {y : FX}, Ris (MX X) → ∀ z, z ∈ putX X y ↔ z = y ∨ (z ∈ X ∧ z.f.s ≠ y.f.s)
  | [], y, _, z => by simp [putX]
  | g :: r, y, h, z => by
    obtain ⟨h1, h2⟩ := ris_cons.1 h
    simp only [putX]
    split
    · rename_i hlt
      constructor
      · intro hz
        rcases List.mem_cons.1 hz with e | hz
        · exact .inl e
        · refine .inr ⟨hz, fun e => ?_⟩
          rcases List.mem_cons.1 hz with e2 | hz2
          · rw [e2] at e; rw [← e, ltM_self] at hlt; cases hlt
          · have h3 := mt_trans hlt (h1 z hz2)
            rw [e, ltM_self] at h3; cases h3
      · rintro (e | ⟨h3, -⟩)
        · rw [e]; exact List.mem_cons_self ..
        · exact List.mem_cons_of_mem _ h3
    · split
      · rename_i he
        constructor
        · intro hz
          rcases List.mem_cons.1 hz with e | hz
          · exact .inl e
          · refine .inr ⟨List.mem_cons_of_mem _ hz, fun e => ?_⟩
            have h3 := h1 z hz
            rw [e, ← he, ltM_self] at h3; cases h3
        · rintro (e | ⟨h3, h4⟩)
          · rw [e]; exact List.mem_cons_self ..
          · rcases List.mem_cons.1 h3 with e | h3
            · exact absurd (by rw [e, he]) h4
            · exact List.mem_cons_of_mem _ h3
      · rename_i hlt he
        rw [List.mem_cons, put_mem h2, List.mem_cons]
        constructor
        · rintro (e | e | ⟨h3, h4⟩)
          · exact .inr ⟨.inl e, by rw [e]; exact fun e => he e.symm⟩
          · exact .inl e
          · exact .inr ⟨.inr h3, h4⟩
        · rintro (e | ⟨e | h3, h4⟩)
          · exact .inr (.inl e)
          · exact .inl e
          · exact .inr (.inr ⟨h3, h4⟩)
theorem put_ris : ∀ {X : List FX} {y : FX}, Ris (MX X) → Ris (MX (putX X y))
  | [], y, _ => by simp [putX, Ris, MX]
  | g :: r, y, h => by
    obtain ⟨h1, h2⟩ := ris_cons.1 h
    simp only [putX]
    split
    · rename_i hlt
      refine ris_cons.2 ⟨fun z hz => ?_, h⟩
      rcases List.mem_cons.1 hz with e | hz
      · rw [e]; exact hlt
      · exact mt_trans hlt (h1 z hz)
    · split
      · rename_i he
        exact ris_cons.2 ⟨fun z hz => by rw [he]; exact h1 z hz, h2⟩
      · rename_i hlt he
        refine ris_cons.2 ⟨fun z hz => ?_, put_ris h2⟩
        rcases (put_mem h2 z).1 hz with e | ⟨h3, -⟩
        · rw [e]; exact ltM_total (by simpa using hlt) he
        · exact h1 z h3
theorem put_apart {g : FX → Option Nat} {y : FX} : ∀ {X : List FX}, Ris (MX X) → Apart g X → (∀ b, g y = some b → ∀ z ∈ X, z.f.s ≠ y.f.s → g z ≠ some b) → Apart g (putX X y)
  | [], _, _, _ => by simp [putX, Apart]
  | x :: r, h, hp, hy => by
    obtain ⟨h1, h2⟩ := ris_cons.1 h
    obtain ⟨p1, p2⟩ := List.pairwise_cons.1 hp
    simp only [putX]
    split
    · rename_i hlt
      refine List.pairwise_cons.2 ⟨fun z hz b hb => hy b hb z hz (fun e => ?_), hp⟩
      rcases List.mem_cons.1 hz with e2 | hz
      · rw [e2] at e; rw [← e, ltM_self] at hlt; cases hlt
      · have h3 := mt_trans hlt (h1 z hz)
        rw [e, ltM_self] at h3; cases h3
    · split
      · rename_i he
        refine List.pairwise_cons.2 ⟨fun z hz b hb => hy b hb z (List.mem_cons_of_mem _ hz) (fun e => ?_), p2⟩
        have h3 := h1 z hz
        rw [e, ← he, ltM_self] at h3; cases h3
      · rename_i hlt he
        refine List.pairwise_cons.2 ⟨fun z hz b hb => ?_, put_apart h2 p2 (fun b hb z hz => hy b hb z (List.mem_cons_of_mem _ hz))⟩
        rcases (put_mem h2 z).1 hz with e | ⟨h3, -⟩
        · rw [e]
          exact fun hq => hy b hq x (List.mem_cons_self ..) (fun e => he e.symm) hb
        · exact p1 z h3 b hb
theorem put_mx {X : List FX} {y : FX} (h : Ris (MX X)) (p : Ent) : p ∈ MX (putX X y) ↔ p = (y.f.s, y.val) ∨ (p ∈ MX X ∧ p.1 ≠ y.f.s) := by
  rw [mx_mem, mx_mem]
  constructor
  · rintro ⟨z, hz, rfl⟩
    rcases (put_mem h z).1 hz with e | ⟨h3, h4⟩
    · exact .inl (by rw [e])
    · exact .inr ⟨⟨z, h3, rfl⟩, h4⟩
  · rintro (rfl | ⟨⟨z, hz, rfl⟩, h2⟩)
    · exact ⟨y, (put_mem h y).2 (.inl rfl), rfl⟩
    · exact ⟨z, (put_mem h z).2 (.inr ⟨hz, h2⟩), rfl⟩
theorem put_len : ∀ (X : List FX) (y : FX), (putX X y).length ≤ X.length + 1
  | [], y => by simp [putX]
  | g :: r, y => by
    simp only [putX]
    split
    · simp
    · split
      · simp
      · have := put_len r y; simp; omega
theorem CK.bm {w : World} {p m : Nat} {room : Int} {X : List FX} {S : Nat → Prop} (h : CK w p m room X S) {x : FX} (hx : x ∈ X) : x.tv.ownBlock ≠ some m ∧ x.tv.ownBlock ≠ some p ∧ x.bv.ownBlock ≠ some m ∧ x.bv.ownBlock ≠ some p := by
  have hm : ∀ g t, IsTy w g t → g ≠ m := by
    rintro g t ⟨cur, fz, hh⟩ rfl
    obtain ⟨es, clock, hb2, -⟩ := h.sm.own
    rw [hb2] at hh; cases hh
  refine ⟨fun e => hm m _ (lso_ty (h.ot x hx) e) rfl, fun e => (lso_ty (h.ot x hx) e).ne h.rp.ty (by decide) rfl, fun e => hm m _ (fr_tyb (h.ob x hx) e) rfl, fun e => (fr_tyb (h.ob x hx) e).ne h.rp.ty (by decide) rfl⟩
/-- one file more, or another one in its place: what was written, if anything, is that file's times -/
theorem CK.put {w w1 w2 : World} {p m : Nat} {room : Int} {X : List FX} {S : Nat → Prop} {y : FX} (tvo : Option Nat) (h : CK w p m room X S) (hk : ∀ g, g < w.heap.size → tvo ≠ some g → w1.heap[g]? = w.heap[g]?) (hs : w.heap.size ≤ w1.heap.size)
    (hto : ∀ g, tvo = some g → ∃ x ∈ X, x.f.s = y.f.s ∧ x.tv.ownBlock = some g) (hsm : SM w2 m (putX X y).length (MX (putX X y))) (hg : w1.grownBy w2 (some m)) (ob : Fr w1 0 y.bv y.f.b) (ot : LsO intE w1 0 y.tv y.f.t)
    (hyb : ∀ g, y.bv.ownBlock = some g → w.heap.size ≤ g ∨ ∃ x ∈ X, x.f.s = y.f.s ∧ x.bv.ownBlock = some g) (hyt : ∀ g, y.tv.ownBlock = some g → w.heap.size ≤ g ∨ ∃ x ∈ X, x.f.s = y.f.s ∧ x.tv.ownBlock = some g)
    (hos : w1.os = w.os) (hta : w1.tape = w.tape) (hou : w1.output = w.output) :
    CK w2 p m room (putX X y) (fun k => S k ∨ (w.heap.size ≤ k ∧ k < w2.heap.size)) ∧ Ft S w w2 := by
  have hr := h.sm.ris
  have tm : tvo ≠ some m := fun e => by obtain ⟨x, hx, -, e2⟩ := hto m e; exact (h.bm hx).1 e2
  have tp : tvo ≠ some p := fun e => by obtain ⟨x, hx, -, e2⟩ := hto p e; exact (h.bm hx).2.1 e2
  have hsm1 : SM w1 m X.length (MX X) := h.sm.block (hk m h.sm.lt tm)
  have rp1 : Row w1 p 26 [.int .i64 room, .map (some m)] := (hk p h.rp.lt tp).trans h.rp
  have nt : ∀ z ∈ X, z.f.s ≠ y.f.s → ∀ g, z.tv.ownBlock = some g → tvo ≠ some g := fun z hz hne g e e2 => by
    obtain ⟨x, hx, hxs, e3⟩ := hto g e2
    have hzx : z ≠ x := fun e4 => hne (by rw [e4]; exact hxs)
    exact apart_at h.pt hz hx hzx e e3
  have nb : ∀ z ∈ X, ∀ g, z.bv.ownBlock = some g → tvo ≠ some g := fun z hz g e e2 => by
    obtain ⟨x, hx, -, e3⟩ := hto g e2
    exact (fr_tyb (h.ob z hz) e).ne (lso_ty (h.ot x hx) e3) (by decide) rfl
  have obX : ∀ z ∈ putX X y, Fr w1 0 z.bv z.f.b := fun z hz => by
    rcases (put_mem hr z).1 hz with e | ⟨h3, h4⟩
    · rw [e]; exact ob
    · exact (h.ob z h3).keep fun g e => hk g ((h.ob z h3).blt e) (nb z h3 g e)
  have otX : ∀ z ∈ putX X y, LsO intE w1 0 z.tv z.f.t := fun z hz => by
    rcases (put_mem hr z).1 hz with e | ⟨h3, h4⟩
    · rw [e]; exact ot
    · exact (h.ot z h3).keep fun g e => hk g ((h.ot z h3).blt e) (nt z h3 h4 g e)
  have inS : ∀ g, w.heap.size ≤ g → g < w1.heap.size → S g ∨ (w.heap.size ≤ g ∧ g < w2.heap.size) := fun g h1 h2 => .inr ⟨h1, Nat.lt_of_lt_of_le h2 hg.size⟩
  have hpm : p ≠ m := (h.sm.norow h.rp).symm
  have keep : ∀ g, g < w1.heap.size → g ≠ m → w2.heap[g]? = w1.heap[g]? := fun g hlt hn => hg.block g hlt (fun e => hn (by injection e))
  have hm1 : ∀ g t, IsTy w1 g t → g ≠ m := by
    rintro g t ⟨cur, fz, hh⟩ rfl
    obtain ⟨es, clock, hb2, -⟩ := hsm1.own
    rw [hb2] at hh; cases hh
  refine ⟨{ rp := (keep p rp1.lt hpm).trans rp1, sm := hsm, ob := fun z hz => (obX z hz).keep fun g e => keep g ((obX z hz).blt e) (hm1 g _ (fr_tyb (obX z hz) e)), ot := fun z hz => (otX z hz).keep fun g e => keep g ((otX z hz).blt e) (hm1 g _ (lso_ty (otX z hz) e)), sb := ?_, st := ?_, Sp := .inl h.Sp, Sm := .inl h.Sm, Sb := ?_, St := ?_, lt := ?_ }, ⟨hg.os.trans hos, hg.tape.trans hta, hg.output.trans hou, Nat.le_trans hs hg.size, fun k hk2 hn => ?_⟩⟩
  · refine put_apart (g := fun x => x.bv.ownBlock) hr h.pb fun b hb z hz hne hzb => ?_
    rcases hyb b hb with h5 | ⟨x, hx, hxs, h5⟩
    · exact absurd ((h.ob z hz).blt hzb) (Nat.not_lt.2 h5)
    · exact apart_at h.pb hz hx (fun e4 => hne (by rw [e4]; exact hxs)) hzb h5
  · refine put_apart (g := fun x => x.tv.ownBlock) hr h.pt fun b hb z hz hne hzb => ?_
    rcases hyt b hb with h5 | ⟨x, hx, hxs, h5⟩
    · exact absurd ((h.ot z hz).blt hzb) (Nat.not_lt.2 h5)
    · exact apart_at h.pt hz hx (fun e4 => hne (by rw [e4]; exact hxs)) hzb h5
  · intro z hz g e
    rcases (put_mem hr z).1 hz with e2 | ⟨h3, h4⟩
    · subst e2
      rcases hyb g e with h5 | ⟨x, hx, -, h5⟩
      · exact inS g h5 (ob.blt e)
      · exact .inl (h.Sb x hx g h5)
    · exact .inl (h.Sb z h3 g e)
  · intro z hz g e
    rcases (put_mem hr z).1 hz with e2 | ⟨h3, h4⟩
    · subst e2
      rcases hyt g e with h5 | ⟨x, hx, -, h5⟩
      · exact inS g h5 (ot.blt e)
      · exact .inl (h.St x hx g h5)
    · exact .inl (h.St z h3 g e)
  · rintro k (h5 | h5)
    · exact Nat.lt_of_lt_of_le (h.lt k h5) (Nat.le_trans hs hg.size)
    · exact h5.2
  · have h5 : tvo ≠ some k := fun e => by obtain ⟨x, hx, -, e3⟩ := hto k e; exact hn (h.St x hx k e3)
    exact (keep k (Nat.lt_of_lt_of_le hk2 hs) (fun e => hn (by rw [e]; exact h.Sm))).trans (hk k hk2 h5)
/-- what Put has found: a file of that sum, or none -/
structure Found (w : World) (m : Nat) (X : List FX) (T : Nat) (b : List UInt8) (th : Bool) (s0 : ByteArray) (ba : Option Addr) (bn bc su0 : Nat) (tv0 : Value) (bb : List UInt8) (tt : List Int) : Prop where
  lk : ∀ w', Below w.heap.size w w' → (Instr.lookup 24 (.map (some m)) (.string (sumOf b)) true).run Tryd.prog w' = .ok (.tuple #[.agg (fiC s0 (.slice ba bn bc) su0 tv0).toArray, .bool th]) w'
  rd : Rd w ba bn bc bb
  b2 : bn ≤ 256
  ot : LsO intE w 0 tv0 tt
  t64 : ∀ t ∈ tt, SI64 t
  tr : tt.Pairwise (· < ·)
  tl : tt.length ≤ T
  yes : th = true → s0 = sumOf b ∧ ∃ x ∈ X, x.f = ⟨s0, bb, su0, tt⟩ ∧ x.bv = .slice ba bn bc ∧ x.tv = tv0 ∧ Fr w 0 (.slice ba bn bc) bb
  no : th = false → bb = [] ∧ tv0 = .slice none 0 0 ∧ ∀ x ∈ X, x.f.s ≠ sumOf b
theorem up64 {x : Int} (h1 : 0 ≤ x) (h2 : x ≤ 4000000000) : IntKind.i64.wrap x = x := by rw [IntKind.wrap_i64]; omega
set_option maxRecDepth 100000 in
set_option maxHeartbeats 8000000 in
theorem cput_eq {p m T : Nat} {room : Int} {X : List FX} {S : Nat → Prop} {w : World} {th : Bool} {s0 : ByteArray} {ba : Option Addr} {bn bc su0 : Nat} {tv0 : Value} {bb : List UInt8} {tt : List Int} (a : Option Addr) (n c : Nat) (b : List UInt8) (time : Int)
    (h : CK w p m room X S) (hb : Rd w a n c b) (hn1 : 1 ≤ n ∧ n ≤ 256) (ht : SI64 time) (hK : Ks w) (hT : T ≤ 899) (h256 : ∀ x ∈ X, x.f.b.length ≤ 256) (hn : X.length ≤ 524288) (hrm : 0 ≤ room ∧ room ≤ 524288) (hus : usedC (X.map (·.f)) ≤ 524288)
    (hfd : Found w m X T b th s0 ba bn bc su0 tv0 bb tt) (hth : th = true) (heq : bb = b) :
    Calls Tryd.prog 4 #[.pointer (some ⟨p, 0, none⟩), .slice a n c, .int .i64 time] w fun e w' => e = .returned (.tuple #[.string (sumOf b), .int .i64 0]) ∧ ∃ y : FX, y.f = ⟨s0, bb, su0, timedL tt time⟩ ∧ CK w' p m room (putX X y) (fun k => S k ∨ (w.heap.size ≤ k ∧ k < w'.heap.size)) ∧ Ft S w w' := by
  have H := Lib.hid h
  have HR := Lib.hid (fun w' (hb2 : Below w.heap.size w w') => cready p m room w' (h.mono hb2).rp)
  have HP := Lib.hid (pin (n : Int) 1 256 true (by unfold in64; simp; omega))
  have HSUM := Lib.hid (show ∀ w', Below w.heap.size w w' → Calls Tryd.prog 21 #[.slice a n c] w' fun e w2 => e = .returned (.string (sumOf b)) ∧ Below w'.heap.size w' w2 from fun w' hb2 => shasum_any a n c b w' (hK.below hb2 hK.pos) (hb.mono hb2) (by omega))
  have HEQ := Lib.hid (fun w' (hb2 : Below w.heap.size w w') => bequal ba a bn bc n c bb b w' (hfd.rd.mono hb2) (hb.mono hb2))
  have HIN := Lib.hid (fun w' (hb2 : Below w.heap.size w w') => cintact s0 (.slice ba bn bc) tv0 ba bn bc su0 bb w' rfl (hfd.rd.mono hb2) (by have := hfd.b2; omega) (hK.below hb2 hK.pos))
  have HCL := Lib.hid (fun w' (hb2 : Below w.heap.size w w') => fclone a n c b w' (hb.mono hb2) (by omega))
  have HWI := Lib.hid (fun w' (hb2 : Below w.heap.size w w') => cwith tv0 tt time w' (hfd.ot.kept hb2) hfd.t64 ht hfd.tr (by have := hfd.tl; omega))
  have HUS := Lib.hid (fun w' (hb2 : Below w.heap.size w w') => cused (h.mono hb2) h256 hn)
  have HF := Lib.hid hfd
  have FZ := Lib.hid file_zero
  have SZ := Lib.hid file_size
  have HTC := Lib.hid (lso_cell hfd.ot)
  have hb2n := hfd.b2
  have HN := Lib.hid hn
  rw [decide_eq_true heq] at HEQ
  obtain ⟨e0, x, hx, hxf, hxb, hxt, hxo⟩ := hfd.yes hth
  subst e0
  have HX := Lib.hid (show x ∈ X ∧ x.f.s = sumOf b ∧ x.bv.ownBlock = (Value.slice ba bn bc).ownBlock ∧ x.tv.ownBlock = tv0.ownBlock from ⟨hx, by rw [hxf], by rw [hxb], by rw [hxt]⟩)
  have HXO := Lib.hid hxo
  have HSZ := Lib.hid (show (sumOf b).size ≤ maxLen by rw [sumOf_size]; decide)
  obtain ⟨sm, hsm⟩ : ∃ sm, sumOf b = sm := ⟨_, rfl⟩
  have HRIS := Lib.hid h.sm.ris
  subst hth
  rw [hsm] at HF HIN HSUM HX HSZ ⊢
  have LKF := Lib.hid (show ∀ w', Below w.heap.size w w' → (Instr.lookup 24 (.map (some m)) (.string sm) true).run Tryd.prog w' = .ok (.tuple #[.agg (fiC sm (.slice ba bn bc) su0 tv0).toArray, .bool true]) w' from fun w' hb2 => by have := HF.out.lk w' hb2; rw [hsm] at this; exact this)
  clear h hb ht hK h256 hn hfd heq hus hx hxf hxb hxt hxo
  go_enter Tryd.func4, Tryd.ntmps4
  go_wp2_with (first
  | (go_at_call 19; (with_reducible refine (HR.out w (Below.refl _ _)).mono ?_); rintro e w0 ⟨rfl, rfl⟩)
  | (go_at_call 20; (with_reducible refine (HP.out w).mono ?_); rintro e w0 ⟨rfl, rfl⟩)
  | (go_at_call 21; (with_reducible refine (HSUM.out w (Below.refl _ _)).mono ?_); rintro e w1 ⟨rfl, hb1⟩; have B1 := Lib.hid hb1; have c1 := (H.out.mono hb1).rp.k2.2; have lk := LKF.out w1 hb1; clear hb1)
  | ((with_reducible refine alloc_row (o := ⟨some 9, _, _, _, _, _⟩) rfl _ rfl _ FZ.out ?_); intro w2 hr hb2 hz; have R2 := Lib.hid hr; have B2 := Lib.hid (B1.out.trans (hb2.mono B1.out.size)); clear hr hb2 hz c1 lk)
  | ((with_reducible refine store_row (o := ⟨none, _, _, _, _, _⟩) rfl _ (.tmp 9) _ rfl w1.heap.size (fiC sm (.slice ba bn bc) su0 tv0) ?_ ?_ 50 _ R2.out ?_ ?_ ?_ ?_); (focus go_simp); (focus (first | (go_simp; done) | (go_simp; rfl))); (focus (exact SZ.out)); (focus rfl); (focus (exact fi_one _ _ _ _ rfl HTC.out)); intro w3 hr hu; have R3 := Lib.hid hr; have B3 := Lib.hid (B2.out.trans (hu.below B1.out.size)); obtain ⟨q0, q1, q2, q3⟩ := hr.k4; clear hr hu q0 q2)
  | (go_at_call 22; (with_reducible refine (HEQ.out w3 B3.out).mono ?_); rintro e w4 ⟨rfl, rfl⟩; clear q1)
  | (go_at_call 25; (with_reducible refine (HWI.out w3 B3.out).mono ?_); rintro e w5 ⟨v5, rfl, hl5, ho5, hb5, hk5⟩; have O5 := Lib.hid hl5; have W5 := Lib.hid ho5; have K5 := Lib.hid (kp_below B3.out hk5); have BB5 := Lib.hid hb5; have R5 := Lib.hid (R3.out.keepK hk5 (fun e => Nat.lt_irrefl _ (Nat.lt_of_lt_of_le (HF.out.ot.blt e) B1.out.size))); clear hl5 ho5 hb5 hk5 q3)
  | ((with_reducible refine store_cell (o := ⟨none, _, _, _, _, _⟩) rfl _ (.tmp 63) _ rfl w1.heap.size 3 v5 ?_ ?_ ?_ ?_ 50 _ R5.out size_is ?_ ?_); (focus go_simp); (focus (first | (go_simp; done) | (go_simp; rfl))); (focus (exact lso_cells O5.out)); (focus (exact lso_cell O5.out)); (focus (show 3 < 4; decide)); intro w6 hr hu; have R6 := Lib.hid (show Row w6 w1.heap.size 50 (fiC sm (.slice ba bn bc) su0 v5) from hr); have U6 := Lib.hid hu; clear hr hu))
  have Z6 := Lib.hid (((B3.out.mono (Nat.zero_le _)).trans BB5.out).trans (U6.out.below (Nat.zero_le _)))
  have KW := Lib.hid (show ∀ g, g < w.heap.size → tv0.ownBlock ≠ some g → w6.heap[g]? = w.heap[g]? from fun g hg hn => (U6.out.block g (fun e => Nat.lt_irrefl _ (Nat.lt_of_lt_of_le (by rw [← e]; exact hg) B1.out.size))).trans (K5.out g hg hn))
  have O6 := Lib.hid (O5.out.upd U6.out (fun e => (lso_ty O5.out e).ne R5.out.ty (by decide) rfl))
  have TM := Lib.hid (show tv0.ownBlock ≠ some m ∧ tv0.ownBlock ≠ some p from ⟨fun e => (H.out.bm HX.out.1).1 (HX.out.2.2.2.trans e), fun e => (H.out.bm HX.out.1).2.1 (HX.out.2.2.2.trans e)⟩)
  have P6 := Lib.hid (show Row w6 p 26 [.int .i64 room, .map (some m)] from (KW.out p H.out.rp.lt TM.out.2).trans H.out.rp)
  have S6 := Lib.hid (H.out.sm.block (KW.out m H.out.sm.lt TM.out.1))
  have D6 : Hid (Below w6.heap.size w6 w6.drew) := Lib.hid (Below.refl _ _).drew
  refine region_t (fun v => Below w6.heap.size w6 v) 6 (by kernel_rfl) (by kernel_rfl) (by kernel_rfl) D6.out ?_
  obtain ⟨wd, hwd⟩ : ∃ wd, w6.drew = wd := ⟨_, rfl⟩
  rw [hwd] at D6 ⊢
  clear hwd
  (refine t_read 0 rfl (by kernel_rfl) (by kernel_rfl) (by kernel_rfl) (t_free rfl) ?_ ?_ ?_; rotate_left; (focus (intro v hv; go_simp; rfl)); go_simp)
  (refine t_read 1 rfl (by kernel_rfl) (by kernel_rfl) (by kernel_rfl) (t_free rfl) ?_ ?_ ?_; rotate_left; (focus (intro v hv; go_simp; rfl)); go_simp)
  (refine t_read 2 rfl (by kernel_rfl) (by kernel_rfl) (by kernel_rfl) (t_free rfl) ?_ ?_ ?_; rotate_left; (focus (intro v hv; go_simp; rfl)); go_simp)
  (refine t_read 3 rfl (by kernel_rfl) (by kernel_rfl) (by kernel_rfl) (t_free rfl) ?_ ?_ ?_; rotate_left; (focus (intro v hv; have c1 := (hv.cell (p := ⟨p, 1, none⟩) P6.out.lt).trans P6.out.k2.2; go_simp; rfl)); go_simp)
  (refine t_read 4 rfl (by kernel_rfl) (by kernel_rfl) (by kernel_rfl) (t_free rfl) ?_ ?_ ?_; rotate_left; (focus (intro v hv; go_simp; rfl)); go_simp)
  (refine t_read 5 rfl (by kernel_rfl) (by kernel_rfl) (by kernel_rfl) (t_free rfl) ?_ ?_ ?_; rotate_left; (focus (intro v hv; refine lg_all 50 (.tmp 9) ?_ w1.heap.size ?_ _ _ _ (R6.out.below hv R6.out.lt) Tryd.underlying50 rfl SZ.out; (focus rfl); (focus go_simp))); go_simp)
  (refine t_last 6 rfl (by kernel_rfl) rfl (by kernel_rfl) (by kernel_rfl) ?_; intro K hK)
  refine map_put rfl _ _ _ 24 50 rfl map_type m _ _ (by go_simp) (S6.out.kept D6.out) (by have := HN.out; omega) sm (.agg (fiC sm (.slice ba bn bc) su0 v5).toArray) (by go_simp) HSZ.out (by go_simp) (MX (putX X ⟨⟨sm, bb, su0, timedL tt time⟩, .slice ba bn bc, v5⟩)) (put_ris HRIS.out) (fun q => put_mx (y := ⟨⟨sm, bb, su0, timedL tt time⟩, .slice ba bn bc, v5⟩) HRIS.out q) ?_
  intro w7 hsm7 hg7 hz7
  refine hK _ _ ?_
  have ZD := Z6.out.trans (D6.out.mono (Nat.zero_le _))
  have hwl : w.heap.size ≤ w6.heap.size := by rw [U6.out.size]; exact Nat.le_trans B3.out.size BB5.out.size
  have KD : ∀ g, g < w.heap.size → tv0.ownBlock ≠ some g → wd.heap[g]? = w.heap[g]? := fun g hg hn => (D6.out.block g (Nat.lt_of_lt_of_le hg hwl)).trans (KW.out g hg hn)
  have PP := H.out.put (w1 := wd) (w2 := w7) (y := ⟨⟨sm, bb, su0, timedL tt time⟩, .slice ba bn bc, v5⟩) tv0.ownBlock KD (Nat.le_trans hwl D6.out.size) (fun g e => ⟨x, HX.out.1, HX.out.2.1, HX.out.2.2.2.trans e⟩) (by have := hsm7.tight; rw [mx_len] at this; exact this) hg7
    (HXO.out.keep fun g e => KD g (HXO.out.blt e) (fun e2 => (fr_tyb HXO.out e).ne (lso_ty HF.out.ot e2) (by decide) rfl)) (O6.out.kept D6.out)
    (fun g e => .inr ⟨x, HX.out.1, HX.out.2.1, HX.out.2.2.1.trans e⟩) (fun g e => (W5.out g e).elim (fun e2 => .inr ⟨x, HX.out.1, HX.out.2.1, HX.out.2.2.2.trans e2⟩) (fun e2 => .inl (Nat.le_trans B3.out.size e2))) ZD.os ZD.tape ZD.output
  have C7 := Lib.hid PP.1
  have F7 := Lib.hid PP.2
  clear hsm7 hg7 hz7 ZD hwl KD PP
  go_simp
  go_wp2_with fail
  go_ret2
  exact ⟨rfl, _, rfl, C7.out, F7.out⟩
set_option maxRecDepth 100000 in
set_option maxHeartbeats 8000000 in
theorem cput_exists {p m T : Nat} {room : Int} {X : List FX} {S : Nat → Prop} {w : World} {th : Bool} {s0 : ByteArray} {ba : Option Addr} {bn bc su0 : Nat} {tv0 : Value} {bb : List UInt8} {tt : List Int} (a : Option Addr) (n c : Nat) (b : List UInt8) (time : Int)
    (h : CK w p m room X S) (hb : Rd w a n c b) (hn1 : 1 ≤ n ∧ n ≤ 256) (ht : SI64 time) (hK : Ks w) (hT : T ≤ 899) (h256 : ∀ x ∈ X, x.f.b.length ≤ 256) (hn : X.length ≤ 524288) (hrm : 0 ≤ room ∧ room ≤ 524288) (hus : usedC (X.map (·.f)) ≤ 524288)
    (hfd : Found w m X T b th s0 ba bn bc su0 tv0 bb tt) (hth : th = true) (hne : bb ≠ b) (hin : sumOf bb = s0) :
    Calls Tryd.prog 4 #[.pointer (some ⟨p, 0, none⟩), .slice a n c, .int .i64 time] w fun e w' => e = .returned (.tuple #[.string ⟨#[]⟩, .int .i64 15]) ∧ Below w.heap.size w w' := by
  have H := Lib.hid h
  have HR := Lib.hid (fun w' (hb2 : Below w.heap.size w w') => cready p m room w' (h.mono hb2).rp)
  have HP := Lib.hid (pin (n : Int) 1 256 true (by unfold in64; simp; omega))
  have HSUM := Lib.hid (show ∀ w', Below w.heap.size w w' → Calls Tryd.prog 21 #[.slice a n c] w' fun e w2 => e = .returned (.string (sumOf b)) ∧ Below w'.heap.size w' w2 from fun w' hb2 => shasum_any a n c b w' (hK.below hb2 hK.pos) (hb.mono hb2) (by omega))
  have HEQ := Lib.hid (fun w' (hb2 : Below w.heap.size w w') => bequal ba a bn bc n c bb b w' (hfd.rd.mono hb2) (hb.mono hb2))
  have HIN := Lib.hid (fun w' (hb2 : Below w.heap.size w w') => cintact s0 (.slice ba bn bc) tv0 ba bn bc su0 bb w' rfl (hfd.rd.mono hb2) (by have := hfd.b2; omega) (hK.below hb2 hK.pos))
  have HCL := Lib.hid (fun w' (hb2 : Below w.heap.size w w') => fclone a n c b w' (hb.mono hb2) (by omega))
  have HWI := Lib.hid (fun w' (hb2 : Below w.heap.size w w') => cwith tv0 tt time w' (hfd.ot.kept hb2) hfd.t64 ht hfd.tr (by have := hfd.tl; omega))
  have HUS := Lib.hid (fun w' (hb2 : Below w.heap.size w w') => cused (h.mono hb2) h256 hn)
  have HF := Lib.hid hfd
  have FZ := Lib.hid file_zero
  have SZ := Lib.hid file_size
  have HTC := Lib.hid (lso_cell hfd.ot)
  have hb2n := hfd.b2
  have HN := Lib.hid hn
  obtain ⟨sm, hsm⟩ : ∃ sm, sumOf b = sm := ⟨_, rfl⟩
  have LKF := Lib.hid (show ∀ w', Below w.heap.size w w' → (Instr.lookup 24 (.map (some m)) (.string sm) true).run Tryd.prog w' = .ok (.tuple #[.agg (fiC s0 (.slice ba bn bc) su0 tv0).toArray, .bool th]) w' from fun w' hb2 => by have := HF.out.lk w' hb2; rw [hsm] at this; exact this)
  rw [hsm] at HSUM
  rw [decide_eq_false hne] at HEQ
  rw [decide_eq_true hin] at HIN
  subst hth
  clear h hb ht hK h256 hn hfd hne hus hin hsm
  go_enter Tryd.func4, Tryd.ntmps4
  go_wp2_with (first
  | (go_at_call 19; (with_reducible refine (HR.out w (Below.refl _ _)).mono ?_); rintro e w0 ⟨rfl, rfl⟩)
  | (go_at_call 20; (with_reducible refine (HP.out w).mono ?_); rintro e w0 ⟨rfl, rfl⟩)
  | (go_at_call 21; (with_reducible refine (HSUM.out w (Below.refl _ _)).mono ?_); rintro e w1 ⟨rfl, hb1⟩; have B1 := Lib.hid hb1; have c1 := (H.out.mono hb1).rp.k2.2; have lk := LKF.out w1 hb1; clear hb1)
  | ((with_reducible refine alloc_row (o := ⟨some 9, _, _, _, _, _⟩) rfl _ rfl _ FZ.out ?_); intro w2 hr hb2 hz; have R2 := Lib.hid hr; have B2 := Lib.hid (B1.out.trans (hb2.mono B1.out.size)); clear hr hb2 hz c1 lk)
  | ((with_reducible refine store_row (o := ⟨none, _, _, _, _, _⟩) rfl _ (.tmp 9) _ rfl w1.heap.size (fiC s0 (.slice ba bn bc) su0 tv0) ?_ ?_ 50 _ R2.out ?_ ?_ ?_ ?_); (focus go_simp); (focus (first | (go_simp; done) | (go_simp; rfl))); (focus (exact SZ.out)); (focus rfl); (focus (exact fi_one _ _ _ _ rfl HTC.out)); intro w3 hr hu; have R3 := Lib.hid hr; have B3 := Lib.hid (B2.out.trans (hu.below B1.out.size)); obtain ⟨q0, q1, q2, q3⟩ := hr.k4; clear hr hu q0 q2)
  | (go_at_call 22; (with_reducible refine (HEQ.out w3 B3.out).mono ?_); rintro e w4 ⟨rfl, rfl⟩; clear q1)
  | ((with_reducible refine load_rowg (o := ⟨some 36, _, _, _, _, _⟩) 1 true 35 rfl _ _ rfl w1.heap.size _ (fiC s0 (.slice ba bn bc) su0 tv0) _ R3.out Tryd.underlying50 rfl ?_ ?_ ?_ ?_ ?_); (focus rfl); (focus (first | (go_simp; done) | (go_simp; rfl))); (focus go_simp); (focus (exact SZ.out)))
  | (go_at_call 23; (with_reducible refine (HIN.out w3 B3.out).mono ?_); rintro e w5 ⟨rfl, hb5⟩; have B5 := Lib.hid (B3.out.trans (hb5.mono B3.out.size)); have R5 := Lib.hid (R3.out.below hb5 R3.out.lt); clear hb5))
  go_ret2
  exact ⟨rfl, B5.out⟩
set_option maxRecDepth 100000 in
set_option maxHeartbeats 8000000 in
theorem cput_full_false {p m T : Nat} {room : Int} {X : List FX} {S : Nat → Prop} {w : World} {th : Bool} {s0 : ByteArray} {ba : Option Addr} {bn bc su0 : Nat} {tv0 : Value} {bb : List UInt8} {tt : List Int} (a : Option Addr) (n c : Nat) (b : List UInt8) (time : Int)
    (h : CK w p m room X S) (hb : Rd w a n c b) (hn1 : 1 ≤ n ∧ n ≤ 256) (ht : SI64 time) (hK : Ks w) (hT : T ≤ 899) (h256 : ∀ x ∈ X, x.f.b.length ≤ 256) (hn : X.length ≤ 524288) (hrm : 0 ≤ room ∧ room ≤ 524288) (hus : usedC (X.map (·.f)) ≤ 524288)
    (hfd : Found w m X T b th s0 ba bn bc su0 tv0 bb tt) (hth : th = false) (hne : bb ≠ b) (hfull : room < (usedC (X.map (·.f)) : Int) - bn + n) :
    Calls Tryd.prog 4 #[.pointer (some ⟨p, 0, none⟩), .slice a n c, .int .i64 time] w fun e w' => e = .returned (.tuple #[.string ⟨#[]⟩, .int .i64 7]) ∧ Below w.heap.size w w' := by
  have H := Lib.hid h
  have HR := Lib.hid (fun w' (hb2 : Below w.heap.size w w') => cready p m room w' (h.mono hb2).rp)
  have HP := Lib.hid (pin (n : Int) 1 256 true (by unfold in64; simp; omega))
  have HSUM := Lib.hid (show ∀ w', Below w.heap.size w w' → Calls Tryd.prog 21 #[.slice a n c] w' fun e w2 => e = .returned (.string (sumOf b)) ∧ Below w'.heap.size w' w2 from fun w' hb2 => shasum_any a n c b w' (hK.below hb2 hK.pos) (hb.mono hb2) (by omega))
  have HEQ := Lib.hid (fun w' (hb2 : Below w.heap.size w w') => bequal ba a bn bc n c bb b w' (hfd.rd.mono hb2) (hb.mono hb2))
  have HIN := Lib.hid (fun w' (hb2 : Below w.heap.size w w') => cintact s0 (.slice ba bn bc) tv0 ba bn bc su0 bb w' rfl (hfd.rd.mono hb2) (by have := hfd.b2; omega) (hK.below hb2 hK.pos))
  have HCL := Lib.hid (fun w' (hb2 : Below w.heap.size w w') => fclone a n c b w' (hb.mono hb2) (by omega))
  have HWI := Lib.hid (fun w' (hb2 : Below w.heap.size w w') => cwith tv0 tt time w' (hfd.ot.kept hb2) hfd.t64 ht hfd.tr (by have := hfd.tl; omega))
  have HUS := Lib.hid (fun w' (hb2 : Below w.heap.size w w') => cused (h.mono hb2) h256 hn)
  have HF := Lib.hid hfd
  have FZ := Lib.hid file_zero
  have SZ := Lib.hid file_size
  have HTC := Lib.hid (lso_cell hfd.ot)
  have hb2n := hfd.b2
  have HN := Lib.hid hn
  obtain ⟨sm, hsm⟩ : ∃ sm, sumOf b = sm := ⟨_, rfl⟩
  have LKF := Lib.hid (show ∀ w', Below w.heap.size w w' → (Instr.lookup 24 (.map (some m)) (.string sm) true).run Tryd.prog w' = .ok (.tuple #[.agg (fiC s0 (.slice ba bn bc) su0 tv0).toArray, .bool th]) w' from fun w' hb2 => by have := HF.out.lk w' hb2; rw [hsm] at this; exact this)
  rw [hsm] at HSUM
  rw [decide_eq_false hne] at HEQ
  subst hth
  obtain ⟨U, hU⟩ : ∃ U, usedC (X.map (·.f)) = U := ⟨_, rfl⟩
  rw [hU] at HUS hfull hus
  have hw1 : IntKind.i64.wrap ((U : Int) - (bn : Int)) = (U : Int) - bn := by rw [IntKind.wrap_i64]; omega
  have hw2 : IntKind.i64.wrap ((U : Int) - (bn : Int) + (n : Int)) = (U : Int) - bn + n := by rw [IntKind.wrap_i64]; omega
  clear h hb ht hK h256 hn hfd hne  hsm hU
  go_enter Tryd.func4, Tryd.ntmps4
  go_wp2_with (first
  | (go_at_call 19; (with_reducible refine (HR.out w (Below.refl _ _)).mono ?_); rintro e w0 ⟨rfl, rfl⟩)
  | (go_at_call 20; (with_reducible refine (HP.out w).mono ?_); rintro e w0 ⟨rfl, rfl⟩)
  | (go_at_call 21; (with_reducible refine (HSUM.out w (Below.refl _ _)).mono ?_); rintro e w1 ⟨rfl, hb1⟩; have B1 := Lib.hid hb1; have c1 := (H.out.mono hb1).rp.k2.2; have lk := LKF.out w1 hb1; clear hb1)
  | ((with_reducible refine alloc_row (o := ⟨some 9, _, _, _, _, _⟩) rfl _ rfl _ FZ.out ?_); intro w2 hr hb2 hz; have R2 := Lib.hid hr; have B2 := Lib.hid (B1.out.trans (hb2.mono B1.out.size)); clear hr hb2 hz c1 lk)
  | ((with_reducible refine store_row (o := ⟨none, _, _, _, _, _⟩) rfl _ (.tmp 9) _ rfl w1.heap.size (fiC s0 (.slice ba bn bc) su0 tv0) ?_ ?_ 50 _ R2.out ?_ ?_ ?_ ?_); (focus go_simp); (focus (first | (go_simp; done) | (go_simp; rfl))); (focus (exact SZ.out)); (focus rfl); (focus (exact fi_one _ _ _ _ rfl HTC.out)); intro w3 hr hu; have R3 := Lib.hid hr; have B3 := Lib.hid (B2.out.trans (hu.below B1.out.size)); obtain ⟨q0, q1, q2, q3⟩ := hr.k4; clear hr hu q0 q2)
  | (go_at_call 22; (with_reducible refine (HEQ.out w3 B3.out).mono ?_); rintro e w4 ⟨rfl, rfl⟩; clear q1))
  have D5 : Hid (Below w3.heap.size w3 w3.drew) := Lib.hid (Below.refl _ _).drew
  have C0 := Lib.hid (H.out.mono B3.out)
  refine region_h (fun v => Below w3.heap.size w3 v) (by kernel_rfl) (by kernel_rfl) D5.out ?_
  obtain ⟨wd, hwd⟩ : ∃ wd, w3.drew = wd := ⟨_, rfl⟩
  rw [hwd] at D5 ⊢
  clear hwd
  (refine h_read 0 rfl (by kernel_rfl) (by kernel_rfl) (h_free rfl) ?_ ?_ ?_; rotate_left; (focus (intro v hv; go_simp; rfl)); go_simp)
  (refine h_read 2 rfl (by kernel_rfl) (by kernel_rfl) (h_free rfl) ?_ ?_ ?_; rotate_left; (focus (intro v hv; go_simp; rfl)); go_simp)
  (refine h_read 3 rfl (by kernel_rfl) (by kernel_rfl) (h_free rfl) ?_ ?_ ?_; rotate_left; (focus (intro v hv; have c0 := (hv.cell (p := ⟨p, 0, none⟩) C0.out.rp.lt).trans C0.out.rp.k2.1; have q1 := (hv.cell (p := ⟨w1.heap.size, 1, none⟩) R3.out.lt).trans R3.out.k4.2.1; go_simp; rfl)); go_simp)
  (refine h_read 4 rfl (by kernel_rfl) (by kernel_rfl) (h_free rfl) ?_ ?_ ?_; rotate_left; (focus (intro v hv; go_simp; rfl)); go_simp)
  (refine h_read 6 rfl (by kernel_rfl) (by kernel_rfl) (h_free rfl) ?_ ?_ ?_; rotate_left; (focus (intro v hv; go_simp; rfl)); go_simp)
  (refine h_read 7 rfl (by kernel_rfl) (by kernel_rfl) (h_free rfl) ?_ ?_ ?_; rotate_left; (focus (intro v hv; go_simp; rfl)); go_simp)
  (refine h_read 9 rfl (by kernel_rfl) (by kernel_rfl) (h_free rfl) ?_ ?_ ?_; rotate_left; (focus (intro v hv; go_simp; rfl)); go_simp)
  (refine h_read 10 rfl (by kernel_rfl) (by kernel_rfl) (h_free rfl) ?_ ?_ ?_; rotate_left; (focus (intro v hv; go_simp; rfl)); go_simp)
  (refine h_read 11 rfl (by kernel_rfl) (by kernel_rfl) (h_free rfl) ?_ ?_ ?_; rotate_left; (focus (intro v hv; go_simp; rfl)); go_simp)
  (refine h_read 12 rfl (by kernel_rfl) (by kernel_rfl) (h_free rfl) ?_ ?_ ?_; rotate_left; (focus (intro v hv; have c0 := (hv.cell (p := ⟨p, 0, none⟩) C0.out.rp.lt).trans C0.out.rp.k2.1; have q1 := (hv.cell (p := ⟨w1.heap.size, 1, none⟩) R3.out.lt).trans R3.out.k4.2.1; go_simp; rfl)); go_simp)
  (refine h_call 1 rfl (by kernel_rfl) (h_free rfl) 13 ?_ ?_ ?_; rotate_left; (focus (go_simp; rfl)))
  refine (HUS.out wd (B3.out.trans (D5.out.mono B3.out.size))).mono ?_
  rintro e w6 ⟨rfl, hb6⟩
  have B6 := Lib.hid (D5.out.trans (hb6.mono D5.out.size))
  clear hb6
  refine ⟨_, rfl, B6.out, ?_⟩
  go_simp
  (refine h_read 5 rfl (by kernel_rfl) (by kernel_rfl) (h_free rfl) ?_ ?_ ?_; rotate_left; (focus (intro v hv; go_simp; rfl)); go_simp)
  (refine h_read 8 rfl (by kernel_rfl) (by kernel_rfl) (h_free rfl) ?_ ?_ ?_; rotate_left; (focus (intro v hv; go_simp; rfl)); go_simp)
  (refine h_read 13 rfl (by kernel_rfl) (by kernel_rfl) (h_free rfl) ?_ ?_ ?_; rotate_left; (focus (intro v hv; go_simp; rfl)); go_simp)
  refine h_done (by kernel_rfl) ?_
  go_wp2_with fail
  go_ret2
  exact ⟨rfl, B3.out.trans (B6.out.mono B3.out.size)⟩
set_option maxRecDepth 100000 in
set_option maxHeartbeats 8000000 in
theorem cput_full_true {p m T : Nat} {room : Int} {X : List FX} {S : Nat → Prop} {w : World} {th : Bool} {s0 : ByteArray} {ba : Option Addr} {bn bc su0 : Nat} {tv0 : Value} {bb : List UInt8} {tt : List Int} (a : Option Addr) (n c : Nat) (b : List UInt8) (time : Int)
    (h : CK w p m room X S) (hb : Rd w a n c b) (hn1 : 1 ≤ n ∧ n ≤ 256) (ht : SI64 time) (hK : Ks w) (hT : T ≤ 899) (h256 : ∀ x ∈ X, x.f.b.length ≤ 256) (hn : X.length ≤ 524288) (hrm : 0 ≤ room ∧ room ≤ 524288) (hus : usedC (X.map (·.f)) ≤ 524288)
    (hfd : Found w m X T b th s0 ba bn bc su0 tv0 bb tt) (hth : th = true) (hne : bb ≠ b) (hin : ¬ sumOf bb = s0) (hfull : room < (usedC (X.map (·.f)) : Int) - bn + n) :
    Calls Tryd.prog 4 #[.pointer (some ⟨p, 0, none⟩), .slice a n c, .int .i64 time] w fun e w' => e = .returned (.tuple #[.string ⟨#[]⟩, .int .i64 7]) ∧ Below w.heap.size w w' := by
  have H := Lib.hid h
  have HR := Lib.hid (fun w' (hb2 : Below w.heap.size w w') => cready p m room w' (h.mono hb2).rp)
  have HP := Lib.hid (pin (n : Int) 1 256 true (by unfold in64; simp; omega))
  have HSUM := Lib.hid (show ∀ w', Below w.heap.size w w' → Calls Tryd.prog 21 #[.slice a n c] w' fun e w2 => e = .returned (.string (sumOf b)) ∧ Below w'.heap.size w' w2 from fun w' hb2 => shasum_any a n c b w' (hK.below hb2 hK.pos) (hb.mono hb2) (by omega))
  have HEQ := Lib.hid (fun w' (hb2 : Below w.heap.size w w') => bequal ba a bn bc n c bb b w' (hfd.rd.mono hb2) (hb.mono hb2))
  have HIN := Lib.hid (fun w' (hb2 : Below w.heap.size w w') => cintact s0 (.slice ba bn bc) tv0 ba bn bc su0 bb w' rfl (hfd.rd.mono hb2) (by have := hfd.b2; omega) (hK.below hb2 hK.pos))
  have HCL := Lib.hid (fun w' (hb2 : Below w.heap.size w w') => fclone a n c b w' (hb.mono hb2) (by omega))
  have HWI := Lib.hid (fun w' (hb2 : Below w.heap.size w w') => cwith tv0 tt time w' (hfd.ot.kept hb2) hfd.t64 ht hfd.tr (by have := hfd.tl; omega))
  have HUS := Lib.hid (fun w' (hb2 : Below w.heap.size w w') => cused (h.mono hb2) h256 hn)
  have HF := Lib.hid hfd
  have FZ := Lib.hid file_zero
  have SZ := Lib.hid file_size
  have HTC := Lib.hid (lso_cell hfd.ot)
  have hb2n := hfd.b2
  have HN := Lib.hid hn
  obtain ⟨sm, hsm⟩ : ∃ sm, sumOf b = sm := ⟨_, rfl⟩
  have LKF := Lib.hid (show ∀ w', Below w.heap.size w w' → (Instr.lookup 24 (.map (some m)) (.string sm) true).run Tryd.prog w' = .ok (.tuple #[.agg (fiC s0 (.slice ba bn bc) su0 tv0).toArray, .bool th]) w' from fun w' hb2 => by have := HF.out.lk w' hb2; rw [hsm] at this; exact this)
  rw [hsm] at HSUM
  rw [decide_eq_false hne] at HEQ
  rw [decide_eq_false hin] at HIN
  subst hth
  obtain ⟨U, hU⟩ : ∃ U, usedC (X.map (·.f)) = U := ⟨_, rfl⟩
  rw [hU] at HUS hfull hus
  have hw1 : IntKind.i64.wrap ((U : Int) - (bn : Int)) = (U : Int) - bn := by rw [IntKind.wrap_i64]; omega
  have hw2 : IntKind.i64.wrap ((U : Int) - (bn : Int) + (n : Int)) = (U : Int) - bn + n := by rw [IntKind.wrap_i64]; omega
  clear h hb ht hK h256 hn hfd hne hin hsm hU
  go_enter Tryd.func4, Tryd.ntmps4
  go_wp2_with (first
  | (go_at_call 19; (with_reducible refine (HR.out w (Below.refl _ _)).mono ?_); rintro e w0 ⟨rfl, rfl⟩)
  | (go_at_call 20; (with_reducible refine (HP.out w).mono ?_); rintro e w0 ⟨rfl, rfl⟩)
  | (go_at_call 21; (with_reducible refine (HSUM.out w (Below.refl _ _)).mono ?_); rintro e w1 ⟨rfl, hb1⟩; have B1 := Lib.hid hb1; have c1 := (H.out.mono hb1).rp.k2.2; have lk := LKF.out w1 hb1; clear hb1)
  | ((with_reducible refine alloc_row (o := ⟨some 9, _, _, _, _, _⟩) rfl _ rfl _ FZ.out ?_); intro w2 hr hb2 hz; have R2 := Lib.hid hr; have B2 := Lib.hid (B1.out.trans (hb2.mono B1.out.size)); clear hr hb2 hz c1 lk)
  | ((with_reducible refine store_row (o := ⟨none, _, _, _, _, _⟩) rfl _ (.tmp 9) _ rfl w1.heap.size (fiC s0 (.slice ba bn bc) su0 tv0) ?_ ?_ 50 _ R2.out ?_ ?_ ?_ ?_); (focus go_simp); (focus (first | (go_simp; done) | (go_simp; rfl))); (focus (exact SZ.out)); (focus rfl); (focus (exact fi_one _ _ _ _ rfl HTC.out)); intro w3 hr hu; have R3 := Lib.hid hr; have B3 := Lib.hid (B2.out.trans (hu.below B1.out.size)); obtain ⟨q0, q1, q2, q3⟩ := hr.k4; clear hr hu q0 q2)
  | (go_at_call 22; (with_reducible refine (HEQ.out w3 B3.out).mono ?_); rintro e w4 ⟨rfl, rfl⟩; clear q1)
  | ((with_reducible refine load_rowg (o := ⟨some 36, _, _, _, _, _⟩) 1 true 35 rfl _ _ rfl w1.heap.size _ (fiC s0 (.slice ba bn bc) su0 tv0) _ R3.out Tryd.underlying50 rfl ?_ ?_ ?_ ?_ ?_); (focus rfl); (focus (first | (go_simp; done) | (go_simp; rfl))); (focus go_simp); (focus (exact SZ.out)))
  | (go_at_call 23; (with_reducible refine (HIN.out w3 B3.out).mono ?_); rintro e w5 ⟨rfl, hb5⟩; have B5 := Lib.hid (B3.out.trans (hb5.mono B3.out.size)); have R5 := Lib.hid (R3.out.below hb5 R3.out.lt); clear hb5))
  have D5 : Hid (Below w5.heap.size w5 w5.drew) := Lib.hid (Below.refl _ _).drew
  have C0 := Lib.hid (H.out.mono B5.out)
  refine region_h (fun v => Below w5.heap.size w5 v) (by kernel_rfl) (by kernel_rfl) D5.out ?_
  obtain ⟨wd, hwd⟩ : ∃ wd, w5.drew = wd := ⟨_, rfl⟩
  rw [hwd] at D5 ⊢
  clear hwd
  (refine h_read 0 rfl (by kernel_rfl) (by kernel_rfl) (h_free rfl) ?_ ?_ ?_; rotate_left; (focus (intro v hv; go_simp; rfl)); go_simp)
  (refine h_read 2 rfl (by kernel_rfl) (by kernel_rfl) (h_free rfl) ?_ ?_ ?_; rotate_left; (focus (intro v hv; go_simp; rfl)); go_simp)
  (refine h_read 3 rfl (by kernel_rfl) (by kernel_rfl) (h_free rfl) ?_ ?_ ?_; rotate_left; (focus (intro v hv; have c0 := (hv.cell (p := ⟨p, 0, none⟩) C0.out.rp.lt).trans C0.out.rp.k2.1; have q1 := (hv.cell (p := ⟨w1.heap.size, 1, none⟩) R5.out.lt).trans R5.out.k4.2.1; go_simp; rfl)); go_simp)
  (refine h_read 4 rfl (by kernel_rfl) (by kernel_rfl) (h_free rfl) ?_ ?_ ?_; rotate_left; (focus (intro v hv; go_simp; rfl)); go_simp)
  (refine h_read 6 rfl (by kernel_rfl) (by kernel_rfl) (h_free rfl) ?_ ?_ ?_; rotate_left; (focus (intro v hv; go_simp; rfl)); go_simp)
  (refine h_read 7 rfl (by kernel_rfl) (by kernel_rfl) (h_free rfl) ?_ ?_ ?_; rotate_left; (focus (intro v hv; go_simp; rfl)); go_simp)
  (refine h_read 9 rfl (by kernel_rfl) (by kernel_rfl) (h_free rfl) ?_ ?_ ?_; rotate_left; (focus (intro v hv; go_simp; rfl)); go_simp)
  (refine h_read 10 rfl (by kernel_rfl) (by kernel_rfl) (h_free rfl) ?_ ?_ ?_; rotate_left; (focus (intro v hv; go_simp; rfl)); go_simp)
  (refine h_read 11 rfl (by kernel_rfl) (by kernel_rfl) (h_free rfl) ?_ ?_ ?_; rotate_left; (focus (intro v hv; go_simp; rfl)); go_simp)
  (refine h_read 12 rfl (by kernel_rfl) (by kernel_rfl) (h_free rfl) ?_ ?_ ?_; rotate_left; (focus (intro v hv; have c0 := (hv.cell (p := ⟨p, 0, none⟩) C0.out.rp.lt).trans C0.out.rp.k2.1; have q1 := (hv.cell (p := ⟨w1.heap.size, 1, none⟩) R5.out.lt).trans R5.out.k4.2.1; go_simp; rfl)); go_simp)
  (refine h_call 1 rfl (by kernel_rfl) (h_free rfl) 13 ?_ ?_ ?_; rotate_left; (focus (go_simp; rfl)))
  refine (HUS.out wd (B5.out.trans (D5.out.mono B5.out.size))).mono ?_
  rintro e w6 ⟨rfl, hb6⟩
  have B6 := Lib.hid (D5.out.trans (hb6.mono D5.out.size))
  clear hb6
  refine ⟨_, rfl, B6.out, ?_⟩
  go_simp
  (refine h_read 5 rfl (by kernel_rfl) (by kernel_rfl) (h_free rfl) ?_ ?_ ?_; rotate_left; (focus (intro v hv; go_simp; rfl)); go_simp)
  (refine h_read 8 rfl (by kernel_rfl) (by kernel_rfl) (h_free rfl) ?_ ?_ ?_; rotate_left; (focus (intro v hv; go_simp; rfl)); go_simp)
  (refine h_read 13 rfl (by kernel_rfl) (by kernel_rfl) (h_free rfl) ?_ ?_ ?_; rotate_left; (focus (intro v hv; go_simp; rfl)); go_simp)
  refine h_done (by kernel_rfl) ?_
  go_wp2_with fail
  go_ret2
  exact ⟨rfl, B5.out.trans (B6.out.mono B5.out.size)⟩
set_option maxRecDepth 100000 in
set_option maxHeartbeats 8000000 in
theorem cput_new_false {p m T : Nat} {room : Int} {X : List FX} {S : Nat → Prop} {w : World} {th : Bool} {s0 : ByteArray} {ba : Option Addr} {bn bc su0 : Nat} {tv0 : Value} {bb : List UInt8} {tt : List Int} (a : Option Addr) (n c : Nat) (b : List UInt8) (time : Int)
    (h : CK w p m room X S) (hb : Rd w a n c b) (hn1 : 1 ≤ n ∧ n ≤ 256) (ht : SI64 time) (hK : Ks w) (hT : T ≤ 899) (h256 : ∀ x ∈ X, x.f.b.length ≤ 256) (hn : X.length ≤ 524288) (hrm : 0 ≤ room ∧ room ≤ 524288) (hus : usedC (X.map (·.f)) ≤ 524288)
    (hfd : Found w m X T b th s0 ba bn bc su0 tv0 bb tt) (hth : th = false) (hne : bb ≠ b) (hfull : ¬ room < (usedC (X.map (·.f)) : Int) - bn + n) :
    Calls Tryd.prog 4 #[.pointer (some ⟨p, 0, none⟩), .slice a n c, .int .i64 time] w fun e w' => e = .returned (.tuple #[.string (sumOf b), .int .i64 0]) ∧ ∃ y : FX, y.f = ⟨sumOf b, b, 0, timedL tt time⟩ ∧ CK w' p m room (putX X y) (fun k => S k ∨ (w.heap.size ≤ k ∧ k < w'.heap.size)) ∧ Ft S w w' := by
  have H := Lib.hid h
  have HR := Lib.hid (fun w' (hb2 : Below w.heap.size w w') => cready p m room w' (h.mono hb2).rp)
  have HP := Lib.hid (pin (n : Int) 1 256 true (by unfold in64; simp; omega))
  have HSUM := Lib.hid (show ∀ w', Below w.heap.size w w' → Calls Tryd.prog 21 #[.slice a n c] w' fun e w2 => e = .returned (.string (sumOf b)) ∧ Below w'.heap.size w' w2 from fun w' hb2 => shasum_any a n c b w' (hK.below hb2 hK.pos) (hb.mono hb2) (by omega))
  have HEQ := Lib.hid (fun w' (hb2 : Below w.heap.size w w') => bequal ba a bn bc n c bb b w' (hfd.rd.mono hb2) (hb.mono hb2))
  have HIN := Lib.hid (fun w' (hb2 : Below w.heap.size w w') => cintact s0 (.slice ba bn bc) tv0 ba bn bc su0 bb w' rfl (hfd.rd.mono hb2) (by have := hfd.b2; omega) (hK.below hb2 hK.pos))
  have HCL := Lib.hid (fun w' (hb2 : Below w.heap.size w w') => fclone a n c b w' (hb.mono hb2) (by omega))
  have HWI := Lib.hid (fun w' (hb2 : Below w.heap.size w w') => cwith tv0 tt time w' (hfd.ot.kept hb2) hfd.t64 ht hfd.tr (by have := hfd.tl; omega))
  have HUS := Lib.hid (fun w' (hb2 : Below w.heap.size w w') => cused (h.mono hb2) h256 hn)
  have HF := Lib.hid hfd
  have FZ := Lib.hid file_zero
  have SZ := Lib.hid file_size
  have HTC := Lib.hid (lso_cell hfd.ot)
  have hb2n := hfd.b2
  have HN := Lib.hid hn
  have HNO := Lib.hid (hfd.no hth).2
  have HSZ := Lib.hid (show (sumOf b).size ≤ maxLen by rw [sumOf_size]; decide)
  have HRIS := Lib.hid h.sm.ris
  obtain ⟨sm, hsm⟩ : ∃ sm, sumOf b = sm := ⟨_, rfl⟩
  have LKF := Lib.hid (show ∀ w', Below w.heap.size w w' → (Instr.lookup 24 (.map (some m)) (.string sm) true).run Tryd.prog w' = .ok (.tuple #[.agg (fiC s0 (.slice ba bn bc) su0 tv0).toArray, .bool th]) w' from fun w' hb2 => by have := HF.out.lk w' hb2; rw [hsm] at this; exact this)
  rw [hsm] at HSUM HSZ ⊢
  rw [decide_eq_false hne] at HEQ
  subst hth
  obtain ⟨U, hU⟩ : ∃ U, usedC (X.map (·.f)) = U := ⟨_, rfl⟩
  rw [hU] at HUS hfull hus
  have hw1 : IntKind.i64.wrap ((U : Int) - (bn : Int)) = (U : Int) - bn := by rw [IntKind.wrap_i64]; omega
  have hw2 : IntKind.i64.wrap ((U : Int) - (bn : Int) + (n : Int)) = (U : Int) - bn + n := by rw [IntKind.wrap_i64]; omega
  have hfull2 : (U : Int) - bn + n ≤ room := by omega
  clear h hb ht hK h256 hn hfd hne  hsm hU hfull
  go_enter Tryd.func4, Tryd.ntmps4
  go_wp2_with (first
  | (go_at_call 19; (with_reducible refine (HR.out w (Below.refl _ _)).mono ?_); rintro e w0 ⟨rfl, rfl⟩)
  | (go_at_call 20; (with_reducible refine (HP.out w).mono ?_); rintro e w0 ⟨rfl, rfl⟩)
  | (go_at_call 21; (with_reducible refine (HSUM.out w (Below.refl _ _)).mono ?_); rintro e w1 ⟨rfl, hb1⟩; have B1 := Lib.hid hb1; have c1 := (H.out.mono hb1).rp.k2.2; have lk := LKF.out w1 hb1; clear hb1)
  | ((with_reducible refine alloc_row (o := ⟨some 9, _, _, _, _, _⟩) rfl _ rfl _ FZ.out ?_); intro w2 hr hb2 hz; have R2 := Lib.hid hr; have B2 := Lib.hid (B1.out.trans (hb2.mono B1.out.size)); clear hr hb2 hz c1 lk)
  | ((with_reducible refine store_row (o := ⟨none, _, _, _, _, _⟩) rfl _ (.tmp 9) _ rfl w1.heap.size (fiC s0 (.slice ba bn bc) su0 tv0) ?_ ?_ 50 _ R2.out ?_ ?_ ?_ ?_); (focus go_simp); (focus (first | (go_simp; done) | (go_simp; rfl))); (focus (exact SZ.out)); (focus rfl); (focus (exact fi_one _ _ _ _ rfl HTC.out)); intro w3 hr hu; have R3 := Lib.hid hr; have B3 := Lib.hid (B2.out.trans (hu.below B1.out.size)); obtain ⟨q0, q1, q2, q3⟩ := hr.k4; clear hr hu q0 q2)
  | (go_at_call 22; (with_reducible refine (HEQ.out w3 B3.out).mono ?_); rintro e w4 ⟨rfl, rfl⟩; clear q1))
  have D5 : Hid (Below w3.heap.size w3 w3.drew) := Lib.hid (Below.refl _ _).drew
  have C0 := Lib.hid (H.out.mono B3.out)
  refine region_h (fun v => Below w3.heap.size w3 v) (by kernel_rfl) (by kernel_rfl) D5.out ?_
  obtain ⟨wd, hwd⟩ : ∃ wd, w3.drew = wd := ⟨_, rfl⟩
  rw [hwd] at D5 ⊢
  clear hwd
  (refine h_read 0 rfl (by kernel_rfl) (by kernel_rfl) (h_free rfl) ?_ ?_ ?_; rotate_left; (focus (intro v hv; go_simp; rfl)); go_simp)
  (refine h_read 2 rfl (by kernel_rfl) (by kernel_rfl) (h_free rfl) ?_ ?_ ?_; rotate_left; (focus (intro v hv; go_simp; rfl)); go_simp)
  (refine h_read 3 rfl (by kernel_rfl) (by kernel_rfl) (h_free rfl) ?_ ?_ ?_; rotate_left; (focus (intro v hv; have c0 := (hv.cell (p := ⟨p, 0, none⟩) C0.out.rp.lt).trans C0.out.rp.k2.1; have q1 := (hv.cell (p := ⟨w1.heap.size, 1, none⟩) R3.out.lt).trans R3.out.k4.2.1; go_simp; rfl)); go_simp)
  (refine h_read 4 rfl (by kernel_rfl) (by kernel_rfl) (h_free rfl) ?_ ?_ ?_; rotate_left; (focus (intro v hv; go_simp; rfl)); go_simp)
  (refine h_read 6 rfl (by kernel_rfl) (by kernel_rfl) (h_free rfl) ?_ ?_ ?_; rotate_left; (focus (intro v hv; go_simp; rfl)); go_simp)
  (refine h_read 7 rfl (by kernel_rfl) (by kernel_rfl) (h_free rfl) ?_ ?_ ?_; rotate_left; (focus (intro v hv; go_simp; rfl)); go_simp)
  (refine h_read 9 rfl (by kernel_rfl) (by kernel_rfl) (h_free rfl) ?_ ?_ ?_; rotate_left; (focus (intro v hv; go_simp; rfl)); go_simp)
  (refine h_read 10 rfl (by kernel_rfl) (by kernel_rfl) (h_free rfl) ?_ ?_ ?_; rotate_left; (focus (intro v hv; go_simp; rfl)); go_simp)
  (refine h_read 11 rfl (by kernel_rfl) (by kernel_rfl) (h_free rfl) ?_ ?_ ?_; rotate_left; (focus (intro v hv; go_simp; rfl)); go_simp)
  (refine h_read 12 rfl (by kernel_rfl) (by kernel_rfl) (h_free rfl) ?_ ?_ ?_; rotate_left; (focus (intro v hv; have c0 := (hv.cell (p := ⟨p, 0, none⟩) C0.out.rp.lt).trans C0.out.rp.k2.1; have q1 := (hv.cell (p := ⟨w1.heap.size, 1, none⟩) R3.out.lt).trans R3.out.k4.2.1; go_simp; rfl)); go_simp)
  (refine h_call 1 rfl (by kernel_rfl) (h_free rfl) 13 ?_ ?_ ?_; rotate_left; (focus (go_simp; rfl)))
  refine (HUS.out wd (B3.out.trans (D5.out.mono B3.out.size))).mono ?_
  rintro e w6 ⟨rfl, hb6⟩
  have B6 := Lib.hid (D5.out.trans (hb6.mono D5.out.size))
  clear hb6
  refine ⟨_, rfl, B6.out, ?_⟩
  go_simp
  (refine h_read 5 rfl (by kernel_rfl) (by kernel_rfl) (h_free rfl) ?_ ?_ ?_; rotate_left; (focus (intro v hv; go_simp; rfl)); go_simp)
  (refine h_read 8 rfl (by kernel_rfl) (by kernel_rfl) (h_free rfl) ?_ ?_ ?_; rotate_left; (focus (intro v hv; go_simp; rfl)); go_simp)
  (refine h_read 13 rfl (by kernel_rfl) (by kernel_rfl) (h_free rfl) ?_ ?_ ?_; rotate_left; (focus (intro v hv; go_simp; rfl)); go_simp)
  refine h_done (by kernel_rfl) ?_
  have BT6 := Lib.hid (B3.out.trans (B6.out.mono B3.out.size))
  have R6 := Lib.hid (R3.out.below B6.out R3.out.lt)
  have L16 := Lib.hid (show w1.heap.size < w6.heap.size from Nat.lt_of_lt_of_le R6.out.lt (Nat.le_refl _))
  go_wp2_with (first
    | (go_at_call 24; (with_reducible refine (HCL.out w6 BT6.out).mono ?_); rintro e w7 ⟨v7, rfl, hf7, hb7⟩; have V7 := Lib.hid hf7; have B7 := Lib.hid (BT6.out.trans (hb7.mono BT6.out.size)); have R7 := Lib.hid (R6.out.below hb7 R6.out.lt); have V7O := Lib.hid (fun g e => (World.ownsRow.lt V7.out g e).1); have VC := Lib.hid (fr_cell hf7); have VO := Lib.hid (fr_one hf7); clear hf7 hb7)
    | ((with_reducible refine store_cell (o := ⟨none, _, _, _, _, _⟩) rfl _ (.tmp 56) _ rfl w1.heap.size 0 (.string sm) ?_ ?_ rfl rfl 50 _ R7.out size_str ?_ ?_); (focus go_simp); (focus (first | (go_simp; done) | (go_simp; rfl))); (focus (show 0 < 4; decide)); intro w8 hr hu; have R8 := Lib.hid (show Row w8 w1.heap.size 50 (fiC sm (.slice ba bn bc) su0 tv0) from hr); have V8 := Lib.hid (V7.out.keep fun g e => hu.block g (Nat.ne_of_gt (Nat.lt_of_lt_of_le L16.out (V7O.out g e)))); have B8 := Lib.hid (B7.out.trans (hu.below B1.out.size)); clear hr hu)
    | ((with_reducible refine store_cell (o := ⟨none, _, _, _, _, _⟩) rfl _ (.tmp 57) _ rfl w1.heap.size 1 v7 ?_ ?_ VC.out VO.out 50 _ R8.out size_bs ?_ ?_); (focus go_simp); (focus (first | (go_simp; done) | (go_simp; rfl))); (focus (show 1 < 4; decide)); intro w9 hr hu; have R9 := Lib.hid (show Row w9 w1.heap.size 50 (fiC sm v7 su0 tv0) from hr); have V9 := Lib.hid (V8.out.keep fun g e => hu.block g (Nat.ne_of_gt (Nat.lt_of_lt_of_le L16.out (V7O.out g e)))); have B9 := Lib.hid (B8.out.trans (hu.below B1.out.size)); clear hr hu)
    | ((with_reducible refine store_cell (o := ⟨none, _, _, _, _, _⟩) rfl _ (.tmp 58) _ rfl w1.heap.size 2 (.int .i64 0) ?_ ?_ rfl rfl 50 _ R9.out size_int ?_ ?_); (focus go_simp); (focus (first | (go_simp; done) | (go_simp; rfl))); (focus (show 2 < 4; decide)); intro w10 hr hu; have R10 := Lib.hid (show Row w10 w1.heap.size 50 (fiC sm v7 0 tv0) from hr); have V10 := Lib.hid (V9.out.keep fun g e => hu.block g (Nat.ne_of_gt (Nat.lt_of_lt_of_le L16.out (V7O.out g e)))); have B10 := Lib.hid (B9.out.trans (hu.below B1.out.size)); obtain ⟨r0, r1, r2, r3⟩ := hr.k4; clear hr hu r0 r1 r2)
    | (go_at_call 25; (with_reducible refine (HWI.out w10 B10.out).mono ?_); rintro e w11 ⟨v11, rfl, hl5, ho5, hb5, hk5⟩; have O11 := Lib.hid hl5; have W11 := Lib.hid ho5; have K11 := Lib.hid (kp_below B10.out hk5); have BB11 := Lib.hid hb5; have R11 := Lib.hid (R10.out.keepK hk5 (fun e => Nat.lt_irrefl _ (Nat.lt_of_lt_of_le (HF.out.ot.blt e) B1.out.size))); have V11 := Lib.hid (V10.out.keep fun g e => hk5 g (V10.out.blt e) (fun e2 => Nat.lt_irrefl g (Nat.lt_of_lt_of_le (HF.out.ot.blt e2) (Nat.le_trans BT6.out.size (V7O.out g e))))); clear hl5 ho5 hb5 hk5 r3)
    | ((with_reducible refine store_cell (o := ⟨none, _, _, _, _, _⟩) rfl _ (.tmp 63) _ rfl w1.heap.size 3 v11 ?_ ?_ ?_ ?_ 50 _ R11.out size_is ?_ ?_); (focus go_simp); (focus (first | (go_simp; done) | (go_simp; rfl))); (focus (exact lso_cells O11.out)); (focus (exact lso_cell O11.out)); (focus (show 3 < 4; decide)); intro w12 hr hu; have R12 := Lib.hid (show Row w12 w1.heap.size 50 (fiC sm v7 0 v11) from hr); have U12 := Lib.hid hu; clear hr hu))
  have Z12 := Lib.hid (((B10.out.mono (Nat.zero_le _)).trans BB11.out).trans (U12.out.below (Nat.zero_le _)))
  have KW := Lib.hid (show ∀ g, g < w.heap.size → tv0.ownBlock ≠ some g → w12.heap[g]? = w.heap[g]? from fun g hg hn => (U12.out.block g (fun e => Nat.lt_irrefl _ (Nat.lt_of_lt_of_le (by rw [← e]; exact hg) B1.out.size))).trans (K11.out g hg hn))
  have O12 := Lib.hid (O11.out.upd U12.out (fun e => (lso_ty O11.out e).ne R11.out.ty (by decide) rfl))
  have V12 := Lib.hid (V11.out.keep fun g e => U12.out.block g (Nat.ne_of_gt (Nat.lt_of_lt_of_le L16.out (V7O.out g e))))
  have TM := Lib.hid (show tv0.ownBlock ≠ some m ∧ tv0.ownBlock ≠ some p from by rw [HNO.out.1]; exact ⟨fun e => (by cases e), fun e => (by cases e)⟩)
  have P12 := Lib.hid (show Row w12 p 26 [.int .i64 room, .map (some m)] from (KW.out p H.out.rp.lt TM.out.2).trans H.out.rp)
  have S12 := Lib.hid (H.out.sm.block (KW.out m H.out.sm.lt TM.out.1))
  have D12 : Hid (Below w12.heap.size w12 w12.drew) := Lib.hid (Below.refl _ _).drew
  refine region_t (fun v => Below w12.heap.size w12 v) 6 (by kernel_rfl) (by kernel_rfl) (by kernel_rfl) D12.out ?_
  obtain ⟨wz, hwz⟩ : ∃ wz, w12.drew = wz := ⟨_, rfl⟩
  rw [hwz] at D12 ⊢
  clear hwz
  (refine t_read 0 rfl (by kernel_rfl) (by kernel_rfl) (by kernel_rfl) (t_free rfl) ?_ ?_ ?_; rotate_left; (focus (intro v hv; go_simp; rfl)); go_simp)
  (refine t_read 1 rfl (by kernel_rfl) (by kernel_rfl) (by kernel_rfl) (t_free rfl) ?_ ?_ ?_; rotate_left; (focus (intro v hv; go_simp; rfl)); go_simp)
  (refine t_read 2 rfl (by kernel_rfl) (by kernel_rfl) (by kernel_rfl) (t_free rfl) ?_ ?_ ?_; rotate_left; (focus (intro v hv; go_simp; rfl)); go_simp)
  (refine t_read 3 rfl (by kernel_rfl) (by kernel_rfl) (by kernel_rfl) (t_free rfl) ?_ ?_ ?_; rotate_left; (focus (intro v hv; have c1 := (hv.cell (p := ⟨p, 1, none⟩) P12.out.lt).trans P12.out.k2.2; go_simp; rfl)); go_simp)
  (refine t_read 4 rfl (by kernel_rfl) (by kernel_rfl) (by kernel_rfl) (t_free rfl) ?_ ?_ ?_; rotate_left; (focus (intro v hv; go_simp; rfl)); go_simp)
  (refine t_read 5 rfl (by kernel_rfl) (by kernel_rfl) (by kernel_rfl) (t_free rfl) ?_ ?_ ?_; rotate_left; (focus (intro v hv; refine lg_all 50 (.tmp 9) ?_ w1.heap.size ?_ _ _ _ (R12.out.below hv R12.out.lt) Tryd.underlying50 rfl SZ.out; (focus rfl); (focus go_simp))); go_simp)
  (refine t_last 6 rfl (by kernel_rfl) rfl (by kernel_rfl) (by kernel_rfl) ?_; intro K hK)
  refine map_put rfl _ _ _ 24 50 rfl map_type m _ _ (by go_simp) (S12.out.kept D12.out) (by have := HN.out; omega) sm (.agg (fiC sm v7 0 v11).toArray) (by go_simp) HSZ.out (by go_simp) (MX (putX X ⟨⟨sm, b, 0, timedL tt time⟩, v7, v11⟩)) (put_ris HRIS.out) (fun q => put_mx (y := ⟨⟨sm, b, 0, timedL tt time⟩, v7, v11⟩) HRIS.out q) ?_
  intro w13 hsm7 hg7 hz7
  refine hK _ _ ?_
  have ZD := Z12.out.trans (D12.out.mono (Nat.zero_le _))
  have hwl : w.heap.size ≤ w12.heap.size := by rw [U12.out.size]; exact Nat.le_trans B10.out.size BB11.out.size
  have KD : ∀ g, g < w.heap.size → tv0.ownBlock ≠ some g → wz.heap[g]? = w.heap[g]? := fun g hg hn => (D12.out.block g (Nat.lt_of_lt_of_le hg hwl)).trans (KW.out g hg hn)
  have PP := H.out.put (w1 := wz) (w2 := w13) (y := ⟨⟨sm, b, 0, timedL tt time⟩, v7, v11⟩) tv0.ownBlock KD (Nat.le_trans hwl D12.out.size) (fun g e => by rw [HNO.out.1] at e; cases e) (by have := hsm7.tight; rw [mx_len] at this; exact this) hg7
    ((V12.out.base (Nat.zero_le _)).kept D12.out) (O12.out.kept D12.out)
    (fun g e => .inl (Nat.le_trans BT6.out.size (V7O.out g e))) (fun g e => (W11.out g e).elim (fun e2 => by rw [HNO.out.1] at e2; cases e2) (fun e2 => .inl (Nat.le_trans B10.out.size e2))) ZD.os ZD.tape ZD.output
  have C7 := Lib.hid PP.1
  have F7 := Lib.hid PP.2
  clear hsm7 hg7 hz7 ZD hwl KD PP
  go_simp
  go_wp2_with fail
  go_ret2
  exact ⟨rfl, _, rfl, C7.out, F7.out⟩
set_option maxRecDepth 100000 in
set_option maxHeartbeats 8000000 in
theorem cput_new_true {p m T : Nat} {room : Int} {X : List FX} {S : Nat → Prop} {w : World} {th : Bool} {s0 : ByteArray} {ba : Option Addr} {bn bc su0 : Nat} {tv0 : Value} {bb : List UInt8} {tt : List Int} (a : Option Addr) (n c : Nat) (b : List UInt8) (time : Int)
    (h : CK w p m room X S) (hb : Rd w a n c b) (hn1 : 1 ≤ n ∧ n ≤ 256) (ht : SI64 time) (hK : Ks w) (hT : T ≤ 899) (h256 : ∀ x ∈ X, x.f.b.length ≤ 256) (hn : X.length ≤ 524288) (hrm : 0 ≤ room ∧ room ≤ 524288) (hus : usedC (X.map (·.f)) ≤ 524288)
    (hfd : Found w m X T b th s0 ba bn bc su0 tv0 bb tt) (hth : th = true) (hne : bb ≠ b) (hin : ¬ sumOf bb = s0) (hfull : ¬ room < (usedC (X.map (·.f)) : Int) - bn + n) :
    Calls Tryd.prog 4 #[.pointer (some ⟨p, 0, none⟩), .slice a n c, .int .i64 time] w fun e w' => e = .returned (.tuple #[.string (sumOf b), .int .i64 0]) ∧ ∃ y : FX, y.f = ⟨sumOf b, b, 0, timedL tt time⟩ ∧ CK w' p m room (putX X y) (fun k => S k ∨ (w.heap.size ≤ k ∧ k < w'.heap.size)) ∧ Ft S w w' := by
  have H := Lib.hid h
  have HR := Lib.hid (fun w' (hb2 : Below w.heap.size w w') => cready p m room w' (h.mono hb2).rp)
  have HP := Lib.hid (pin (n : Int) 1 256 true (by unfold in64; simp; omega))
  have HSUM := Lib.hid (show ∀ w', Below w.heap.size w w' → Calls Tryd.prog 21 #[.slice a n c] w' fun e w2 => e = .returned (.string (sumOf b)) ∧ Below w'.heap.size w' w2 from fun w' hb2 => shasum_any a n c b w' (hK.below hb2 hK.pos) (hb.mono hb2) (by omega))
  have HEQ := Lib.hid (fun w' (hb2 : Below w.heap.size w w') => bequal ba a bn bc n c bb b w' (hfd.rd.mono hb2) (hb.mono hb2))
  have HIN := Lib.hid (fun w' (hb2 : Below w.heap.size w w') => cintact s0 (.slice ba bn bc) tv0 ba bn bc su0 bb w' rfl (hfd.rd.mono hb2) (by have := hfd.b2; omega) (hK.below hb2 hK.pos))
  have HCL := Lib.hid (fun w' (hb2 : Below w.heap.size w w') => fclone a n c b w' (hb.mono hb2) (by omega))
  have HWI := Lib.hid (fun w' (hb2 : Below w.heap.size w w') => cwith tv0 tt time w' (hfd.ot.kept hb2) hfd.t64 ht hfd.tr (by have := hfd.tl; omega))
  have HUS := Lib.hid (fun w' (hb2 : Below w.heap.size w w') => cused (h.mono hb2) h256 hn)
  have HF := Lib.hid hfd
  have FZ := Lib.hid file_zero
  have SZ := Lib.hid file_size
  have HTC := Lib.hid (lso_cell hfd.ot)
  have hb2n := hfd.b2
  have HN := Lib.hid hn
  obtain ⟨e0, x, hx, hxf, hxb, hxt, hxo⟩ := hfd.yes hth
  have HX := Lib.hid (show x ∈ X ∧ x.f.s = sumOf b ∧ x.bv.ownBlock = (Value.slice ba bn bc).ownBlock ∧ x.tv.ownBlock = tv0.ownBlock from ⟨hx, by rw [hxf, e0], by rw [hxb], by rw [hxt]⟩)
  clear e0 hx hxf hxb hxt hxo
  have HSZ := Lib.hid (show (sumOf b).size ≤ maxLen by rw [sumOf_size]; decide)
  have HRIS := Lib.hid h.sm.ris
  obtain ⟨sm, hsm⟩ : ∃ sm, sumOf b = sm := ⟨_, rfl⟩
  have LKF := Lib.hid (show ∀ w', Below w.heap.size w w' → (Instr.lookup 24 (.map (some m)) (.string sm) true).run Tryd.prog w' = .ok (.tuple #[.agg (fiC s0 (.slice ba bn bc) su0 tv0).toArray, .bool th]) w' from fun w' hb2 => by have := HF.out.lk w' hb2; rw [hsm] at this; exact this)
  rw [hsm] at HSUM HSZ HX ⊢
  rw [decide_eq_false hne] at HEQ
  rw [decide_eq_false hin] at HIN
  subst hth
  obtain ⟨U, hU⟩ : ∃ U, usedC (X.map (·.f)) = U := ⟨_, rfl⟩
  rw [hU] at HUS hfull hus
  have hw1 : IntKind.i64.wrap ((U : Int) - (bn : Int)) = (U : Int) - bn := by rw [IntKind.wrap_i64]; omega
  have hw2 : IntKind.i64.wrap ((U : Int) - (bn : Int) + (n : Int)) = (U : Int) - bn + n := by rw [IntKind.wrap_i64]; omega
  have hfull2 : (U : Int) - bn + n ≤ room := by omega
  clear h hb ht hK h256 hn hfd hne hin hsm hU hfull
  go_enter Tryd.func4, Tryd.ntmps4
  go_wp2_with (first
  | (go_at_call 19; (with_reducible refine (HR.out w (Below.refl _ _)).mono ?_); rintro e w0 ⟨rfl, rfl⟩)
  | (go_at_call 20; (with_reducible refine (HP.out w).mono ?_); rintro e w0 ⟨rfl, rfl⟩)
  | (go_at_call 21; (with_reducible refine (HSUM.out w (Below.refl _ _)).mono ?_); rintro e w1 ⟨rfl, hb1⟩; have B1 := Lib.hid hb1; have c1 := (H.out.mono hb1).rp.k2.2; have lk := LKF.out w1 hb1; clear hb1)
  | ((with_reducible refine alloc_row (o := ⟨some 9, _, _, _, _, _⟩) rfl _ rfl _ FZ.out ?_); intro w2 hr hb2 hz; have R2 := Lib.hid hr; have B2 := Lib.hid (B1.out.trans (hb2.mono B1.out.size)); clear hr hb2 hz c1 lk)
  | ((with_reducible refine store_row (o := ⟨none, _, _, _, _, _⟩) rfl _ (.tmp 9) _ rfl w1.heap.size (fiC s0 (.slice ba bn bc) su0 tv0) ?_ ?_ 50 _ R2.out ?_ ?_ ?_ ?_); (focus go_simp); (focus (first | (go_simp; done) | (go_simp; rfl))); (focus (exact SZ.out)); (focus rfl); (focus (exact fi_one _ _ _ _ rfl HTC.out)); intro w3 hr hu; have R3 := Lib.hid hr; have B3 := Lib.hid (B2.out.trans (hu.below B1.out.size)); obtain ⟨q0, q1, q2, q3⟩ := hr.k4; clear hr hu q0 q2)
  | (go_at_call 22; (with_reducible refine (HEQ.out w3 B3.out).mono ?_); rintro e w4 ⟨rfl, rfl⟩; clear q1)
  | ((with_reducible refine load_rowg (o := ⟨some 36, _, _, _, _, _⟩) 1 true 35 rfl _ _ rfl w1.heap.size _ (fiC s0 (.slice ba bn bc) su0 tv0) _ R3.out Tryd.underlying50 rfl ?_ ?_ ?_ ?_ ?_); (focus rfl); (focus (first | (go_simp; done) | (go_simp; rfl))); (focus go_simp); (focus (exact SZ.out)))
  | (go_at_call 23; (with_reducible refine (HIN.out w3 B3.out).mono ?_); rintro e w5 ⟨rfl, hb5⟩; have B5 := Lib.hid (B3.out.trans (hb5.mono B3.out.size)); have R5 := Lib.hid (R3.out.below hb5 R3.out.lt); clear hb5))
  have D5 : Hid (Below w5.heap.size w5 w5.drew) := Lib.hid (Below.refl _ _).drew
  have C0 := Lib.hid (H.out.mono B5.out)
  refine region_h (fun v => Below w5.heap.size w5 v) (by kernel_rfl) (by kernel_rfl) D5.out ?_
  obtain ⟨wd, hwd⟩ : ∃ wd, w5.drew = wd := ⟨_, rfl⟩
  rw [hwd] at D5 ⊢
  clear hwd
  (refine h_read 0 rfl (by kernel_rfl) (by kernel_rfl) (h_free rfl) ?_ ?_ ?_; rotate_left; (focus (intro v hv; go_simp; rfl)); go_simp)
  (refine h_read 2 rfl (by kernel_rfl) (by kernel_rfl) (h_free rfl) ?_ ?_ ?_; rotate_left; (focus (intro v hv; go_simp; rfl)); go_simp)
  (refine h_read 3 rfl (by kernel_rfl) (by kernel_rfl) (h_free rfl) ?_ ?_ ?_; rotate_left; (focus (intro v hv; have c0 := (hv.cell (p := ⟨p, 0, none⟩) C0.out.rp.lt).trans C0.out.rp.k2.1; have q1 := (hv.cell (p := ⟨w1.heap.size, 1, none⟩) R5.out.lt).trans R5.out.k4.2.1; go_simp; rfl)); go_simp)
  (refine h_read 4 rfl (by kernel_rfl) (by kernel_rfl) (h_free rfl) ?_ ?_ ?_; rotate_left; (focus (intro v hv; go_simp; rfl)); go_simp)
  (refine h_read 6 rfl (by kernel_rfl) (by kernel_rfl) (h_free rfl) ?_ ?_ ?_; rotate_left; (focus (intro v hv; go_simp; rfl)); go_simp)
  (refine h_read 7 rfl (by kernel_rfl) (by kernel_rfl) (h_free rfl) ?_ ?_ ?_; rotate_left; (focus (intro v hv; go_simp; rfl)); go_simp)
  (refine h_read 9 rfl (by kernel_rfl) (by kernel_rfl) (h_free rfl) ?_ ?_ ?_; rotate_left; (focus (intro v hv; go_simp; rfl)); go_simp)
  (refine h_read 10 rfl (by kernel_rfl) (by kernel_rfl) (h_free rfl) ?_ ?_ ?_; rotate_left; (focus (intro v hv; go_simp; rfl)); go_simp)
  (refine h_read 11 rfl (by kernel_rfl) (by kernel_rfl) (h_free rfl) ?_ ?_ ?_; rotate_left; (focus (intro v hv; go_simp; rfl)); go_simp)
  (refine h_read 12 rfl (by kernel_rfl) (by kernel_rfl) (h_free rfl) ?_ ?_ ?_; rotate_left; (focus (intro v hv; have c0 := (hv.cell (p := ⟨p, 0, none⟩) C0.out.rp.lt).trans C0.out.rp.k2.1; have q1 := (hv.cell (p := ⟨w1.heap.size, 1, none⟩) R5.out.lt).trans R5.out.k4.2.1; go_simp; rfl)); go_simp)
  (refine h_call 1 rfl (by kernel_rfl) (h_free rfl) 13 ?_ ?_ ?_; rotate_left; (focus (go_simp; rfl)))
  refine (HUS.out wd (B5.out.trans (D5.out.mono B5.out.size))).mono ?_
  rintro e w6 ⟨rfl, hb6⟩
  have B6 := Lib.hid (D5.out.trans (hb6.mono D5.out.size))
  clear hb6
  refine ⟨_, rfl, B6.out, ?_⟩
  go_simp
  (refine h_read 5 rfl (by kernel_rfl) (by kernel_rfl) (h_free rfl) ?_ ?_ ?_; rotate_left; (focus (intro v hv; go_simp; rfl)); go_simp)
  (refine h_read 8 rfl (by kernel_rfl) (by kernel_rfl) (h_free rfl) ?_ ?_ ?_; rotate_left; (focus (intro v hv; go_simp; rfl)); go_simp)
  (refine h_read 13 rfl (by kernel_rfl) (by kernel_rfl) (h_free rfl) ?_ ?_ ?_; rotate_left; (focus (intro v hv; go_simp; rfl)); go_simp)
  refine h_done (by kernel_rfl) ?_
  have BT6 := Lib.hid (B5.out.trans (B6.out.mono B5.out.size))
  have R6 := Lib.hid (R5.out.below B6.out R5.out.lt)
  have L16 := Lib.hid (show w1.heap.size < w6.heap.size from R6.out.lt)
  go_wp2_with (first
    | (go_at_call 24; (with_reducible refine (HCL.out w6 BT6.out).mono ?_); rintro e w7 ⟨v7, rfl, hf7, hb7⟩; have V7 := Lib.hid hf7; have B7 := Lib.hid (BT6.out.trans (hb7.mono BT6.out.size)); have R7 := Lib.hid (R6.out.below hb7 R6.out.lt); have V7O := Lib.hid (fun g e => (World.ownsRow.lt V7.out g e).1); have VC := Lib.hid (fr_cell hf7); have VO := Lib.hid (fr_one hf7); clear hf7 hb7)
    | ((with_reducible refine store_cell (o := ⟨none, _, _, _, _, _⟩) rfl _ (.tmp 56) _ rfl w1.heap.size 0 (.string sm) ?_ ?_ rfl rfl 50 _ R7.out size_str ?_ ?_); (focus go_simp); (focus (first | (go_simp; done) | (go_simp; rfl))); (focus (show 0 < 4; decide)); intro w8 hr hu; have R8 := Lib.hid (show Row w8 w1.heap.size 50 (fiC sm (.slice ba bn bc) su0 tv0) from hr); have V8 := Lib.hid (V7.out.keep fun g e => hu.block g (Nat.ne_of_gt (Nat.lt_of_lt_of_le L16.out (V7O.out g e)))); have B8 := Lib.hid (B7.out.trans (hu.below B1.out.size)); clear hr hu)
    | ((with_reducible refine store_cell (o := ⟨none, _, _, _, _, _⟩) rfl _ (.tmp 57) _ rfl w1.heap.size 1 v7 ?_ ?_ VC.out VO.out 50 _ R8.out size_bs ?_ ?_); (focus go_simp); (focus (first | (go_simp; done) | (go_simp; rfl))); (focus (show 1 < 4; decide)); intro w9 hr hu; have R9 := Lib.hid (show Row w9 w1.heap.size 50 (fiC sm v7 su0 tv0) from hr); have V9 := Lib.hid (V8.out.keep fun g e => hu.block g (Nat.ne_of_gt (Nat.lt_of_lt_of_le L16.out (V7O.out g e)))); have B9 := Lib.hid (B8.out.trans (hu.below B1.out.size)); clear hr hu)
    | ((with_reducible refine store_cell (o := ⟨none, _, _, _, _, _⟩) rfl _ (.tmp 58) _ rfl w1.heap.size 2 (.int .i64 0) ?_ ?_ rfl rfl 50 _ R9.out size_int ?_ ?_); (focus go_simp); (focus (first | (go_simp; done) | (go_simp; rfl))); (focus (show 2 < 4; decide)); intro w10 hr hu; have R10 := Lib.hid (show Row w10 w1.heap.size 50 (fiC sm v7 0 tv0) from hr); have V10 := Lib.hid (V9.out.keep fun g e => hu.block g (Nat.ne_of_gt (Nat.lt_of_lt_of_le L16.out (V7O.out g e)))); have B10 := Lib.hid (B9.out.trans (hu.below B1.out.size)); obtain ⟨r0, r1, r2, r3⟩ := hr.k4; clear hr hu r0 r1 r2)
    | (go_at_call 25; (with_reducible refine (HWI.out w10 B10.out).mono ?_); rintro e w11 ⟨v11, rfl, hl5, ho5, hb5, hk5⟩; have O11 := Lib.hid hl5; have W11 := Lib.hid ho5; have K11 := Lib.hid (kp_below B10.out hk5); have BB11 := Lib.hid hb5; have R11 := Lib.hid (R10.out.keepK hk5 (fun e => Nat.lt_irrefl _ (Nat.lt_of_lt_of_le (HF.out.ot.blt e) B1.out.size))); have V11 := Lib.hid (V10.out.keep fun g e => hk5 g (V10.out.blt e) (fun e2 => Nat.lt_irrefl g (Nat.lt_of_lt_of_le (HF.out.ot.blt e2) (Nat.le_trans BT6.out.size (V7O.out g e))))); clear hl5 ho5 hb5 hk5 r3)
    | ((with_reducible refine store_cell (o := ⟨none, _, _, _, _, _⟩) rfl _ (.tmp 63) _ rfl w1.heap.size 3 v11 ?_ ?_ ?_ ?_ 50 _ R11.out size_is ?_ ?_); (focus go_simp); (focus (first | (go_simp; done) | (go_simp; rfl))); (focus (exact lso_cells O11.out)); (focus (exact lso_cell O11.out)); (focus (show 3 < 4; decide)); intro w12 hr hu; have R12 := Lib.hid (show Row w12 w1.heap.size 50 (fiC sm v7 0 v11) from hr); have U12 := Lib.hid hu; clear hr hu))
  have Z12 := Lib.hid (((B10.out.mono (Nat.zero_le _)).trans BB11.out).trans (U12.out.below (Nat.zero_le _)))
  have KW := Lib.hid (show ∀ g, g < w.heap.size → tv0.ownBlock ≠ some g → w12.heap[g]? = w.heap[g]? from fun g hg hn => (U12.out.block g (fun e => Nat.lt_irrefl _ (Nat.lt_of_lt_of_le (by rw [← e]; exact hg) B1.out.size))).trans (K11.out g hg hn))
  have O12 := Lib.hid (O11.out.upd U12.out (fun e => (lso_ty O11.out e).ne R11.out.ty (by decide) rfl))
  have V12 := Lib.hid (V11.out.keep fun g e => U12.out.block g (Nat.ne_of_gt (Nat.lt_of_lt_of_le L16.out (V7O.out g e))))
  have TM := Lib.hid (show tv0.ownBlock ≠ some m ∧ tv0.ownBlock ≠ some p from ⟨fun e => (H.out.bm HX.out.1).1 (HX.out.2.2.2.trans e), fun e => (H.out.bm HX.out.1).2.1 (HX.out.2.2.2.trans e)⟩)
  have P12 := Lib.hid (show Row w12 p 26 [.int .i64 room, .map (some m)] from (KW.out p H.out.rp.lt TM.out.2).trans H.out.rp)
  have S12 := Lib.hid (H.out.sm.block (KW.out m H.out.sm.lt TM.out.1))
  have D12 : Hid (Below w12.heap.size w12 w12.drew) := Lib.hid (Below.refl _ _).drew
  refine region_t (fun v => Below w12.heap.size w12 v) 6 (by kernel_rfl) (by kernel_rfl) (by kernel_rfl) D12.out ?_
  obtain ⟨wz, hwz⟩ : ∃ wz, w12.drew = wz := ⟨_, rfl⟩
  rw [hwz] at D12 ⊢
  clear hwz
  (refine t_read 0 rfl (by kernel_rfl) (by kernel_rfl) (by kernel_rfl) (t_free rfl) ?_ ?_ ?_; rotate_left; (focus (intro v hv; go_simp; rfl)); go_simp)
  (refine t_read 1 rfl (by kernel_rfl) (by kernel_rfl) (by kernel_rfl) (t_free rfl) ?_ ?_ ?_; rotate_left; (focus (intro v hv; go_simp; rfl)); go_simp)
  (refine t_read 2 rfl (by kernel_rfl) (by kernel_rfl) (by kernel_rfl) (t_free rfl) ?_ ?_ ?_; rotate_left; (focus (intro v hv; go_simp; rfl)); go_simp)
  (refine t_read 3 rfl (by kernel_rfl) (by kernel_rfl) (by kernel_rfl) (t_free rfl) ?_ ?_ ?_; rotate_left; (focus (intro v hv; have c1 := (hv.cell (p := ⟨p, 1, none⟩) P12.out.lt).trans P12.out.k2.2; go_simp; rfl)); go_simp)
  (refine t_read 4 rfl (by kernel_rfl) (by kernel_rfl) (by kernel_rfl) (t_free rfl) ?_ ?_ ?_; rotate_left; (focus (intro v hv; go_simp; rfl)); go_simp)
  (refine t_read 5 rfl (by kernel_rfl) (by kernel_rfl) (by kernel_rfl) (t_free rfl) ?_ ?_ ?_; rotate_left; (focus (intro v hv; refine lg_all 50 (.tmp 9) ?_ w1.heap.size ?_ _ _ _ (R12.out.below hv R12.out.lt) Tryd.underlying50 rfl SZ.out; (focus rfl); (focus go_simp))); go_simp)
  (refine t_last 6 rfl (by kernel_rfl) rfl (by kernel_rfl) (by kernel_rfl) ?_; intro K hK)
  refine map_put rfl _ _ _ 24 50 rfl map_type m _ _ (by go_simp) (S12.out.kept D12.out) (by have := HN.out; omega) sm (.agg (fiC sm v7 0 v11).toArray) (by go_simp) HSZ.out (by go_simp) (MX (putX X ⟨⟨sm, b, 0, timedL tt time⟩, v7, v11⟩)) (put_ris HRIS.out) (fun q => put_mx (y := ⟨⟨sm, b, 0, timedL tt time⟩, v7, v11⟩) HRIS.out q) ?_
  intro w13 hsm7 hg7 hz7
  refine hK _ _ ?_
  have ZD := Z12.out.trans (D12.out.mono (Nat.zero_le _))
  have hwl : w.heap.size ≤ w12.heap.size := by rw [U12.out.size]; exact Nat.le_trans B10.out.size BB11.out.size
  have KD : ∀ g, g < w.heap.size → tv0.ownBlock ≠ some g → wz.heap[g]? = w.heap[g]? := fun g hg hn => (D12.out.block g (Nat.lt_of_lt_of_le hg hwl)).trans (KW.out g hg hn)
  have PP := H.out.put (w1 := wz) (w2 := w13) (y := ⟨⟨sm, b, 0, timedL tt time⟩, v7, v11⟩) tv0.ownBlock KD (Nat.le_trans hwl D12.out.size) (fun g e => ⟨x, HX.out.1, HX.out.2.1, HX.out.2.2.2.trans e⟩) (by have := hsm7.tight; rw [mx_len] at this; exact this) hg7
    ((V12.out.base (Nat.zero_le _)).kept D12.out) (O12.out.kept D12.out)
    (fun g e => .inl (Nat.le_trans BT6.out.size (V7O.out g e))) (fun g e => (W11.out g e).elim (fun e2 => .inr ⟨x, HX.out.1, HX.out.2.1, HX.out.2.2.2.trans e2⟩) (fun e2 => .inl (Nat.le_trans B10.out.size e2))) ZD.os ZD.tape ZD.output
  have C7 := Lib.hid PP.1
  have F7 := Lib.hid PP.2
  clear hsm7 hg7 hz7 ZD hwl KD PP
  go_simp
  go_wp2_with fail
  go_ret2
  exact ⟨rfl, _, rfl, C7.out, F7.out⟩
end Go.Proofs.YtkncbckmgcklfaaDoor.W
