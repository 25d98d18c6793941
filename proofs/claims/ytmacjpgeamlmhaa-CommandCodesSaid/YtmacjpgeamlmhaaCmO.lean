/- LAYER 23 (command): words: a command, plain and as a value. LAYER 23 (command): within, caveats, texts, pieces of the program, and the closure that catches what they throw. -/
import Derived.Test.YtmacjpgeamlmhaaMfO
import Derived.Test.YtmacjpgeamlmhaaMfA
import Derived.Test.YtmacjpgeamlmhaaRfu
import Derived.Test.YtmacjpgeamlmhaaCavS
import Derived.Test.YtmacjpgeamlmhaaIz
import Derived.Test.YtmacjpgeamlmhaaCavK
set_option linter.unusedSimpArgs false
set_option linter.unusedVariables false
namespace Go.Proofs.Ytmacjpgeamlmhaa.W
open Go Go.ChangeShapes Go.WideShapes Go.ChangeAt Go.RowKit
open Go.Proofs.Ytmacjpgeamlmhaa.S

/-- a command, plain -/
structure Cm where
  cl : Int
  sq : Int
  kd : Int
  id : Int
  ep : Int
  V : List Cv
  sp : ByteArray
  nm : ByteArray
  nu : Int
  by' : Int
  ti : Int
  P : List Pc
/-- a command, and where its lists lie -/
structure CmX where
  m : Cm
  va : Option Addr
  vn : Nat
  vc : Nat
  pa : Option Addr
  pn : Nat
  pc : Nat
@[reducible] def cmC (cl sq kd id ep : Int) (va : Option Addr) (vn vc : Nat) (sp nm : ByteArray) (nu b ti : Int) (pa : Option Addr) (pn pc : Nat) : List Value :=
  [.int .i64 cl, .int .i64 sq, .int .i64 kd, .int .i64 id, .int .i64 ep, .slice va vn vc, .string sp, .string nm, .int .i64 nu, .int .i64 b, .int .i64 ti, .slice pa pn pc]
@[reducible] def CmX.cells (x : CmX) : List Value := cmC x.m.cl x.m.sq x.m.kd x.m.id x.m.ep x.va x.vn x.vc x.m.sp x.m.nm x.m.nu x.m.by' x.m.ti x.pa x.pn x.pc
structure CmX.fit (w : World) (x : CmX) : Prop where
  cl : SI64 x.m.cl
  sq : SI64 x.m.sq
  kd : SI64 x.m.kd
  id : SI64 x.m.id
  ep : SI64 x.m.ep
  V : Cvs w x.va x.vn x.vc x.m.V
  sp : x.m.sp.size ≤ maxLen
  nm : x.m.nm.size ≤ maxLen
  nu : SI64 x.m.nu
  by' : SI64 x.m.by'
  ti : SI64 x.m.ti
  P : Ls pcE w x.pa x.pn x.pc x.m.P
theorem CmX.fit.mono {w w' : World} {x : CmX} (h : x.fit w) (hb : Below w.heap.size w w') : x.fit w' :=
  ⟨h.cl, h.sq, h.kd, h.id, h.ep, h.V.mono hb, h.sp, h.nm, h.nu, h.by', h.ti, h.P.mono pcOk hb⟩
theorem cm_size : (Try.prog.info? 25).map (·.size) = some 12 := by kernel_rfl
theorem cm_zero : (Try.prog.info? 25).map (·.zero) = some (some (.agg (cmC 0 0 0 0 0 none 0 0 ⟨#[]⟩ ⟨#[]⟩ 0 0 0 none 0 0).toArray)) := by kernel_rfl
theorem cm_one (cl sq kd id ep : Int) (va : Option Addr) (vn vc : Nat) (sp nm : ByteArray) (nu b ti : Int) (pa : Option Addr) (pn pc : Nat) : ∀ v ∈ cmC cl sq kd id ep va vn vc sp nm nu b ti pa pn pc, v.oneCell' = true := by
  intro v hv
  simp at hv
  rcases hv with rfl | rfl | rfl | rfl | rfl | rfl | rfl | rfl | rfl | rfl | rfl | rfl <;> rfl
theorem errno_size : (Try.prog.info? 29).map (·.size) = some 1 := by kernel_rfl
theorem errno_zero : (Try.prog.info? 29).map (·.zero) = some (some (.int .i64 0)) := by kernel_rfl
/-- the cells of a command in memory -/
structure C12 (w : World) (g : Nat) (x : CmX) : Prop where
  c0 : w.cell? ⟨g, 0, none⟩ = some (.int .i64 x.m.cl)
  c1 : w.cell? ⟨g, 1, none⟩ = some (.int .i64 x.m.sq)
  c2 : w.cell? ⟨g, 2, none⟩ = some (.int .i64 x.m.kd)
  c3 : w.cell? ⟨g, 3, none⟩ = some (.int .i64 x.m.id)
  c4 : w.cell? ⟨g, 4, none⟩ = some (.int .i64 x.m.ep)
  c5 : w.cell? ⟨g, 5, none⟩ = some (.slice x.va x.vn x.vc)
  c6 : w.cell? ⟨g, 6, none⟩ = some (.string x.m.sp)
  c7 : w.cell? ⟨g, 7, none⟩ = some (.string x.m.nm)
  c8 : w.cell? ⟨g, 8, none⟩ = some (.int .i64 x.m.nu)
  c9 : w.cell? ⟨g, 9, none⟩ = some (.int .i64 x.m.by')
  c10 : w.cell? ⟨g, 10, none⟩ = some (.int .i64 x.m.ti)
  c11 : w.cell? ⟨g, 11, none⟩ = some (.slice x.pa x.pn x.pc)
theorem Row.cm {w : World} {g : Nat} {t : TypeId} {x : CmX} (h : Row w g t x.cells) : C12 w g x := by
  refine ⟨?_, ?_, ?_, ?_, ?_, ?_, ?_, ?_, ?_, ?_, ?_, ?_⟩ <;> (rw [h.cellV]; rfl)
-- ---- plain: whether it may be
def txtV (s : ByteArray) : Bool := decide (s.toList = []) || nameV s
def allLH (lo hi : Int) (l : List Int) : Bool := l.all (fun x => in64 x lo hi)
def cavsV (L : List Cv) : Bool := decide (L.length ≤ 8) && L.all Cv.ok
def Cm.ok (m : Cm) : Bool :=
  allLH 0 7 [m.cl] && (allLH 1 14 [m.kd] && (allLH 1 2147483648 [m.sq, m.id] && (allLH 0 2147483648 [m.ep, m.nu] && (allLH 0 1099511627776 [m.by'] && (allLH 0 1099511627776 [m.ti] && (cavsV m.V && ([m.sp, m.nm].all txtV && decide ((bytesM m.P).2 = 0))))))))
def Cm.err (m : Cm) : Int := if m.ok then 0 else 1
/-- a command as a value -/
def CmV (w : World) (v : Value) (m : Cm) : Prop := ∃ x : CmX, v = .agg x.cells.toArray ∧ x.m = m ∧ x.fit w
theorem CmV.mono {w w' : World} {v : Value} {m : Cm} (h : CmV w v m) (hb : Below w.heap.size w w') : CmV w' v m := by
  obtain ⟨x, h1, h2, h3⟩ := h
  exact ⟨x, h1, h2, h3.mono hb⟩
end Go.Proofs.Ytmacjpgeamlmhaa.W

namespace Go.Proofs.Ytmacjpgeamlmhaa.W
open Go Go.ChangeShapes Go.WideShapes Go.ChangeAt Go.RowKit
open Go.Proofs.Ytmacjpgeamlmhaa.S

theorem all_dropLH {lo hi : Int} {l : List Int} {k : Nat} (h : k < l.length) : allLH lo hi (l.drop k) = (in64 (l.getD k 0) lo hi && allLH lo hi (l.drop (k + 1))) := by
  rw [drop_getD l k h]; rfl
set_option maxHeartbeats 4000000 in
theorem cmwithin (lo hi : Int) (a : Option Addr) (n c : Nat) (l : List Int) (w : World) (h : Sl .i64 w a n l) :
    Calls Try.prog 40 #[.int .i64 lo, .int .i64 hi, .slice a n c] w fun x w' => x = rfEnd (allLH lo hi l) 1 ∧ w = w' := by
  have H := Lib.hid h
  have HL := Lib.hid h.1
  have hm := h.2.1
  obtain ⟨V, hV⟩ : ∃ V, allLH lo hi l = V := ⟨_, rfl⟩
  rw [hV]
  have HV := Lib.hid hV
  clear h hV
  go_enter Try.func40, Try.ntmps40
  go_wp2_with fail
  go_loop [10] (fun i => ∃ k : Nat, i = .int .i64 (k : Int) ∧ k ≤ n ∧ Hid (V = allLH lo hi (l.drop k))) (fun i => n - (intOf i).toNat)
  case atStart => exact ⟨0, rfl, Nat.zero_le _, Lib.hid HV.out.symm⟩
  case round =>
    obtain ⟨k, rfl, hk, HK⟩ := hrel
    by_cases hlt : k < n
    · obtain ⟨b, off, x, rfl, hx, hcell, x1, x2⟩ := H.out.at (Below.refl _ _) k hlt
      have hd := all_dropLH (lo := lo) (hi := hi) (l := l) (k := k) (by rw [HL.out]; exact hlt)
      have hg : l.getD k 0 = x := by simp [List.getD_eq_getElem?_getD, hx]
      rw [hg] at hd
      have hk2 := HK.out
      rw [hd] at hk2
      have g1 : (0 : Int) ≤ (k : Int) := by omega
      have g2 : (k : Int) < (n : Int) := by omega
      clear hx hd hg
      obtain ⟨v, hv⟩ : ∃ v, in64 x lo hi = v := ⟨_, rfl⟩
      have HW := Lib.hid (pin x lo hi v hv)
      rw [hv] at hk2
      clear hv
      cases v
      · have HF := Lib.hid (show V = false by rw [hk2]; rfl)
        have HU := Lib.hid (fun w => show Calls Try.prog 73 #[.bool false, .int .i64 1] w fun x w' => x = rfP 1 ∧ w = w' from runless false 1 w)
        clear hk2
        go_wp2_with (first
          | (go_at_call 74; (with_reducible refine (HW.out _).mono ?_); rintro x w' ⟨rfl, rfl⟩)
          | (go_at_call 73; (with_reducible refine (HU.out _).mono ?_); rintro x w' ⟨rfl, rfl⟩))
        exact ⟨rfl, by rw [HF.out]; rfl, rfl⟩
      · have HF := Lib.hid (show V = allLH lo hi (l.drop (k + 1)) by rw [hk2]; rfl)
        have HU := Lib.hid (fun w => show Calls Try.prog 73 #[.bool true, .int .i64 1] w fun x w' => x = .returned (.tuple #[]) ∧ w = w' from runless true 1 w)
        clear hk2
        go_wp2_with (first
          | (go_at_call 74; (with_reducible refine (HW.out _).mono ?_); rintro x w' ⟨rfl, rfl⟩)
          | (go_at_call 73; (with_reducible refine (HU.out _).mono ?_); rintro x w' ⟨rfl, rfl⟩))
        go_round
        case rel => exact ⟨k + 1, vint (by omega), by omega, HF⟩
        case measure => simp [intOf]; omega
    · obtain rfl : n = k := by omega
      have HF := Lib.hid (show V = true by rw [HK.out, List.drop_eq_nil_of_le (by rw [HL.out]; exact Nat.le_refl _)]; rfl)
      go_wp2_with fail
      go_end0
      exact ⟨by rw [HF.out]; rfl, rfl⟩
-- ---- caveats as a list of structs
@[reducible] def cvE : El Cv := ⟨22, 51, 3, 32, .agg #[.int .i64 0, .int .i64 0, .string ⟨#[]⟩], Cv.cells, fun _ c => c.fit⟩
theorem cvOk : cvE.Ok Try.prog where
  und := Try.underlying22
  info := by kernel_rfl
  zs := rfl
  pos := by decide
  len := fun _ => rfl
  one := fun s v hv => by simp [Cv.cells] at hv; rcases hv with rfl | rfl | rfl <;> rfl
  mono := fun _ _ _ h _ => h
  small := by decide
theorem cv_getD {L : List Cv} {i : Nat} {x : Cv} (h : L[i]? = some x) : L.getD i default = x := by simp [List.getD_eq_getElem?_getD, h]
theorem Ls.cvs {w : World} {a : Option Addr} {n c : Nat} {L : List Cv} (h : Ls cvE w a n c L) : Cvs w a n c L := by
  refine ⟨h.hlen, h.hle, h.hmax, h.hfit, h.hnil, ?_⟩
  rcases h.hcells with h0 | ⟨b, off, rfl, hlt, hc⟩
  · exact .inl h0
  · refine .inr ⟨b, off, rfl, hlt, fun i hi j v hj => ?_⟩
    have hx : L[i]? = some (L.getD i default) := by
      have hk : i < L.length := by rw [h.hlen]; exact hi
      simp [List.getD_eq_getElem?_getD, hk]
    exact hc i _ hx j v hj
theorem Cvs.ls {w : World} {a : Option Addr} {n c : Nat} {L : List Cv} (h : Cvs w a n c L) : Ls cvE w a n c L := by
  refine ⟨h.hlen, h.hle, h.hmax, h.hfit, h.hnil, ?_⟩
  rcases h.hcells with h0 | ⟨b, off, rfl, hlt, hc⟩
  · exact .inl h0
  · refine .inr ⟨b, off, rfl, hlt, fun i x hx j v hj => ?_⟩
    have hk : i < n := by rw [← h.hlen]; exact (List.getElem?_eq_some_iff.1 hx).1
    exact hc i hk j v (by rw [cv_getD hx]; exact hj)
theorem okc_next (L : List Cv) (k : Nat) (x : Cv) (h : L[k]? = some x) : (L.take (k + 1)).all Cv.ok = ((L.take k).all Cv.ok && x.ok) := by
  obtain ⟨h1, h2⟩ := List.getElem?_eq_some_iff.1 h
  rw [List.take_succ_eq_append_getElem h1, List.all_append, h2]; simp
theorem okc_bad (L : List Cv) (k : Nat) (x : Cv) (h : L[k]? = some x) (hx : x.ok = false) : L.all Cv.ok = false := by
  obtain ⟨h1, h2⟩ := List.getElem?_eq_some_iff.1 h
  rw [List.all_eq_false]
  exact ⟨x, by rw [← h2]; exact List.getElem_mem _, by simp [hx]⟩
theorem cvC (b o k : Nat) (w : World) (x : Cv) (hc : ∀ j v, (cvE.cells x)[j]? = some v → w.cell? ⟨b, o + k * cvE.k + j, none⟩ = some v) :
    w.cell? ⟨b, o + k * 3, none⟩ = some (.int .i64 x.kind) ∧ w.cell? ⟨b, o + k * 3 + 1, none⟩ = some (.int .i64 x.num) ∧ w.cell? ⟨b, o + k * 3 + 2, none⟩ = some (.string x.name) := ⟨hc 0 _ rfl, hc 1 _ rfl, hc 2 _ rfl⟩
theorem cv_size' : (Try.prog.info? 51).map (·.size) = some 3 := by kernel_rfl
set_option maxRecDepth 100000 in
set_option maxHeartbeats 4000000 in
theorem cmcaveats (a : Option Addr) (n c : Nat) (L : List Cv) (w : World) (h : Cvs w a n c L) :
    Calls Try.prog 41 #[.slice a n c] w fun x w' => x = rfEnd (cavsV L) 1 ∧ Below w.heap.size w w' := by
  have H := Lib.hid h.ls
  have HL := Lib.hid h.hlen
  have hm := h.hmax
  have hle := h.hle
  obtain ⟨V, hV⟩ : ∃ V, cavsV L = V := ⟨_, rfl⟩
  rw [hV]
  have HV := Lib.hid (show (decide (n ≤ 8) && L.all Cv.ok) = V by rw [← hV, ← h.hlen]; rfl)
  clear h hV
  by_cases h8 : n ≤ 8
  · have g8 : (n : Int) ≤ 8 := by omega
    have HU := Lib.hid (fun w => show Calls Try.prog 73 #[.bool true, .int .i64 1] w fun x w' => x = .returned (.tuple #[]) ∧ w = w' from runless true 1 w)
    go_enter Try.func41, Try.ntmps41
    go_wp2_with (go_at_call 73; (with_reducible refine (HU.out _).mono ?_); rintro x w' ⟨rfl, rfl⟩)
    go_loopw [10] (fun i wr => ∃ k : Nat, i = .int .i64 (k : Int) ∧ k ≤ n ∧ Hid ((L.take k).all Cv.ok = true) ∧ Hid (Below w.heap.size w wr)) (fun i _ => n - (intOf i).toNat)
    case atStart => exact ⟨0, rfl, Nat.zero_le _, Lib.hid rfl, Lib.hid (Below.refl _ _)⟩
    case round =>
      obtain ⟨k, rfl, hk, A, B⟩ := hrel
      by_cases hlt : k < n
      · obtain ⟨b, off, x, rfl, hx, hcell, hfx⟩ := H.out.at cvOk B.out k hlt
        have HONE := Lib.hid (fun w => ccheck x w hfx)
        obtain ⟨ok, hok⟩ : ∃ b, x.ok = b := ⟨_, rfl⟩
        have hnx := okc_next L k x hx
        rw [A.out, hok, Bool.true_and] at hnx
        have hbad : ok = false → V = false := fun e => by
          subst e
          rw [← HV.out, okc_bad L k x hx hok, Bool.and_false]
        have hce : x.err = if ok then 0 else 1 := by unfold Cv.err; rw [hok]
        rw [hce] at HONE
        obtain ⟨x0, x1, x2⟩ := cvC b off k wr x hcell
        obtain ⟨kind, num, name⟩ := x
        dsimp only at x0 x1 x2
        have g1 : (0 : Int) ≤ (k : Int) := by omega
        have g2 : (k : Int) < (n : Int) := by omega
        clear hx hcell hfx hok hce
        cases ok
        · have HF := Lib.hid (hbad rfl)
          have HO2 := Lib.hid (fun w => show Calls Try.prog 76 #[.agg #[.int .i64 kind, .int .i64 num, .string name]] w fun e w' => e = .returned (.int .i64 1) ∧ Below w.heap.size w w' from HONE.out w)
          clear HONE
          have HW := Lib.hid (fun w => show Calls Try.prog 75 #[.int .i64 1] w fun x w' => x = rfP 1 ∧ w = w' from rfwith 1 w)
          clear hnx hbad
          go_wp2_with (first
            | (go_at_call 76; (with_reducible refine (HO2.out _).mono ?_); rintro x w7 ⟨rfl, hb⟩; have B7 := Lib.hid ((B.out.alloc B.out.size _).trans (hb.mono (by have := B.out.size; simp; omega))); clear hb)
            | (go_at_call 75; (with_reducible refine (HW.out _).mono ?_); rintro x w' ⟨rfl, rfl⟩))
          exact ⟨rfl, by rw [HF.out]; rfl, B7.out⟩
        · have HN := Lib.hid hnx
          have HO2 := Lib.hid (fun w => show Calls Try.prog 76 #[.agg #[.int .i64 kind, .int .i64 num, .string name]] w fun e w' => e = .returned (.int .i64 0) ∧ Below w.heap.size w w' from HONE.out w)
          clear HONE
          have HW := Lib.hid (fun w => show Calls Try.prog 75 #[.int .i64 0] w fun x w' => x = .returned (.tuple #[]) ∧ w = w' from rfwith 0 w)
          clear hnx hbad
          go_wp2_with (first
            | (go_at_call 76; (with_reducible refine (HO2.out _).mono ?_); rintro x w7 ⟨rfl, hb⟩; have B7 := Lib.hid ((B.out.alloc B.out.size _).trans (hb.mono (by have := B.out.size; simp; omega))); clear hb)
            | (go_at_call 75; (with_reducible refine (HW.out _).mono ?_); rintro x w' ⟨rfl, rfl⟩))
          go_roundw
          case rel => exact ⟨k + 1, vint (by omega), by omega, HN, B7⟩
          case measure => simp [intOf]; omega
      · obtain rfl : n = k := by omega
        have ht : L.take n = L := List.take_of_length_le (by rw [HL.out]; exact Nat.le_refl _)
        have HF := Lib.hid (show V = true by rw [← HV.out, decide_eq_true h8]; rw [ht] at A; rw [A.out]; rfl)
        clear ht
        go_wp2_with fail
        go_end0
        exact ⟨by rw [HF.out]; rfl, B.out⟩
  · have g8 : ¬ (n : Int) ≤ 8 := by omega
    have HF := Lib.hid (show V = false by rw [← HV.out, decide_eq_false h8]; rfl)
    have HU := Lib.hid (fun w => show Calls Try.prog 73 #[.bool false, .int .i64 1] w fun x w' => x = rfP 1 ∧ w = w' from runless false 1 w)
    go_enter Try.func41, Try.ntmps41
    go_wp2_with (go_at_call 73; (with_reducible refine (HU.out _).mono ?_); rintro x w' ⟨rfl, rfl⟩)
    exact ⟨rfl, by rw [HF.out]; rfl, Below.refl _ _⟩
-- ---- texts
theorem txt_next (L : List ByteArray) (k : Nat) (x : ByteArray) (h : L[k]? = some x) : (L.take (k + 1)).all txtV = ((L.take k).all txtV && txtV x) := by
  obtain ⟨h1, h2⟩ := List.getElem?_eq_some_iff.1 h
  rw [List.take_succ_eq_append_getElem h1, List.all_append, h2]; simp
theorem txt_bad (L : List ByteArray) (k : Nat) (x : ByteArray) (h : L[k]? = some x) (hx : txtV x = false) : L.all txtV = false := by
  obtain ⟨h1, h2⟩ := List.getElem?_eq_some_iff.1 h
  rw [List.all_eq_false]
  exact ⟨x, by rw [← h2]; exact List.getElem_mem _, by simp [hx]⟩
set_option maxRecDepth 100000 in
set_option maxHeartbeats 4000000 in
theorem cmtexts (g n : Nat) (L : List ByteArray) (w : World) (h : Row w g 9 (L.map Value.string)) (hl : L.length = n) (hs : ∀ s ∈ L, s.size ≤ maxLen) (hn : n ≤ 100) :
    Calls Try.prog 42 #[.slice (some ⟨g, 0, none⟩) n n] w fun x w' => x = rfEnd (L.all txtV) 1 ∧ w = w' := by
  have H := Lib.hid h
  have HL := Lib.hid hl
  have HS := Lib.hid hs
  obtain ⟨V, hV⟩ : ∃ V, L.all txtV = V := ⟨_, rfl⟩
  rw [hV]
  have HV := Lib.hid hV
  clear h hV hl hs
  go_enter Try.func42, Try.ntmps42
  go_wp2_with fail
  go_loop [6] (fun i => ∃ k : Nat, i = .int .i64 (k : Int) ∧ k ≤ n ∧ Hid ((L.take k).all txtV = true)) (fun i => n - (intOf i).toNat)
  case atStart => exact ⟨0, rfl, Nat.zero_le _, Lib.hid rfl⟩
  case round =>
    obtain ⟨k, rfl, hk, A⟩ := hrel
    by_cases hlt : k < n
    · have hk1 : k < L.length := by rw [HL.out]; exact hlt
      obtain ⟨x, hx⟩ : ∃ x, L[k]? = some x := ⟨L[k], by simp [hk1]⟩
      have hcell := H.out.cellV k
      rw [List.getElem?_map, hx] at hcell
      simp only [Option.map_some] at hcell
      have hsx := HS.out x (List.mem_of_getElem? hx)
      have hnx := txt_next L k x hx
      rw [A.out, Bool.true_and] at hnx
      obtain ⟨ok, hok⟩ : ∃ b, txtV x = b := ⟨_, rfl⟩
      rw [hok] at hnx
      have hbad : ok = false → V = false := fun e => by
        subst e
        rw [← HV.out, txt_bad L k x hx hok]
      have g1 : (0 : Int) ≤ (k : Int) := by omega
      have g2 : (k : Int) < (n : Int) := by omega
      obtain ⟨e2, he2⟩ : ∃ b, nameV x = b := ⟨_, rfl⟩
      have HN := Lib.hid (fun w => (by have q := cname x w hsx; rw [he2] at q; exact q : Calls Try.prog 77 #[.string x] w fun e w' => e = .returned (.bool e2) ∧ w = w'))
      have hee : (decide (x.toList = []) || e2) = ok := by rw [← hok, ← he2]; rfl
      have ht : Hid (∀ w, Calls Try.prog 73 #[.bool true, .int .i64 1] w fun x w' => x = .returned (.tuple #[]) ∧ w = w') := Lib.hid (fun w => runless true 1 w)
      have hf : Hid (∀ w, Calls Try.prog 73 #[.bool false, .int .i64 1] w fun x w' => x = rfP 1 ∧ w = w') := Lib.hid (fun w => runless false 1 w)
      clear hx hsx hok he2
      by_cases he : x.toList = []
      · have he3 : x.toList.isEmpty = true := by rw [he]; rfl
        rw [decide_eq_true he] at hee
        have HN2 := Lib.hid (show (L.take (k + 1)).all txtV = true by rw [hnx, ← hee]; rfl)
        clear hee hbad hnx
        go_wp2_with (first
          | (go_at_call 73; (with_reducible refine (ht.out _).mono ?_); rintro x w' ⟨rfl, rfl⟩))
        go_round
        case rel => exact ⟨k + 1, vint (by omega), by omega, HN2⟩
        case measure => simp [intOf]; omega
      · have he3 : x.toList.isEmpty = false := by cases hq : x.toList with
          | nil => exact absurd hq he
          | cons _ _ => rfl
        rw [decide_eq_false he, Bool.false_or] at hee
        subst hee
        cases e2
        · have HF := Lib.hid (hbad rfl)
          clear hbad hnx
          go_wp2_with (first
            | (go_at_call 77; (with_reducible refine (HN.out _).mono ?_); rintro x w' ⟨rfl, rfl⟩)
            | (go_at_call 73; (with_reducible refine (hf.out _).mono ?_); rintro x w' ⟨rfl, rfl⟩))
          exact ⟨rfl, by rw [HF.out]; rfl, rfl⟩
        · have HN2 := Lib.hid hnx
          clear hbad hnx
          go_wp2_with (first
            | (go_at_call 77; (with_reducible refine (HN.out _).mono ?_); rintro x w' ⟨rfl, rfl⟩)
            | (go_at_call 73; (with_reducible refine (ht.out _).mono ?_); rintro x w' ⟨rfl, rfl⟩))
          go_round
          case rel => exact ⟨k + 1, vint (by omega), by omega, HN2⟩
          case measure => simp [intOf]; omega
    · obtain rfl : n = k := by omega
      have ht : L.take n = L := List.take_of_length_le (by rw [HL.out]; exact Nat.le_refl _)
      have HF := Lib.hid (show V = true by rw [← HV.out]; rw [ht] at A; rw [A.out])
      clear ht
      go_wp2_with fail
      go_end0
      exact ⟨by rw [HF.out]; rfl, rfl⟩
-- ---- pieces
theorem bytesM_two (P : List Pc) : (bytesM P).2 = 0 ∨ (bytesM P).2 = 1 := by unfold bytesM; split <;> simp
set_option maxRecDepth 100000 in
set_option maxHeartbeats 4000000 in
theorem cmpieces (a : Option Addr) (n c : Nat) (P : List Pc) (w : World) (h : Ls pcE w a n c P) :
    Calls Try.prog 43 #[.slice a n c] w fun x w' => x = rfEnd (decide ((bytesM P).2 = 0)) 1 ∧ Below w.heap.size w w' := by
  have HB := Lib.hid (pbytes a n c P w h)
  obtain ⟨b, e, hbe⟩ : ∃ b e, bytesM P = (b, e) := ⟨_, _, rfl⟩
  have he : e = 0 ∨ e = 1 := by have := bytesM_two P; rw [hbe] at this; exact this
  rw [hbe] at HB ⊢
  dsimp only at HB ⊢
  clear h hbe
  rcases he with rfl | rfl
  · have HW := Lib.hid (fun w => show Calls Try.prog 75 #[.int .i64 0] w fun x w' => x = .returned (.tuple #[]) ∧ w = w' from rfwith 0 w)
    go_enter Try.func43, Try.ntmps43
    go_wp2_with (first
      | (go_at_call 78; (with_reducible refine HB.out.mono ?_); rintro x w7 ⟨rfl, hb⟩; have B7 := Lib.hid hb; clear hb)
      | (go_at_call 75; (with_reducible refine (HW.out _).mono ?_); rintro x w' ⟨rfl, rfl⟩))
    go_end0
    exact ⟨rfl, B7.out⟩
  · have HW := Lib.hid (fun w => show Calls Try.prog 75 #[.int .i64 1] w fun x w' => x = rfP 1 ∧ w = w' from rfwith 1 w)
    go_enter Try.func43, Try.ntmps43
    go_wp2_with (first
      | (go_at_call 78; (with_reducible refine HB.out.mono ?_); rintro x w7 ⟨rfl, hb⟩; have B7 := Lib.hid hb; clear hb)
      | (go_at_call 75; (with_reducible refine (HW.out _).mono ?_); rintro x w' ⟨rfl, rfl⟩))
    exact ⟨rfl, rfl, B7.out⟩
-- ---- the deferred closure
theorem chk1_idle (g : Nat) (e0 : Int) (w : World) (h : Row w g 29 [.int .i64 e0]) :
    CallsD Try.prog 38 #[.pointer (some ⟨g, 0, none⟩)] .returning w fun e u' w' => e = .returned (.tuple #[]) ∧ u' = .returning ∧ Row w' g 29 [.int .i64 0] ∧ Below g w w' := by
  have hc := h.k0
  have hz := h.frozen 0
  refine callsD_of_wpS Try.func38 rfl fun c₀ cs hu => ?_
  apply wpS_region
  simp [wpOpsS, go_sem, recoverD, hu, Try.ntmps38, Exit.thenS]
  refine (rcaught0 w).mono ?_
  rintro x w1 ⟨rfl, hb⟩
  have hr1 := h.below hb h.lt
  have hc1 := hr1.k0
  have hz1 := hr1.frozen 0
  simp [go_sem, hc1, hz1, bodyPostS, results, Try.results38]
  exact ⟨.returning, by rw [← hu], rfl, hr1.setV 0 _, (hb.mono (Nat.le_of_lt h.lt)).setCell (Nat.le_refl _) _⟩
theorem chk1_caught (g : Nat) (e0 e : Int) (w : World) (h : Row w g 29 [.int .i64 e0]) :
    CallsD Try.prog 38 #[.pointer (some ⟨g, 0, none⟩)] (.panicking [{ v := rfV e, recovered := false }]) w fun x u' w' => x = .returned (.tuple #[]) ∧ u' = .panicking [{ v := rfV e, recovered := true }] ∧ Row w' g 29 [.int .i64 e] ∧ Below g w w' := by
  have hc := h.k0
  have hz := h.frozen 0
  refine callsD_of_wpS Try.func38 rfl fun c₀ cs hu => ?_
  apply wpS_region
  simp [wpOpsS, go_sem, recoverD, hu, Try.ntmps38, Exit.thenS]
  refine (rcaught1 e w).mono ?_
  rintro x w1 ⟨rfl, hb⟩
  have hr1 := h.below hb h.lt
  have hc1 := hr1.k0
  have hz1 := hr1.frozen 0
  simp [go_sem, hc1, hz1, bodyPostS, results, Try.results38]
  exact ⟨hr1.setV 0 _, (hb.mono (Nat.le_of_lt h.lt)).setCell (Nat.le_refl _) _⟩
end Go.Proofs.Ytmacjpgeamlmhaa.W
