/- LAYER 16 (msg): in, fields, only of the reference. -/
import Derived.Test.YtdcioeoofngibaaMsO
set_option linter.unusedSimpArgs false
set_option linter.unusedVariables false
namespace Go.Proofs.Ytdcioeoofngibaa.W
open Go Go.ChangeShapes Go.WideShapes Go.ChangeAt Go.RowKit

set_option maxHeartbeats 400000 in
theorem vin (n hi : Int) (w : World) : Calls Try.prog 18 #[.int .i64 n, .int .i64 hi] w fun e w' => e = .returned (.bool (inV n 0 hi)) ∧ w = w' := by
  by_cases h1 : 0 ≤ n <;> by_cases h2 : n ≤ hi
  all_goals
    go_enter Try.func18, Try.ntmps18
    go_wp2
    go_ret
    exact ⟨one (vbool (by unfold inV; simp [h1, h2])), rfl⟩
theorem fields_lt (k : Int) : ∀ f ∈ fieldsV k, f < 9 := by
  unfold fieldsV
  repeat' split
  all_goals decide
theorem fields_len (k : Int) : (fieldsV k).length ≤ 5 := by
  unfold fieldsV
  repeat' split
  all_goals decide
/-- the fields of a kind, as a slice of their own -/
structure Fs (w : World) (base : Nat) (a : Option Addr) (n : Nat) (l : List Nat) : Prop where
  hlen : l.length = n
  hc : n = 0 ∨ ∃ b, a = some ⟨b, 0, none⟩ ∧ base ≤ b ∧ b < w.heap.size ∧ ∀ i, i < n → w.cell? ⟨b, i, none⟩ = some (.int .i64 ((l.getD i 0 : Nat) : Int))
theorem fs_new (w : World) (t : TypeId) (l : List Nat) (cs : Array Value) (n : Nat) (hn : l.length = n) (h : cs = (l.map fun (f : Nat) => Value.int .i64 (f : Int)).toArray) : Fs (w.alloc (.cells cs t)) w.heap.size (some ⟨w.heap.size, 0, none⟩) n l := by
  subst h
  refine ⟨hn, .inr ⟨_, rfl, Nat.le_refl _, by simp, fun i hi => ?_⟩⟩
  rw [cell_of_row _ w.heap.size i _ t _ (heap_alloc_new w _)]
  simp [hn, hi]
set_option maxRecDepth 100000 in
set_option maxHeartbeats 4000000 in
theorem vfields (k : Int) (w : World) : Calls Try.prog 42 #[.int .i64 k] w fun e w' => ∃ a n c, e = .returned (.slice a n c) ∧ Fs w' w.heap.size a n (fieldsV k) ∧ Below w.heap.size w w' := by
  by_cases k1 : k = 1
  · subst k1
    rw [show fieldsV 1 = [0, 1] from rfl]
    go_enter Try.func42, Try.ntmps42
    go_wp2_with fail
    go_ret
    exact ⟨_, _, _, rfl, fs_new _ _ [0, 1] _ _ rfl rfl, (Below.refl _ _).alloc (Nat.le_refl _) _⟩
  by_cases k2 : k = 2
  · subst k2
    rw [show fieldsV 2 = [5] from rfl]
    go_enter Try.func42, Try.ntmps42
    go_wp2_with fail
    go_ret
    exact ⟨_, _, _, rfl, fs_new _ _ [5] _ _ rfl rfl, (Below.refl _ _).alloc (Nat.le_refl _) _⟩
  by_cases k3 : k = 3
  · subst k3
    rw [show fieldsV 3 = [0, 1] from rfl]
    go_enter Try.func42, Try.ntmps42
    go_wp2_with fail
    go_ret
    exact ⟨_, _, _, rfl, fs_new _ _ [0, 1] _ _ rfl rfl, (Below.refl _ _).alloc (Nat.le_refl _) _⟩
  by_cases k4 : k = 4
  · subst k4
    rw [show fieldsV 4 = [5] from rfl]
    go_enter Try.func42, Try.ntmps42
    go_wp2_with fail
    go_ret
    exact ⟨_, _, _, rfl, fs_new _ _ [5] _ _ rfl rfl, (Below.refl _ _).alloc (Nat.le_refl _) _⟩
  by_cases k5 : k = 5
  · subst k5
    rw [show fieldsV 5 = [0, 1, 2, 3, 6] from rfl]
    go_enter Try.func42, Try.ntmps42
    go_wp2_with fail
    go_ret
    exact ⟨_, _, _, rfl, fs_new _ _ [0, 1, 2, 3, 6] _ _ rfl rfl, (Below.refl _ _).alloc (Nat.le_refl _) _⟩
  by_cases k6 : k = 6
  · subst k6
    rw [show fieldsV 6 = [0, 3, 5] from rfl]
    go_enter Try.func42, Try.ntmps42
    go_wp2_with fail
    go_ret
    exact ⟨_, _, _, rfl, fs_new _ _ [0, 3, 5] _ _ rfl rfl, (Below.refl _ _).alloc (Nat.le_refl _) _⟩
  by_cases k7 : k = 7
  · subst k7
    rw [show fieldsV 7 = [0, 1, 3, 4, 7] from rfl]
    go_enter Try.func42, Try.ntmps42
    go_wp2_with fail
    go_ret
    exact ⟨_, _, _, rfl, fs_new _ _ [0, 1, 3, 4, 7] _ _ rfl rfl, (Below.refl _ _).alloc (Nat.le_refl _) _⟩
  by_cases k8 : k = 8
  · subst k8
    rw [show fieldsV 8 = [0, 7, 8] from rfl]
    go_enter Try.func42, Try.ntmps42
    go_wp2_with fail
    go_ret
    exact ⟨_, _, _, rfl, fs_new _ _ [0, 7, 8] _ _ rfl rfl, (Below.refl _ _).alloc (Nat.le_refl _) _⟩
  by_cases k9 : k = 9
  · subst k9
    rw [show fieldsV 9 = [5, 8] from rfl]
    go_enter Try.func42, Try.ntmps42
    go_wp2_with fail
    go_ret
    exact ⟨_, _, _, rfl, fs_new _ _ [5, 8] _ _ rfl rfl, (Below.refl _ _).alloc (Nat.le_refl _) _⟩
  by_cases k10 : k = 10
  · subst k10
    rw [show fieldsV 10 = [3, 8] from rfl]
    go_enter Try.func42, Try.ntmps42
    go_wp2_with fail
    go_ret
    exact ⟨_, _, _, rfl, fs_new _ _ [3, 8] _ _ rfl rfl, (Below.refl _ _).alloc (Nat.le_refl _) _⟩
  by_cases k11 : k = 11
  · subst k11
    rw [show fieldsV 11 = [3, 5, 7, 8] from rfl]
    go_enter Try.func42, Try.ntmps42
    go_wp2_with fail
    go_ret
    exact ⟨_, _, _, rfl, fs_new _ _ [3, 5, 7, 8] _ _ rfl rfl, (Below.refl _ _).alloc (Nat.le_refl _) _⟩
  rw [show fieldsV k = [] by unfold fieldsV; simp [k1, k2, k3, k4, k5, k6, k7, k8, k9, k10, k11]]
  have j1 : (k == 1) = false := by simpa using k1
  have j2 : (k == 2) = false := by simpa using k2
  have j3 : (k == 3) = false := by simpa using k3
  have j4 : (k == 4) = false := by simpa using k4
  have j5 : (k == 5) = false := by simpa using k5
  have j6 : (k == 6) = false := by simpa using k6
  have j7 : (k == 7) = false := by simpa using k7
  have j8 : (k == 8) = false := by simpa using k8
  have j9 : (k == 9) = false := by simpa using k9
  have j10 : (k == 10) = false := by simpa using k10
  have j11 : (k == 11) = false := by simpa using k11
  clear k1 k2 k3 k4 k5 k6 k7 k8 k9 k10 k11
  go_enter Try.func42, Try.ntmps42
  go_wp2_with fail
  go_ret
  exact ⟨none, 0, 0, rfl, ⟨rfl, .inl rfl⟩, Below.refl _ _⟩
/-- a message with its bytes and entries -/
abbrev Mt := Ms × List UInt8 × List (En × List UInt8)
def setT (o m : Mt) (f : Nat) : Mt :=
  if f = 0 then ({ o.1 with ix := m.1.ix }, o.2.1, o.2.2) else if f = 1 then ({ o.1 with lt := m.1.lt }, o.2.1, o.2.2) else if f = 2 then ({ o.1 with cm := m.1.cm }, o.2.1, o.2.2) else if f = 3 then ({ o.1 with rn := m.1.rn }, o.2.1, o.2.2)
  else if f = 4 then ({ o.1 with cf := m.1.cf }, o.2.1, o.2.2) else if f = 5 then ({ o.1 with ok := m.1.ok }, o.2.1, o.2.2) else if f = 6 then ({ o.1 with ea := m.1.ea, en := m.1.en, ec := m.1.ec }, o.2.1, m.2.2)
  else if f = 7 then ({ o.1 with a := m.1.a, n := m.1.n, c := m.1.c }, m.2.1, o.2.2) else ({ o.1 with s := m.1.s }, o.2.1, o.2.2)
def bareT (m : Ms) : Mt := (⟨m.k, m.fr, m.dt, m.tm, 0, 0, 0, 0, 0, false, none, 0, 0, none, 0, 0, ByteArray.empty⟩, [], [])
def Mt.pl (o : Mt) : MF := o.1.pl o.2.1 o.2.2
theorem setT_pl (o m : Mt) (f : Nat) : (setT o m f).pl = o.pl.setF m.pl f := by
  unfold setT MF.setF Mt.pl Ms.pl
  repeat' split
  all_goals first | rfl | (exfalso; omega)
theorem setT_fit {w : World} {o m : Mt} (f : Nat) (h : MsF w o.1 o.2.1 o.2.2) (k : MsF w m.1 m.2.1 m.2.2) : MsF w (setT o m f).1 (setT o m f).2.1 (setT o m f).2.2 := by
  unfold setT
  repeat' split
  · exact { h with ix := k.ix }
  · exact { h with lt := k.lt }
  · exact { h with cm := k.cm }
  · exact { h with rn := k.rn }
  · exact { h with cf := k.cf }
  · exact ⟨h.k, h.fr, h.dt, h.tm, h.ix, h.lt, h.cm, h.rn, h.cf, h.es, h.rd, h.st⟩
  · exact ⟨h.k, h.fr, h.dt, h.tm, h.ix, h.lt, h.cm, h.rn, h.cf, k.es, h.rd, h.st⟩
  · exact ⟨h.k, h.fr, h.dt, h.tm, h.ix, h.lt, h.cm, h.rn, h.cf, h.es, k.rd, h.st⟩
  · exact { h with st := k.st }
theorem foldT_pl (m : Mt) : ∀ (fs : List Nat) (o : Mt), (fs.foldl (fun o f => setT o m f) o).pl = fs.foldl (fun o f => o.setF m.pl f) o.pl
  | [], _ => rfl
  | f :: fs, o => by rw [List.foldl_cons, List.foldl_cons, foldT_pl m fs, setT_pl]
theorem foldT_fit {w : World} {m : Mt} (k : MsF w m.1 m.2.1 m.2.2) : ∀ (fs : List Nat) (o : Mt), MsF w o.1 o.2.1 o.2.2 → MsF w (fs.foldl (fun o f => setT o m f) o).1 (fs.foldl (fun o f => setT o m f) o).2.1 (fs.foldl (fun o f => setT o m f) o).2.2
  | [], _, h => h
  | f :: fs, o, h => foldT_fit k fs _ (setT_fit f h k)
def onlyT (m : Mt) (n : Nat) : Mt := ((fieldsV m.1.k).take n).foldl (fun o f => setT o m f) (bareT m.1)
theorem onlyT_step (m : Mt) (n : Nat) (h : n < (fieldsV m.1.k).length) : onlyT m (n + 1) = setT (onlyT m n) m ((fieldsV m.1.k).getD n 0) := by
  unfold onlyT
  rw [List.take_succ_eq_append_getElem h, List.foldl_append]
  simp [List.getD_eq_getElem?_getD, h]
theorem I64z : I64 0 := ⟨by decide, by decide⟩
theorem emptyz : ByteArray.empty.size ≤ maxLen := by decide
theorem bareT_fit {w : World} {m : Mt} (h : MsF w m.1 m.2.1 m.2.2) : MsF w (bareT m.1).1 (bareT m.1).2.1 (bareT m.1).2.2 :=
  ⟨h.k, h.fr, h.dt, h.tm, I64z, I64z, I64z, I64z, I64z, Ents.nil w, Rd_nil w, emptyz⟩
theorem onlyT_pl (m : Mt) : (onlyT m (fieldsV m.1.k).length).pl = m.pl.only := by
  unfold onlyT MF.only
  rw [List.take_of_length_le (Nat.le_refl _), foldT_pl]
  rfl
theorem ms_zero : (Try.prog.info? 25).map (·.zero) = some (some (.agg (Ms.cells (bareT ⟨0, 0, 0, 0, 0, 0, 0, 0, 0, false, none, 0, 0, none, 0, 0, ByteArray.empty⟩).1).toArray)) := by kernel_rfl
theorem built_ms (k fr dt tm : Int) : Try.prog.built 25 [(0, .int .i64 k), (1, .int .i64 fr), (2, .int .i64 dt), (3, .int .i64 tm)] = some (Ms.cells ⟨k, fr, dt, tm, 0, 0, 0, 0, 0, false, none, 0, 0, none, 0, 0, ByteArray.empty⟩).toArray := by kernel_rfl
set_option maxRecDepth 100000 in
set_option maxHeartbeats 16000000 in
theorem vonly (m : Mt) (w : World) : Calls Try.prog 20 #[.agg m.1.cells.toArray] w fun x w' => x = .returned (.agg (onlyT m (fieldsV m.1.k).length).1.cells.toArray) ∧ Below w.heap.size w w' := by
  have MZ := Lib.hid ms_zero
  have SZ := Lib.hid ms_size
  have HST := Lib.hid (onlyT_step m)
  have HLT := Lib.hid (fields_lt m.1.k)
  have HL5 := Lib.hid (fields_len m.1.k)
  obtain ⟨F, hF⟩ : ∃ F, fieldsV m.1.k = F := ⟨_, rfl⟩
  rw [hF] at HST HLT HL5 ⊢
  have HFV : Hid (∀ w, Calls Try.prog 42 #[.int .i64 m.1.k] w fun e w' => ∃ a n c, e = .returned (.slice a n c) ∧ Fs w' w.heap.size a n F ∧ Below w.heap.size w w') := Lib.hid (fun w => by rw [← hF]; exact vfields _ w)
  have HB0 := Lib.hid (show (onlyT m 0).1.cells = (bareT m.1).1.cells from rfl)
  obtain ⟨O, hO⟩ : ∃ O, (fun i => onlyT m i) = O := ⟨_, rfl⟩
  have hO2 : ∀ i, onlyT m i = O i := fun i => congrFun hO i
  rw [hO2] at HB0
  simp only [hO2] at HST ⊢
  clear hF hO hO2
  obtain ⟨⟨k, fr, dt, tm, ix, lt, cm, rn, cf, ok, ea, en, ec, a, n, c, s⟩, d, L⟩ := m
  unfold bareT at HB0
  unfold Ms.cells at HB0
  dsimp only at HB0 HFV HLT HST
  rw [show (Ms.cells (⟨k, fr, dt, tm, ix, lt, cm, rn, cf, ok, ea, en, ec, a, n, c, s⟩ : Ms)) = [.int .i64 k, .int .i64 fr, .int .i64 dt, .int .i64 tm, .int .i64 ix, .int .i64 lt, .int .i64 cm, .int .i64 rn, .int .i64 cf, .bool ok, .slice ea en ec, .slice a n c, .string s] from rfl]
  go_enter Try.func20, Try.ntmps20
  go_wp2_with (first
    | (with_reducible refine box_row (o := ⟨some 1, _, _, _, _, _⟩) rfl _ _ rfl [.int .i64 k, .int .i64 fr, .int .i64 dt, .int .i64 tm, .int .i64 ix, .int .i64 lt, .int .i64 cm, .int .i64 rn, .int .i64 cf, .bool ok, .slice ea en ec, .slice a n c, .string s] rfl ?_; intro w1 hr1 hb1 hz1; have R1 := Lib.hid hr1; have B1 := Lib.hid hb1; clear hr1 hb1 hz1)
    | ((with_reducible refine alloc_row (o := ⟨some 2, _, _, _, _, _⟩) rfl _ rfl _ MZ.out ?_); intro w2 hr2 hb2 hz2; have T2 := Lib.hid hr2; have LT1 := Lib.hid R1.out.lt; have R2 := Lib.hid (R1.out.below hb2 R1.out.lt); obtain ⟨c0, c1, c2, c3, c4, c5, c6, c7, c8, c9, c10, c11, c12⟩ := R2.out.q13; have B2 := Lib.hid (B1.out.trans (hb2.mono B1.out.size)); clear hr2 hb2 hz2)
    | ((with_reducible refine build_row (o := ⟨some 14, _, _, _, _, _⟩) rfl _ _ rfl (Ms.cells ⟨k, fr, dt, tm, 0, 0, 0, 0, 0, false, none, 0, 0, none, 0, 0, ByteArray.empty⟩) ?_ ?_); (focus (go_simp; exact built_ms _ _ _ _)))
    | ((with_reducible refine alloc_row (o := ⟨some 3, _, _, _, _, _⟩) rfl _ rfl _ MZ.out ?_); intro w3 hr3 hb3 hz3; have U3 := Lib.hid hr3; have LT2 := Lib.hid T2.out.lt; have T3 := Lib.hid (T2.out.below hb3 T2.out.lt); have R3 := Lib.hid (R2.out.below hb3 R2.out.lt); have B3 := Lib.hid (B2.out.trans (hb3.mono B2.out.size)); clear hr3 hb3 hz3)
    | ((with_reducible refine store_row (o := ⟨none, _, _, _, _, _⟩) rfl _ (.tmp 3) _ rfl w2.heap.size (Ms.cells ⟨k, fr, dt, tm, 0, 0, 0, 0, 0, false, none, 0, 0, none, 0, 0, ByteArray.empty⟩) ?_ ?_ 25 _ U3.out ?_ ?_ ?_ ?_); (focus go_simp); (focus (first | (go_simp; done) | (go_simp; rfl))); (focus (exact SZ.out)); (focus rfl); (focus (exact ms_one _)); intro w4 hr4 hu4; have U4 := Lib.hid hr4; have T4 := Lib.hid (T3.out.upd hu4 (by have := LT2.out; omega)); have R4 := Lib.hid (R3.out.upd hu4 (by have := LT1.out; have := LT2.out; omega)); have B4 := Lib.hid (B3.out.trans (hu4.below (by have := B2.out.size; omega))); clear hr4 hu4 c0 c1 c2 c3 c4 c5 c6 c7 c8 c9 c10 c11 c12; obtain ⟨c0, c1, c2, c3, c4, c5, c6, c7, c8, c9, c10, c11, c12⟩ := R4.out.q13)
    | (go_at_call 42; refine (HFV.out w4).mono ?_; rintro x w5 ⟨fa, fn, fc, rfl, hf, hb⟩; have F5 := Lib.hid hf; have U5 := Lib.hid (U4.out.below hb U4.out.lt); have LT4 := Lib.hid U4.out.lt; have T5 := Lib.hid (T4.out.below hb T4.out.lt); have R5 := Lib.hid (R4.out.below hb R4.out.lt); have B5 := Lib.hid (B4.out.trans (hb.mono B4.out.size)); clear hf hb))
  clear c0 c1 c2 c3 c4 c5 c6 c7 c8 c9 c10 c11 c12
  rw [show (Ms.cells ⟨k, fr, dt, tm, 0, 0, 0, 0, 0, false, none, 0, 0, none, 0, 0, ByteArray.empty⟩) = (O 0).1.cells from HB0.out.symm] at U5
  have HFN := Lib.hid F5.out.hlen
  have hf5 : fn ≤ 5 := by rw [← HFN.out]; exact HL5.out
  obtain ⟨ob, hob⟩ : ∃ ob, w2.heap.size = ob := ⟨_, rfl⟩
  rw [hob] at U5 ⊢
  have L3 := Lib.hid (show ob ≠ w.heap.size by have := LT1.out; have := LT2.out; omega)
  have L4 := Lib.hid (show ob ≠ w1.heap.size by have := LT2.out; omega)
  have L5 := Lib.hid (show w.heap.size ≤ ob by have := B2.out.size; omega)
  have LO := Lib.hid (show ob < w4.heap.size by rw [← hob]; exact LT4.out)
  clear hob
  go_loopw [5] (fun i wr => ∃ j : Nat, i = .int .i64 (j : Int) ∧ j ≤ fn ∧ Hid (Row wr ob 25 (O j).1.cells) ∧ Hid (Gw ob w5 wr)) (fun i _ => fn - (intOf i).toNat)
  case atStart => exact ⟨0, rfl, Nat.zero_le _, U5, Lib.hid (Gw.refl _ _)⟩
  case round =>
    obtain ⟨j, rfl, hj, HO, HG⟩ := hrel
    by_cases hlt : j < fn
    · rcases F5.out.hc with h0 | ⟨fb, rfl, hfb, hfl, hfc⟩
      · omega
      have hcell := hfc j hlt
      have hne : fb ≠ ob := by have := LO.out; omega
      rw [← HG.out.cell (p := ⟨fb, j, none⟩) hfl hne] at hcell
      have hjl : j < F.length := by rw [HFN.out]; exact hlt
      have hst := HST.out j hjl
      have hfm := HLT.out (F.getD j 0) (by
        have : F.getD j 0 = F[j] := by simp [List.getD_eq_getElem?_getD, hjl]
        rw [this]; exact List.getElem_mem hjl)
      obtain ⟨f, hf⟩ : ∃ f, F.getD j 0 = f := ⟨_, rfl⟩
      rw [hf] at hcell hst hfm
      obtain ⟨⟨⟨k', fr', dt', tm', ix', lt', cm', rn', cf', ok', ea', en', ec', a', n', c', s'⟩, d', L'⟩, hOj⟩ : ∃ o, O j = o := ⟨_, rfl⟩
      rw [hOj] at HO hst
      have HST1 := Lib.hid hst
      obtain ⟨c0, c1, c2, c3, c4, c5, c6, c7, c8, c9, c10, c11, c12⟩ := (R5.out.gw HG.out L3.out.symm).q13
      obtain ⟨d0, d1, d2, d3, d4, d5, d6, d7, d8, d9, d10, d11, d12⟩ := HO.out.q13
      have z4 := HO.out.frozen 4
      have z5 := HO.out.frozen 5
      have z6 := HO.out.frozen 6
      have z7 := HO.out.frozen 7
      have z8 := HO.out.frozen 8
      have z9 := HO.out.frozen 9
      have z10 := HO.out.frozen 10
      have z11 := HO.out.frozen 11
      have z12 := HO.out.frozen 12
      have g1 : (0 : Int) ≤ (j : Int) := by omega
      have g2 : (j : Int) < (fn : Int) := by omega
      clear hst hf hjl hne hfc
      rcases (show f = 0 ∨ f = 1 ∨ f = 2 ∨ f = 3 ∨ f = 4 ∨ f = 5 ∨ f = 6 ∨ f = 7 ∨ f = 8 by omega) with rfl | rfl | rfl | rfl | rfl | rfl | rfl | rfl | rfl
      · have K := Lib.hid (show Row (wr.setCell ⟨ob, 4, none⟩ (.int .i64 ix)) ob 25 (O (j + 1)).1.cells from by rw [HST1.out]; exact HO.out.setV 4 (.int .i64 ix))
        have G := Lib.hid (HG.out.trans (Gw.upd (Upd.setCell wr ob 4 (.int .i64 ix))))
        go_wp2_with fail
        go_roundw
        case rel => exact ⟨j + 1, vint (by omega), by omega, K, G⟩
        case measure => simp [intOf]; omega
      · have K := Lib.hid (show Row (wr.setCell ⟨ob, 5, none⟩ (.int .i64 lt)) ob 25 (O (j + 1)).1.cells from by rw [HST1.out]; exact HO.out.setV 5 (.int .i64 lt))
        have G := Lib.hid (HG.out.trans (Gw.upd (Upd.setCell wr ob 5 (.int .i64 lt))))
        go_wp2_with fail
        go_roundw
        case rel => exact ⟨j + 1, vint (by omega), by omega, K, G⟩
        case measure => simp [intOf]; omega
      · have K := Lib.hid (show Row (wr.setCell ⟨ob, 6, none⟩ (.int .i64 cm)) ob 25 (O (j + 1)).1.cells from by rw [HST1.out]; exact HO.out.setV 6 (.int .i64 cm))
        have G := Lib.hid (HG.out.trans (Gw.upd (Upd.setCell wr ob 6 (.int .i64 cm))))
        go_wp2_with fail
        go_roundw
        case rel => exact ⟨j + 1, vint (by omega), by omega, K, G⟩
        case measure => simp [intOf]; omega
      · have K := Lib.hid (show Row (wr.setCell ⟨ob, 7, none⟩ (.int .i64 rn)) ob 25 (O (j + 1)).1.cells from by rw [HST1.out]; exact HO.out.setV 7 (.int .i64 rn))
        have G := Lib.hid (HG.out.trans (Gw.upd (Upd.setCell wr ob 7 (.int .i64 rn))))
        go_wp2_with fail
        go_roundw
        case rel => exact ⟨j + 1, vint (by omega), by omega, K, G⟩
        case measure => simp [intOf]; omega
      · have K := Lib.hid (show Row (wr.setCell ⟨ob, 8, none⟩ (.int .i64 cf)) ob 25 (O (j + 1)).1.cells from by rw [HST1.out]; exact HO.out.setV 8 (.int .i64 cf))
        have G := Lib.hid (HG.out.trans (Gw.upd (Upd.setCell wr ob 8 (.int .i64 cf))))
        go_wp2_with fail
        go_roundw
        case rel => exact ⟨j + 1, vint (by omega), by omega, K, G⟩
        case measure => simp [intOf]; omega
      · have K := Lib.hid (show Row (wr.setCell ⟨ob, 9, none⟩ (.bool ok)) ob 25 (O (j + 1)).1.cells from by rw [HST1.out]; exact HO.out.setV 9 (.bool ok))
        have G := Lib.hid (HG.out.trans (Gw.upd (Upd.setCell wr ob 9 (.bool ok))))
        go_wp2_with fail
        go_roundw
        case rel => exact ⟨j + 1, vint (by omega), by omega, K, G⟩
        case measure => simp [intOf]; omega
      · have K := Lib.hid (show Row (wr.setCell ⟨ob, 10, none⟩ (.slice ea en ec)) ob 25 (O (j + 1)).1.cells from by rw [HST1.out]; exact HO.out.setV 10 (.slice ea en ec))
        have G := Lib.hid (HG.out.trans (Gw.upd (Upd.setCell wr ob 10 (.slice ea en ec))))
        go_wp2_with fail
        go_roundw
        case rel => exact ⟨j + 1, vint (by omega), by omega, K, G⟩
        case measure => simp [intOf]; omega
      · have K := Lib.hid (show Row (wr.setCell ⟨ob, 11, none⟩ (.slice a n c)) ob 25 (O (j + 1)).1.cells from by rw [HST1.out]; exact HO.out.setV 11 (.slice a n c))
        have G := Lib.hid (HG.out.trans (Gw.upd (Upd.setCell wr ob 11 (.slice a n c))))
        go_wp2_with fail
        go_roundw
        case rel => exact ⟨j + 1, vint (by omega), by omega, K, G⟩
        case measure => simp [intOf]; omega
      · have K := Lib.hid (show Row (wr.setCell ⟨ob, 12, none⟩ (.string s)) ob 25 (O (j + 1)).1.cells from by rw [HST1.out]; exact HO.out.setV 12 (.string s))
        have G := Lib.hid (HG.out.trans (Gw.upd (Upd.setCell wr ob 12 (.string s))))
        go_wp2_with fail
        go_roundw
        case rel => exact ⟨j + 1, vint (by omega), by omega, K, G⟩
        case measure => simp [intOf]; omega
    · obtain rfl : fn = j := by omega
      have R6 := Lib.hid (R5.out.gw HG.out L3.out.symm)
      have T6 := Lib.hid (T5.out.gw HG.out L4.out.symm)
      have B6 := Lib.hid (B5.out.trans (HG.out.below L5.out B5.out.size))
      go_wp2_with (first
        | ((with_reducible refine load_row (o := ⟨some 71, _, _, _, _, _⟩) rfl _ _ rfl ob ?_ _ _ _ HO.out Try.underlying25 rfl ?_ ?_); (focus go_simp); (focus (exact SZ.out)))
        | ((with_reducible refine store_row (o := ⟨none, _, _, _, _, _⟩) rfl _ (.tmp 2) _ rfl w1.heap.size (O fn).1.cells ?_ ?_ 25 _ T6.out ?_ ?_ ?_ ?_); (focus go_simp); (focus (first | (go_simp; done) | (go_simp; rfl))); (focus (exact SZ.out)); (focus rfl); (focus (exact ms_one _)); intro w7 hr7 hu7; have T7 := Lib.hid hr7; have B7 := Lib.hid (B6.out.trans (hu7.below B1.out.size)); clear hr7 hu7))
      exact bodyPost_ret (results_cell_row rfl _ _ w1.heap.size 25 _ _ _ (by go_simp) T7.out Try.underlying25 rfl SZ.out) rfl ⟨by rw [HFN.out], B7.out⟩
end Go.Proofs.Ytdcioeoofngibaa.W
