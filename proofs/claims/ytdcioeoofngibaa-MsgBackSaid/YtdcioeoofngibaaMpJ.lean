/- LAYER 16 (msg), the program: a field is read; Decode. LAYER 16 (msg), the program: Decode. LAYER 16 (msg): the law MsgBack. -/
import Derived.Test.YtdcioeoofngibaaMpH
import Derived.Test.YtdcioeoofngibaaMsM
set_option linter.unusedSimpArgs false
set_option linter.unusedVariables false
namespace Go.Proofs.Ytdcioeoofngibaa.W
open Go Go.ChangeShapes Go.WideShapes Go.ChangeAt Go.RowKit
open Go.Proofs.Ytdcioeoofngibaa.P (enc dec)

theorem NB_ms (m : Ms) : NB m.cells := by
  intro x hx
  simp [Ms.cells, B] at hx
theorem Rd.f2 {w w' : World} {a : Option Addr} {n c r b : Nat} {t : TypeId} {l l' : List UInt8} {e : Int} {K : List Value} (h : Rd w a n c l) (hp : RP w r l' e) (hq : Row w b t K) (nb : NB K) (k : Ft (F2 r b) w w') : Rd w' a n c l := by
  obtain ⟨x, y, hh, -⟩ := hp.ex
  have h1 := h.apart hh (fun z hz => by simp [B] at hz)
  have h2 := h.apart hq (fun z hz => nb z (by simpa using hz))
  refine h.ft k (fun hn x off hx => ?_)
  rintro (rfl | rfl)
  · rcases h1 with h1 | h1
    · exact hn h1
    · exact h1 _ _ hx rfl
  · rcases h2 with h2 | h2
    · exact hn h2
    · exact h2 _ _ hx rfl
theorem Ents.f2 {w w' : World} {a : Option Addr} {n c r b : Nat} {t : TypeId} {L : List (En × List UInt8)} {l' : List UInt8} {e : Int} {K : List Value} (h : Ents w a n c L) (hp : RP w r l' e) (hq : Row w b t K) (nb : NB K) (k : Ft (F2 r b) w w') (hne : n ≠ 0 → ∀ x off, a = some ⟨x, off, none⟩ → x ≠ b ∧ x ≠ r) : Ents w' a n c L := by
  refine ⟨h.hlen, h.hle, h.hmax, fun p hp2 => ⟨(h.hfit p hp2).ix, (h.hfit p hp2).tm, (h.hfit p hp2).kd, (h.hfit p hp2).rd.f2 hp hq nb k⟩, h.hnil, ?_⟩
  rcases h.hcells with h0 | ⟨x, o, rfl, hlt, hc⟩
  · exact .inl h0
  · by_cases hn : n = 0
    · exact .inl hn
    · right
      obtain ⟨h1, h2⟩ := hne hn x o rfl
      refine ⟨x, o, rfl, Nat.lt_of_lt_of_le hlt k.size, fun i hi j v hj => ?_⟩
      have hnf : ¬ F2 r b x := fun h => h.elim h2 h1
      rw [World.cell?_of_block (a := ⟨x, o + i * 4 + j, none⟩) (k.block x hlt hnf)]
      exact hc i hi j v hj
/-- a message that is being read, in block b; the reader in block r; its entries in a block of base or above -/
structure Mw (w : World) (b r base : Nat) (m : Ms) (d : List UInt8) (L : List (En × List UInt8)) : Prop where
  row : Row w b 25 m.cells
  fit : MsF w m d L
  eb : m.en ≠ 0 → ∀ x off, m.ea = some ⟨x, off, none⟩ → base ≤ x
  hb : b < base
  hr : r < base
  hen : m.en ≤ 8
theorem Mw.below {w w' : World} {b r base : Nat} {m : Ms} {d : List UInt8} {L : List (En × List UInt8)} (h : Mw w b r base m d L) (hb : Below w.heap.size w w') : Mw w' b r base m d L := ⟨h.row.below hb h.row.lt, h.fit.mono hb, h.eb, h.hb, h.hr, h.hen⟩
theorem MsF.f2 {w w' : World} {b r base : Nat} {m : Ms} {d : List UInt8} {L : List (En × List UInt8)} {l : List UInt8} {e : Int} (h : Mw w b r base m d L) (hp : RP w r l e) (k : Ft (F2 r b) w w') : MsF w' m d L :=
  ⟨h.fit.k, h.fit.fr, h.fit.dt, h.fit.tm, h.fit.ix, h.fit.lt, h.fit.cm, h.fit.rn, h.fit.cf, h.fit.es.f2 hp h.row (NB_ms m) k (fun hn x off hx => by have := h.eb hn x off hx; have := h.hb; have := h.hr; omega), h.fit.rd.f2 hp h.row (NB_ms m) k, h.fit.st⟩
theorem rdEs_len (l : List UInt8) (e : Int) : ∀ n, (rdEs n l e).1.length = n
  | 0 => rfl
  | n + 1 => by simp [rdEs, rdEs_len l e n]
theorem i64_num (most : Int) (l : List UInt8) (e : Int) : I64 ((numR most l e).1 : Int) := ⟨by omega, numR_lt _ _ _⟩
set_option maxRecDepth 100000 in
set_option maxHeartbeats 16000000 in
theorem readK (k : Nat) (hk : k < 12) (A M : Nat → Nat) (base r b : Nat) (m : Ms) (d : List UInt8) (L : List (En × List UInt8)) (l : List UInt8) (e : Int) (w : World) (hF : FdR w base A M) (hm : Mw w b r base m d L) (hp : RP w r l e) (hbr : b ≠ r) (hbs : base ≤ w.heap.size) :
    Calls Try.prog (fn4 k) (#[.pointer (some ⟨r, 0, none⟩), .pointer (some ⟨b, 0, none⟩)] ++ fc4 A M k) w fun x w' => x = .returned (.tuple #[]) ∧ ∃ m' d' L', Mw w' b r base m' d' L' ∧ m'.pl d' L' = (takeQ k (m.pl d L, l, e)).1 ∧ RP w' r (takeQ k (m.pl d L, l, e)).2.1 (takeQ k (m.pl d L, l, e)).2.2 ∧ Ft (F2 r b) w w' := by
  have hr := hm.hr
  have hb := hm.hb
  rcases below12 hk with rfl | rfl | rfl | rfl | rfl | rfl | rfl | rfl | rfl | rfl | rfl | rfl
  · show Calls Try.prog 52 #[.pointer (some ⟨r, 0, none⟩), .pointer (some ⟨b, 0, none⟩), .pointer (some ⟨(M 0), 0, none⟩), .pointer (some ⟨(A 0), 0, none⟩)] w _
    refine (mpn4 29 1 mpat1 (A 0) r b (M 0) m.cells 6 l e w (hF.a 0 (by decide)).1.k0 (hF.m 0 (by decide)).1.k0 hm.row (by show 1 < 13; decide) (NB_ms m) hp hbr (by have := (hF.a 0 (by decide)).2; omega) (by have := (hF.m 0 (by decide)).2; omega)).mono ?_
    rintro x w' ⟨rfl, h1, h2, h3⟩
    have hM := MsF.f2 hm hp h3
    exact ⟨rfl, { m with fr := ((numR 6 l e).1 : Int) }, d, L, ⟨h1, ⟨hM.k, i64_num _ _ _, hM.dt, hM.tm, hM.ix, hM.lt, hM.cm, hM.rn, hM.cf, hM.es, hM.rd, hM.st⟩, hm.eb, hm.hb, hm.hr, hm.hen⟩, rfl, h2, h3⟩
  · show Calls Try.prog 52 #[.pointer (some ⟨r, 0, none⟩), .pointer (some ⟨b, 0, none⟩), .pointer (some ⟨(M 1), 0, none⟩), .pointer (some ⟨(A 1), 0, none⟩)] w _
    refine (mpn4 30 2 mpat2 (A 1) r b (M 1) m.cells 6 l e w (hF.a 1 (by decide)).1.k0 (hF.m 1 (by decide)).1.k0 hm.row (by show 2 < 13; decide) (NB_ms m) hp hbr (by have := (hF.a 1 (by decide)).2; omega) (by have := (hF.m 1 (by decide)).2; omega)).mono ?_
    rintro x w' ⟨rfl, h1, h2, h3⟩
    have hM := MsF.f2 hm hp h3
    exact ⟨rfl, { m with dt := ((numR 6 l e).1 : Int) }, d, L, ⟨h1, ⟨hM.k, hM.fr, i64_num _ _ _, hM.tm, hM.ix, hM.lt, hM.cm, hM.rn, hM.cf, hM.es, hM.rd, hM.st⟩, hm.eb, hm.hb, hm.hr, hm.hen⟩, rfl, h2, h3⟩
  · show Calls Try.prog 52 #[.pointer (some ⟨r, 0, none⟩), .pointer (some ⟨b, 0, none⟩), .pointer (some ⟨(M 2), 0, none⟩), .pointer (some ⟨(A 2), 0, none⟩)] w _
    refine (mpn4 31 3 mpat3 (A 2) r b (M 2) m.cells 2147483648 l e w (hF.a 2 (by decide)).1.k0 (hF.m 2 (by decide)).1.k0 hm.row (by show 3 < 13; decide) (NB_ms m) hp hbr (by have := (hF.a 2 (by decide)).2; omega) (by have := (hF.m 2 (by decide)).2; omega)).mono ?_
    rintro x w' ⟨rfl, h1, h2, h3⟩
    have hM := MsF.f2 hm hp h3
    exact ⟨rfl, { m with tm := ((numR 2147483648 l e).1 : Int) }, d, L, ⟨h1, ⟨hM.k, hM.fr, hM.dt, i64_num _ _ _, hM.ix, hM.lt, hM.cm, hM.rn, hM.cf, hM.es, hM.rd, hM.st⟩, hm.eb, hm.hb, hm.hr, hm.hen⟩, rfl, h2, h3⟩
  · show Calls Try.prog 52 #[.pointer (some ⟨r, 0, none⟩), .pointer (some ⟨b, 0, none⟩), .pointer (some ⟨(M 3), 0, none⟩), .pointer (some ⟨(A 3), 0, none⟩)] w _
    refine (mpn4 32 4 mpat4 (A 3) r b (M 3) m.cells 2147483648 l e w (hF.a 3 (by decide)).1.k0 (hF.m 3 (by decide)).1.k0 hm.row (by show 4 < 13; decide) (NB_ms m) hp hbr (by have := (hF.a 3 (by decide)).2; omega) (by have := (hF.m 3 (by decide)).2; omega)).mono ?_
    rintro x w' ⟨rfl, h1, h2, h3⟩
    have hM := MsF.f2 hm hp h3
    exact ⟨rfl, { m with ix := ((numR 2147483648 l e).1 : Int) }, d, L, ⟨h1, ⟨hM.k, hM.fr, hM.dt, hM.tm, i64_num _ _ _, hM.lt, hM.cm, hM.rn, hM.cf, hM.es, hM.rd, hM.st⟩, hm.eb, hm.hb, hm.hr, hm.hen⟩, rfl, h2, h3⟩
  · show Calls Try.prog 52 #[.pointer (some ⟨r, 0, none⟩), .pointer (some ⟨b, 0, none⟩), .pointer (some ⟨(M 4), 0, none⟩), .pointer (some ⟨(A 4), 0, none⟩)] w _
    refine (mpn4 33 5 mpat5 (A 4) r b (M 4) m.cells 2147483648 l e w (hF.a 4 (by decide)).1.k0 (hF.m 4 (by decide)).1.k0 hm.row (by show 5 < 13; decide) (NB_ms m) hp hbr (by have := (hF.a 4 (by decide)).2; omega) (by have := (hF.m 4 (by decide)).2; omega)).mono ?_
    rintro x w' ⟨rfl, h1, h2, h3⟩
    have hM := MsF.f2 hm hp h3
    exact ⟨rfl, { m with lt := ((numR 2147483648 l e).1 : Int) }, d, L, ⟨h1, ⟨hM.k, hM.fr, hM.dt, hM.tm, hM.ix, i64_num _ _ _, hM.cm, hM.rn, hM.cf, hM.es, hM.rd, hM.st⟩, hm.eb, hm.hb, hm.hr, hm.hen⟩, rfl, h2, h3⟩
  · show Calls Try.prog 52 #[.pointer (some ⟨r, 0, none⟩), .pointer (some ⟨b, 0, none⟩), .pointer (some ⟨(M 5), 0, none⟩), .pointer (some ⟨(A 5), 0, none⟩)] w _
    refine (mpn4 34 6 mpat6 (A 5) r b (M 5) m.cells 2147483648 l e w (hF.a 5 (by decide)).1.k0 (hF.m 5 (by decide)).1.k0 hm.row (by show 6 < 13; decide) (NB_ms m) hp hbr (by have := (hF.a 5 (by decide)).2; omega) (by have := (hF.m 5 (by decide)).2; omega)).mono ?_
    rintro x w' ⟨rfl, h1, h2, h3⟩
    have hM := MsF.f2 hm hp h3
    exact ⟨rfl, { m with cm := ((numR 2147483648 l e).1 : Int) }, d, L, ⟨h1, ⟨hM.k, hM.fr, hM.dt, hM.tm, hM.ix, hM.lt, i64_num _ _ _, hM.rn, hM.cf, hM.es, hM.rd, hM.st⟩, hm.eb, hm.hb, hm.hr, hm.hen⟩, rfl, h2, h3⟩
  · show Calls Try.prog 52 #[.pointer (some ⟨r, 0, none⟩), .pointer (some ⟨b, 0, none⟩), .pointer (some ⟨(M 6), 0, none⟩), .pointer (some ⟨(A 6), 0, none⟩)] w _
    refine (mpn4 35 7 mpat7 (A 6) r b (M 6) m.cells 2147483648 l e w (hF.a 6 (by decide)).1.k0 (hF.m 6 (by decide)).1.k0 hm.row (by show 7 < 13; decide) (NB_ms m) hp hbr (by have := (hF.a 6 (by decide)).2; omega) (by have := (hF.m 6 (by decide)).2; omega)).mono ?_
    rintro x w' ⟨rfl, h1, h2, h3⟩
    have hM := MsF.f2 hm hp h3
    exact ⟨rfl, { m with rn := ((numR 2147483648 l e).1 : Int) }, d, L, ⟨h1, ⟨hM.k, hM.fr, hM.dt, hM.tm, hM.ix, hM.lt, hM.cm, i64_num _ _ _, hM.cf, hM.es, hM.rd, hM.st⟩, hm.eb, hm.hb, hm.hr, hm.hen⟩, rfl, h2, h3⟩
  · show Calls Try.prog 52 #[.pointer (some ⟨r, 0, none⟩), .pointer (some ⟨b, 0, none⟩), .pointer (some ⟨(M 7), 0, none⟩), .pointer (some ⟨(A 7), 0, none⟩)] w _
    refine (mpn4 36 8 mpat8 (A 7) r b (M 7) m.cells 127 l e w (hF.a 7 (by decide)).1.k0 (hF.m 7 (by decide)).1.k0 hm.row (by show 8 < 13; decide) (NB_ms m) hp hbr (by have := (hF.a 7 (by decide)).2; omega) (by have := (hF.m 7 (by decide)).2; omega)).mono ?_
    rintro x w' ⟨rfl, h1, h2, h3⟩
    have hM := MsF.f2 hm hp h3
    exact ⟨rfl, { m with cf := ((numR 127 l e).1 : Int) }, d, L, ⟨h1, ⟨hM.k, hM.fr, hM.dt, hM.tm, hM.ix, hM.lt, hM.cm, hM.rn, i64_num _ _ _, hM.es, hM.rd, hM.st⟩, hm.eb, hm.hb, hm.hr, hm.hen⟩, rfl, h2, h3⟩
  · show Calls Try.prog 57 #[.pointer (some ⟨r, 0, none⟩), .pointer (some ⟨b, 0, none⟩)] w _
    refine (mpy4 r b m.cells l e w hm.row (by show 9 < 13; decide) (NB_ms m) hp hbr).mono ?_
    rintro x w' ⟨rfl, h1, h2, h3⟩
    have hM := MsF.f2 hm hp h3
    exact ⟨rfl, { m with ok := (yesR l e).1 }, d, L, ⟨h1, ⟨hM.k, hM.fr, hM.dt, hM.tm, hM.ix, hM.lt, hM.cm, hM.rn, hM.cf, hM.es, hM.rd, hM.st⟩, hm.eb, hm.hb, hm.hr, hm.hen⟩, rfl, h2, h3⟩
  · show Calls Try.prog 66 #[.pointer (some ⟨r, 0, none⟩), .pointer (some ⟨b, 0, none⟩)] w _
    refine (mpe4 r b m.cells l e w hm.row (by show 10 < 13; decide) (NB_ms m) hp hbr).mono ?_
    rintro x w' ⟨a5, n5, c5, rfl, M5, h1, h2, h3, h4, h5, h6⟩
    have hM := MsF.f2 hm hp h6
    refine ⟨rfl, { m with ea := a5, en := n5, ec := c5 }, d, M5, ⟨h1, ⟨hM.k, hM.fr, hM.dt, hM.tm, hM.ix, hM.lt, hM.cm, hM.rn, hM.cf, h2, hM.rd, hM.st⟩, fun _ x off hx => ?_, hb, hr, ?_⟩, ?_, h5, h6⟩
    · exact Nat.le_trans hbs (h3 x off hx)
    · have hl := congrArg List.length h4
      rw [List.length_map, rdEs_len, h2.hlen] at hl
      have := mp_num_le 8 (by decide) l e
      show n5 ≤ 8
      omega
    · show MF.mk m.k m.fr m.dt m.tm m.ix m.lt m.cm m.rn m.cf m.ok d m.s.data.toList (M5.map pe) = _
      rw [h4]; rfl
  · show Calls Try.prog 73 #[.pointer (some ⟨r, 0, none⟩), .pointer (some ⟨b, 0, none⟩)] w _
    refine (mpd4 r b m.cells l e w hm.row (by show 11 < 13; decide) (NB_ms m) hp hbr).mono ?_
    rintro x w' ⟨a5, c5, rfl, h1, h2, h5, h6⟩
    have hM := MsF.f2 hm hp h6
    exact ⟨rfl, { m with a := a5, n := (textR 131072 l e).1.length, c := c5 }, (textR 131072 l e).1, L, ⟨h1, ⟨hM.k, hM.fr, hM.dt, hM.tm, hM.ix, hM.lt, hM.cm, hM.rn, hM.cf, hM.es, h2, hM.st⟩, hm.eb, hm.hb, hm.hr, hm.hen⟩, rfl, h5, h6⟩
  · show Calls Try.prog 78 #[.pointer (some ⟨r, 0, none⟩), .pointer (some ⟨b, 0, none⟩)] w _
    refine (mps4 r b m.cells l e w hm.row (by show 12 < 13; decide) (NB_ms m) hp hbr).mono ?_
    rintro x w' ⟨rfl, h1, h5, h6⟩
    have hM := MsF.f2 hm hp h6
    have hsz : (str (textR 32 l e).1).size ≤ maxLen := by
      have := textR_small 32 (by decide) l e
      show (textR 32 l e).1.toArray.size ≤ maxLen
      unfold maxLen
      simp; omega
    exact ⟨rfl, { m with s := str (textR 32 l e).1 }, d, L, ⟨h1, ⟨hM.k, hM.fr, hM.dt, hM.tm, hM.ix, hM.lt, hM.cm, hM.rn, hM.cf, hM.es, hM.rd, hsz⟩, hm.eb, hm.hb, hm.hr, hm.hen⟩, rfl, h5, h6⟩
-- ---- plain
def takesP (p : Nat → Bool) (k : Nat) (q : MF × List UInt8 × Int) : MF × List UInt8 × Int := ((List.range k).filter p).foldl (fun q i => takeQ i q) q
theorem takesP_next (p : Nat → Bool) (k : Nat) (q : MF × List UInt8 × Int) : takesP p (k + 1) q = if p k then takeQ k (takesP p k q) else takesP p k q := by
  unfold takesP
  rw [List.range_succ, List.filter_append, List.foldl_append]
  cases h : p k <;> simp [h]
/-- which fields are read behind a kind -/
def inD (kd : Int) (k : Nat) : Bool := inT kd k
theorem bits_inD (k : Int) (hk : 0 ≤ k ∧ k ≤ 11) (i : Nat) (hi : i < 12) : (bits BinOp.and IntKind.i64 (partsV k) (partN i) == 0) = !inD k i := by
  by_cases h : 1 ≤ k
  · exact bits_in k ⟨h, hk.2⟩ i hi
  · obtain rfl : k = 0 := by omega
    rcases below12 hi with rfl | rfl | rfl | rfl | rfl | rfl | rfl | rfl | rfl | rfl | rfl | rfl <;> decide +kernel
def decD (b : List UInt8) : MF × Int := decM (takesP (inD ((numR 11 b 0).1 : Int)) 12 (MF.z (numR 11 b 0).1 0 0 0, (numR 11 b 0).2))
theorem range_in (k : Int) (h : 0 ≤ k ∧ k ≤ 11) : (List.range 12).filter (inD k) = 0 :: 1 :: 2 :: (fieldsV k).map (· + 3) := by
  rcases (show k = 0 ∨ k = 1 ∨ k = 2 ∨ k = 3 ∨ k = 4 ∨ k = 5 ∨ k = 6 ∨ k = 7 ∨ k = 8 ∨ k = 9 ∨ k = 10 ∨ k = 11 by omega) with rfl | rfl | rfl | rfl | rfl | rfl | rfl | rfl | rfl | rfl | rfl | rfl <;> decide +kernel
theorem takeQ3 (f : Nat) (q : MF × List UInt8 × Int) : takeQ (f + 3) q = takeM q f := by
  unfold takeQ
  rw [if_neg (by omega), if_neg (by omega), if_neg (by omega), Nat.add_sub_cancel]
theorem readM_eq (b : List UInt8) (h : (numR 11 b 0).1 ≤ 11) : takesP (inD ((numR 11 b 0).1 : Int)) 12 (MF.z (numR 11 b 0).1 0 0 0, (numR 11 b 0).2) = readM b := by
  unfold readM hM3 hM2 hM1 takesP
  obtain ⟨kn, l1, e1, hq⟩ : ∃ x y z, numR 11 b 0 = (x, y, z) := ⟨_, _, _, rfl⟩
  rw [hq] at h ⊢
  dsimp only at h ⊢
  rw [range_in (kn : Int) (by omega), List.foldl_cons, List.foldl_cons, List.foldl_cons, List.foldl_map]
  simp only [takeQ3]
  rfl
theorem takes_k (kd : Int) : ∀ (fs : List Nat) (q : MF × List UInt8 × Int), (fs.foldl takeM q).1.k = q.1.k := fun fs q => (takes_head fs q).1
theorem readM_k (b : List UInt8) : (readM b).1.k = (numR 11 b 0).1 := by
  unfold readM
  rw [takes_k 0]
  rfl
theorem decD_eq (b : List UInt8) : decD b = decM (readM b) := by
  have hle := mp_num_le 11 (by decide) b 0
  unfold decD
  rw [readM_eq b (by omega)]
theorem decD_ok : DecOK decD where
  there := fun m hm => by rw [decD_eq]; exact dec_encM m hm
  back := fun b m h => by rw [decD_eq] at h; exact enc_decM h
end Go.Proofs.Ytdcioeoofngibaa.W

namespace Go.Proofs.Ytdcioeoofngibaa.W
open Go Go.ChangeShapes Go.WideShapes Go.ChangeAt Go.RowKit
open Go.Proofs.Ytdcioeoofngibaa.P (enc dec)

theorem built_z : Try.prog.built 25 [] = some msZ.cells.toArray := by kernel_rfl
def msK (k : Int) : Ms := ⟨k, 0, 0, 0, 0, 0, 0, 0, 0, false, none, 0, 0, none, 0, 0, ByteArray.empty⟩
theorem msK_fit (k : Int) (hk : I64 k) (w : World) : MsF w (msK k) [] [] := by
  have z : I64 0 := ⟨by decide, by decide⟩
  exact ⟨hk, z, z, z, z, z, z, z, z, Ents.nil w, Rd_nil w, by show ByteArray.empty.size ≤ maxLen; decide⟩
theorem built_mk (k : Int) : Try.prog.built 25 [(0, .int .i64 k)] = some (msK k).cells.toArray := by kernel_rfl
theorem decM_bad {q : MF} {l : List UInt8} {e : Int} (h : q.chk = 1) : decM (q, l, e) = (MF.z 0 0 0 0, failE e 3) := by
  unfold decM
  dsimp only
  by_cases he : e = 0
  · rw [if_pos ⟨he, by rw [h]; decide⟩, he]; rfl
  · rw [if_neg (fun hh => he hh.1), if_pos (by rw [endE he]; exact he), endE he, failN he]
theorem decM_err {q : MF} {l : List UInt8} {e : Int} (h : q.chk = 0) (hv : endV l e ≠ 0) : decM (q, l, e) = (MF.z 0 0 0 0, endV l e) := by
  unfold decM
  dsimp only
  rw [if_neg (fun hh => hh.2 h), if_pos hv]
theorem decM_ok {q : MF} {l : List UInt8} {e : Int} (h : q.chk = 0) (hv : endV l e = 0) : decM (q, l, e) = (q, 0) := by
  unfold decM
  dsimp only
  rw [if_neg (fun hh => hh.2 h), if_neg (fun hh => hh hv)]
theorem below_ft {w w1 w2 : World} {F : Nat → Prop} {base : Nat} (h : Below base w w1) (k : Ft F w1 w2) (hb : base ≤ w.heap.size) (hF : ∀ g, F g → base ≤ g) : Below base w w2 := h.trans (k.below (Nat.le_trans hb h.size) hF)
set_option maxRecDepth 100000 in
set_option maxHeartbeats 16000000 in
theorem mpdec : MsDecP 14 decD := by
  intro a n c b w hb hn
  have HB := Lib.hid hb
  have HO := Lib.hid (fun w' (h : Below w.heap.size w w') => popen a n c b w' (hb.mono h) (by omega))
  have MZ := Lib.hid msZ_zero
  have SZ := Lib.hid ms_size
  have FZ := Lib.hid fd_zero
  have hle := mp_num_le 11 (by decide) b 0
  unfold decD
  obtain ⟨kn, l1, e1, hq⟩ : ∃ x y z, numR 11 b 0 = (x, y, z) := ⟨_, _, _, rfl⟩
  rw [hq] at hle ⊢
  dsimp only at hle ⊢
  have HQ := Lib.hid hq
  obtain ⟨kd, hkd⟩ : ∃ kd : Int, (kn : Int) = kd := ⟨_, rfl⟩
  rw [hkd] at hle ⊢
  have HKD := Lib.hid hkd
  have HKR := Lib.hid (show 0 ≤ kd ∧ kd ≤ 11 by omega)
  obtain ⟨Z, hZ⟩ : ∃ Z, decM (takesP (inD kd) 12 (MF.z kd 0 0 0, l1, e1)) = Z := ⟨_, rfl⟩
  rw [hZ]
  have HZ := Lib.hid hZ
  obtain ⟨hs, hhs⟩ : ∃ h, partsV kd = h := ⟨_, rfl⟩
  have HP := Lib.hid (fun w => mpparts kd w)
  rw [hhs] at HP
  have HHS := Lib.hid hhs
  clear hb hn hq hle hkd hZ hhs
  go_enter Try.func14, Try.ntmps14
  go_wp2_with (first
    | ((with_reducible refine alloc_row (o := ⟨some 2, _, _, _, _, _⟩) rfl _ rfl _ MZ.out ?_); intro w1 hr hb hz; have R1 := Lib.hid hr; have B1 := Lib.hid hb; have Z1 := Lib.hid hz; clear hr hb hz)
    | (go_at_call 24; refine (HO.out w1 B1.out).mono ?_; rintro x w2 ⟨p, rfl, hp1, hp2, hb⟩; have HP1 := Lib.hid (show w.heap.size < p by have := Z1.out; omega); have P2 := Lib.hid hp2; have R2 := Lib.hid (R1.out.below hb R1.out.lt); have B2 := Lib.hid (B1.out.trans (hb.mono B1.out.size)); clear hp1 hp2 hb)
    | (go_at_call 25; (with_reducible refine (pnumR p 11 b 0 w2 P2.out).mono ?_); rw [HQ.out]; dsimp only; rw [HKD.out]; rintro x w3 ⟨rfl, hP, hu⟩; have P3 := Lib.hid hP; have R3 := Lib.hid (R2.out.upd hu (by have := HP1.out; omega)); have B3 := Lib.hid (B2.out.trans (hu.below (by have := HP1.out; omega))); have PL3 := Lib.hid (show p < w3.heap.size from P3.out.lt); clear hP hu)
    | ((with_reducible refine build_row (o := ⟨some 14, _, _, _, _, _⟩) rfl _ _ rfl (msK kd).cells ?_ ?_); (focus (go_simp; exact built_mk _)))
    | ((with_reducible refine alloc_row (o := ⟨some 5, _, _, _, _, _⟩) rfl _ rfl _ MZ.out ?_); intro w4 hr hb hz; have M4 := Lib.hid hr; have R4 := Lib.hid (R3.out.below hb R3.out.lt); have P4 := Lib.hid (P3.out.mono hb); have B4 := Lib.hid (B3.out.trans (hb.mono B3.out.size)); clear hr hb hz)
    | ((with_reducible refine store_row (o := ⟨none, _, _, _, _, _⟩) rfl _ (.tmp 5) _ rfl w3.heap.size (msK kd).cells ?_ ?_ 25 _ M4.out ?_ ?_ (ms_one _) ?_); (focus go_simp); (focus (first | (go_simp; done) | (go_simp; rfl))); (focus (exact SZ.out)); (focus rfl); intro w5 hr hu; have M5 := Lib.hid hr; have P5 := Lib.hid (P4.out.put (by have := PL3.out; omega) M4.out (NB_ms _) hu); have R5 := Lib.hid (R4.out.upd hu (by have := R3.out.lt; omega)); have B5 := Lib.hid (B4.out.trans (hu.below B3.out.size)); have ML5 := Lib.hid (show w3.heap.size < w5.heap.size from hr.lt); have PL5 := Lib.hid (show p < w5.heap.size from P5.out.lt); have RL5 := Lib.hid (show w.heap.size < w5.heap.size from R5.out.lt); obtain ⟨c0, -⟩ := hr.q13; clear hr hu)
    | (go_at_call 16; refine (HP.out w5).mono ?_; rintro x w' ⟨rfl, rfl⟩)
    | (go_at_call 17; refine (mpfields w5).mono ?_; rintro x w6 ⟨g, A, M, rfl, hg, hF, hgb, hb⟩; have G6 := Lib.hid hg; have HGB := Lib.hid hgb; have F6 := Lib.hid hF; have R6 := Lib.hid (R5.out.below hb R5.out.lt); have P6 := Lib.hid (P5.out.mono hb); have M6 := Lib.hid (M5.out.below hb M5.out.lt); have S6 := Lib.hid hb.size; have B6 := Lib.hid (B5.out.trans (hb.mono B5.out.size)); clear c0 hg hF hgb hb))
  have MW0 : Hid (Mw w6 w3.heap.size p w5.heap.size (msK kd) [] []) := Lib.hid ⟨M6.out, msK_fit kd ⟨by have := HKR.out; omega, by have := HKR.out; omega⟩ _, fun h => absurd rfl h, ML5.out, PL5.out, Nat.zero_le 8⟩
  go_loopw [20] (fun i wr => ∃ (k : Nat) (m : Ms) (d : List UInt8) (L : List (En × List UInt8)) (l : List UInt8) (e : Int), i = .int .i64 (k : Int) ∧ k ≤ 12 ∧ Hid (takesP (inD kd) k (MF.z kd 0 0 0, l1, e1) = (m.pl d L, l, e)) ∧ Hid (Mw wr w3.heap.size p w5.heap.size m d L) ∧ Hid (RP wr p l e) ∧ Hid (FdR wr w5.heap.size A M) ∧ Hid (Row wr g 49 (fdsC A M)) ∧ Hid (Row wr w.heap.size 25 msZ.cells) ∧ Hid (Below w.heap.size w wr) ∧ Hid (w5.heap.size ≤ wr.heap.size)) (fun i _ => 12 - (intOf i).toNat)
  case atStart => exact ⟨0, (msK kd), [], [], l1, e1, rfl, Nat.zero_le _, Lib.hid rfl, MW0, P6, F6, G6, R6, B6, S6⟩
  case round =>
    obtain ⟨k, m, d, L, l, e, rfl, hk, HT, MW, PR, FR, GR, RZ, BR, SR⟩ := hrel
    by_cases hlt : k < 12
    · obtain ⟨C5, hC5⟩ : ∃ C5, fdC A M k = C5 := ⟨_, rfl⟩
      have X := Lib.hid (fun j v (hj : C5[j]? = some v) => fds_cell GR.out k hlt j v (by rw [hC5]; exact hj))
      have L5 := Lib.hid (show [Value.int .i64 0, .nilFunc, .nilFunc, .nilFunc, .nilFunc].length = C5.length by rw [← hC5]; rfl)
      have FS := Lib.hid (show (Try.prog.info? 49).map (·.size) = some C5.length by rw [← hC5]; exact fd_size)
      have ONE := Lib.hid (show ∀ v ∈ C5, v.oneCell' = true by rw [← hC5]; exact fd_one A M k)
      have HS4 := Lib.hid (fun w' (hb : Below wr.heap.size wr w') => readK k hlt A M _ p w3.heap.size m d L l e w' (FR.out.below hb) (MW.out.below hb) (PR.out.mono hb) (by have := PL3.out; omega) (Nat.le_trans SR.out hb.size))
      have he4 := fn_ent4 k hlt
      have hbi := bits_inD kd HKR.out k hlt
      have hnx := takesP_next (inD kd) k (MF.z kd 0 0 0, l1, e1)
      rw [HT.out] at hnx
      unfold fdC at hC5
      obtain ⟨f4, hf4⟩ : ∃ f, fn4 k = f := ⟨_, rfl⟩
      obtain ⟨k4, hk4⟩ : ∃ c, fc4 A M k = c := ⟨_, rfl⟩
      obtain ⟨pt, hpt⟩ : ∃ p, partN k = p := ⟨_, rfl⟩
      rw [hf4, hk4, hpt] at hC5
      rw [hf4] at he4 HS4
      rw [hk4] at HS4
      rw [hpt, HHS.out] at hbi
      have HC5 := Lib.hid hC5
      have g1 : (0 : Int) ≤ (k : Int) := by omega
      have g2 : (k : Int) < 12 := by omega
      clear hC5 hf4 hk4 hpt
      obtain ⟨y, hy⟩ : ∃ y, inD kd k = y := ⟨_, rfl⟩
      rw [hy] at hbi hnx
      have HNX := Lib.hid hnx
      clear hy hnx
      rcases y with _ | _
      · have hz : bits BinOp.and IntKind.i64 hs pt = 0 := by simpa using hbi
        have HN := Lib.hid (show takesP (inD kd) (k + 1) (MF.z kd 0 0 0, l1, e1) = (m.pl d L, l, e) by rw [HNX.out]; rfl)
        clear hbi HS4 he4
        go_wp2_with (first
          | ((with_reducible refine load_cells (o := ⟨some 23, _, _, _, _, _⟩) rfl _ _ rfl g (k * 5) ?_ C5 _ X.out Try.underlying49 rfl ?_ ?_); (focus (first | (go_simp; done) | (go_simp; congr 2; omega))); (focus (exact FS.out)))
          | ((with_reducible refine alloc_row (o := ⟨some 8, _, _, _, _, _⟩) rfl _ rfl _ FZ.out ?_); intro wa hr hb hz; have A1 := Lib.hid hr; have BA := Lib.hid hb; clear hr hb hz)
          | ((with_reducible refine store_row (o := ⟨none, _, _, _, _, _⟩) rfl _ (.tmp 8) _ rfl wr.heap.size C5 ?_ ?_ 49 _ A1.out ?_ ?_ ONE.out ?_); (focus go_simp); (focus (first | (go_simp; done) | (go_simp; rfl))); (focus (exact FS.out)); (focus (exact L5.out)); intro wb hr hu; have A2 := Lib.hid hr; have BB := Lib.hid (BA.out.trans (hu.below (Nat.le_refl _))); rw [← HC5.out] at hr; obtain ⟨q0, q1, q2, q3, q4⟩ := hr.q5; clear hr hu))
        clear q0 q1 q2 q3 q4
        go_roundw
        case rel => exact ⟨k + 1, m, d, L, l, e, vint (by omega), by omega, HN, Lib.hid (MW.out.below BB.out), Lib.hid (PR.out.mono BB.out), Lib.hid (FR.out.below BB.out), Lib.hid (GR.out.below BB.out GR.out.lt), Lib.hid (RZ.out.below BB.out RZ.out.lt), Lib.hid (BR.out.trans (BB.out.mono BR.out.size)), Lib.hid (Nat.le_trans SR.out BB.out.size)⟩
        case measure => simp [intOf]; omega
      · have hz : (bits BinOp.and IntKind.i64 hs pt == 0) = false := hbi
        have hz1 : ¬ bits BinOp.and IntKind.i64 hs pt = 0 := by simpa using hbi
        have hz2 : (bits BinOp.and IntKind.i64 hs pt != 0) = true := by simpa using hbi
        obtain ⟨⟨Q, l2, e2⟩, hQ⟩ : ∃ q, takeQ k (m.pl d L, l, e) = q := ⟨_, rfl⟩
        rw [hQ] at HS4
        dsimp only at HS4
        have HN := Lib.hid (show takesP (inD kd) (k + 1) (MF.z kd 0 0 0, l1, e1) = (Q, l2, e2) by rw [HNX.out, ← hQ]; rfl)
        clear hbi hQ
        go_wp2_with (first
          | ((with_reducible refine load_cells (o := ⟨some 23, _, _, _, _, _⟩) rfl _ _ rfl g (k * 5) ?_ C5 _ X.out Try.underlying49 rfl ?_ ?_); (focus (first | (go_simp; done) | (go_simp; congr 2; omega))); (focus (exact FS.out)))
          | ((with_reducible refine alloc_row (o := ⟨some 8, _, _, _, _, _⟩) rfl _ rfl _ FZ.out ?_); intro wa hr hb hz; have A1 := Lib.hid hr; have BA := Lib.hid hb; clear hr hb hz)
          | ((with_reducible refine store_row (o := ⟨none, _, _, _, _, _⟩) rfl _ (.tmp 8) _ rfl wr.heap.size C5 ?_ ?_ 49 _ A1.out ?_ ?_ ONE.out ?_); (focus go_simp); (focus (first | (go_simp; done) | (go_simp; rfl))); (focus (exact FS.out)); (focus (exact L5.out)); intro wb hr hu; have A2 := Lib.hid hr; have BB := Lib.hid (BA.out.trans (hu.below (Nat.le_refl _))); rw [← HC5.out] at hr; obtain ⟨q0, q1, q2, q3, q4⟩ := hr.q5; clear hr hu))
        refine (HS4.out wb BB.out).mono ?_
        rintro x wc ⟨rfl, m2, d2, L2, hm2, hpl, hp2, hft⟩
        have hF : ∀ g, F2 p w3.heap.size g → g < w5.heap.size := fun g hg => hg.elim (fun h => by rw [h]; exact PL5.out) (fun h => by rw [h]; exact ML5.out)
        have NM := Lib.hid hm2
        have NP := Lib.hid hp2
        have NF := Lib.hid ((FR.out.below BB.out).ft hft hF)
        have NG := Lib.hid ((GR.out.below BB.out GR.out.lt).ft hft (fun h => by have := hF g h; have := HGB.out; omega))
        have NR := Lib.hid ((RZ.out.below BB.out RZ.out.lt).ft hft (fun h => h.elim (fun h => by have := HP1.out; omega) (fun h => by have := HP1.out; have := PL3.out; omega)))
        have NB' := Lib.hid (below_ft (BR.out.trans (BB.out.mono BR.out.size)) hft (Nat.le_refl _) (fun g hg => hg.elim (fun h => by have := HP1.out; omega) (fun h => by have := HP1.out; have := PL3.out; omega)))
        have NS := Lib.hid (Nat.le_trans (Nat.le_trans SR.out BB.out.size) hft.size)
        have HN2 := Lib.hid (show takesP (inD kd) (k + 1) (MF.z kd 0 0 0, l1, e1) = (m2.pl d2 L2, l2, e2) by rw [HN.out, hpl])
        clear hm2 hp2 hft hF hpl q0 q1 q2 q3 q4 he4
        go_wp2_with fail
        go_roundw
        case rel => exact ⟨k + 1, m2, d2, L2, l2, e2, vint (by omega), by omega, HN2, NM, NP, NF, NG, NR, NB', NS⟩
        case measure => simp [intOf]; omega
    · obtain rfl : k = 12 := by omega
      have hZ := HZ.out
      rw [HT.out] at hZ
      have HCK := Lib.hid (mpcheck m d L wr MW.out.fit (by have := MW.out.hen; omega))
      have MR := Lib.hid MW.out.row
      have HMZ := Lib.hid (show (Try.prog.info? 25).map (·.size) = some m.cells.length from ms_size)
      rcases chk01M (m.pl d L) with hc | hc
      · rw [hc] at HCK
        obtain ⟨v, hv⟩ : ∃ v, endV l e = v := ⟨_, rfl⟩
        by_cases hv0 : v = 0
        · rw [decM_ok hc (by rw [hv]; exact hv0)] at hZ
          subst hv0 hZ
          have HEND := Lib.hid (fun w' (hb : Below wr.heap.size wr w') => pend p l e w' (PR.out.mono hb))
          rw [hv] at HEND
          clear hc hv
          go_wp2_with (first
            | ((with_reducible refine load_row (o := ⟨some 34, _, _, _, _, _⟩) rfl _ _ rfl w3.heap.size ?_ _ m.cells _ MR.out Try.underlying25 rfl ?_ ?_); (focus go_simp); (focus (exact HMZ.out)))
            | (go_at_call 7; refine HCK.out.mono ?_; rintro x wc ⟨rfl, hb⟩; have MC := Lib.hid (MW.out.below hb); have MRC := Lib.hid MC.out.row; have RZ := Lib.hid (RZ.out.below hb RZ.out.lt); have HEC := Lib.hid (HEND.out wc hb); have BF := Lib.hid (BR.out.trans (hb.mono BR.out.size)); clear hb)
            | (go_at_call 27; refine HEC.out.mono ?_; rintro x w' ⟨rfl, rfl⟩)
            | ((with_reducible refine load_row (o := ⟨some 45, _, _, _, _, _⟩) rfl _ _ rfl w3.heap.size ?_ _ m.cells _ MRC.out Try.underlying25 rfl ?_ ?_); (focus go_simp); (focus (exact HMZ.out)))
            | ((with_reducible refine store_row (o := ⟨none, _, _, _, _, _⟩) rfl _ (.tmp 2) _ rfl w.heap.size m.cells ?_ ?_ 25 _ RZ.out ?_ ?_ ?_ ?_); (focus go_simp); (focus (first | (go_simp; done) | (go_simp; rfl))); (focus (exact HMZ.out)); (focus rfl); (focus (exact ms_one _)); intro wz hr hu; have QZ := Lib.hid hr; have UZ := Lib.hid hu; have BZ := Lib.hid (BF.out.trans (hu.below (Nat.le_refl _))); clear hr hu))
          have hf := MC.out.fit
          have hfz : MsF wz m d L := ⟨hf.k, hf.fr, hf.dt, hf.tm, hf.ix, hf.lt, hf.cm, hf.rn, hf.cf, hf.es.putm RZ.out (NB_ms _) UZ.out (fun hn x off hx => by have := MC.out.eb hn x off hx; have := RL5.out; omega), hf.rd.put RZ.out (NB_ms _) UZ.out, hf.st⟩
          exact bodyPost_ret (results_row_tmp rfl _ _ w.heap.size 25 _ _ _ (by go_simp) QZ.out Try.underlying25 rfl HMZ.out) rfl ⟨m, rfl, d, L, hfz, rfl, BZ.out⟩
        · rw [decM_err hc (by rw [hv]; exact hv0), hv] at hZ
          have hq1 : (v == 0) = false := by simpa using hv0
          have hq2 : (v != 0) = true := by simpa using hv0
          subst hZ
          have HEND := Lib.hid (fun w' (hb : Below wr.heap.size wr w') => pend p l e w' (PR.out.mono hb))
          rw [hv] at HEND
          clear hc hv
          go_wp2_with (first
            | ((with_reducible refine load_row (o := ⟨some 34, _, _, _, _, _⟩) rfl _ _ rfl w3.heap.size ?_ _ m.cells _ MR.out Try.underlying25 rfl ?_ ?_); (focus go_simp); (focus (exact HMZ.out)))
            | (go_at_call 7; refine HCK.out.mono ?_; rintro x wc ⟨rfl, hb⟩; have RZ := Lib.hid (RZ.out.below hb RZ.out.lt); have HEC := Lib.hid (HEND.out wc hb); have BF := Lib.hid (BR.out.trans (hb.mono BR.out.size)); clear hb)
            | (go_at_call 27; refine HEC.out.mono ?_; rintro x w' ⟨rfl, rfl⟩)
            | ((with_reducible refine build_row (o := ⟨some 43, _, _, _, _, _⟩) rfl _ _ rfl msZ.cells ?_ ?_); (focus (go_simp; exact built_z)))
            | ((with_reducible refine store_row (o := ⟨none, _, _, _, _, _⟩) rfl _ (.tmp 2) _ rfl w.heap.size msZ.cells ?_ ?_ 25 _ RZ.out ?_ ?_ ?_ ?_); (focus go_simp); (focus (first | (go_simp; done) | (go_simp; rfl))); (focus (exact SZ.out)); (focus rfl); (focus (exact ms_one _)); intro wz hr hu; have QZ := Lib.hid hr; have BZ := Lib.hid (BF.out.trans (hu.below (Nat.le_refl _))); clear hr hu))
          exact bodyPost_ret (results_row_tmp rfl _ _ w.heap.size 25 _ _ _ (by go_simp) QZ.out Try.underlying25 rfl SZ.out) rfl ⟨msZ, rfl, [], [], msZ_fit _, rfl, BZ.out⟩
      · rw [hc] at HCK
        rw [decM_bad hc] at hZ
        obtain ⟨v, hv⟩ : ∃ v, failE e 3 = v := ⟨_, rfl⟩
        have hv0 : v ≠ 0 := by rw [← hv]; exact failE_ne e
        have hq1 : (v == 0) = false := by simpa using hv0
        have hq2 : (v != 0) = true := by simpa using hv0
        have HFL := Lib.hid (fun w' (hb : Below wr.heap.size wr w') => pfail p l e 3 w' (PR.out.mono hb))
        obtain ⟨l3, hl3⟩ : ∃ l3, failL l e 3 = l3 := ⟨_, rfl⟩
        rw [hv, hl3] at HFL
        have HEV := Lib.hid (show endV l3 v = v from endE hv0)
        rw [hv] at hZ
        subst hZ
        clear hc hv hl3
        go_wp2_with (first
          | ((with_reducible refine load_row (o := ⟨some 34, _, _, _, _, _⟩) rfl _ _ rfl w3.heap.size ?_ _ m.cells _ MR.out Try.underlying25 rfl ?_ ?_); (focus go_simp); (focus (exact HMZ.out)))
          | (go_at_call 7; refine HCK.out.mono ?_; rintro x wc ⟨rfl, hb⟩; have RZ := Lib.hid (RZ.out.below hb RZ.out.lt); have HFC := Lib.hid (HFL.out wc hb); have BF := Lib.hid (BR.out.trans (hb.mono BR.out.size)); clear hb)
          | (go_at_call 26; refine HFC.out.mono ?_; rintro x wd ⟨rfl, hp3, hu3⟩; have P9 := Lib.hid hp3; have RZ := Lib.hid (RZ.out.upd hu3 (by have := HP1.out; omega)); have BF := Lib.hid (BF.out.trans (hu3.below (by have := HP1.out; omega))); clear hp3 hu3)
          | (go_at_call 27; refine (pend p l3 v wd P9.out).mono ?_; rw [HEV.out]; rintro x w' ⟨rfl, rfl⟩)
          | ((with_reducible refine build_row (o := ⟨some 43, _, _, _, _, _⟩) rfl _ _ rfl msZ.cells ?_ ?_); (focus (go_simp; exact built_z)))
          | ((with_reducible refine store_row (o := ⟨none, _, _, _, _, _⟩) rfl _ (.tmp 2) _ rfl w.heap.size msZ.cells ?_ ?_ 25 _ RZ.out ?_ ?_ ?_ ?_); (focus go_simp); (focus (first | (go_simp; done) | (go_simp; rfl))); (focus (exact SZ.out)); (focus rfl); (focus (exact ms_one _)); intro wz hr hu; have QZ := Lib.hid hr; have BZ := Lib.hid (BF.out.trans (hu.below (Nat.le_refl _))); clear hr hu))
        exact bodyPost_ret (results_row_tmp rfl _ _ w.heap.size 25 _ _ _ (by go_simp) QZ.out Try.underlying25 rfl SZ.out) rfl ⟨msZ, rfl, [], [], msZ_fit _, rfl, BZ.out⟩
end Go.Proofs.Ytdcioeoofngibaa.W

namespace Go.Proofs.Ytdcioeoofngibaa.W
open Go Go.ChangeShapes Go.WideShapes Go.ChangeAt Go.RowKit

theorem law_MsgBack (m : Ms) (ba : Option Addr) (bm bc : Nat) (zs : List Int) (w : World) (wm : ∃ l L, MsF w m l L) (wb : IsRow .u8 w ba bm bc zs) :
    Calls Try.prog 4 #[.agg m.cells.toArray, .slice ba bm bc] w fun x w' => x = .returned (.bool true) ∧ Below w.heap.size w w' := by
  obtain ⟨d, L, hm⟩ := wm
  exact back_of mpencP decD decD_ok mpdec m ba bm bc _ d L w hm (Rd.of_row wb)
end Go.Proofs.Ytdcioeoofngibaa.W
