/- LISTS OF INTS as lists of structs of one cell: that they read as a list, are built, cloned, compared; what is in them. -/
import Derived.Test.YtkfhppbmnjmnoaaGreatDoorBi
import Derived.Test.YtkfhppbmnjmnoaaGreatDoorLn
set_option linter.unusedSimpArgs false
set_option linter.unusedVariables false
namespace Go.Proofs.YtkfhppbmnjmnoaaGreatDoor.W
open Go Go.ChangeShapes Go.WideShapes Go.ChangeAt Go.RowKit
open Go.Proofs.YtkfhppbmnjmnoaaGreatDoor.S

@[reducible] def intE : El Int := ⟨31, 3, 1, 8, .int .i64 0, fun x => [.int .i64 x], fun _ x => SI64 x⟩
theorem intOk : intE.Ok Tryz.prog where
  und := Tryz.underlying31
  info := by kernel_rfl
  zs := rfl
  pos := by decide
  len := fun _ => rfl
  one := fun s v hv => by simp at hv; subst hv; rfl
  mono := fun _ _ _ h _ => h
  small := by decide
theorem int_size : (Tryz.prog.info? 3).map (·.size) = some 1 := by kernel_rfl
theorem intNb : intE.Nb where
  z := by intro x hx; simp [B, Value.cells] at hx
  c := fun s => by intro x hx; simp [B] at hx
  p := by decide
theorem Ls.sl {w : World} {a : Option Addr} {n c : Nat} {L : List Int} (h : Ls intE w a n c L) : Sl .i64 w a n L := by
  have h1 := h.hle
  have h2 := h.hmax
  refine ⟨h.hlen, by omega, fun x hx => wf64 (h.hfit x hx), ?_⟩
  rcases h.hcells with e | ⟨b, off, rfl, hlt, hc⟩
  · exact .inl e
  · refine .inr ⟨b, off, rfl, hlt, fun i hi => ?_⟩
    have hil : i < L.length := by rw [h.hlen]; exact hi
    have := hc i L[i] (List.getElem?_eq_getElem hil) 0 (.int .i64 L[i]) rfl
    rw [show off + i * intE.k + 0 = off + i by show off + i * 1 + 0 = off + i; omega] at this
    rw [this]; simp [hil]
theorem Sl.ls {w : World} {a : Option Addr} {n c : Nat} {L : List Int} (h : Sl .i64 w a n L) (hc : n ≤ c) (hm : c ≤ 9223372036854775807) (hn : a = none → c = 0) : Ls intE w a n c L := by
  obtain ⟨h1, h2, h3, h4⟩ := h
  refine ⟨h1, hc, hm, fun x hx => bd (h3 x hx), hn, ?_⟩
  rcases h4 with e | ⟨b, off, rfl, hlt, hcell⟩
  · exact .inl e
  · refine .inr ⟨b, off, rfl, hlt, fun i x hi j v hj => ?_⟩
    obtain ⟨hi1, hi2⟩ := List.getElem?_eq_some_iff.1 hi
    have hj1 : j < 1 := (List.getElem?_eq_some_iff.1 hj).1
    obtain rfl : j = 0 := by omega
    have := hcell i (by rw [← h1]; exact hi1)
    rw [show off + i * intE.k + 0 = off + i by show off + i * 1 + 0 = off + i; omega, this]
    simp at hj
    subst hj
    simp [hi1, hi2]
theorem Sl.at {w wr : World} {a : Option Addr} {n : Nat} {L : List Int} (h : Sl .i64 w a n L) (hb : Below w.heap.size w wr) (k : Nat) (hk : k < n) :
    ∃ b off x, a = some ⟨b, off, none⟩ ∧ L[k]? = some x ∧ wr.cell? ⟨b, off + k, none⟩ = some (.int .i64 x) ∧ SI64 x := by
  obtain ⟨h1, h2, h3, h4⟩ := h
  rcases h4 with e | ⟨b, off, rfl, hlt, hcell⟩
  · omega
  · have hk2 : k < L.length := by rw [h1]; exact hk
    refine ⟨b, off, L[k], rfl, by simp [hk2], ?_, bd (h3 _ (List.getElem_mem hk2))⟩
    rw [hb.cell (p := ⟨b, off + k, none⟩) hlt, hcell k hk]
    simp [hk2]
theorem int_out {w' : World} {base : Nat} {a : Option Addr} {n c : Nat} {L : List Int} (h : LsO intE w' base (.slice a n c) L) (hl : L.length = n) (hf : ∀ x ∈ L, SI64 x) : Ls intE w' a n c L ∧ ∀ b off, a = some ⟨b, off, none⟩ → base ≤ b := by
  obtain ⟨a', c', e, hl', hp⟩ := h.ls intOk hf
  rw [hl] at e hl'
  injection e with e1 e2 e3
  subst e1 e3
  exact ⟨hl', fun b off e => (hp b off e).1⟩
/-- a block that is younger than a list -/
theorem Ls.young {α : Type} {E : El α} {w w' : World} {g : Nat} {a : Option Addr} {n c : Nat} {L : List α} (h : Ls E w a n c L) (h0 : 0 < n → ∀ b off, a = some ⟨b, off, none⟩ → b ≠ g) (hu : Upd w w' g) (hf : ∀ x ∈ L, E.fit w' x) : Ls E w' a n c L := by
  refine ⟨h.hlen, h.hle, h.hmax, hf, h.hnil, ?_⟩
  rcases h.hcells with e | ⟨b, off, rfl, hlt, hc⟩
  · exact .inl e
  · rcases Nat.eq_zero_or_pos n with hn | hn
    · exact .inl hn
    · exact .inr ⟨b, off, rfl, Nat.lt_of_lt_of_le hlt (Nat.le_of_eq hu.size.symm), fun i x hi j v hj => by
        rw [World.cell?_of_block (a := ⟨b, off + i * E.k + j, none⟩) (hu.block b (h0 hn b off rfl))]
        exact hc i x hi j v hj⟩
theorem Ls.older {α : Type} {E : El α} {w : World} {a : Option Addr} {n c : Nat} {L : List α} (h : Ls E w a n c L) (hn : 0 < n) : ∀ b off, a = some ⟨b, off, none⟩ → b < w.heap.size := by
  intro b off e
  rcases h.hcells with e0 | ⟨b', off', e', hlt, -⟩
  · omega
  · rw [e] at e'; injection e' with e'; injection e' with e1; subst e1; exact hlt
theorem take_snoc_eqZ {l l' : List Int} {k : Nat} (h : k < l.length) (h' : k < l'.length) (ht : l.take k = l'.take k) (hx : l.getD k 0 = l'.getD k 0) : l.take (k + 1) = l'.take (k + 1) := by
  rw [List.take_succ_eq_append_getElem h, List.take_succ_eq_append_getElem h', ht]
  have h1 : l.getD k 0 = l[k] := by simp [h]
  have h2 : l'.getD k 0 = l'[k] := by simp [h']
  rw [← h1, ← h2, hx]
set_option maxRecDepth 100000 in
set_option maxHeartbeats 16000000 in
theorem iclone (a : Option Addr) (n c : Nat) (L : List Int) (w : World) (h : Ls intE w a n c L) (hn : n ≤ 1000) :
    Calls Tryz.prog 78 #[.slice a n c] w fun x w' => ∃ a' c', x = .returned (.slice a' n c') ∧ LsO intE w' w.heap.size (.slice a' n c') L ∧ Below w.heap.size w w' := by
  have H := Lib.hid h
  have hnil := fun (w : World) (a : Option Addr) (n c : Nat) => Lib.run_eql_slice_nil (P := Tryz.prog) w 31 3 a n c 0 0 Tryz.underlying31
  rcases a with _ | ad
  · have h0 := h.hnil rfl
    have h1 := h.hle
    have h2 := h.hlen
    obtain rfl : n = 0 := by omega
    have : L = [] := List.eq_nil_of_length_eq_zero h2
    subst this h0
    clear h h1 h2
    go_enter Tryz.func78, Tryz.ntmps78
    go_wp2_with fail
    go_ret
    exact ⟨none, 0, rfl, LsO.nil _ _, Below.refl _ _⟩
  · have HL := Lib.hid h.hlen
    have HFIT := Lib.hid (show ∀ x ∈ L, SI64 x from h.hfit)
    clear h
    go_enter Tryz.func78, Tryz.ntmps78
    go_wp2_with (at_builtin; refine append_ls intOk rfl _ _ rfl w.heap.size _ [] rfl (LsO.empty w _ (Nat.le_refl _)) (some ad) n c L rfl (H.out.mono intOk ((Below.refl _ _).alloc (Nat.le_refl _) _)) (by simp; omega) (by simp) ?_; intro v2 w2 hN hb2 _ _; have N2 := Lib.hid (show LsO intE w2 w.heap.size v2 L from hN); have B2 := Lib.hid (((Below.refl _ _).alloc (Nat.le_refl _) _).trans hb2); clear hN hb2)
    obtain ⟨a2, c2, hv, -, -⟩ := N2.out.ls intOk HFIT.out
    subst hv
    rw [HL.out] at N2 ⊢
    go_ret
    exact ⟨a2, c2, rfl, N2.out, B2.out⟩
set_option maxRecDepth 100000 in
set_option maxHeartbeats 4000000 in
theorem ixno (id : Int) (a : Option Addr) (n c : Nat) (L : List Int) (w : World) (h : Sl .i64 w a n L) (hno : id ∉ L) :
    Calls Tryz.prog 68 #[.slice a n c, .int .i64 id] w fun x w' => x = .returned (.int .i64 (-1)) ∧ w = w' := by
  have H := Lib.hid h
  have HNO := Lib.hid hno
  have hm := h.2.1
  clear h hno
  go_enter Tryz.func68, Tryz.ntmps68
  go_wp2_with fail
  go_loop [8] (fun i => ∃ k : Nat, i = .int .i64 (k : Int) ∧ k ≤ n) (fun i => n - (intOf i).toNat)
  case atStart => exact ⟨0, rfl, Nat.zero_le _⟩
  case round =>
    obtain ⟨k, rfl, hk⟩ := hrel
    by_cases hlt : k < n
    · obtain ⟨b, off, x, rfl, hx, hcell, -⟩ := H.out.at (Below.refl _ _) k hlt
      have hne : (id == x) = false := by
        have := HNO.out
        simp
        rintro rfl
        exact this (List.mem_of_getElem? hx)
      have g1 : (0 : Int) ≤ (k : Int) := by omega
      have g2 : (k : Int) < (n : Int) := by omega
      clear hx
      go_wp2_with fail
      go_round
      case rel => exact ⟨k + 1, by go_num, by omega⟩
      case measure => simp [intOf]; omega
    · obtain rfl : n = k := by omega
      go_wp2_with fail
      go_ret
      exact ⟨rfl, rfl⟩
set_option maxRecDepth 100000 in
set_option maxHeartbeats 4000000 in
theorem ixat (id : Int) (a : Option Addr) (n c : Nat) (L : List Int) (w : World) (h : Sl .i64 w a n L) (hin : id ∈ L) :
    Calls Tryz.prog 68 #[.slice a n c, .int .i64 id] w fun x w' => ∃ z : Nat, x = .returned (.int .i64 (z : Int)) ∧ w = w' := by
  have H := Lib.hid h
  have hm := h.2.1
  have hl := h.1
  have HS := Lib.hid (show id ∈ L.drop 0 from hin)
  have HL := Lib.hid hl
  clear h hin hl
  go_enter Tryz.func68, Tryz.ntmps68
  go_wp2_with fail
  go_loop [8] (fun i => ∃ k : Nat, i = .int .i64 (k : Int) ∧ k ≤ n ∧ Hid (id ∈ L.drop k)) (fun i => n - (intOf i).toNat)
  case atStart => exact ⟨0, rfl, Nat.zero_le _, HS⟩
  case round =>
    obtain ⟨k, rfl, hk, HK⟩ := hrel
    by_cases hlt : k < n
    · obtain ⟨b, off, x, rfl, hx, hcell, -⟩ := H.out.at (Below.refl _ _) k hlt
      have hd : L.drop k = x :: L.drop (k + 1) := by
        obtain ⟨h1, h2⟩ := List.getElem?_eq_some_iff.1 hx
        rw [List.drop_eq_getElem_cons h1, h2]
      have hk2 := HK.out
      rw [hd] at hk2
      have g1 : (0 : Int) ≤ (k : Int) := by omega
      have g2 : (k : Int) < (n : Int) := by omega
      clear hx hd
      by_cases hne : id = x
      · subst hne
        clear hk2
        go_wp2_with fail
        go_ret
        exact ⟨⟨k, rfl⟩, rfl⟩
      · have HK2 := Lib.hid ((List.mem_cons.1 hk2).resolve_left hne)
        have hne2 : (id == x) = false := by simpa using hne
        clear hk2
        go_wp2_with fail
        go_round
        case rel => exact ⟨k + 1, by go_num, by omega, HK2⟩
        case measure => simp [intOf]; omega
    · obtain rfl : n = k := by omega
      have := HK.out
      rw [List.drop_eq_nil_of_le (by rw [HL.out]; exact Nat.le_refl _)] at this
      cases this
set_option maxRecDepth 100000 in
theorem icontains (id : Int) (a : Option Addr) (n c : Nat) (L : List Int) (w : World) (h : Sl .i64 w a n L) :
    Calls Tryz.prog 34 #[.slice a n c, .int .i64 id] w fun x w' => x = .returned (.bool (decide (id ∈ L))) ∧ w = w' := by
  by_cases hin : id ∈ L
  · have HC := Lib.hid (ixat id a n c L w h hin)
    have HI := Lib.hid hin
    clear h hin
    go_enter Tryz.func34, Tryz.ntmps34
    go_wp2_with (go_at_call 68; (with_reducible refine HC.out.mono ?_); rintro e w' ⟨z, rfl, rfl⟩)
    go_ret
    exact ⟨one (vbool (by have := HI.out; simp [this])), rfl⟩
  · have HC := Lib.hid (ixno id a n c L w h hin)
    have HI := Lib.hid hin
    clear h hin
    go_enter Tryz.func34, Tryz.ntmps34
    go_wp2_with (go_at_call 68; (with_reducible refine HC.out.mono ?_); rintro e w' ⟨rfl, rfl⟩)
    go_ret
    exact ⟨one (vbool (by have := HI.out; simp [this])), rfl⟩
end Go.Proofs.YtkfhppbmnjmnoaaGreatDoor.W
