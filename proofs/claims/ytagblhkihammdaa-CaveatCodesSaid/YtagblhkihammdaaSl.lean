/- CONTRACTS of slices.Clone and slices.Equal at bytes; small facts on what a call owns. -/
import Derived.Test.YtagblhkihammdaaMem2
import Derived.Deep.QuietTactic
import Derived.BigQuiet
import Derived.Laws.IdiomStrings
import Derived.Laws.BytesArg
namespace Go.Proofs.Ytagblhkihammdaa.W
open Go.ChangeShapes Go.WideShapes Go.ChangeAt Go.RowKit

/-- a store into a slice that the call owns -/
theorem Fr.set {w : World} {base g n cap : Nat} {l : List UInt8} (h : Fr w base (.slice (some ⟨g, 0, none⟩) n cap) l) (j : Nat) (x : UInt8) (hn : n = l.length) :
    Fr (w.setCell ⟨g, j, none⟩ (B x)) base (.slice (some ⟨g, 0, none⟩) n cap) (l.set j x) := by
  subst hn
  have := (World.ownsRow.stored h j (B x)).1
  unfold Fr; rw [List.length_set, List.map_set]; exact this
theorem Fr.cellAt {w : World} {base g n cap : Nat} {l : List UInt8} (h : Fr w base (.slice (some ⟨g, 0, none⟩) n cap) l) (j : Nat) (hj : j < l.length) (hn : n = l.length) :
    w.cell? ⟨g, j, none⟩ = some (B (l.getD j 0)) := by
  subst hn
  rw [World.ownsRow.cellAt h j (by omega)]; simp [hj]
theorem Fr.frozenAt {w : World} {base g n cap : Nat} {l : List UInt8} (h : Fr w base (.slice (some ⟨g, 0, none⟩) n cap) l) (j : Nat) (hn : n = l.length) :
    w.frozen? ⟨g, j, none⟩ = false := by
  subst hn
  exact World.ownsRow.frozenAt h j
theorem Fr.pos {w : World} {base : Nat} {v : Value} {l : List UInt8} (h : Fr w base v l) (hp : l ≠ []) : ∃ g cap, v = .slice (some ⟨g, 0, none⟩) l.length cap ∧ l.length ≤ cap ∧ base ≤ g ∧ g < w.heap.size := by
  obtain ⟨a, cap, rfl, hr, rfl | ⟨g, rfl, hg, hlt⟩⟩ := h.form
  · have h1 := hr.hnil rfl
    have h2 := hr.hle
    exact absurd (List.eq_nil_of_length_eq_zero (by omega)) hp
  · exact ⟨g, cap, rfl, hr.hle, hg, hlt⟩

/-! ### the library's -/
theorem Fr.empty (w : World) (base : Nat) (hb : base ≤ w.heap.size) : Fr (w.alloc (.cells #[] 5)) base (.slice (some ⟨w.heap.size, 0, none⟩) 0 0) [] :=
  ⟨rfl, .inr ⟨w.heap.size, 0, #[], rfl, hb, heap_alloc_new w _, Nat.le_refl _, Nat.zero_le _, rfl, rfl⟩⟩


theorem take_snoc_eq {l l' : List UInt8} {k : Nat} (h : k < l.length) (h' : k < l'.length) (ht : l.take k = l'.take k) (hx : l.getD k 0 = l'.getD k 0) : l.take (k + 1) = l'.take (k + 1) := by
  rw [List.take_succ_eq_append_getElem h, List.take_succ_eq_append_getElem h', ht]
  have h1 : l.getD k 0 = l[k] := by simp [h]
  have h2 : l'.getD k 0 = l'[k] := by simp [h']
  rw [← h1, ← h2, hx]

/-- nothing but draws -/
def Quiet (w w' : World) : Prop := ∃ q, w' = w.drewN q
theorem Quiet.below {w w' : World} (h : Quiet w w') (base : Nat) : Below base w w' := by
  obtain ⟨q, rfl⟩ := h
  exact below_drewN (Below.refl _ _) q
theorem Quiet.refl (w : World) : Quiet w w := ⟨0, rfl⟩

set_option maxHeartbeats 1000000 in
theorem sequal (a a' : Option Addr) (n n' c c' : Nat) (l l' : List UInt8) (w : World) (hr : Rd w a n c l) (hr' : Rd w a' n' c' l') :
    Calls Try.prog 7 #[.slice a n c, .slice a' n' c'] w fun e w' => e = .returned (.bool (decide (l = l'))) ∧ Quiet w w' := by
  have hm := hr.hmax
  have hle := hr.hle
  have hl := hr.hlen
  have hl' := hr'.hlen
  by_cases hn : n = n'
  · subst hn
    have HL := Lib.hid hl
    have HL' := Lib.hid hl'
    by_cases h0 : n = 0
    · have e : l = l' := by rw [List.eq_nil_of_length_eq_zero (l := l) (by omega), List.eq_nil_of_length_eq_zero (l := l') (by omega)]
      subst h0
      clear hl hl' hr hr' hm hle
      go_enter Try.func7, Try.ntmps7
      go_wp2_with fail
      go_loopw [13] (fun i wr => i = .int .i64 0 ∧ w = wr) (fun _ _ => 0)
      case atStart => exact ⟨rfl, rfl⟩
      case round =>
        obtain ⟨rfl, rfl⟩ := hrel
        go_wp2_with fail
        go_ret
        exact ⟨one (vbool (by simp [e])), 0, rfl⟩
    · obtain ⟨b, off, rfl, hlt, hc⟩ := hr.lt_of h0
      obtain ⟨b', off', rfl, hlt', hc'⟩ := hr'.lt_of h0
      have HC := Lib.hid hc
      have HC' := Lib.hid hc'
      clear hl hl' hr hr' hc hc'
      go_enter Try.func7, Try.ntmps7
      go_wp2_with fail
      go_loopw [13] (fun i wr => ∃ k q : Nat, i = .int .i64 k ∧ k ≤ n ∧ Hid (l.take k = l'.take k) ∧ wr = w.drewN q) (fun i _ => n - (intOf i).toNat)
      case atStart => exact ⟨0, 0, rfl, Nat.zero_le _, Lib.hid rfl, rfl⟩
      case round =>
        obtain ⟨k, q, rfl, hk, HT, rfl⟩ := hrel
        by_cases hkn : k < n
        · have c1 : w.cell? ⟨b, off + k, none⟩ = some (B (l.getD k 0)) := HC.out k hkn
          have c2 : w.cell? ⟨b', off' + k, none⟩ = some (B (l'.getD k 0)) := HC'.out k hkn
          have hkl : k < l.length := by rw [HL.out]; exact hkn
          have hkl' : k < l'.length := by rw [HL'.out]; exact hkn
          by_cases hx : l.getD k 0 = l'.getD k 0
          · have HT2 := Lib.hid (take_snoc_eq hkl hkl' HT.out hx)
            rw [← hx] at c2
            clear hkl hkl' hx
            generalize l.getD k 0 = x at *
            unfold B at c1 c2
            go_wp2_with fail
            go_quiet (fail)
            go_wp2_with fail
            go_roundw
            case rel => exact ⟨k + 1, q + nq, by go_num, by omega, HT2, by first | rfl | rw [World.drewN_drewN]⟩
            case measure => simp [intOf]; omega
          · have e : l ≠ l' := by rintro rfl; exact hx rfl
            have hd : (((l.getD k 0).toNat : Int) != ((l'.getD k 0).toNat : Int)) = true := by
              rw [bne_iff_ne]; intro h; exact hx (UInt8.toNat_inj.1 (by omega))
            have E := Lib.hid e
            clear hkl hkl' hx e
            generalize l.getD k 0 = x at *
            generalize l'.getD k 0 = y at *
            unfold B at c1 c2
            go_wp2_with fail
            go_quiet (fail)
            go_wp2_with fail
            go_ret
            exact ⟨one (vbool (by have := E.out; simp [this])), by first | exact ⟨_, rfl⟩ | exact ⟨q + nq, by rw [World.drewN_drewN]⟩⟩
        · obtain rfl : k = n := by omega
          have e : l = l' := by
            have := HT.out
            rwa [List.take_of_length_le (by rw [HL.out]; omega), List.take_of_length_le (by rw [HL'.out]; omega)] at this
          have E := Lib.hid e
          clear e
          go_wp2_with fail
          go_ret
          exact ⟨one (vbool (by have := E.out; simp [this])), by first | exact ⟨_, rfl⟩ | exact ⟨q + nq, by rw [World.drewN_drewN]⟩⟩
  · have e : l ≠ l' := by rintro rfl; omega
    have hne : ((n : Int) == (n' : Int)) = false := by simp; omega
    clear hr hr'
    go_enter Try.func7, Try.ntmps7
    go_wp2_with fail
    go_ret
    exact ⟨one (vbool (by simp [e])), 0, rfl⟩

/-- bytes in new memory -/
theorem rd_new (w : World) (l : List UInt8) (cs : Array Value) (t : TypeId) (hc : cs = (l.map B).toArray) (hl : l.length ≤ 9223372036854775807) :
    Rd (w.alloc (.cells cs t)) (some ⟨w.heap.size, 0, none⟩) l.length l.length l := by
  subst hc
  refine ⟨rfl, Nat.le_refl _, hl, (fun h => by cases h), .inr ⟨_, 0, rfl, by simp, fun i hi => ?_⟩⟩
  rw [cell_of_row _ w.heap.size (0 + i) _ t _ (heap_alloc_new w _)]; simp [hi]
theorem Blk.rd' {w : World} {g : Nat} {L : List UInt8} (h : Blk w g L) (n : Nat) (hn : L.length = n) (hm : n ≤ 9223372036854775807) : Rd w (some ⟨g, 0, none⟩) n n L := by
  subst hn; exact h.rd hm
theorem Fr.form' {w : World} {base : Nat} {v : Value} {l : List UInt8} (h : Fr w base v l) (n : Nat) (hn : l.length = n) : ∃ a cap, v = .slice a n cap ∧ Rd w a n cap l := by
  subst hn
  obtain ⟨a, cap, hv, hr, -⟩ := h.form
  exact ⟨a, cap, hv, hr⟩
/-- bytes that the call made in place are its own -/
theorem Fr.fresh (w : World) (base : Nat) (hb : base ≤ w.heap.size) (x : UInt8) : Fr (w.alloc (.cells #[B x] 5)) base (.slice (some ⟨w.heap.size, 0, none⟩) 1 1) [x] :=
  ⟨rfl, .inr ⟨w.heap.size, 1, #[B x], rfl, hb, heap_alloc_new w _, Nat.le_refl _, by unfold maxLen; omega, rfl, rfl⟩⟩
/-- a string of bytes -/
def str (l : List UInt8) : ByteArray := ⟨l.toArray⟩
theorem str_data (l : List UInt8) : (str l).data.toList = l := rfl
theorem str_size (l : List UInt8) : (str l).size = l.length := rfl
theorem conv_rd {w : World} {a : Option Addr} {len cap : Nat} {l : List UInt8} (h : Rd w a len cap l) :
    (Go.convert 25 9 (.slice a len cap)).run Try.prog w = .ok (.string (str l)) w := by
  rcases a with _ | ad
  · have h1 := h.hnil rfl
    have h2 := h.hle
    have h3 := h.hlen
    obtain rfl : len = 0 := by omega
    have : l = [] := List.eq_nil_of_length_eq_zero h3
    subst this
    exact run_convert_bytes_nil w 25 5 Try.underlying25 Try.underlying5 0 cap 9 Try.underlying9
  · have := run_convert_bytes_back (P := Try.prog) w 25 9 5 ad cap l Try.underlying25 Try.underlying5 Try.underlying9 (by
      intro j hj
      obtain ⟨b, off, e, -, hc⟩ := h.lt_of (by have := h.hlen; omega)
      obtain rfl : ad = ⟨b, off, none⟩ := by simpa using e
      rw [Go.WideShapes.add_plain, hc j (by have := h.hlen; omega), B]
      simp [hj])
    rw [h.hlen] at this
    exact this

end Go.Proofs.Ytagblhkihammdaa.W
