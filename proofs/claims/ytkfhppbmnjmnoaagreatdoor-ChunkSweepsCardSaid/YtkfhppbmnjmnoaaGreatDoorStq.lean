/- slices.Sort of strings, and the keys of a map, sorted, by the shelf's contracts. -/
import Derived.Test.YtkfhppbmnjmnoaaGreatDoorSm
import Derived.Test.YtkfhppbmnjmnoaaGreatDoorStr
import Derived.Test.YtkfhppbmnjmnoaaGreatDoorIzI
import Derived.Shelf.Sort.Plain
import Derived.Shelf.Slices.In.SortNone
import Derived.Shelf.SlIter.Nil
import Derived.Sort.OwnSorted
import Derived.Lib.OwnBridge
import Derived.Shelf.Slices.SearchI
import Derived.Shelf.Slices.Empties
set_option linter.unusedSimpArgs false
set_option linter.unusedVariables false
namespace Go.Proofs.YtkfhppbmnjmnoaaGreatDoor.W
open Go Go.ChangeShapes Go.WideShapes Go.ChangeAt Go.RowKit
open Go.Sort Go.Shelf

def laysSort_ren : Go.Shelf.Ren := ⟨fun | 190 => 88 | 125 => 101 | 258 => 100 | 128 => 120 | 129 => 121 | 302 => 111 | 303 => 112 | 304 => 113 | 305 => 114 | 306 => 115 | 307 => 116 | 308 => 117 | 309 => 118 | 310 => 119 | 333 => 126 | 329 => 127 | 330 => 128 | 334 => 129 | 335 => 130 | 336 => 131 | 344 => 133 | n => n, fun | 31 => 32 | 9 => 9 | 3 => 3 | 46 => 69 | 0 => 0 | 51 => 76 | 53 => 98 | 4 => 4 | 183 => 128 | 182 => 127 | 131 => 107 | 5 => 5 | 218 => 137 | 222 => 141 | 228 => 143 | 229 => 144 | n => n, fun | n => n⟩
theorem laysSort : Go.Proofs.Lays.n190 Tryz.prog laysSort_ren := {
  mixed := by kernel_rfl
  f125 := Tryz.func101.trans (congrArg some (by kernel_rfl))
  f128 := Tryz.func120.trans (congrArg some (by kernel_rfl))
  f129 := Tryz.func121.trans (congrArg some (by kernel_rfl))
  f190 := Tryz.func88.trans (congrArg some (by kernel_rfl))
  f258 := Tryz.func100.trans (congrArg some (by kernel_rfl))
  f302 := Tryz.func111.trans (congrArg some (by kernel_rfl))
  f303 := Tryz.func112.trans (congrArg some (by kernel_rfl))
  f304 := Tryz.func113.trans (congrArg some (by kernel_rfl))
  f305 := Tryz.func114.trans (congrArg some (by kernel_rfl))
  f306 := Tryz.func115.trans (congrArg some (by kernel_rfl))
  f307 := Tryz.func116.trans (congrArg some (by kernel_rfl))
  f308 := Tryz.func117.trans (congrArg some (by kernel_rfl))
  f309 := Tryz.func118.trans (congrArg some (by kernel_rfl))
  f310 := Tryz.func119.trans (congrArg some (by kernel_rfl))
  f329 := Tryz.func127.trans (congrArg some (by kernel_rfl))
  f330 := Tryz.func128.trans (congrArg some (by kernel_rfl))
  f333 := Tryz.func126.trans (congrArg some (by kernel_rfl))
  f334 := Tryz.func129.trans (congrArg some (by kernel_rfl))
  f335 := Tryz.func130.trans (congrArg some (by kernel_rfl))
  f336 := Tryz.func131.trans (congrArg some (by kernel_rfl))
  f344 := Tryz.func133.trans (congrArg some (by kernel_rfl))
  t0 := Tryz.underlying0
  a0 := Tryz.isAgg0
  z0 := Tryz.sizeOf0
  v0 := Tryz.zeroValue0
  t3 := Tryz.underlying3
  a3 := Tryz.isAgg3
  z3 := Tryz.sizeOf3
  v3 := Tryz.zeroValue3
  t4 := Tryz.underlying4
  a4 := Tryz.isAgg4
  z4 := Tryz.sizeOf4
  v4 := Tryz.zeroValue4
  t5 := Tryz.underlying5
  a5 := Tryz.isAgg5
  z5 := Tryz.sizeOf5
  v5 := Tryz.zeroValue5
  t9 := Tryz.underlying9
  a9 := Tryz.isAgg9
  z9 := Tryz.sizeOf9
  v9 := Tryz.zeroValue9
  t31 := Tryz.underlying32
  a31 := Tryz.isAgg32
  z31 := Tryz.sizeOf32
  v31 := Tryz.zeroValue32
  t46 := Tryz.underlying69
  a46 := Tryz.isAgg69
  z46 := Tryz.sizeOf69
  v46 := Tryz.zeroValue69
  t51 := Tryz.underlying76
  a51 := Tryz.isAgg76
  z51 := Tryz.sizeOf76
  v51 := Tryz.zeroValue76
  t53 := Tryz.underlying98
  a53 := Tryz.isAgg98
  z53 := Tryz.sizeOf98
  v53 := Tryz.zeroValue98
  t131 := Tryz.underlying107
  a131 := Tryz.isAgg107
  z131 := Tryz.sizeOf107
  v131 := Tryz.zeroValue107
  t182 := Tryz.underlying127
  a182 := Tryz.isAgg127
  z182 := Tryz.sizeOf127
  v182 := Tryz.zeroValue127
  t183 := Tryz.underlying128
  a183 := Tryz.isAgg128
  z183 := Tryz.sizeOf128
  v183 := Tryz.zeroValue128
  t218 := Tryz.underlying137
  a218 := Tryz.isAgg137
  z218 := Tryz.sizeOf137
  v218 := Tryz.zeroValue137
  t222 := Tryz.underlying141
  a222 := Tryz.isAgg141
  z222 := Tryz.sizeOf141
  v222 := Tryz.zeroValue141
  t228 := Tryz.underlying143
  a228 := Tryz.isAgg143
  z228 := Tryz.sizeOf143
  v228 := Tryz.zeroValue143
  t229 := Tryz.underlying144
  a229 := Tryz.isAgg144
  z229 := Tryz.sizeOf144
  v229 := Tryz.zeroValue144 }
def laysKeys_ren : Go.Shelf.Ren := ⟨fun | 7 => 77 | 10 => 92 | n => n, fun | 23 => 64 | 26 => 9 | 3 => 44 | 28 => 95 | 0 => 0 | 27 => 94 | 33 => 48 | 4 => 4 | n => n, fun | n => n⟩
theorem laysKeys : Go.Proofs.SlLaysZ.n7 Tryz.prog laysKeys_ren := {
  mixed := by kernel_rfl
  f7 := ⟨Tryz.f77.name, by decide, Tryz.func77.trans (congrArg some (by kernel_rfl))⟩
  f10 := ⟨Tryz.f92.name, by decide, Tryz.func92.trans (congrArg some (by kernel_rfl))⟩
  t0 := Tryz.underlying0
  a0 := Tryz.isAgg0
  z0 := Tryz.sizeOf0
  v0 := Tryz.zeroValue0
  t4 := Tryz.underlying4
  a4 := Tryz.isAgg4
  z4 := Tryz.sizeOf4
  v4 := Tryz.zeroValue4
  t23 := Tryz.underlying64
  a23 := Tryz.isAgg64
  z23 := Tryz.sizeOf64
  v23 := Tryz.zeroValue64
  t26 := Tryz.underlying9
  a26 := Tryz.isAgg9
  z26 := Tryz.sizeOf9
  v26 := Tryz.zeroValue9
  t27 := Tryz.underlying94
  a27 := Tryz.isAgg94
  z27 := Tryz.sizeOf94
  v27 := Tryz.zeroValue94
  t28 := Tryz.underlying95
  a28 := Tryz.isAgg95
  z28 := Tryz.sizeOf95
  v28 := Tryz.zeroValue95
  t33 := Tryz.underlying48
  a33 := Tryz.isAgg48
  z33 := Tryz.sizeOf48
  v33 := Tryz.zeroValue48 }
def laysSorted_ren : Go.Shelf.Ren := ⟨fun | 6 => 76 | 8 => 91 | 9 => 88 | 11 => 102 | 13 => 101 | 12 => 100 | 23 => 120 | 24 => 121 | 14 => 111 | 15 => 112 | 16 => 113 | 17 => 114 | 18 => 115 | 19 => 116 | 20 => 117 | 21 => 118 | 22 => 119 | 25 => 126 | 26 => 127 | 27 => 128 | 28 => 129 | 29 => 130 | 30 => 131 | 31 => 133 | n => n, fun | 26 => 9 | 28 => 95 | 24 => 32 | 0 => 0 | 3 => 3 | 37 => 69 | 48 => 76 | 50 => 98 | 4 => 4 | 40 => 128 | 39 => 127 | 45 => 107 | 5 => 5 | 9 => 9 | 51 => 137 | 55 => 141 | 57 => 143 | 58 => 144 | 33 => 48 | n => n, fun | n => n⟩
theorem laysSorted : Go.Proofs.SlLaysZ.n6 Tryz.prog laysSorted_ren := {
  mixed := by kernel_rfl
  f6 := ⟨Tryz.f76.name, by decide, Tryz.func76.trans (congrArg some (by kernel_rfl))⟩
  f8 := ⟨Tryz.f91.name, by decide, Tryz.func91.trans (congrArg some (by kernel_rfl))⟩
  f11 := ⟨Tryz.f102.name, by decide, Tryz.func102.trans (congrArg some (by kernel_rfl))⟩
  t0 := Tryz.underlying0
  a0 := Tryz.isAgg0
  z0 := Tryz.sizeOf0
  v0 := Tryz.zeroValue0
  t24 := Tryz.underlying32
  a24 := Tryz.isAgg32
  z24 := Tryz.sizeOf32
  v24 := Tryz.zeroValue32
  t26 := Tryz.underlying9
  a26 := Tryz.isAgg9
  z26 := Tryz.sizeOf9
  v26 := Tryz.zeroValue9
  t28 := Tryz.underlying95
  a28 := Tryz.isAgg95
  z28 := Tryz.sizeOf95
  v28 := Tryz.zeroValue95
  i26 := by kernel_rfl }
def laysBin_ren : Go.Shelf.Ren := ⟨fun | 25 => 85 | 31 => 96 | 32 => 97 | 37 => 109 | n => n, fun | 22 => 31 | 3 => 3 | 4 => 4 | 40 => 69 | 0 => 0 | n => n, fun | n => n⟩
theorem laysBin : Go.Proofs.Lays2.n25 Tryz.prog laysBin_ren := {
  mixed := by kernel_rfl
  f25 := Tryz.func85.trans (congrArg some (by kernel_rfl))
  f31 := Tryz.func96.trans (congrArg some (by kernel_rfl))
  f32 := Tryz.func97.trans (congrArg some (by kernel_rfl))
  f37 := Tryz.func109.trans (congrArg some (by kernel_rfl))
  t0 := Tryz.underlying0
  a0 := Tryz.isAgg0
  z0 := Tryz.sizeOf0
  v0 := Tryz.zeroValue0
  t3 := Tryz.underlying3
  a3 := Tryz.isAgg3
  z3 := Tryz.sizeOf3
  v3 := Tryz.zeroValue3
  t4 := Tryz.underlying4
  a4 := Tryz.isAgg4
  z4 := Tryz.sizeOf4
  v4 := Tryz.zeroValue4
  t22 := Tryz.underlying31
  a22 := Tryz.isAgg31
  z22 := Tryz.sizeOf31
  v22 := Tryz.zeroValue31
  t40 := Tryz.underlying69
  a40 := Tryz.isAgg69
  z40 := Tryz.sizeOf69
  v40 := Tryz.zeroValue69 }

theorem flat_str (ss : List (List UInt8)) : flatE strE (ofL ss) = ss.map encStr := by
  unfold flatE ofL
  induction ss with
  | nil => rfl
  | cons s ss ih => rw [List.map_cons, List.flatMap_cons, ih]; rfl
theorem flat_str2 (L : List ByteArray) : flatE strE L = (byL L).map encStr := by rw [← flat_str, ofL_byL]
theorem psort : SortP 88 := by
  intro base v L w h hl hb
  obtain ⟨h1, h2⟩ := h
  rcases h2 with ⟨rfl, h0⟩ | ⟨g, cap, cur, rfl, hg, hh, hle, hm, hsz, ht⟩
  · have : L = [] := List.eq_nil_of_length_eq_zero h0
    subst this
    refine (Any.slices_Sort_string_none laysSort none 0 w).mono ?_
    rintro x w' ⟨rfl, hw⟩
    subst hw
    rw [show sortM [] = [] from List.eq_nil_of_length_eq_zero (by rw [sortM_len]; rfl)]
    exact ⟨rfl, LsO.nil _ _, (Below.refl _ _).mono hb⟩
  · have hlen := byL_len L
    have hH : Holds encStr w g 0 (byL L).toArray := holds_of_block hh (by rw [hlen, ← flat_str2, ← ht]; simp)
    have hlt : g < w.heap.size := (Array.getElem?_eq_some_iff.1 hh).1
    have h3 := Any.slices_Sort_string laysSort g 0 cap (byL L) w hH hlt (by rw [hlen]; omega)
    rw [hlen] at h3
    refine h3.mono ?_
    rintro x w' ⟨rfl, n, os, rfl⟩
    refine ⟨rfl, ?_, (Below.refl _ _ |>.mono hb).grown (grownBy_sorted _) hb (fun j hj => by cases hj; exact hg)⟩
    have h4 := ownsRow_sorted (n := n) (os := os) (ts := (byL L).mergeSort fun x y => decide (x ≤ y)) (List.length_mergeSort _) hg hh (by rw [hlen]; exact hle) hm (by simpa using hsz)
    rw [hlen] at h4
    unfold LsO
    rw [sortM_len]
    unfold sortM
    rw [flat_str]
    exact h4

theorem ssorts (m : Nat) : AnyZ.SortsIn Tryz.prog laysSorted_ren Fence.wide m :=
  ⟨fun blk off cap ss W hH hblk hsz => callsIn_wide.2 (Any.slices_Sort_string laysSort blk off cap ss W hH hblk hsz),
   fun p cap W => callsIn_wide.2 (Any.slices_Sort_string_none laysSort p cap W)⟩
theorem bb_lt : ∀ a b : List UInt8, bytesBefore a b = true → a < b
  | [], [], h => by simp [bytesBefore] at h
  | [], _ :: _, _ => List.Lex.nil
  | _ :: _, [], h => by simp [bytesBefore] at h
  | a :: x, b :: y, h => by
    simp only [bytesBefore, Bool.or_eq_true, decide_eq_true_eq, Bool.and_eq_true, beq_iff_eq] at h
    rcases h with h | ⟨rfl, h⟩
    · exact List.Lex.rel h
    · exact List.Lex.cons (bb_lt x y h)
theorem bb_le (a b : List UInt8) (h : bytesBefore a b = true) : a ≤ b := List.le_of_lt (bb_lt a b h)
/-- the iterator over a map's keys: a new block holds the map -/
theorem pkeys (mb : Option Nat) (w : World) : Calls Tryz.prog 77 #[.map mb] w fun e w' => e = .returned (.func (.func 92) #[] #[.pointer (some ⟨w.heap.size, 0, none⟩)]) ∧ w' = w.alloc (.cells #[.map mb] 64) :=
  (callsIn_wide (n := 5)).1 (AnyZ.keys_in laysKeys Fence.wide 5 trivial rfl mb w)
/-- a list of rising strings is what any list of the same strings is, sorted -/
theorem sorted_keys {M : List Ent} (hr : Ris M) {ss : List (List UInt8)} (h : ss.Perm (M.map (·.1.data.toList))) : ss.mergeSort (fun x y => decide (x ≤ y)) = M.map (·.1.data.toList) := by
  rw [mergeSort_of_perm h]
  refine List.mergeSort_of_pairwise (List.pairwise_map.2 (hr.imp fun {a b} hab => ?_))
  have e : bytesBefore a.1.data.toList b.1.data.toList = true := by
    have := kS_before a.1 b.1
    rw [hab] at this; exact this
  exact decide_eq_true (bb_le _ _ e)
set_option maxHeartbeats 1000000 in
/-- the keys of a map, sorted: a new list -/
theorem psorted (g b n : Nat) (M : List Ent) (w : World) (hm : w.cell? ⟨g, 0, none⟩ = some (.map (some b))) (hg : g < w.heap.size) (h : SM w b n M) (hn : n ≤ 1000000000) :
    Calls Tryz.prog 76 #[.func (.func 92) #[] #[.pointer (some ⟨g, 0, none⟩)]] w fun e w' => ∃ v, e = .returned v ∧ LsO strE w' w.heap.size v (M.map (·.1)) ∧ Below w.heap.size w w' := by
  have hb := h.bound
  have hsz : Maps.size (.map (entS M) : DataW Value) = M.length := by rw [Maps.size_eq]; simp [entS]
  have hseq : SeqGives Fence.wide 2 Tryz.prog 92 #[.pointer (some ⟨g, 0, none⟩)] encStr (fun ss => ss.Perm (strKeys (.map (entS M)))) (Maps.size (.map (entS M) : DataW Value)) w :=
    AnyZ.keys_gives (ρ := laysKeys_ren) { laysKeys with } Fence.wide _ trivial rfl (by omega) g b n _ w hg hm h.own
  have key := AnyZ.sorted_in laysSorted Fence.wide 5 trivial trivial trivial trivial rfl (by omega) (ssorts _) (enters_of Tryz.func88 (by kernel_rfl) rfl) 92 #[.pointer (some ⟨g, 0, none⟩)] trivial (enters_of Tryz.func92 (by kernel_rfl) rfl) _ _ (by rw [hsz]; unfold maxLen; omega) (by rw [hsz]; omega) _ hseq
  refine ((callsIn_wide (n := 5)).1 key).mono ?_
  rintro e w' ⟨v, ss, rfl, hp, hrow, -, hbl⟩
  rw [strKeys_ent] at hp
  rw [sorted_keys h.ris hp] at hrow
  refine ⟨v, rfl, ?_, hbl⟩
  unfold LsO
  have e1 : ss.length = (M.map (·.1)).length := by rw [hp.length_eq]; simp
  rw [← e1, flat_str2]
  have e2 : byL (M.map (·.1)) = M.map (·.1.data.toList) := by unfold byL; rw [List.map_map]; rfl
  rw [e2]; exact hrow
/-- slices.BinarySearch of rising ints -/
theorem pbinary (a : Option Addr) (n c : Nat) (L : List Int) (x : Int) (w : World) (h : Sl .i64 w a n L) (hs : L.Pairwise (· < ·)) (hn : n ≤ 1000000) :
    Calls Tryz.prog 85 #[.slice a n c, .int .i64 x] w fun e w' => e = .returned (.tuple #[.int .i64 (L.countP (· < x) : Nat), .bool (decide (x ∈ L))]) ∧ Quiet w w' := by
  obtain ⟨hl, -, -, h4⟩ := h
  rcases h4 with rfl | ⟨b, off, rfl, -, hc⟩
  · obtain rfl : L = [] := List.eq_nil_of_length_eq_zero hl
    refine (Any.slices_BinarySearch_int_empty laysBin a c x w).mono ?_
    rintro e w' ⟨rfl, rfl⟩
    exact ⟨rfl, Quiet.refl _⟩
  · have ht : L.take n = L := List.take_of_length_le (by omega)
    have key := Any.slices_BinarySearch_int laysBin b off n c L x w (by omega) (by omega) (fun j hj => hc j (by omega)) (by rw [ht]; exact hs.imp fun h => by omega)
    rw [ht] at key
    refine key.mono ?_
    rintro e w' ⟨rfl, q, rfl⟩
    exact ⟨by rw [List.contains_eq_mem], ⟨q, rfl⟩⟩
end Go.Proofs.YtkfhppbmnjmnoaaGreatDoor.W
