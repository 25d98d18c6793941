/- slices.Sort of strings, and the keys of a map, sorted, by the shelf's contracts. -/
import Derived.Test.YtkncbckmgcklfaaDoorSm
import Derived.Test.YtkncbckmgcklfaaDoorStr
import Derived.Test.YtkncbckmgcklfaaDoorIzI
import Derived.Shelf.Sort.Plain
import Derived.Shelf.Slices.In.SortNone
import Derived.Shelf.SlIter.Nil
import Derived.Sort.OwnSorted
import Derived.Lib.OwnBridge
import Derived.Shelf.Slices.SearchI
import Derived.Shelf.Slices.Empties
set_option linter.unusedSimpArgs false
set_option linter.unusedVariables false
namespace Go.Proofs.YtkncbckmgcklfaaDoor.W
open Go Go.ChangeShapes Go.WideShapes Go.ChangeAt Go.RowKit
open Go.Sort Go.Shelf

def laysSort_ren : Go.Shelf.Ren := ⟨fun | 190 => 46 | 125 => 61 | 258 => 60 | 128 => 80 | 129 => 81 | 302 => 71 | 303 => 72 | 304 => 73 | 305 => 74 | 306 => 75 | 307 => 76 | 308 => 77 | 309 => 78 | 310 => 79 | 333 => 86 | 329 => 87 | 330 => 88 | 334 => 89 | 335 => 90 | 336 => 91 | 344 => 93 | n => n, fun | 31 => 36 | 9 => 9 | 3 => 3 | 46 => 91 | 0 => 0 | 51 => 82 | 53 => 114 | 4 => 4 | 183 => 106 | 182 => 105 | 131 => 70 | 5 => 5 | 218 => 117 | 222 => 121 | 228 => 123 | 229 => 124 | n => n, fun | n => n⟩
theorem laysSort : Go.Proofs.Lays.n190 Tryd.prog laysSort_ren := {
  mixed := by kernel_rfl
  f125 := Tryd.func61.trans (congrArg some (by kernel_rfl))
  f128 := Tryd.func80.trans (congrArg some (by kernel_rfl))
  f129 := Tryd.func81.trans (congrArg some (by kernel_rfl))
  f190 := Tryd.func46.trans (congrArg some (by kernel_rfl))
  f258 := Tryd.func60.trans (congrArg some (by kernel_rfl))
  f302 := Tryd.func71.trans (congrArg some (by kernel_rfl))
  f303 := Tryd.func72.trans (congrArg some (by kernel_rfl))
  f304 := Tryd.func73.trans (congrArg some (by kernel_rfl))
  f305 := Tryd.func74.trans (congrArg some (by kernel_rfl))
  f306 := Tryd.func75.trans (congrArg some (by kernel_rfl))
  f307 := Tryd.func76.trans (congrArg some (by kernel_rfl))
  f308 := Tryd.func77.trans (congrArg some (by kernel_rfl))
  f309 := Tryd.func78.trans (congrArg some (by kernel_rfl))
  f310 := Tryd.func79.trans (congrArg some (by kernel_rfl))
  f329 := Tryd.func87.trans (congrArg some (by kernel_rfl))
  f330 := Tryd.func88.trans (congrArg some (by kernel_rfl))
  f333 := Tryd.func86.trans (congrArg some (by kernel_rfl))
  f334 := Tryd.func89.trans (congrArg some (by kernel_rfl))
  f335 := Tryd.func90.trans (congrArg some (by kernel_rfl))
  f336 := Tryd.func91.trans (congrArg some (by kernel_rfl))
  f344 := Tryd.func93.trans (congrArg some (by kernel_rfl))
  t0 := Tryd.underlying0
  a0 := Tryd.isAgg0
  z0 := Tryd.sizeOf0
  v0 := Tryd.zeroValue0
  t3 := Tryd.underlying3
  a3 := Tryd.isAgg3
  z3 := Tryd.sizeOf3
  v3 := Tryd.zeroValue3
  t4 := Tryd.underlying4
  a4 := Tryd.isAgg4
  z4 := Tryd.sizeOf4
  v4 := Tryd.zeroValue4
  t5 := Tryd.underlying5
  a5 := Tryd.isAgg5
  z5 := Tryd.sizeOf5
  v5 := Tryd.zeroValue5
  t9 := Tryd.underlying9
  a9 := Tryd.isAgg9
  z9 := Tryd.sizeOf9
  v9 := Tryd.zeroValue9
  t31 := Tryd.underlying36
  a31 := Tryd.isAgg36
  z31 := Tryd.sizeOf36
  v31 := Tryd.zeroValue36
  t46 := Tryd.underlying91
  a46 := Tryd.isAgg91
  z46 := Tryd.sizeOf91
  v46 := Tryd.zeroValue91
  t51 := Tryd.underlying82
  a51 := Tryd.isAgg82
  z51 := Tryd.sizeOf82
  v51 := Tryd.zeroValue82
  t53 := Tryd.underlying114
  a53 := Tryd.isAgg114
  z53 := Tryd.sizeOf114
  v53 := Tryd.zeroValue114
  t131 := Tryd.underlying70
  a131 := Tryd.isAgg70
  z131 := Tryd.sizeOf70
  v131 := Tryd.zeroValue70
  t182 := Tryd.underlying105
  a182 := Tryd.isAgg105
  z182 := Tryd.sizeOf105
  v182 := Tryd.zeroValue105
  t183 := Tryd.underlying106
  a183 := Tryd.isAgg106
  z183 := Tryd.sizeOf106
  v183 := Tryd.zeroValue106
  t218 := Tryd.underlying117
  a218 := Tryd.isAgg117
  z218 := Tryd.sizeOf117
  v218 := Tryd.zeroValue117
  t222 := Tryd.underlying121
  a222 := Tryd.isAgg121
  z222 := Tryd.sizeOf121
  v222 := Tryd.zeroValue121
  t228 := Tryd.underlying123
  a228 := Tryd.isAgg123
  z228 := Tryd.sizeOf123
  v228 := Tryd.zeroValue123
  t229 := Tryd.underlying124
  a229 := Tryd.isAgg124
  z229 := Tryd.sizeOf124
  v229 := Tryd.zeroValue124 }
def laysKeys_ren : Go.Shelf.Ren := ⟨fun | 7 => 45 | 10 => 59 | n => n, fun | 23 => 24 | 26 => 9 | 3 => 50 | 28 => 75 | 0 => 0 | 27 => 74 | 33 => 34 | 4 => 4 | n => n, fun | n => n⟩
theorem laysKeys : Go.Proofs.SlLaysZ.n7 Tryd.prog laysKeys_ren := {
  mixed := by kernel_rfl
  f7 := ⟨Tryd.f45.name, by decide, Tryd.func45.trans (congrArg some (by kernel_rfl))⟩
  f10 := ⟨Tryd.f59.name, by decide, Tryd.func59.trans (congrArg some (by kernel_rfl))⟩
  t0 := Tryd.underlying0
  a0 := Tryd.isAgg0
  z0 := Tryd.sizeOf0
  v0 := Tryd.zeroValue0
  t4 := Tryd.underlying4
  a4 := Tryd.isAgg4
  z4 := Tryd.sizeOf4
  v4 := Tryd.zeroValue4
  t23 := Tryd.underlying24
  a23 := Tryd.isAgg24
  z23 := Tryd.sizeOf24
  v23 := Tryd.zeroValue24
  t26 := Tryd.underlying9
  a26 := Tryd.isAgg9
  z26 := Tryd.sizeOf9
  v26 := Tryd.zeroValue9
  t27 := Tryd.underlying74
  a27 := Tryd.isAgg74
  z27 := Tryd.sizeOf74
  v27 := Tryd.zeroValue74
  t28 := Tryd.underlying75
  a28 := Tryd.isAgg75
  z28 := Tryd.sizeOf75
  v28 := Tryd.zeroValue75
  t33 := Tryd.underlying34
  a33 := Tryd.isAgg34
  z33 := Tryd.sizeOf34
  v33 := Tryd.zeroValue34 }
def laysSorted_ren : Go.Shelf.Ren := ⟨fun | 6 => 44 | 8 => 58 | 9 => 46 | 11 => 70 | 13 => 61 | 12 => 60 | 23 => 80 | 24 => 81 | 14 => 71 | 15 => 72 | 16 => 73 | 17 => 74 | 18 => 75 | 19 => 76 | 20 => 77 | 21 => 78 | 22 => 79 | 25 => 86 | 26 => 87 | 27 => 88 | 28 => 89 | 29 => 90 | 30 => 91 | 31 => 93 | n => n, fun | 26 => 9 | 28 => 75 | 24 => 36 | 0 => 0 | 3 => 3 | 37 => 91 | 48 => 82 | 50 => 114 | 4 => 4 | 40 => 106 | 39 => 105 | 45 => 70 | 5 => 5 | 9 => 9 | 51 => 117 | 55 => 121 | 57 => 123 | 58 => 124 | 33 => 34 | n => n, fun | n => n⟩
theorem laysSorted : Go.Proofs.SlLaysZ.n6 Tryd.prog laysSorted_ren := {
  mixed := by kernel_rfl
  f6 := ⟨Tryd.f44.name, by decide, Tryd.func44.trans (congrArg some (by kernel_rfl))⟩
  f8 := ⟨Tryd.f58.name, by decide, Tryd.func58.trans (congrArg some (by kernel_rfl))⟩
  f11 := ⟨Tryd.f70.name, by decide, Tryd.func70.trans (congrArg some (by kernel_rfl))⟩
  t0 := Tryd.underlying0
  a0 := Tryd.isAgg0
  z0 := Tryd.sizeOf0
  v0 := Tryd.zeroValue0
  t24 := Tryd.underlying36
  a24 := Tryd.isAgg36
  z24 := Tryd.sizeOf36
  v24 := Tryd.zeroValue36
  t26 := Tryd.underlying9
  a26 := Tryd.isAgg9
  z26 := Tryd.sizeOf9
  v26 := Tryd.zeroValue9
  t28 := Tryd.underlying75
  a28 := Tryd.isAgg75
  z28 := Tryd.sizeOf75
  v28 := Tryd.zeroValue75
  i26 := by kernel_rfl }
def laysBin_ren : Go.Shelf.Ren := ⟨fun | 25 => 41 | 31 => 54 | 32 => 55 | 37 => 68 | n => n, fun | 22 => 48 | 3 => 3 | 4 => 4 | 40 => 91 | 0 => 0 | n => n, fun | n => n⟩
theorem laysBin : Go.Proofs.Lays2.n25 Tryd.prog laysBin_ren := {
  mixed := by kernel_rfl
  f25 := Tryd.func41.trans (congrArg some (by kernel_rfl))
  f31 := Tryd.func54.trans (congrArg some (by kernel_rfl))
  f32 := Tryd.func55.trans (congrArg some (by kernel_rfl))
  f37 := Tryd.func68.trans (congrArg some (by kernel_rfl))
  t0 := Tryd.underlying0
  a0 := Tryd.isAgg0
  z0 := Tryd.sizeOf0
  v0 := Tryd.zeroValue0
  t3 := Tryd.underlying3
  a3 := Tryd.isAgg3
  z3 := Tryd.sizeOf3
  v3 := Tryd.zeroValue3
  t4 := Tryd.underlying4
  a4 := Tryd.isAgg4
  z4 := Tryd.sizeOf4
  v4 := Tryd.zeroValue4
  t22 := Tryd.underlying48
  a22 := Tryd.isAgg48
  z22 := Tryd.sizeOf48
  v22 := Tryd.zeroValue48
  t40 := Tryd.underlying91
  a40 := Tryd.isAgg91
  z40 := Tryd.sizeOf91
  v40 := Tryd.zeroValue91 }

theorem flat_str (ss : List (List UInt8)) : flatE strE (ofL ss) = ss.map encStr := by
  unfold flatE ofL
  induction ss with
  | nil => rfl
  | cons s ss ih => rw [List.map_cons, List.flatMap_cons, ih]; rfl
theorem flat_str2 (L : List ByteArray) : flatE strE L = (byL L).map encStr := by rw [← flat_str, ofL_byL]
theorem psort : SortP 46 := by
  intro base v L w h hl hb
  obtain ⟨h1, h2⟩ := h
  rcases h2 with ⟨rfl, h0⟩ | ⟨g, cap, cur, rfl, hg, hh, hle, hm, hsz, ht⟩
  · have : L = [] := List.eq_nil_of_length_eq_zero h0
    subst this
    refine (Any.slices_Sort_string_none laysSort none 0 w).mono ?_
    rintro x w' ⟨rfl, hw⟩
    subst hw
    rw [show sortM [] = [] from List.eq_nil_of_length_eq_zero (by rw [sortM_len]; rfl)]
    exact ⟨rfl, LsO.nil _ _, (Below.refl _ _).mono hb⟩
  · have hlen := byL_len L
    have hH : Holds encStr w g 0 (byL L).toArray := holds_of_block hh (by rw [hlen, ← flat_str2, ← ht]; simp)
    have hlt : g < w.heap.size := (Array.getElem?_eq_some_iff.1 hh).1
    have h3 := Any.slices_Sort_string laysSort g 0 cap (byL L) w hH hlt (by rw [hlen]; omega)
    rw [hlen] at h3
    refine h3.mono ?_
    rintro x w' ⟨rfl, n, os, rfl⟩
    refine ⟨rfl, ?_, (Below.refl _ _ |>.mono hb).grown (grownBy_sorted _) hb (fun j hj => by cases hj; exact hg)⟩
    have h4 := ownsRow_sorted (n := n) (os := os) (ts := (byL L).mergeSort fun x y => decide (x ≤ y)) (List.length_mergeSort _) hg hh (by rw [hlen]; exact hle) hm (by simpa using hsz)
    rw [hlen] at h4
    unfold LsO
    rw [sortM_len]
    unfold sortM
    rw [flat_str]
    exact h4

theorem ssorts (m : Nat) : AnyZ.SortsIn Tryd.prog laysSorted_ren Fence.wide m :=
  ⟨fun blk off cap ss W hH hblk hsz => callsIn_wide.2 (Any.slices_Sort_string laysSort blk off cap ss W hH hblk hsz),
   fun p cap W => callsIn_wide.2 (Any.slices_Sort_string_none laysSort p cap W)⟩
theorem bb_lt : ∀ a b : List UInt8, bytesBefore a b = true → a < b
  | [], [], h => by simp [bytesBefore] at h
  | [], _ :: _, _ => List.Lex.nil
  | _ :: _, [], h => by simp [bytesBefore] at h
  | a :: x, b :: y, h => by
    simp only [bytesBefore, Bool.or_eq_true, decide_eq_true_eq, Bool.and_eq_true, beq_iff_eq] at h
    rcases h with h | ⟨rfl, h⟩
    · exact List.Lex.rel h
    · exact List.Lex.cons (bb_lt x y h)
theorem bb_le (a b : List UInt8) (h : bytesBefore a b = true) : a ≤ b := List.le_of_lt (bb_lt a b h)
/-- the iterator over a map's keys: a new block holds the map -/
theorem pkeys (mb : Option Nat) (w : World) : Calls Tryd.prog 45 #[.map mb] w fun e w' => e = .returned (.func (.func 59) #[] #[.pointer (some ⟨w.heap.size, 0, none⟩)]) ∧ w' = w.alloc (.cells #[.map mb] 24) :=
  (callsIn_wide (n := 5)).1 (AnyZ.keys_in laysKeys Fence.wide 5 trivial rfl mb w)
/-- a list of rising strings is what any list of the same strings is, sorted -/
theorem sorted_keys {M : List Ent} (hr : Ris M) {ss : List (List UInt8)} (h : ss.Perm (M.map (·.1.data.toList))) : ss.mergeSort (fun x y => decide (x ≤ y)) = M.map (·.1.data.toList) := by
  rw [mergeSort_of_perm h]
  refine List.mergeSort_of_pairwise (List.pairwise_map.2 (hr.imp fun {a b} hab => ?_))
  have e : bytesBefore a.1.data.toList b.1.data.toList = true := by
    have := kS_before a.1 b.1
    rw [hab] at this; exact this
  exact decide_eq_true (bb_le _ _ e)
set_option maxHeartbeats 1000000 in
/-- the keys of a map, sorted: a new list -/
theorem psorted (g b n : Nat) (M : List Ent) (w : World) (hm : w.cell? ⟨g, 0, none⟩ = some (.map (some b))) (hg : g < w.heap.size) (h : SM w b n M) (hn : n ≤ 1000000000) :
    Calls Tryd.prog 44 #[.func (.func 59) #[] #[.pointer (some ⟨g, 0, none⟩)]] w fun e w' => ∃ v, e = .returned v ∧ LsO strE w' w.heap.size v (M.map (·.1)) ∧ Below w.heap.size w w' := by
  have hb := h.bound
  have hsz : Maps.size (.map (entS M) : DataW Value) = M.length := by rw [Maps.size_eq]; simp [entS]
  have hseq : SeqGives Fence.wide 2 Tryd.prog 59 #[.pointer (some ⟨g, 0, none⟩)] encStr (fun ss => ss.Perm (strKeys (.map (entS M)))) (Maps.size (.map (entS M) : DataW Value)) w :=
    AnyZ.keys_gives (ρ := laysKeys_ren) { laysKeys with } Fence.wide _ trivial rfl (by omega) g b n _ w hg hm h.own
  have key := AnyZ.sorted_in laysSorted Fence.wide 5 trivial trivial trivial trivial rfl (by omega) (ssorts _) (enters_of Tryd.func46 (by kernel_rfl) rfl) 59 #[.pointer (some ⟨g, 0, none⟩)] trivial (enters_of Tryd.func59 (by kernel_rfl) rfl) _ _ (by rw [hsz]; unfold maxLen; omega) (by rw [hsz]; omega) _ hseq
  refine ((callsIn_wide (n := 5)).1 key).mono ?_
  rintro e w' ⟨v, ss, rfl, hp, hrow, -, hbl⟩
  rw [strKeys_ent] at hp
  rw [sorted_keys h.ris hp] at hrow
  refine ⟨v, rfl, ?_, hbl⟩
  unfold LsO
  have e1 : ss.length = (M.map (·.1)).length := by rw [hp.length_eq]; simp
  rw [← e1, flat_str2]
  have e2 : byL (M.map (·.1)) = M.map (·.1.data.toList) := by unfold byL; rw [List.map_map]; rfl
  rw [e2]; exact hrow
/-- slices.BinarySearch of rising ints -/
theorem pbinary (a : Option Addr) (n c : Nat) (L : List Int) (x : Int) (w : World) (h : Sl .i64 w a n L) (hs : L.Pairwise (· < ·)) (hn : n ≤ 1000000) :
    Calls Tryd.prog 41 #[.slice a n c, .int .i64 x] w fun e w' => e = .returned (.tuple #[.int .i64 (L.countP (· < x) : Nat), .bool (decide (x ∈ L))]) ∧ Quiet w w' := by
  obtain ⟨hl, -, -, h4⟩ := h
  rcases h4 with rfl | ⟨b, off, rfl, -, hc⟩
  · obtain rfl : L = [] := List.eq_nil_of_length_eq_zero hl
    refine (Any.slices_BinarySearch_int_empty laysBin a c x w).mono ?_
    rintro e w' ⟨rfl, rfl⟩
    exact ⟨rfl, Quiet.refl _⟩
  · have ht : L.take n = L := List.take_of_length_le (by omega)
    have key := Any.slices_BinarySearch_int laysBin b off n c L x w (by omega) (by omega) (fun j hj => hc j (by omega)) (by rw [ht]; exact hs.imp fun h => by omega)
    rw [ht] at key
    refine key.mono ?_
    rintro e w' ⟨rfl, q, rfl⟩
    exact ⟨by rw [List.contains_eq_mem], ⟨q, rfl⟩⟩
end Go.Proofs.YtkncbckmgcklfaaDoor.W
