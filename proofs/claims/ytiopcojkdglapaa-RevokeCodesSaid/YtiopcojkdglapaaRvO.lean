/- LAYER 21 (revoke): words; givenOut, Check, Start, Valid, own, Mint, Bump of the program. -/
import Derived.Test.YtiopcojkdglapaaIzI
import Derived.Test.YtiopcojkdglapaaRun
set_option linter.unusedSimpArgs false
set_option linter.unusedVariables false
namespace Go.Proofs.Ytiopcojkdglapaa.W
open Go Go.ChangeShapes Go.WideShapes Go.ChangeAt Go.RowKit
open Go.Proofs.Ytiopcojkdglapaa.S

-- ---- plain
structure Rv where
  ep : Int
  nx : Int
  ids : List Int
/-- they rise, from m on, below nx -/
def riseI (nx : Int) : Int → List Int → Bool
  | _, [] => true
  | m, x :: t => decide (m ≤ x) && (decide (x < nx) && riseI nx (x + 1) t)
def T31r : Int := 2147483648
def Rv.ok (r : Rv) : Bool := in64 r.ep 0 2147483648 && (in64 r.nx 2 2147483648 && (decide (r.ids.length ≤ 16) && riseI r.nx 1 r.ids))
def giveI (nx id : Int) : Bool := decide (1 ≤ id) && decide (id < nx)
def Rv.valid (r : Rv) (id ep : Int) : Bool := decide (ep = r.ep) && (giveI r.nx id && !decide (id ∈ r.ids))
def insI (id : Int) : List Int → List Int
  | [] => [id]
  | x :: t => if x ≤ id then x :: insI id t else id :: x :: t
def Rv.mint (r : Rv) : Rv × Int × Int := if 2147483648 ≤ r.nx then (r, 0, 7) else ({ r with nx := r.nx + 1 }, r.nx, 0)
def Rv.revoke (r : Rv) (id : Int) : Rv × Int := if giveI r.nx id = false then (r, 1) else if id ∈ r.ids then (r, 0) else if 16 ≤ r.ids.length then (r, 7) else ({ r with ids := insI id r.ids }, 0)
def Rv.bump (r : Rv) : Rv × Int := if 2147483648 ≤ r.ep then (r, 7) else (⟨r.ep + 1, r.nx, []⟩, 0)
theorem rise1 (nx id : Int) : riseI nx 1 [id] = giveI nx id := by simp [riseI, giveI]
theorem mem_insI (id y : Int) : ∀ L, y ∈ insI id L ↔ y = id ∨ y ∈ L
  | [] => by simp [insI]
  | x :: t => by
    unfold insI
    split
    · rw [List.mem_cons, mem_insI id y t, List.mem_cons]; constructor <;> (intro h; rcases h with h | h | h <;> simp [h])
    · simp
theorem len_insI (id : Int) : ∀ L, (insI id L).length = L.length + 1
  | [] => rfl
  | x :: t => by
    unfold insI
    split
    · simp [len_insI id t]
    · simp
theorem rise_ins (nx id : Int) : ∀ (L : List Int) (m : Int), riseI nx m L = true → m ≤ id → id < nx → id ∉ L → riseI nx m (insI id L) = true
  | [], m, _, h1, h2, _ => by simp [insI, riseI, h1, h2]
  | x :: t, m, h, h1, h2, hn => by
    simp only [riseI, Bool.and_eq_true, decide_eq_true_eq] at h
    obtain ⟨h3, h4, h5⟩ := h
    have hx : id ≠ x := fun e => hn (by simp [e])
    have ht : id ∉ t := fun e => hn (by simp [e])
    unfold insI
    split
    · rename_i hle
      simp only [riseI, Bool.and_eq_true, decide_eq_true_eq]
      exact ⟨h3, h4, rise_ins nx id t (x + 1) h5 (by omega) h2 ht⟩
    · rename_i hle
      simp only [riseI, Bool.and_eq_true, decide_eq_true_eq]
      exact ⟨h1, h2, by omega, h4, h5⟩
theorem rise_mono {nx ny : Int} (hle : nx ≤ ny) : ∀ (L : List Int) (m : Int), riseI nx m L = true → riseI ny m L = true
  | [], _, _ => rfl
  | x :: t, m, h => by
    simp only [riseI, Bool.and_eq_true, decide_eq_true_eq] at h ⊢
    exact ⟨h.1, by omega, rise_mono hle t _ h.2.2⟩
theorem Rv.ok_iff {r : Rv} : r.ok = true ↔ (0 ≤ r.ep ∧ r.ep ≤ 2147483648) ∧ (2 ≤ r.nx ∧ r.nx ≤ 2147483648) ∧ r.ids.length ≤ 16 ∧ riseI r.nx 1 r.ids = true := by
  unfold Rv.ok; simp [in64_iff]
theorem mint_ok {r : Rv} (h : r.ok = true) : r.mint.1.ok = true := by
  have h1 := Rv.ok_iff.1 h
  unfold Rv.mint
  split
  · exact h
  · exact Rv.ok_iff.2 ⟨h1.1, by dsimp only; omega, h1.2.2.1, rise_mono (by dsimp only; omega) _ _ h1.2.2.2⟩
theorem give_iff {nx id : Int} : giveI nx id = true ↔ 1 ≤ id ∧ id < nx := by unfold giveI; simp
theorem revoke_ok {r : Rv} (h : r.ok = true) (id : Int) : (r.revoke id).1.ok = true := by
  have h1 := Rv.ok_iff.1 h
  unfold Rv.revoke
  split
  · exact h
  · rename_i hg
    split
    · exact h
    · rename_i hin
      split
      · exact h
      · have hg2 := give_iff.1 (by simpa using hg)
        exact Rv.ok_iff.2 ⟨h1.1, h1.2.1, by dsimp only; rw [len_insI]; omega, rise_ins _ _ _ _ h1.2.2.2 hg2.1 hg2.2 hin⟩
theorem bump_ok {r : Rv} (h : r.ok = true) : r.bump.1.ok = true := by
  have h1 := Rv.ok_iff.1 h
  unfold Rv.bump
  split
  · exact h
  · exact Rv.ok_iff.2 ⟨by dsimp only; omega, h1.2.1, by simp, rfl⟩
/-- where an id stands -/
theorem insI_split (id : Int) : ∀ L : List Int, ∃ k, k ≤ L.length ∧ insI id L = L.take k ++ [id] ++ L.drop k ∧ (∀ i, i < k → ∀ x, L[i]? = some x → x ≤ id) ∧ (∀ x, L[k]? = some x → id < x)
  | [] => ⟨0, Nat.le_refl _, rfl, fun i h => absurd h (Nat.not_lt_zero _), fun x h => by simp at h⟩
  | x :: t => by
    by_cases h : x ≤ id
    · obtain ⟨k, h1, h2, h3, h4⟩ := insI_split id t
      refine ⟨k + 1, by simpa using h1, by simp [insI, h, h2], fun i hi y hy => ?_, fun y hy => h4 y (by simpa using hy)⟩
      cases i with
      | zero => simp at hy; omega
      | succ i => exact h3 i (by omega) y (by simpa using hy)
    · exact ⟨0, Nat.zero_le _, by simp [insI, h], fun i hi => absurd hi (Nat.not_lt_zero _), fun y hy => by simp at hy; omega⟩
-- ---- as values
@[reducible] def rvC (ep nx : Int) (a : Option Addr) (n c : Nat) : List Value := [.int .i64 ep, .int .i64 nx, .slice a n c]
theorem rv_size : (Try.prog.info? 78).map (·.size) = some 3 := by kernel_rfl
theorem rv_zero : (Try.prog.info? 78).map (·.zero) = some (some (.agg (rvC 0 0 none 0 0).toArray)) := by kernel_rfl
theorem rv_one (ep nx : Int) (a : Option Addr) (n c : Nat) : ∀ v ∈ rvC ep nx a n c, v.oneCell' = true := by intro v hv; simp at hv; rcases hv with rfl | rfl | rfl <;> rfl
theorem rv_built (ep nx : Int) : Try.prog.built 78 [(0, .int .i64 ep), (1, .int .i64 nx)] = some (rvC ep nx none 0 0).toArray := by kernel_rfl
theorem rv_built1 (nx : Int) : Try.prog.built 78 [(1, .int .i64 nx)] = some (rvC 0 nx none 0 0).toArray := by kernel_rfl
theorem rv_built0 : Try.prog.built 78 [] = some (rvC 0 0 none 0 0).toArray := by kernel_rfl
theorem rv_built3 (ep nx : Int) (a : Option Addr) (n c : Nat) : Try.prog.built 78 [(0, .int .i64 ep), (1, .int .i64 nx), (2, .slice a n c)] = some (rvC ep nx a n c).toArray := by kernel_rfl
theorem Row.r3 {w : World} {g : Nat} {t : TypeId} {a b c : Value} (h : Row w g t [a, b, c]) : w.cell? ⟨g, 0, none⟩ = some a ∧ w.cell? ⟨g, 1, none⟩ = some b ∧ w.cell? ⟨g, 2, none⟩ = some c := by
  refine ⟨?_, ?_, ?_⟩ <;> (rw [h.cellV]; rfl)
/-- a value -/
def RvV (w : World) (v : Value) (r : Rv) : Prop := ∃ a n c, v = .agg (rvC r.ep r.nx a n c).toArray ∧ Ls intE w a n c r.ids ∧ SI64 r.ep ∧ SI64 r.nx
/-- a value whose list lies from block base on -/
def RvF (w : World) (base : Nat) (v : Value) (r : Rv) : Prop := ∃ a n c, v = .agg (rvC r.ep r.nx a n c).toArray ∧ Ls intE w a n c r.ids ∧ SI64 r.ep ∧ SI64 r.nx ∧ ∀ b off, a = some ⟨b, off, none⟩ → base ≤ b
theorem RvF.v {w : World} {base : Nat} {v : Value} {r : Rv} (h : RvF w base v r) : RvV w v r := by
  obtain ⟨a, n, c, h1, h2, h3, h4, -⟩ := h
  exact ⟨a, n, c, h1, h2, h3, h4⟩
theorem RvV.mono {w w' : World} {v : Value} {r : Rv} (h : RvV w v r) (hb : Below w.heap.size w w') : RvV w' v r := by
  obtain ⟨a, n, c, h1, h2, h3⟩ := h
  exact ⟨a, n, c, h1, h2.mono intOk hb, h3⟩
theorem RvF.mono {w w' : World} {base : Nat} {v : Value} {r : Rv} (h : RvF w base v r) (hb : Below w.heap.size w w') : RvF w' base v r := by
  obtain ⟨a, n, c, h1, h2, h3⟩ := h
  exact ⟨a, n, c, h1, h2.mono intOk hb, h3⟩
theorem si_small {x : Int} (h : 0 ≤ x ∧ x ≤ 2147483648) : SI64 x := ⟨by omega, by omega⟩
-- ---- the program
set_option maxRecDepth 100000 in
set_option maxHeartbeats 4000000 in
theorem pgiven (nx : Int) (a : Option Addr) (n c : Nat) (L : List Int) (w : World) (h : Sl .i64 w a n L) (hnx : SI64 nx) (q : Bool) (hq : riseI nx 1 L = q) :
    Calls Try.prog 124 #[.int .i64 nx, .slice a n c] w fun x w' => x = .returned (.bool q) ∧ w = w' := by
  have H := Lib.hid h
  have hm := h.2.1
  have HL := Lib.hid h.1
  have HQ := Lib.hid hq
  have hn1 := hnx.1
  have hn2 := hnx.2
  clear h hq hnx
  go_enter Try.func124, Try.ntmps124
  go_wp2_with fail
  go_loop [5, 10] (fun m i => ∃ (k : Nat) (z : Int), i = .int .i64 (k : Int) ∧ m = .int .i64 z ∧ k ≤ n ∧ Hid (riseI nx 1 L = riseI nx z (L.drop k)) ∧ SI64 z) (fun _ i => n - (intOf i).toNat)
  case atStart => exact ⟨0, 1, rfl, rfl, Nat.zero_le _, Lib.hid rfl, by decide, by decide⟩
  case round =>
    obtain ⟨k, z, rfl, rfl, hk, HK, z1, z2⟩ := hrel
    by_cases hlt : k < n
    · obtain ⟨b, off, x, rfl, hx, hcell, x1, x2⟩ := H.out.at (Below.refl _ _) k hlt
      have hd : L.drop k = x :: L.drop (k + 1) := by
        obtain ⟨h1, h2⟩ := List.getElem?_eq_some_iff.1 hx
        rw [List.drop_eq_getElem_cons h1, h2]
      have hk2 := HK.out
      rw [hd] at hk2
      simp only [riseI] at hk2
      have g1 : (0 : Int) ≤ (k : Int) := by omega
      have g2 : (k : Int) < (n : Int) := by omega
      clear hx hd
      by_cases c1 : x < z
      · have HF := Lib.hid (show riseI nx 1 L = false by rw [hk2]; simp; omega)
        clear hk2
        go_wp2_with fail
        go_ret
        exact ⟨one (vbool (by rw [← HQ.out, HF.out])), rfl⟩
      · by_cases c2 : nx ≤ x
        · have HF := Lib.hid (show riseI nx 1 L = false by rw [hk2]; simp; omega)
          clear hk2
          go_wp2_with fail
          go_ret
          exact ⟨one (vbool (by rw [← HQ.out, HF.out])), rfl⟩
        · have HF := Lib.hid (show riseI nx 1 L = riseI nx (x + 1) (L.drop (k + 1)) by rw [hk2]; rw [decide_eq_true (by omega : z ≤ x), decide_eq_true (by omega : x < nx)]; rfl)
          clear hk2
          go_wp2_with fail
          go_round
          case rel => exact ⟨k + 1, x + 1, by go_num, vint (by omega), by omega, HF, ⟨by omega, by omega⟩⟩
          case measure => simp [intOf]; omega
    · obtain rfl : n = k := by omega
      have hk2 := HK.out
      rw [List.drop_eq_nil_of_le (by rw [HL.out]; exact Nat.le_refl _)] at hk2
      have HF := Lib.hid (show riseI nx 1 L = true by rw [hk2]; rfl)
      clear hk2
      go_wp2_with fail
      go_ret
      exact ⟨one (vbool (by rw [← HQ.out, HF.out])), rfl⟩
end Go.Proofs.Ytiopcojkdglapaa.W
