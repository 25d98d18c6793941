/- CONTRACTS of layer 7 (keyring): a ring, and its keys. -/
import Derived.Test.YtagblhkihammdaaDoorKrP
import Derived.Test.YtagblhkihammdaaDoorHmJ
import Derived.Laws.ResultCell
namespace Go.Proofs.YtagblhkihammdaaDoor.W
open Go Go.ChangeShapes Go.WideShapes Go.ChangeAt Go.RowKit

/-! ### a ring in memory: whether each lane's keys were asked for; K: what they are -/
def one01 (b : Bool) : Int := if b then 1 else 0
def pickS (b : Bool) (s : ByteArray) : ByteArray := if b then s else ⟨#[]⟩
def laneC (K : Nat → Nat → ByteArray) (i : Nat) (b : Bool) : List Value :=
  [.int .u32 (one01 b), .int .i32 0, .int .u32 0, .string (pickS b (K i 0)), .string (pickS b (K i 1)), .string (pickS b (K i 2))]
def countV (b : Nat → Bool) : Int := one01 (b 0) + one01 (b 1) + one01 (b 2) + one01 (b 3) + one01 (b 4)
def ringC (m : ByteArray) (K : Nat → Nat → ByteArray) (b : Nat → Bool) : List Value :=
  [.bool true, .string m] ++ (laneC K 0 (b 0) ++ (laneC K 1 (b 1) ++ (laneC K 2 (b 2) ++ (laneC K 3 (b 3) ++ (laneC K 4 (b 4) ++ [.int .i64 (countV b)])))))
def upd (b : Nat → Bool) (l : Nat) : Nat → Bool := fun i => if i = l then true else b i
theorem ringC_len (m : ByteArray) (K : Nat → Nat → ByteArray) (b : Nat → Bool) : (ringC m K b).length = 33 := rfl
theorem ringC_made (m : ByteArray) (K : Nat → Nat → ByteArray) (b : Nat → Bool) : (ringC m K b)[0]? = some (.bool true) := rfl
theorem ringC_master (m : ByteArray) (K : Nat → Nat → ByteArray) (b : Nat → Bool) : (ringC m K b)[1]? = some (.string m) := rfl
theorem ringC_count (m : ByteArray) (K : Nat → Nat → ByteArray) (b : Nat → Bool) : (ringC m K b)[32]? = some (.int .i64 (countV b)) := rfl
theorem five (l : Nat) (hl : l < 5) : l = 0 ∨ l = 1 ∨ l = 2 ∨ l = 3 ∨ l = 4 := by omega
theorem ringC_lane (m : ByteArray) (K : Nat → Nat → ByteArray) (b : Nat → Bool) (l j : Nat) (hl : l < 5) (hj : j < 6) : (ringC m K b)[2 + l * 6 + j]? = (laneC K l (b l))[j]? := by
  have h6 : j = 0 ∨ j = 1 ∨ j = 2 ∨ j = 3 ∨ j = 4 ∨ j = 5 := by omega
  rcases five l hl with rfl | rfl | rfl | rfl | rfl <;> rcases h6 with rfl | rfl | rfl | rfl | rfl | rfl <;> rfl
theorem count_bound (b : Nat → Bool) : 0 ≤ countV b ∧ countV b ≤ 5 := by
  have h : ∀ c : Bool, 0 ≤ one01 c ∧ one01 c ≤ 1 := by decide
  have := h (b 0); have := h (b 1); have := h (b 2); have := h (b 3); have := h (b 4)
  unfold countV; omega
theorem count_upd (b : Nat → Bool) (l : Nat) (hl : l < 5) (hb : b l = false) : countV (upd b l) = countV b + 1 := by
  unfold countV upd
  rcases five l hl with rfl | rfl | rfl | rfl | rfl <;> simp [hb, one01] <;> omega
/-- what the making of a lane's keys does to the cells -/
def laid (L : List Value) (l : Nat) (t p g : ByteArray) (n : Int) : List Value :=
  (((((((L.set (2 + l * 6 + 1) (.int .i32 1)).set (2 + l * 6 + 3) (.string t)).set (2 + l * 6 + 4) (.string p)).set (2 + l * 6 + 5) (.string g)).set 32 (.int .i64 n)).set (2 + l * 6) (.int .u32 1)).set (2 + l * 6 + 1) (.int .i32 0))
theorem laid_ring (m : ByteArray) (K : Nat → Nat → ByteArray) (b : Nat → Bool) (l : Nat) (hl : l < 5) (hb : b l = false) :
    laid (ringC m K b) l (K l 0) (K l 1) (K l 2) (countV b + 1) = ringC m K (upd b l) := by
  unfold laid ringC
  rw [count_upd b l hl hb]
  rcases five l hl with rfl | rfl | rfl | rfl | rfl <;> simp [laneC, upd, pickS, one01]

/-- the keys of a lane -/
def word3 : Nat → List UInt8
  | 0 => [116, 111, 107, 101, 110]
  | 1 => [112, 117, 116]
  | _ => [103, 101, 116]
def keyV (m : ByteArray) (i j : Nat) : ByteArray := str (derL m.data.toList (word3 j) (i : Int))
/-- a ring at g of the master m, K its keys; of the lanes b the keys were asked for -/
structure Ring (w : World) (g : Nat) (m : ByteArray) (K : Nat → Nat → ByteArray) (b : Nat → Bool) : Prop where
  row : Row w g 61 (ringC m K b)
  keys : ∀ i j, i < 5 → j < 3 → keyV m i j = K i j
theorem Ring.below {w w' : World} {g : Nat} {m : ByteArray} {K : Nat → Nat → ByteArray} {b : Nat → Bool} (h : Ring w g m K b) (hb : Below w.heap.size w w') : Ring w' g m K b := ⟨h.row.below hb h.row.lt, h.keys⟩
theorem lanes_size : (Tryd.prog.info? 53).map (·.size) = some 3 := by kernel_rfl
theorem ring_size : (Tryd.prog.info? 61).map (·.size) = some 33 := by kernel_rfl

end Go.Proofs.YtagblhkihammdaaDoor.W
