/- The document: the walk of Tag. -/
import Derived.Test.YtenafinbaanicaaDoorP5
namespace Go.Proofs.YtenafinbaanicaaDoor.Pol
open Go.RowKit

def rk (key : ByteArray) : Nat → (Nat → Int)
  | 0 => fun _ => 0
  | j + 1 => upd (rk key j) j (cv .u64 (bt key j))
def dm1 (p : Nat → Int) : Nat → Int := upd (upd (upd (upd p 3 (un (p 3) 15)) 7 (un (p 7) 15)) 11 (un (p 11) 15)) 15 (un (p 15) 15)
def dm2 (p : Nat → Int) : Nat → Int := upd (upd (upd p 4 (un (p 4) 252)) 8 (un (p 8) 252)) 12 (un (p 12) 252)
def drF (key : ByteArray) : Nat → Int := dm2 (dm1 (rk key 16))
def dpa (h : Nat → Int) (p : ByteArray) : Nat → (Nat → Int)
  | 0 => h
  | j + 1 => upd (dpa h p j) j (ua (dpa h p j j) (cv .u64 (bt p j)))
def dpp (h : Nat → Int) (p : ByteArray) : Nat → Int := upd (dpa h p p.size) p.size (ua (dpa h p p.size p.size) 1)
def dpc (s : ByteArray) (j : Nat) : ByteArray := s.extract (16 * j) (min (16 * j + 16) s.size)
def dnx (s : ByteArray) (r h : Nat → Int) (j : Nat) : Nat → Int := dtF (dcF (dpp h (dpc s j))) r
def dsm (s : ByteArray) (r : Nat → Int) : Nat → (Nat → Int)
  | 0 => fun _ => 0
  | j + 1 => dnx s r (dsm s r j) j
/-- The number at the end. -/
def dh (key s : ByteArray) : Nat → Int := dwF (dsm s (drF key) ((s.size + 15) / 16))
def dsg (key : ByteArray) (h : Nat → Int) : Nat → Int := fun i => ua (h i) (cv .u64 (bt key (16 + i)))
def dby (g : Nat → Int) (i : Nat) : Int := cv .u8 (ua (g i) (cy 8 g i))
def dbs (g : Nat → Int) : Nat → (Nat → Int)
  | 0 => fun _ => 0
  | j + 1 => upd (dbs g j) j (dby g j)
theorem dbs_at (g : Nat → Int) : ∀ n, ∀ i, i < n → dbs g n i = dby g i
  | 0, i, h => absurd h (by omega)
  | n + 1, i, h => by
    unfold dbs upd
    by_cases e : i = n
    · rw [if_pos e, e]
    · rw [if_neg e, dbs_at g n i (by omega)]
theorem dbs_map (g : Nat → Int) : (List.range 16).map (dbs g 16) = (List.range 16).map (dby g) := List.map_congr_left fun i hi => dbs_at g 16 i (List.mem_range.1 hi)
theorem dby_nn (g : Nat → Int) : ∀ y ∈ (List.range 16).map (dby g), 0 ≤ y ∧ y < 256 := fun y hy => by
  obtain ⟨i, _, rfl⟩ := List.mem_map.1 hy
  exact cv8_nn _
/-- The document's tag. -/
def dtS (key s : ByteArray) : ByteArray := bs ((List.range 16).map (dby (dsg key (dh key s))))
theorem dpc_size (s : ByteArray) (j : Nat) : (dpc s j).size = min (16 * j + 16) s.size - 16 * j := by
  unfold dpc
  rw [ByteArray.size_extract]
  omega

end Go.Proofs.YtenafinbaanicaaDoor.Pol
