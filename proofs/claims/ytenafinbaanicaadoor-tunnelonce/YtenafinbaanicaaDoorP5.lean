/- The document: the walks of carry, times and whole. -/
import Derived.Test.YtenafinbaanicaaDoorP2
namespace Go.Proofs.YtenafinbaanicaaDoor.Pol
open Go.RowKit

theorem st_ge (m : Int) (sh : Nat) (a : Nat → Int) : ∀ j i, j ≤ i → st m sh a j i = a i
  | 0, _, _ => rfl
  | j + 1, i, h => by
    unfold st upd
    rw [if_neg (by omega), st_ge m sh a j i (by omega)]
theorem st_cell (m : Int) (sh : Nat) (a : Nat → Int) (j : Nat) : w64 (st m sh a j) j = .int .u64 (a j) := by
  unfold w64
  rw [st_ge m sh a j j (Nat.le_refl _)]
def dch (a : Nat → Int) : Nat → Int := st 255 8 a 18
def dtop (a : Nat → Int) : Int := uo (uo (sr (dch a 16) 2) (sl (dch a 17) 6)) (sl (cy 8 a 18) 14)
def d0 (a : Nat → Int) : Nat → Int := upd (upd (dch a) 16 (un (dch a 16) 3)) 17 0
def d1 (a : Nat → Int) : Nat → Int := upd (d0 a) 0 (ua (d0 a 0) (um 5 (dtop a)))
def dr (a : Nat → Int) : Nat → (Nat → Int)
  | 0 => a
  | j + 1 => d1 (dr a j)
def dcF (a : Nat → Int) : Nat → Int := st 255 8 (dr a 3) 18

def dT (a b : Nat → Int) : Nat → Int := st 255 8 (tp 18 a b 18) 36
def dlo (T : Nat → Int) : Nat → (Nat → Int)
  | 0 => fun _ => 0
  | j + 1 => upd (dlo T j) j (T j)
def dhi (T : Nat → Int) : Nat → (Nat → Int)
  | 0 => fun _ => 0
  | j + 1 => upd (dhi T j) j (uo (sr (T (16 + j)) 2) (un (sl (T (17 + j)) 6) 255))
def dl2 (T : Nat → Int) : Nat → Int := upd (dlo T 17) 16 (un (dlo T 17 16) 3)
def dl3 (T : Nat → Int) : Nat → (Nat → Int)
  | 0 => dl2 T
  | j + 1 => upd (dl3 T j) j (ua (dl3 T j j) (um 5 (dhi T 17 j)))
def dtF (a b : Nat → Int) : Nat → Int := dcF (dl3 (dT a b) 18)

def dg (a : Nat → Int) : Nat → Int := upd (dcF a) 0 (ua (dcF a 0) 5)
def dG (a : Nat → Int) : Nat → Int := st 255 8 (dg a) 18
def dwF (a : Nat → Int) : Nat → Int := if 4 ≤ dG a 16 then upd (dG a) 16 (un (dG a 16) 3) else dcF a

end Go.Proofs.YtenafinbaanicaaDoor.Pol
