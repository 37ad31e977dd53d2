/- The document: the walk of Turn. -/
import Derived.Test.YtenafinbaanicaaDoorC7
namespace Go.Proofs.YtenafinbaanicaaDoor
open Go.RowKit

/-- A byte of a text, as the document turns it. -/
def dob (key nonce : ByteArray) (n : Int) (s : ByteArray) (i : Nat) : Int := xb (bt s i) (bt (dbk key nonce (va n ((i / 64 : Nat) : Int))) (i % 64))
/-- The bytes, turned up to a place. -/
def dl (s : ByteArray) (g : Nat → Int) (j : Nat) : List Int := (List.range s.size).map fun i => if i < j then g i else bt s i
theorem dl_length (s : ByteArray) (g : Nat → Int) (j : Nat) : (dl s g j).length = s.size := by simp [dl]
theorem dl_zero (s : ByteArray) (g : Nat → Int) : sb s = dl s g 0 := by
  refine List.ext_getElem? fun i => ?_
  by_cases h : i < s.size
  · rw [sb_get s i h]
    simp [dl, h]
  · rw [List.getElem?_eq_none (by rw [sb_length]; omega), List.getElem?_eq_none (by rw [dl_length]; omega)]
theorem dl_get (s : ByteArray) (g : Nat → Int) (j : Nat) (h : j < s.size) : (vs8 (dl s g j))[j]? = some (.int .u8 (bt s j)) := by
  simp [vs8, dl, h]
theorem dl_set (s : ByteArray) (g : Nat → Int) (j : Nat) (h : j < s.size) : (vs8 (dl s g j)).set j (.int .u8 (g j)) = vs8 (dl s g (j + 1)) := by
  refine List.ext_getElem? fun i => ?_
  rw [List.getElem?_set]
  by_cases e : j = i
  · subst e
    rw [if_pos rfl, if_pos (by rw [vs8_length, dl_length]; exact h)]
    simp [vs8, dl, h]
  · rw [if_neg e]
    by_cases hi : i < s.size
    · simp only [vs8, dl, List.map_map, List.getElem?_map, List.getElem?_range hi]
      simp only [Option.map_some, Function.comp]
      by_cases h2 : i < j
      · rw [if_pos h2, if_pos (by omega)]
      · rw [if_neg h2, if_neg (by omega)]
    · rw [List.getElem?_eq_none (by rw [vs8_length, dl_length]; omega), List.getElem?_eq_none (by rw [vs8_length, dl_length]; omega)]
theorem dl_full (s : ByteArray) (g : Nat → Int) : dl s g s.size = (List.range s.size).map g := List.map_congr_left fun _ hi => if_pos (List.mem_range.1 hi)
/-- The document's text, turned. -/
def dT (key nonce : ByteArray) (n : Int) (s : ByteArray) : ByteArray := bs ((List.range s.size).map (dob key nonce n s))
theorem dob_nn (key nonce : ByteArray) (n : Int) (s : ByteArray) : ∀ x ∈ (List.range s.size).map (dob key nonce n s), 0 ≤ x ∧ x < 256 := fun x hx => by
  obtain ⟨i, _, rfl⟩ := List.mem_map.1 hx
  exact xb_nn _ _
/-- The block at hand ahead of a place. -/
def kS (key nonce : ByteArray) (n : Int) : Nat → ByteArray
  | 0 => strE
  | j + 1 => dbk key nonce (va n ((j / 64 : Nat) : Int))
theorem kS_at (key nonce : ByteArray) (n : Int) (j : Nat) (h : j % 64 ≠ 0) : kS key nonce n j = dbk key nonce (va n ((j / 64 : Nat) : Int)) := by
  rcases j with _ | j
  · exact absurd rfl h
  · show dbk key nonce (va n ((j / 64 : Nat) : Int)) = _
    rw [show (j + 1) / 64 = j / 64 by omega]
theorem cvu32 (n : Nat) (h : n < 4294967296) : cv .u32 (n : Int) = (n : Int) := wrap32_nat n h

end Go.Proofs.YtenafinbaanicaaDoor
