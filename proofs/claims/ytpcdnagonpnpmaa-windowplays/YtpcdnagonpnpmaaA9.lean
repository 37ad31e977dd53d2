/- All sizes and numbers, as they are handed in. -/
import Derived.Test.YtpcdnagonpnpmaaA8
namespace Go.Proofs.Ytpcdnagonpnpmaa
open Go.RowKit

theorem c_nilA (n : Int) (hn : Lit.wf (.int .u64 n) = true) (w : World) (hL : Laid w) : Calls Try.prog 5 #[.int .u64 n] w fun r w' => r = .returned (.bool true) ∧ Below w.heap.size w w' := by
  have h : 0 ≤ n ∧ n ≤ 18446744073709551615 := by simpa [Lit.wf, IntKind.min, IntKind.max, IntKind.signed, IntKind.bits] using hn
  obtain ⟨m, rfl⟩ : ∃ m : Nat, n = (m : Int) := ⟨n.toNat, by omega⟩
  exact c_nil m w hL
theorem c_playsA (z : Int) (l0 : Option Addr) (b o len lc : Nat) (X : Nat → Int) (hl0 : 0 < len → l0 = some ⟨b, o, none⟩) (hX0 : ∀ j, j < len → 0 ≤ X j ∧ X j < 18446744073709551616) (c : Int) (hc : Lit.wf (.int .u64 c) = true) (w : World) (hL : Laid w) (hX : ∀ j, j < len → w.cell? ⟨b, o + j * 1, none⟩ = some (.int .u64 (X j))) : Calls Try.prog 3 #[.int .i64 z, .slice l0 len lc, .int .u64 c] w fun r w' => r = .returned (.bool true) ∧ Below w.heap.size w w' := by
  have h : 0 ≤ c ∧ c ≤ 18446744073709551615 := by simpa [Lit.wf, IntKind.min, IntKind.max, IntKind.signed, IntKind.bits] using hc
  obtain ⟨m, rfl⟩ : ∃ m : Nat, c = (m : Int) := ⟨c.toNat, by omega⟩
  by_cases hz : z < 1 ∨ 4096 < z
  · exact c_playsB z hz l0 len lc m w hL
  · obtain ⟨s, rfl⟩ : ∃ s : Nat, z = (s : Int) := ⟨z.toNat, by omega⟩
    exact c_plays s (by omega) (by omega) l0 b o len lc (fun j => (X j).toNat) hl0 (fun j hj => by have := hX0 j hj; omega) m w hL (fun j hj => by rw [hX j hj, Int.toNat_of_nonneg (hX0 j hj).1])
theorem c_onceA (z : Int) (l0 : Option Addr) (b o len lc : Nat) (X : Nat → Int) (hl0 : 0 < len → l0 = some ⟨b, o, none⟩) (hX0 : ∀ j, j < len → 0 ≤ X j ∧ X j < 18446744073709551616) (w : World) (hL : Laid w) (hX : ∀ j, j < len → w.cell? ⟨b, o + j * 1, none⟩ = some (.int .u64 (X j))) : Calls Try.prog 4 #[.int .i64 z, .slice l0 len lc] w fun r w' => r = .returned (.bool true) ∧ Below w.heap.size w w' := by
  by_cases hz : z < 1 ∨ 4096 < z
  · exact c_onceB z hz l0 len lc w hL
  · obtain ⟨s, rfl⟩ : ∃ s : Nat, z = (s : Int) := ⟨z.toNat, by omega⟩
    exact c_once s (by omega) (by omega) l0 b o len lc (fun j => (X j).toNat) hl0 (fun j hj => by have := hX0 j hj; omega) w hL (fun j hj => by rw [hX j hj, Int.toNat_of_nonneg (hX0 j hj).1])

end Go.Proofs.Ytpcdnagonpnpmaa
