/- The contracts of squares and ones: the powers 2^n and 2^n - 1. -/
import Derived.Test.YtiiniodidkfbiaaMul
import Derived.Test.YtiiniodidkfbiaaLie
namespace Go.Proofs.Ytiiniodidkfbiaa
open Go.RowKit

def squaresF : Nat → E5 → E5
  | 0, x => x
  | n + 1, x => squaresF n (mulF x x)

theorem squaresF_ok : ∀ (n : Nat) {x : E5}, x.Ok → (squaresF n x).Ok
  | 0, _, h => h
  | n + 1, _, h => squaresF_ok n (mulF_ok h h)

set_option maxRecDepth 100000 in
set_option maxHeartbeats 1000000 in
theorem squares_any (n : Nat) : ∀ (x : E5) (w : World), x.Ok → n < 1000000 →
    Calls Try.prog 51 #[x.v, .int .u64 n] w fun r w' => r = .returned (squaresF n x).v ∧ Below w.heap.size w w' := by
  induction n with
  | zero =>
    intro x w hx _
    go_enter Try.func51, Try.ntmps51
    go_wp2
    exact bodyPost_ret (v := x.v) (by simp [results, Try.results51, go_sem]) rfl ⟨rfl, ((Below.refl _ _).alloc (Nat.le_refl _) _).alloc (by simp) _⟩
  | succ n ih =>
    intro x w hx hn
    have HI := hide ih
    clear ih
    have h0 : (((n + 1 : Nat) : Int) == 0) = false := beq_eq_false_iff_ne.2 (by omega)
    have e : ((n + 1 : Nat) : Int) = (n : Int) + 1 := by omega
    rw [e] at h0
    rw [e]
    go_enter Try.func51, Try.ntmps51
    go_wp2_with fail
    have R := Out.start1 w (.cells #[.int .u64 x.a, .int .u64 x.b, .int .u64 x.c, .int .u64 x.d, .int .u64 x.e] 41)
    refine (mul_any x x _ hx hx).mono ?_
    rintro _ w1 ⟨rfl, hb⟩
    replace R := R.keep hb
    clear hb
    go_wp2_with fail
    refine (HI.out (mulF x x) _ (mulF_ok hx hx) (by omega)).mono ?_
    rintro _ w2 ⟨rfl, hb⟩
    replace R := R.keep hb
    clear hb HI
    rw [show squaresF n (mulF x x) = squaresF (n + 1) x from rfl]
    generalize hz : squaresF (n + 1) x = z
    have H := hide hz
    obtain ⟨old, ge, hs, hf, c0, c1, c2, c3, c4⟩ := R
    have O := hide old
    clear old hz
    go_wp2
    refine bodyPost_ret (v := z.v) (by simp [results, Try.results51, go_sem, c0, c1, c2, c3, c4]) rfl ⟨by rw [H.out], ?_⟩
    exact five O.out ge

end Go.Proofs.Ytiiniodidkfbiaa
