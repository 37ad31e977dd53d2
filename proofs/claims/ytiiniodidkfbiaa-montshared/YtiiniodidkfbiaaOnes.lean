/- The contract of ones: the power 2^n - 1. -/
import Derived.Test.YtiiniodidkfbiaaPow
import Derived.Test.YtiiniodidkfbiaaFloat
namespace Go.Proofs.Ytiiniodidkfbiaa
open Go.RowKit
attribute [local go_sem] keepOp keepAt keepUpon

/-- By halves; f: how many halvings there may be. -/
def onesF (x : E5) : Nat → Nat → E5
  | 0, _ => smallF 1
  | f + 1, n => if n = 0 then smallF 1 else
    if n % 2 = 0 then mulF (squaresF (n / 2) (onesF x f (n / 2))) (onesF x f (n / 2))
    else mulF (squaresF 1 (mulF (squaresF (n / 2) (onesF x f (n / 2))) (onesF x f (n / 2)))) x

theorem onesF_ok {x : E5} (hx : x.Ok) : ∀ (f n : Nat), (onesF x f n).Ok
  | 0, _ => smallF_ok (by decide) (by decide)
  | f + 1, n => by
    have h := onesF_ok hx f (n / 2)
    unfold onesF
    split
    · exact smallF_ok (by decide) (by decide)
    · split
      · exact mulF_ok (squaresF_ok _ h) h
      · exact mulF_ok (squaresF_ok _ (mulF_ok (squaresF_ok _ h) h)) hx

theorem squares_half (n : Nat) (x : E5) (w : World) (hx : x.Ok) (hn : n < 1000000) :
    Calls Try.prog 51 #[x.v, .int .u64 ((n : Int) / 2)] w fun r w' => r = .returned (squaresF (n / 2) x).v ∧ Below w.heap.size w w' := by
  rw [show (n : Int) / 2 = ((n / 2 : Nat) : Int) from by omega]
  exact squares_any (n / 2) x w hx (by omega)

theorem squares_1 (x : E5) (w : World) (hx : x.Ok) : Calls Try.prog 51 #[x.v, .int .u64 1] w fun r w' => r = .returned (squaresF 1 x).v ∧ Below w.heap.size w w' := squares_any 1 x w hx (by decide)
theorem squares_3 (x : E5) (w : World) (hx : x.Ok) : Calls Try.prog 51 #[x.v, .int .u64 3] w fun r w' => r = .returned (squaresF 3 x).v ∧ Below w.heap.size w w' := squares_any 3 x w hx (by decide)
theorem squares_5 (x : E5) (w : World) (hx : x.Ok) : Calls Try.prog 51 #[x.v, .int .u64 5] w fun r w' => r = .returned (squaresF 5 x).v ∧ Below w.heap.size w w' := squares_any 5 x w hx (by decide)

set_option maxRecDepth 100000 in
set_option maxHeartbeats 4000000 in
theorem ones_any (x : E5) (hx : x.Ok) (f : Nat) : ∀ (n : Nat) (w : World), n < 2 ^ f → n < 1000000 →
    Calls Try.prog 50 #[x.v, .int .u64 n] w fun r w' => r = .returned (onesF x f n).v ∧ Below w.heap.size w w' := by
  induction f with
  | zero =>
    intro n w hn _
    have e : n = 0 := by omega
    subst e
    go_enter Try.func50, Try.ntmps50
    go_wp2_with fail
    have R := Out.start1 w (.cells #[.int .u64 x.a, .int .u64 x.b, .int .u64 x.c, .int .u64 x.d, .int .u64 x.e] 41)
    refine (small_any 1 _ (by decide) (by decide)).mono ?_
    rintro _ w1 ⟨rfl, hb⟩
    replace R := R.keep hb
    clear hb
    rw [show smallF 1 = onesF x 0 0 from rfl]
    generalize hz : onesF x 0 0 = z
    have H := hide hz
    obtain ⟨old, ge, hs, hf, c0, c1, c2, c3, c4⟩ := R
    have O := hide old
    clear old hz
    go_wp2
    refine bodyPost_ret (v := z.v) (by simp [results, Try.results50, go_sem, c0, c1, c2, c3, c4]) rfl ⟨by rw [H.out], ?_⟩
    exact five O.out ge
  | succ f ih =>
    intro n w hn hlt
    have HI := hide ih
    clear ih
    by_cases h0 : n = 0
    · subst h0
      go_enter Try.func50, Try.ntmps50
      go_wp2_with fail
      have R := Out.start1 w (.cells #[.int .u64 x.a, .int .u64 x.b, .int .u64 x.c, .int .u64 x.d, .int .u64 x.e] 41)
      refine (small_any 1 _ (by decide) (by decide)).mono ?_
      rintro _ w1 ⟨rfl, hb⟩
      replace R := R.keep hb
      clear hb
      have e : onesF x (f + 1) 0 = smallF 1 := by simp [onesF]
      rw [← e]
      generalize hz : onesF x (f + 1) 0 = z
      have H := hide hz
      obtain ⟨old, ge, hs, hf, c0, c1, c2, c3, c4⟩ := R
      have O := hide old
      clear old hz e
      go_wp2
      refine bodyPost_ret (v := z.v) (by simp [results, Try.results50, go_sem, c0, c1, c2, c3, c4]) rfl ⟨by rw [H.out], ?_⟩
      exact five O.out ge
    · have b0 : ((n : Int) == 0) = false := beq_eq_false_iff_ne.2 (by omega)
      have hp : n / 2 < 2 ^ f := by
        have : 2 ^ (f + 1) = 2 * 2 ^ f := by rw [Nat.pow_succ, Nat.mul_comm]
        omega
      have ok := onesF_ok hx f (n / 2)
      by_cases hodd : n % 2 = 0
      all_goals
        go_enter Try.func50, Try.ntmps50
        go_wp2_with fail
        have R := Out.start1 w (.cells #[.int .u64 x.a, .int .u64 x.b, .int .u64 x.c, .int .u64 x.d, .int .u64 x.e] 41)
        have A := EAt.new1 w x (.cells #[.int .u64 0, .int .u64 0, .int .u64 0, .int .u64 0, .int .u64 0] 41)
        rw [show (n : Int) / 2 = ((n / 2 : Nat) : Int) from by omega]
        refine (HI.out (n / 2) _ hp (by omega)).mono ?_
        rintro _ w1 ⟨rfl, hb⟩
        replace R := R.keep hb
        replace A := A.keep hb
        clear hb HI
        have he : onesF x (f + 1) n = if n % 2 = 0 then mulF (squaresF (n / 2) (onesF x f (n / 2))) (onesF x f (n / 2)) else mulF (squaresF 1 (mulF (squaresF (n / 2) (onesF x f (n / 2))) (onesF x f (n / 2)))) x := by
          rw [onesF, if_neg h0]
        first | rw [if_pos hodd] at he | rw [if_neg hodd] at he
        have HE := hide he
        clear he
        generalize onesF x f (n / 2) = half at *
        go_wp2_with fail
        replace R := R.keep (new_below w1 (.cells #[.int .u64 half.a, .int .u64 half.b, .int .u64 half.c, .int .u64 half.d, .int .u64 half.e] 41))
        replace A := A.keep (new_below w1 (.cells #[.int .u64 half.a, .int .u64 half.b, .int .u64 half.c, .int .u64 half.d, .int .u64 half.e] 41))
        have B := EAt.new w1 half 41
        generalize w1.heap.size = g at *
        generalize w1.alloc (.cells #[.int .u64 half.a, .int .u64 half.b, .int .u64 half.c, .int .u64 half.d, .int .u64 half.e] 41) = W at *
        have hne := KW.some W
        have a0 := B.k0
        have a1 := B.k1
        have a2 := B.k2
        have a3 := B.k3
        have a4 := B.k4
        refine wp_region_keep_alloc (Z := .cells #[.int .u64 0, .int .u64 0, .int .u64 0, .int .u64 0, .int .u64 0] 41) 6 (by kernel_rfl) (by kernel_rfl) rfl rfl (fun _ _ => by kernel_rfl) ?_
        simp only [List.take_succ_cons, List.take_zero, List.drop_succ_cons, List.drop_zero]
        refine wpK_step (fun K hK => ?_)
        go_simp
        refine hK _ ?_
        clear hK K
        refine wpK_step (fun K hK => ?_)
        go_simp
        refine hK _ ?_
        clear hK K
        refine wpK_step (fun K hK => ?_)
        go_simp
        refine hK _ ?_
        clear hK K
        rw [show IntKind.u64.wrap ((n : Int) / 2) = (n : Int) / 2 from wrap64u ⟨by omega, by omega⟩]
        refine wpK_step (fun K hK => ?_)
        go_simp
        refine ⟨_, fun s => squares_half n half _ ok hlt, hK _ ?_⟩
        clear hK K
        refine wpK_step (fun K hK => ?_)
        go_simp
        refine hK _ ?_
        clear hK K
        refine wpK_step (fun K hK => ?_)
        go_simp
        refine ⟨_, fun s => mul_any _ _ _ (squaresF_ok _ ok) ok, hK _ ?_⟩
        clear hK K
        refine wpK_nil ?_
        intro W1 gb hb1 hb2 hb3 a2 ha2
        simp [go_sem] at ha2
        subst ha2
        clear a0 a1 a2 a3 a4 hne
        have sz := A.size
        have sz2 := R.lie.size
        replace R := R.keep hb1
        replace A := A.keep hb1
        have G := EAt.of_zero hb3
        clear B hb1 hb3
        have ok2 := mulF_ok (squaresF_ok (n / 2) ok) ok
        generalize mulF (squaresF (n / 2) half) half = even at *
        have n1 : ¬ w.heap.size + 1 = gb := by omega
        have n2 : ¬ gb = w.heap.size + 1 := by omega
        have GE := G.put even
        obtain ⟨gs, gf, g0, g1, g2, g3, g4⟩ := G
        have ev : ((n : Int) % 2 == 0) = decide (n % 2 = 0) := by rw [Bool.eq_iff_iff]; simp; omega
      · rw [decide_eq_true hodd] at ev
        obtain ⟨old, ge, hs, hf, c0, c1, c2, c3, c4⟩ := R
        have O := hide old
        clear old A GE hn h0 hp
        go_wp2_with fail
        refine bodyPost_ret (v := even.v) (by simp [results, Try.results50, go_sem, c0, c1, c2, c3, c4]) rfl ⟨by rw [HE.out], ?_⟩
        exact five (five O.out (by omega)) ge
      · rw [decide_eq_false hodd] at ev
        have RR := hide (R.other (k := gb) (by omega) (by omega) even)
        have AA := hide (A.other (k := gb) (by omega) even)
        have BB := hide GE
        clear A R GE
        go_wp2_with fail
        replace R := RR.out
        replace A := AA.out
        replace B := BB.out
        clear RR AA BB gs gf g0 g1 g2 g3 g4
        obtain ⟨W2, hW2⟩ : ∃ W2, put5 W1 gb even = W2 := ⟨_, rfl⟩
        rw [hW2] at R A B
        rw [show (((((W1.setCell ⟨gb, 0, none⟩ (.int .u64 even.a)).setCell ⟨gb, 1, none⟩ (.int .u64 even.b)).setCell ⟨gb, 2, none⟩ (.int .u64 even.c)).setCell ⟨gb, 3, none⟩ (.int .u64 even.d)).setCell ⟨gb, 4, none⟩ (.int .u64 even.e)) = W2 from hW2]
        clear hW2
        have hne := KW.some W2
        have a0 := B.k0
        have a1 := B.k1
        have a2 := B.k2
        have a3 := B.k3
        have a4 := B.k4
        have b0 := A.k0
        have b1 := A.k1
        have b2 := A.k2
        have b3 := A.k3
        have b4 := A.k4
        clear A B
        refine wp_region_keep_tail 4 (by kernel_rfl) (by kernel_rfl) ?_
        simp only [List.take_succ_cons, List.take_zero, List.drop_succ_cons, List.drop_zero]
        repeat (go_big_quiet_step (first | (go_at_call 51; exact keep_of (squares_1 even _ ok2)) | (go_at_call 27; exact keep_of (mul_any _ _ _ (squaresF_ok _ ok2) hx))))
        refine wpQuiet_nil ?_
        intro s
        clear a0 a1 a2 a3 a4 b0 b1 b2 b3 b4 hne
        replace R := R.keep s.keep
        generalize s.w = W3 at R ⊢
        generalize mulF (squaresF 1 even) x = z at *
        obtain ⟨old, ge, hs, hf, c0, c1, c2, c3, c4⟩ := R
        have O := hide old
        clear old
        go_wp2
        refine bodyPost_ret (v := z.v) (by simp [results, Try.results50, go_sem, c0, c1, c2, c3, c4]) rfl ⟨by rw [HE.out], ?_⟩
        exact five O.out ge

end Go.Proofs.Ytiiniodidkfbiaa
