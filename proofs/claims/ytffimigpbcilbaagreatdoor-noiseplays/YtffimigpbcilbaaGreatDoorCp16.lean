/- Part 16 of the walks and facts. -/
import Derived.Test.YtffimigpbcilbaaGreatDoorCpDef
import Derived.Test.YtffimigpbcilbaaGreatDoorCp15
import Derived.Carry
import Derived.Lay
import Derived.OpenShut
import Derived.ProofKit
import Derived.ShutString
import Derived.SizedLaws
import Derived.Test.YtffimigpbcilbaaGreatDoorTie
set_option maxHeartbeats 16000000
set_option maxRecDepth 100000
set_option linter.unusedSimpArgs false
namespace Go.Proofs.YtffimigpbcilbaaGreatDoor
open Go.RowKit
theorem bg0 {a b e pr pl : Yb} (h : bgE a b e pr pl = 0) : a.size = 32 ∧ b.size = 32 ∧ e.size = 32 ∧ ¬ shN e b = 0 ∧ ¬ shN a b = 0 := by
 unfold bgE at h
 rw [bS5_e] at h
 by_cases h1 : (a.size : Int) = 32
 ·rw [if_pos h1] at h
  by_cases h2 : (b.size : Int) = 32
  ·rw [if_pos h2] at h
   by_cases h3 : (e.size : Int) = 32
   ·rw [if_pos h3] at h
    refine ⟨by omega, by omega, by omega, fun k => ?_, fun k => ?_⟩
    ·rw [if_pos k] at h
     split at h
     ·exact absurd h (by decide)
     ·split at h <;> exact absurd h (by decide)
    ·rw [if_pos k, ite_self] at h
     split at h
     ·exact absurd h (by decide)
     ·split at h <;> exact absurd h (by decide)
   ·rw [if_neg h3] at h
    exact absurd h (by decide)
  ·rw [if_neg h2] at h
   exact absurd h (by decide)
 ·rw [if_neg h1] at h
  exact absurd h (by decide)
theorem rd0 {b pr m : Yb} (h : rdE b pr m = 0) : b.size = 32 ∧ 96 ≤ m.size ∧ ¬ shN b (rE m) = 0 ∧ tagOk (uS2 b pr m) (rC1 m) ∧ ¬ shN b (uF b pr m) = 0 ∧ tagOk (uS4 b pr m) (rC2 m) := by
 unfold rdE at h
 rw [rS5_e] at h
 by_cases h1 : (b.size : Int) = 32
 ·rw [if_pos h1] at h
  by_cases h2 : 4096 < (pr.size : Int)
  ·rw [if_pos h2] at h
   exact absurd h (by decide)
  ·rw [if_neg h2] at h
   by_cases h3 : 4192 < (m.size : Int)
   ·rw [if_pos h3] at h
    exact absurd h (by decide)
   ·rw [if_neg h3] at h
    by_cases h4 : (m.size : Int) < 96
    ·rw [if_pos h4] at h
     exact absurd h (by decide)
    ·rw [if_neg h4] at h
     by_cases h5 : shN b (rE m) = 0
     ·rw [if_pos h5] at h
      exact absurd h (by decide)
     ·rw [if_neg h5] at h
      by_cases h6 : tagOk (uS2 b pr m) (rC1 m)
      ·rw [if_pos h6] at h
       by_cases h7 : shN b (uF b pr m) = 0
       ·rw [if_pos h7] at h
        exact absurd h (by decide)
       ·rw [if_neg h7] at h
        by_cases h8 : tagOk (uS4 b pr m) (rC2 m)
        ·exact ⟨by omega, by omega, h5, h6, h7, h8⟩
        ·rw [if_neg h8] at h
         exact absurd h (by decide)
      ·rw [if_neg h6] at h
       exact absurd h (by decide)
 ·rw [if_neg h1] at h
  exact absurd h (by decide)
section
variable {s : St}
theorem an0 {f x e pl : Yb} (h0 : s.e = 0) (h : anE s f x e pl = 0) : ¬ shN e x = 0 ∧ ¬ shN e f = 0 := by
 unfold anE at h
 rw [aS4_e _ _ _ _ h0] at h
 split at h
 ·split at h
  ·exact absurd h (by decide)
  ·refine ⟨fun k => ?_, fun k => ?_⟩
   ·rw [if_pos k] at h
    exact absurd h (by decide)
   ·rw [if_pos k, ite_self] at h
    exact absurd h (by decide)
 ·exact absurd h (by decide)
theorem fi0 {a e r : Yb} (h0 : s.e = 0) (h : fiE s a e r = 0) : ¬ shN e (rE r) = 0 ∧ ¬ shN a (rE r) = 0 ∧ tagOk (gS3 s a e r) (fC r) := by
 unfold fiE at h
 rw [fS4_e _ _ _ h0] at h
 split at h
 ·exact absurd h (by decide)
 ·split at h
  ·exact absurd h (by decide)
  ·split at h
   ·exact absurd h (by decide)
   ·rename_i k1
    split at h
    ·exact absurd h (by decide)
    ·rename_i k2
     split at h
     ·rename_i k3
      exact ⟨k1, k2, k3⟩
     ·exact absurd h (by decide)
theorem vS2_end (x e : Yb) : vS2 (endF s) x e = vS2 s x e := by simp only [vS2, mixF, adN, endF]
theorem vS3_end (f x e : Yb) : vS3 (endF s) f x e = vS3 s f x e := by
 unfold vS3
 rw [vS2_end]
theorem vX_end (f x e pl : Yb) : vX (endF s) f x e pl = vX s f x e pl := by
 unfold vX
 rw [vS3_end]
theorem vS4_end (f x e pl : Yb) : vS4 (endF s) f x e pl = vS4 s f x e pl := by
 unfold vS4
 rw [vS3_end, vX_end]
theorem vRp_end (f x e pl : Yb) : vRp (endF s) f x e pl = vRp s f x e pl := by
 unfold vRp
 rw [vX_end]
theorem gS3_end (a e r : Yb) : gS3 (endF s) a e r = gS3 s a e r := by
 have h : gS2 (endF s) e r = gS2 s e r := by simp only [gS2, fS1, mixF, adN, endF]
 unfold gS3
 rw [h]
theorem gP_end (a e r : Yb) : gP (endF s) a e r = gP s a e r := by
 unfold gP
 rw [gS3_end]
theorem gS4_end (a e r : Yb) : gS4 (endF s) a e r = gS4 s a e r := by
 unfold gS4
 rw [gS3_end]
theorem end_e (h0 : s.e = 0) : (endF s).e = 0 := h0
theorem anE_end {f x e pl : Yb} (h0 : s.e = 0) : anE (endF s) f x e pl = anE s f x e pl := by
 unfold anE
 rw [aS4_e _ _ _ _ (end_e h0), aS4_e _ _ _ _ h0]
theorem fiE_end {a e r : Yb} (h0 : s.e = 0) : fiE (endF s) a e r = fiE s a e r := by
 unfold fiE
 rw [fS4_e _ _ _ (end_e h0), fS4_e _ _ _ h0, gS3_end]
end
theorem tS5_hs (a b e pr pl : Yb) : (tS5 a b e pr pl).h.size = 32 := mixF_h (tS4 a b e pr) (tX2 a b e pr pl)
theorem tS5_cs (a b e pr pl : Yb) : (tS5 a b e pr pl).c.size < 100000 := mixF_cs (by show (nxA _ _).size < 100000; rw [nxA_size]; decide)
theorem uS5_hs (b pr m : Yb) : (uS5 b pr m).h.size = 32 := mixF_h (uS4 b pr m) (rC2 m)
theorem uS5_cs (b pr m : Yb) : (uS5 b pr m).c.size < 100000 := mixF_cs (by show (nxA _ _).size < 100000; rw [nxA_size]; decide)
theorem uF_sz {b pr m : Yb} (h : rdE b pr m = 0) : (uF b pr m).size = 32 := uF_size (rd0 h).2.1
theorem rE_sz {b pr m : Yb} (h : rdE b pr m = 0) : (rE m).size = 32 := rE_size (by have := (rd0 h).2.1; omega)
theorem b_O (a b e pr pl : Yb) (h : bgE a b e pr pl = 0) (w : World) (hL : Laid w) : Calls Tryz.prog 10 #[.string a, .string b, .string e, .string pr, .string pl] w fun r w' => ∃ g, r = .returned (.tuple #[pJ g, .string (tMs a b e pr pl), .int .i64 0]) ∧ w.heap.size ≤ g ∧ w'.heap[g]? = some (.cells (av 7 (stL (endF (tS5 a b e pr pl)) [.string a, .string e, .string b])) 66) ∧ Below w.heap.size w w' := by
 refine (c_BeginO a b e pr pl h w hL).mono fun r w' k => ?_
 obtain ⟨_, _, _, h1, h2⟩ := bg0 h
 rwa [bS5_t h1 h2, bMs_t h1 h2] at k
theorem db_O (a b e pr pl : Yb) (h : bgE a b e pr pl = 0) (w : World) (hL : Laid w) : Cs 11 #[.string a, .string b, .string e, .string pr, .string pl] w (.tuple #[.agg (av 6 (tm (tS5 a b e pr pl) [a, e, b])), .string (tMs a b e pr pl), .int .i64 0]) := by
 refine (d_Begin a b e pr pl w hL).mono fun r w' k => ?_
 obtain ⟨hb, ⟨h1, _⟩ | ⟨_, h2⟩⟩ := k
 ·exact absurd h h1
 ·exact ⟨h2, hb⟩
theorem db_E (a b e pr pl : Yb) (h : ¬ bgE a b e pr pl = 0) (w : World) (hL : Laid w) : Cs 11 #[.string a, .string b, .string e, .string pr, .string pl] w (.tuple #[.agg (av 6 (zq 6)), .string zb, .int .i64 (bgE a b e pr pl)]) := by
 refine (d_Begin a b e pr pl w hL).mono fun r w' k => ?_
 obtain ⟨hb, ⟨_, h1⟩ | ⟨h2, _⟩⟩ := k
 ·exact ⟨h1, hb⟩
 ·exact absurd h2 h
theorem r_O (b pr m : Yb) (h : rdE b pr m = 0) (w : World) (hL : Laid w) : Calls Tryz.prog 13 #[.string b, .string pr, .string m] w fun r w' => ∃ g, r = .returned (.tuple #[pJ g, .agg (av 5 (sQ [uF b pr m, uP b pr m, zb, zb, zb])), .int .i64 0]) ∧ w.heap.size ≤ g ∧ w'.heap[g]? = some (.cells (av 6 (stL (endF (uS5 b pr m)) [.string (uF b pr m), .string (rE m)])) 77) ∧ Below w.heap.size w w' := by
 refine (c_ReadO b pr m h w hL).mono fun r w' k => ?_
 obtain ⟨_, _, h1, h2, h3, h4⟩ := rd0 h
 rwa [rF_u h1 h2, rP_u h1 h2 h3 h4, rS5_u h1 h2 h3 h4] at k
theorem dr_O (b pr m : Yb) (h : rdE b pr m = 0) (w : World) (hL : Laid w) : Cs 14 #[.string b, .string pr, .string m] w (.tuple #[.agg (av 5 (tm (uS5 b pr m) [uF b pr m, rE m])), .agg (av 5 (sQ [uF b pr m, uP b pr m, zb, zb, zb])), .int .i64 0]) := by
 refine (d_Read b pr m w hL).mono fun r w' k => ?_
 obtain ⟨hb, ⟨h1, _⟩ | ⟨_, h2⟩⟩ := k
 ·exact absurd h h1
 ·exact ⟨h2, hb⟩
theorem dr_E (b pr m : Yb) (h : ¬ rdE b pr m = 0) (w : World) (hL : Laid w) : Cs 14 #[.string b, .string pr, .string m] w (.tuple #[.agg (av 5 (zq 5)), .agg (av 5 (zq 5)), .int .i64 (rdE b pr m)]) := by
 refine (d_Read b pr m w hL).mono fun r w' k => ?_
 obtain ⟨hb, ⟨_, h1⟩ | ⟨h2, _⟩⟩ := k
 ·exact ⟨h1, hb⟩
 ·exact absurd h2 h
theorem da_O (s : St) (f x e pl : Yb) (h0 : s.e = 0) (hs : s.h.size = 32) (hc : s.c.size < 100000) (hf : f.size = 32) (hx : x.size = 32) (h : anE s f x e pl = 0) (w : World) (hL : Laid w) : Cs 16 #[.agg (av 5 (tm s [f, x])), .string e, .string pl] w (.tuple #[.string (vRp s f x e pl), .agg (av 5 (sQ [f, zb, nxB (vS4 s f x e pl).c ⟨#[]⟩, nxA (vS4 s f x e pl).c ⟨#[]⟩, (vS4 s f x e pl).h])), .int .i64 0]) := by
 refine (d_Answer s f x e pl h0 hs hc hf hx w hL).mono fun r w' k => ?_
 obtain ⟨hb, ⟨h1, _⟩ | ⟨_, h2⟩⟩ := k
 ·exact absurd h h1
 ·exact ⟨h2, hb⟩
theorem da_E (s : St) (f x e pl : Yb) (h0 : s.e = 0) (hs : s.h.size = 32) (hc : s.c.size < 100000) (hf : f.size = 32) (hx : x.size = 32) (h : ¬ anE s f x e pl = 0) (w : World) (hL : Laid w) : Cs 16 #[.agg (av 5 (tm s [f, x])), .string e, .string pl] w (.tuple #[.string zb, .agg (av 5 (zq 5)), .int .i64 (anE s f x e pl)]) := by
 refine (d_Answer s f x e pl h0 hs hc hf hx w hL).mono fun r w' k => ?_
 obtain ⟨hb, ⟨_, h1⟩ | ⟨h2, _⟩⟩ := k
 ·exact ⟨h1, hb⟩
 ·exact absurd h2 h
theorem a_O (g : Nat) (s : St) (f x e pl : Yb) (h0 : s.e = 0) (hs : s.h.size = 32) (hf : f.size = 32) (hx : x.size = 32) (h : anE s f x e pl = 0) (w : World) (hL : Laid w) (hg : w.heap[g]? = some (.cells (av 6 (stL (endF s) [.string f, .string x])) 77)) (hn : 2 < g) : Cs 15 #[pJ g, .string e, .string pl] w (.tuple #[.string (vRp s f x e pl), .agg (av 5 (sQ [f, zb, nxB (vS4 s f x e pl).c ⟨#[]⟩, nxA (vS4 s f x e pl).c ⟨#[]⟩, (vS4 s f x e pl).h])), .int .i64 0]) := by
 refine (c_Answer g (endF s) f x e pl hs hf hx w hL hg hn).mono fun r w' k => ?_
 obtain ⟨hb, ⟨h1, _⟩ | ⟨_, h2⟩⟩ := k
 ·rw [anE_end h0] at h1
  exact absurd h h1
 ·obtain ⟨k1, k2⟩ := an0 h0 h
  rw [aRp_v (end_e h0) k1 k2, aS4_v (end_e h0) k1 k2, vRp_end, vS4_end] at h2
  exact ⟨h2, hb⟩
theorem a_E (g : Nat) (s : St) (f x e pl : Yb) (h0 : s.e = 0) (hs : s.h.size = 32) (hf : f.size = 32) (hx : x.size = 32) (h : ¬ anE s f x e pl = 0) (w : World) (hL : Laid w) (hg : w.heap[g]? = some (.cells (av 6 (stL (endF s) [.string f, .string x])) 77)) (hn : 2 < g) : Cs 15 #[pJ g, .string e, .string pl] w (.tuple #[.string zb, .agg (av 5 (zq 5)), .int .i64 (anE s f x e pl)]) := by
 refine (c_Answer g (endF s) f x e pl hs hf hx w hL hg hn).mono fun r w' k => ?_
 obtain ⟨hb, ⟨_, h1⟩ | ⟨h2, _⟩⟩ := k
 ·rw [anE_end h0] at h1
  exact ⟨h1, hb⟩
 ·rw [anE_end h0] at h2
  exact absurd h2 h
theorem df_O (s : St) (a e b r_ : Yb) (h0 : s.e = 0) (hs : s.h.size = 32) (hc : s.c.size < 100000) (ha : a.size = 32) (he : e.size = 32) (h : fiE s a e r_ = 0) (w : World) (hL : Laid w) : Cs 18 #[.agg (av 6 (tm s [a, e, b])), .string r_] w (.tuple #[.agg (av 5 (sQ [b, gP s a e r_, nxA (gS4 s a e r_).c ⟨#[]⟩, nxB (gS4 s a e r_).c ⟨#[]⟩, (gS4 s a e r_).h])), .int .i64 0]) := by
 refine (d_Finish s a e b r_ h0 hs hc ha he w hL).mono fun r w' k => ?_
 obtain ⟨hb, ⟨h1, _⟩ | ⟨_, h2⟩⟩ := k
 ·exact absurd h h1
 ·exact ⟨h2, hb⟩
theorem df_E (s : St) (a e b r_ : Yb) (h0 : s.e = 0) (hs : s.h.size = 32) (hc : s.c.size < 100000) (ha : a.size = 32) (he : e.size = 32) (h : ¬ fiE s a e r_ = 0) (w : World) (hL : Laid w) : Cs 18 #[.agg (av 6 (tm s [a, e, b])), .string r_] w (.tuple #[.agg (av 5 (zq 5)), .int .i64 (fiE s a e r_)]) := by
 refine (d_Finish s a e b r_ h0 hs hc ha he w hL).mono fun r w' k => ?_
 obtain ⟨hb, ⟨_, h1⟩ | ⟨h2, _⟩⟩ := k
 ·exact ⟨h1, hb⟩
 ·exact absurd h2 h
theorem f_O (g : Nat) (s : St) (a e b r_ : Yb) (h0 : s.e = 0) (hs : s.h.size = 32) (ha : a.size = 32) (he : e.size = 32) (h : fiE s a e r_ = 0) (w : World) (hL : Laid w) (hg : w.heap[g]? = some (.cells (av 7 (stL (endF s) [.string a, .string e, .string b])) 66)) (hn : 2 < g) : Cs 17 #[pJ g, .string r_] w (.tuple #[.agg (av 5 (sQ [b, gP s a e r_, nxA (gS4 s a e r_).c ⟨#[]⟩, nxB (gS4 s a e r_).c ⟨#[]⟩, (gS4 s a e r_).h])), .int .i64 0]) := by
 refine (c_Finish g (endF s) a e b r_ hs ha he w hL hg hn).mono fun r w' k => ?_
 obtain ⟨hb, ⟨h1, _⟩ | ⟨_, h2⟩⟩ := k
 ·rw [fiE_end h0] at h1
  exact absurd h h1
 ·obtain ⟨k1, k2, k3⟩ := fi0 h0 h
  rw [fS4_g (end_e h0) k1 k2 (by rw [gS3_end]; exact k3), fP_g (end_e h0) k1 k2 (by rw [gS3_end]; exact k3), gP_end, gS4_end] at h2
  exact ⟨h2, hb⟩
theorem f_E (g : Nat) (s : St) (a e b r_ : Yb) (h0 : s.e = 0) (hs : s.h.size = 32) (ha : a.size = 32) (he : e.size = 32) (h : ¬ fiE s a e r_ = 0) (w : World) (hL : Laid w) (hg : w.heap[g]? = some (.cells (av 7 (stL (endF s) [.string a, .string e, .string b])) 66)) (hn : 2 < g) : Cs 17 #[pJ g, .string r_] w (.tuple #[.agg (av 5 (zq 5)), .int .i64 (fiE s a e r_)]) := by
 refine (c_Finish g (endF s) a e b r_ hs ha he w hL hg hn).mono fun r w' k => ?_
 obtain ⟨hb, ⟨_, h1⟩ | ⟨h2, _⟩⟩ := k
 ·rw [fiE_end h0] at h1
  exact ⟨h1, hb⟩
 ·rw [fiE_end h0] at h2
  exact absurd h2 h
open Go.RowKit
def lq (c : Int) : Int := IntKind.wrap .i64 (BitVec.ofInt 64 c &&& BitVec.ofInt 64 16777215).toNat
theorem lq_nat (c : Int) : ∃ m : Nat, lq c = (m : Int) := by
 have h : (BitVec.ofInt 64 c &&& BitVec.ofInt 64 16777215).toNat ≤ 16777215 := by
  rw [BitVec.toNat_and]
  exact Nat.le_trans Nat.and_le_right (by decide)
 exact ⟨_, wrap64 (by omega) (by omega)⟩
theorem run_remN {P : Program} {a : Act} {o : Oper} (t rt : TypeId) (x y : Operand) (ho : o.op = .binOp .rem t x y rt) (m d : Nat) (hx : a.eval x = .int .i64 (m : Int)) (hy : a.eval y = .int .i64 (d : Int)) (hd : 0 < d) (w : World) :
  (execOp a.eval o).run P w = .ok (.value (.int .i64 ((m % d : Nat) : Int))) w := by
 have h0 : ¬ d = 0 := by omega
 have e : Int.tmod (m : Int) (d : Int) = (m : Int) % (d : Int) := rfl
 unfold execOp
 simp [ho, hx, hy, eqGuard, binOp, Op.intDiv, h0, e]
def tB (A : Yb) (k : Nat) (x : Int) : ByteArray := bs ((sb A).set k (xb (bt A k) x))
theorem tB_sb (A : Yb) (k : Nat) (x : Int) : sb (tB A k x) = (sb A).set k (xb (bt A k) x) := sb_bs _ fun y hy => by
 rcases List.mem_or_eq_of_mem_set hy with h | h
 ·exact sb_nn A y h
 ·rw [h]
  exact xb_nn _ _
theorem vs8_set (l : List Int) (k : Nat) (x : Int) : (vs8 l).set k (.int .u8 x) = vs8 (l.set k x) := by
 unfold vs8
 rw [List.map_set]
def tuN (s : Yb) (c x : Int) : ByteArray := if s.size = 0 then s else tB s ((lq c).toNat % s.size) x
theorem vs8_sb (s : Yb) (k : Nat) (h : k < s.size) : (vs8 (sb s))[k]? = some (.int .u8 (bt s k)) := by
 unfold vs8
 rw [List.getElem?_map, sb_get _ _ h]
 rfl
theorem c_turnG (s : Yb) (at_ by_ : Int) (m K : Nat) (hq : lq at_ = (m : Int)) (hmk : m % s.size = K) (hS : ¬ s = ⟨#[]⟩) (hK : K < s.size) (w : World) (hL : Laid w)  : Cs 12 #[.string s, .int .i64 at_, .int .u8 by_] w (.string (tB s K by_)) := by
 go_enter Tryz.func12, Tryz.ntmps12
 have M := Mem.start hL
 refine sq <| wp_seq <| sR <| rV 1 <| zJ 10 (.bool false) (.bool (s.toList == (⟨#[]⟩ : Yb).toList)) (by rw [dec_str, decide_eq_false hS]) <| nT <| cF <| wp_skip <| au_then <| sR <| rV 1 <| pl_conv M (want_no rfl) (some 13) rfl _ rfl s (by kernel_rfl) ?_
 intro g1 cpg1 Zg1 u1 hZg1 M
 refine rV 1 <| nT <| sR <| rV 1 <| zJ 15 (.int .i64 (m : Int)) (.int .i64 (lq at_)) (by rw [hq]) <| rV 2 <| pH 18 (.int .i64 (K : Int)) (fun w => Eq.trans (run_remN 3 3 _ _ rfl m s.size (by kernel_rfl) (by kernel_rfl) (by omega) w) (by rw [hmk])) <| rV 1 <| nT <| sR <| rV 4 <| pH 23 (pJ g1 K) (run_ix0 61 5 Tryz.underlying61 inz5 _ _ rfl g1 s.size cpg1 (by kernel_rfl) .i64 K (by kernel_rfl) hK) <| pE M 24 g1 K (.int .u8 (bt s K)) (fun w M => hZg1.cell (M.get 0 rfl) (vs8_sb _ _ hK)) <| rV 2 <| pH 27 (pJ g1 K) (run_ix0 61 5 Tryz.underlying61 inz5 _ _ rfl g1 s.size cpg1 (by kernel_rfl) .i64 K (by kernel_rfl) hK) <| pl_putS M (want_no rfl) rfl 5 _ _ rfl 0 g1 K (by kernel_rfl) _ rfl cpg1 _ hZg1 (by rw [vs8_length, sb_length]; exact hK) (.int .u8 (xb (bt s K) by_)) (by kernel_rfl) inz5 rfl rfl ?_
 intro ZA u2 hZA M
 rw [vs8_set] at hZA
 refine nT <| sR <| rV 1 <| pl_back M (want_no rfl) (some 29) rfl _ rfl 0 g1 s.size cpg1 (by kernel_rfl) _ rfl ((sb s).set K (xb (bt s K) by_)) cpg1 hZA (by rw [List.length_set, sb_length]) (fun y hy => by rw [← tB_sb] at hy; exact sb_nn _ y hy) <| rV 1 <| nT <| wp_ret ?_
 exact b1 M
theorem c_turn0 (at_ by_ : Int) (w : World) (hL : Laid w)  : Cs 12 #[.string zb, .int .i64 at_, .int .u8 by_] w (.string zb) := by
 go_enter Tryz.func12, Tryz.ntmps12
 have M := Mem.start hL
 refine sq <| wp_seq <| sq <| cT <| sq <| wp_ret <| au_then_ret ?_
 exact b1 M
theorem c_turnd (s : Yb) (at_ by_ : Int) (w : World) (hL : Laid w) : Cs 12 #[.string s, .int .i64 at_, .int .u8 by_] w (.string (tuN s at_ by_)) := by
 obtain ⟨m, hq⟩ := lq_nat at_
 unfold tuN
 by_cases h : s.size = 0
 ·obtain rfl : s = ⟨#[]⟩ := ByteArray.ext (Array.eq_empty_of_size_eq_zero h)
  rw [if_pos h]
  exact c_turn0 at_ by_ w hL
 ·rw [if_neg h, hq]
  exact c_turnG s at_ by_ m _ hq rfl (fun e => h (by rw [e]; rfl)) (Nat.mod_lt _ (by omega)) w hL
open Go.RowKit
theorem turnX (s : Yb) (c x : Int) : ∃ T : Yb, ∀ w, Laid w → Cs 12 #[.string s, .int .i64 c, .int .u8 x] w (.string T) := ⟨_, fun w hL => c_turnd s c x w hL⟩
theorem c_plays (ra rb re rf rp ro rt : Yb) (n1 n2 n3 : Int) (hz : ra.size + rb.size + re.size + rf.size + rp.size + ro.size + rt.size < 4611686018427387904) (w : World) (hL : Laid w)  : Cs 3 #[.agg (av 7 (sQ [ra, rb, re, rf, rp, ro, rt])), .int .i64 n1, .int .u8 n2, .int .u8 n3] w (.bool true) := by
 go_enter Tryz.func3, Tryz.ntmps3
 have M := Mem.start hL
 refine sR <| pN M 4 (.cells (av 7 (sQ [ra, rb, re, rf, rp, ro, rt])) 23) fun g1 u1 M => rV 1 <| nT <| wp_seq <| sR <| pB M 26 0 ?_
 by_cases c0 : 1024 < ra.size + rb.size + re.size + rf.size + rp.size + ro.size + rt.size
 ·refine ZC M 27 (fun w M => c_longT ra rb re rf rp ro rt hz c0 w M.laid) fun u2 M => nT <| cT <| sR <| ZC M 28 (fun w M => c_alive w M.laid) fun u3 M => rV 1 <| nT <| wp_ret <| au_then_ret ?_
  exact b1 M
 ·refine ZC M 27 (fun w M => c_longF ra rb re rf rp ro rt c0 w M.laid) fun u2 M => nT <| cF <| wp_skip <| au_then <| sR <| rV 1 <| ZE M 31 0 1 ?_
  by_cases c1 : rb.size = 32
  ·refine pD M 32 (.tuple #[.string (puV rb), .int .i64 0]) (fun w M => Mon.rpubL rb w M.laid c1) fun u3 M => rV 5 <| nT <| wp_seq <| sq <| cF <| wp_skip <| au_then <| sR <| rV 1 <| ZE M 41 0 0 <| rV 2 <| ZE M 44 0 2 <| rV 1 <| ZE M 46 0 4 <| rV 1 ?_
   refine ZE M 48 0 5 ?_
   by_cases c2 : (bgE ra (puV rb) re rp ro) = 0
   ·refine pl_calln M (want_no rfl) (some 49) rfl 10 #[.string ra, .string (puV rb), .string re, .string rp, .string ro] (fun g2 => .tuple #[pJ g2, .string (tMs ra (puV rb) re rp ro), .int .i64 0]) (.cells (av 7 (stL (endF (tS5 ra (puV rb) re rp ro)) [.string ra, .string re, .string (puV rb)])) 66) (fun _ => by kernel_rfl) (fun w M => b_O ra (puV rb) re rp ro c2 w M.laid) fun g2 u4 M => rV 7 <| nT <| sR <| rV 1 <| ZE M 55 0 0 <| rV 2 <| ZE M 58 0 2 <| rV 1 <| ZE M 60 0 4 <| rV 1 <| ZE M 62 0 5 <| pD M 63 (.tuple #[.agg (av 6 (tm (tS5 ra (puV rb) re rp ro) [ra, re, puV rb])), .string (tMs ra (puV rb) re rp ro), .int .i64 0]) (fun w M => db_O ra (puV rb) re rp ro c2 w M.laid) fun u5 M => rV 4 <| pN M 14 (.cells (av 6 (zq 6)) 35) fun g3 u6 M => ZL M 2 6 (tm (tS5 ra (puV rb) re rp ro) [ra, re, puV rb]) fun u7 M => ?_
    refine rV 2 <| nT <| wp_seq <| sR <| rV 2 <| zN 69 (tMs ra (puV rb) re rp ro) <| rV 12 <| nT <| cF <| wp_skip <| au_then <| sR <| rV 3 ?_
    obtain ⟨T1, hT1⟩ := turnX (tMs ra (puV rb) re rp ro) n1 n2
    obtain ⟨T1, hT1⟩ := turnX (tMs ra (puV rb) re rp ro) n1 n2
    refine pD M 85 (.string T1) (fun w M => hT1 w M.laid) fun u8 M => rV 1 <| nT <| sR <| rV 1 <| ZE M 88 0 1 <| rV 1 <| ZE M 90 0 4 <| rV 1 ?_
    by_cases c3 : (rdE rb rp T1) = 0
    ·refine pl_calln M (want_no rfl) (some 92) rfl 13 #[.string rb, .string rp, .string T1] (fun g4 => .tuple #[pJ g4, .agg (av 5 (sQ [uF rb rp T1, uP rb rp T1, zb, zb, zb])), .int .i64 0]) (.cells (av 6 (stL (endF (uS5 rb rp T1)) [.string (uF rb rp T1), .string (rE T1)])) 77) (fun _ => by kernel_rfl) (fun w M => r_O rb rp T1 c3 w M.laid) fun g4 u9 M => rV 4 <| pN M 19 (.cells (av 5 (zq 5)) 41) fun g5 u10 M => rV 1 <| ZL M 4 5 (sQ [uF rb rp T1, uP rb rp T1, zb, zb, zb]) fun u11 M => rV 1 <| nT <| sR <| rV 1 <| ZE M 98 0 1 <| rV 1 <| ZE M 100 0 4 <| rV 1 <| pD M 102 (.tuple #[.agg (av 5 (tm (uS5 rb rp T1) [uF rb rp T1, rE T1])), .agg (av 5 (sQ [uF rb rp T1, uP rb rp T1, zb, zb, zb])), .int .i64 0]) (fun w M => dr_O rb rp T1 c3 w M.laid) fun u12 M => rV 4 <| pN M 20 (.cells (av 5 (zq 5)) 45) fun g6 u13 M => ?_
     refine pN M 21 (.cells (av 5 (zq 5)) 41) fun g7 u14 M => ZL M 5 5 (tm (uS5 rb rp T1) [uF rb rp T1, rE T1]) fun u15 M => ZL M 6 5 (sQ [uF rb rp T1, uP rb rp T1, zb, zb, zb]) fun u16 M => rV 1 <| nT <| wp_seq <| sR <| pB M 106 4 <| pB M 107 6 <| n41 108 (uF rb rp T1) (uP rb rp T1) zb zb zb <| rV 12 <| nT <| cF <| wp_skip <| au_then <| wp_seq ?_
     refine sq <| cF <| wp_skip <| au_then <| sR <| rV 2 <| ZE M 127 0 3 <| rV 1 <| ZE M 129 0 6 ?_
     by_cases c4 : (anE (uS5 rb rp T1) (uF rb rp T1) (rE T1) rf rt) = 0
     ·refine pD M 130 (.tuple #[.string (vRp (uS5 rb rp T1) (uF rb rp T1) (rE T1) rf rt), .agg (av 5 (sQ [uF rb rp T1, zb, nxB (vS4 (uS5 rb rp T1) (uF rb rp T1) (rE T1) rf rt).c ⟨#[]⟩, nxA (vS4 (uS5 rb rp T1) (uF rb rp T1) (rE T1) rf rt).c ⟨#[]⟩, (vS4 (uS5 rb rp T1) (uF rb rp T1) (rE T1) rf rt).h])), .int .i64 0]) (fun w M => a_O g4 (uS5 rb rp T1) (uF rb rp T1) (rE T1) rf rt rfl (uS5_hs _ _ _) (uF_sz c3) (rE_sz c3) c4 w M.laid (M.get 3 rfl) (M.ne0 3 rfl)) fun u17 M => rV 5 <| ZL M 4 5 (sQ [uF rb rp T1, zb, nxB (vS4 (uS5 rb rp T1) (uF rb rp T1) (rE T1) rf rt).c ⟨#[]⟩, nxA (vS4 (uS5 rb rp T1) (uF rb rp T1) (rE T1) rf rt).c ⟨#[]⟩, (vS4 (uS5 rb rp T1) (uF rb rp T1) (rE T1) rf rt).h]) fun u18 M => rV 1 <| nT <| sR <| pB M 135 5 <| rV 1 <| ZE M 137 0 3 <| rV 1 <| ZE M 139 0 6 <| pD M 140 (.tuple #[.string (vRp (uS5 rb rp T1) (uF rb rp T1) (rE T1) rf rt), .agg (av 5 (sQ [uF rb rp T1, zb, nxB (vS4 (uS5 rb rp T1) (uF rb rp T1) (rE T1) rf rt).c ⟨#[]⟩, nxA (vS4 (uS5 rb rp T1) (uF rb rp T1) (rE T1) rf rt).c ⟨#[]⟩, (vS4 (uS5 rb rp T1) (uF rb rp T1) (rE T1) rf rt).h])), .int .i64 0]) (fun w M => da_O (uS5 rb rp T1) (uF rb rp T1) (rE T1) rf rt rfl (uS5_hs _ _ _) (uS5_cs _ _ _) (uF_sz c3) (rE_sz c3) c4 w M.laid) fun u19 M => rV 5 <| ZL M 6 5 (sQ [uF rb rp T1, zb, nxB (vS4 (uS5 rb rp T1) (uF rb rp T1) (rE T1) rf rt).c ⟨#[]⟩, nxA (vS4 (uS5 rb rp T1) (uF rb rp T1) (rE T1) rf rt).c ⟨#[]⟩, (vS4 (uS5 rb rp T1) (uF rb rp T1) (rE T1) rf rt).h]) fun u20 M => rV 1 <| nT ?_
      refine wp_seq <| sR <| rV 2 <| zN 146 (vRp (uS5 rb rp T1) (uF rb rp T1) (rE T1) rf rt) <| rV 1 <| pB M 148 4 <| pB M 149 6 <| n41 150 (uF rb rp T1) zb (nxB (vS4 (uS5 rb rp T1) (uF rb rp T1) (rE T1) rf rt).c ⟨#[]⟩) (nxA (vS4 (uS5 rb rp T1) (uF rb rp T1) (rE T1) rf rt).c ⟨#[]⟩) ((vS4 (uS5 rb rp T1) (uF rb rp T1) (rE T1) rf rt).h) <| rV 6 <| nT <| cF <| wp_skip <| au_then <| wp_seq <| sq <| cF ?_
      refine wp_skip <| au_then <| sR <| rV 3 ?_
      obtain ⟨T2, hT2⟩ := turnX (vRp (uS5 rb rp T1) (uF rb rp T1) (rE T1) rf rt) n1 n3
      obtain ⟨T2, hT2⟩ := turnX (vRp (uS5 rb rp T1) (uF rb rp T1) (rE T1) rf rt) n1 n3
      refine pD M 163 (.string T2) (fun w M => hT2 w M.laid) fun u21 M => rV 1 <| nT <| sR <| rV 2 ?_
      by_cases c5 : (fiE (tS5 ra (puV rb) re rp ro) ra re T2) = 0
      ·refine pD M 167 (.tuple #[.agg (av 5 (sQ [puV rb, gP (tS5 ra (puV rb) re rp ro) ra re T2, nxA (gS4 (tS5 ra (puV rb) re rp ro) ra re T2).c ⟨#[]⟩, nxB (gS4 (tS5 ra (puV rb) re rp ro) ra re T2).c ⟨#[]⟩, (gS4 (tS5 ra (puV rb) re rp ro) ra re T2).h])), .int .i64 0]) (fun w M => f_O g2 (tS5 ra (puV rb) re rp ro) ra re (puV rb) T2 rfl (tS5_hs _ _ _ _ _) (bg0 c2).1 (bg0 c2).2.2.1 c5 w M.laid (M.get 1 rfl) (M.ne0 1 rfl)) fun u22 M => rV 3 <| ZL M 4 5 (sQ [puV rb, gP (tS5 ra (puV rb) re rp ro) ra re T2, nxA (gS4 (tS5 ra (puV rb) re rp ro) ra re T2).c ⟨#[]⟩, nxB (gS4 (tS5 ra (puV rb) re rp ro) ra re T2).c ⟨#[]⟩, (gS4 (tS5 ra (puV rb) re rp ro) ra re T2).h]) fun u23 M => rV 1 <| nT <| sR <| pB M 171 2 <| rV 1 <| pD M 173 (.tuple #[.agg (av 5 (sQ [puV rb, gP (tS5 ra (puV rb) re rp ro) ra re T2, nxA (gS4 (tS5 ra (puV rb) re rp ro) ra re T2).c ⟨#[]⟩, nxB (gS4 (tS5 ra (puV rb) re rp ro) ra re T2).c ⟨#[]⟩, (gS4 (tS5 ra (puV rb) re rp ro) ra re T2).h])), .int .i64 0]) (fun w M => df_O (tS5 ra (puV rb) re rp ro) ra re (puV rb) T2 rfl (tS5_hs _ _ _ _ _) (tS5_cs _ _ _ _ _) (bg0 c2).1 (bg0 c2).2.2.1 c5 w M.laid) fun u24 M => rV 3 <| ZL M 6 5 (sQ [puV rb, gP (tS5 ra (puV rb) re rp ro) ra re T2, nxA (gS4 (tS5 ra (puV rb) re rp ro) ra re T2).c ⟨#[]⟩, nxB (gS4 (tS5 ra (puV rb) re rp ro) ra re T2).c ⟨#[]⟩, (gS4 (tS5 ra (puV rb) re rp ro) ra re T2).h]) fun u25 M => rV 1 <| nT <| sR <| pB M 176 4 <| pB M 177 6 ?_
       refine z41 178 (puV rb) (gP (tS5 ra (puV rb) re rp ro) ra re T2) (nxA (gS4 (tS5 ra (puV rb) re rp ro) ra re T2).c ⟨#[]⟩) (nxB (gS4 (tS5 ra (puV rb) re rp ro) ra re T2).c ⟨#[]⟩) ((gS4 (tS5 ra (puV rb) re rp ro) ra re T2).h) <| rV 6 <| pl_call M (by kernel_rfl) (some 185) rfl 8 #[] (.bool true) (fun _ => by kernel_rfl) (fun w M => c_alive w M.laid) fun u26 M => rV 2 <| nT <| wp_ret ?_
       exact b1 M
      ·refine pD M 167 (.tuple #[.agg (av 5 (zq 5)), .int .i64 (fiE (tS5 ra (puV rb) re rp ro) ra re T2)]) (fun w M => f_E g2 (tS5 ra (puV rb) re rp ro) ra re (puV rb) T2 rfl (tS5_hs _ _ _ _ _) (bg0 c2).1 (bg0 c2).2.2.1 c5 w M.laid (M.get 1 rfl) (M.ne0 1 rfl)) fun u22 M => rV 3 <| ZL M 4 5 (zq 5) fun u23 M => rV 1 <| nT <| sR <| pB M 171 2 <| rV 1 <| pD M 173 (.tuple #[.agg (av 5 (zq 5)), .int .i64 (fiE (tS5 ra (puV rb) re rp ro) ra re T2)]) (fun w M => df_E (tS5 ra (puV rb) re rp ro) ra re (puV rb) T2 rfl (tS5_hs _ _ _ _ _) (tS5_cs _ _ _ _ _) (bg0 c2).1 (bg0 c2).2.2.1 c5 w M.laid) fun u24 M => rV 3 <| ZL M 6 5 (zq 5) fun u25 M => rV 1 <| nT <| sR <| pB M 176 4 <| pB M 177 6 ?_
       refine z41 178 zb zb zb zb zb <| rV 3 <| ZT 182 ((fiE (tS5 ra (puV rb) re rp ro) ra re T2) = (fiE (tS5 ra (puV rb) re rp ro) ra re T2)) <| rV 2 <| pl_call M (by kernel_rfl) (some 185) rfl 8 #[] (.bool true) (fun _ => by kernel_rfl) (fun w M => c_alive w M.laid) fun u26 M => rV 2 <| nT <| wp_ret ?_
       exact b1 M
     ·refine pD M 130 (.tuple #[.string zb, .agg (av 5 (zq 5)), .int .i64 (anE (uS5 rb rp T1) (uF rb rp T1) (rE T1) rf rt)]) (fun w M => a_E g4 (uS5 rb rp T1) (uF rb rp T1) (rE T1) rf rt rfl (uS5_hs _ _ _) (uF_sz c3) (rE_sz c3) c4 w M.laid (M.get 3 rfl) (M.ne0 3 rfl)) fun u17 M => rV 5 <| ZL M 4 5 (zq 5) fun u18 M => rV 1 <| nT <| sR <| pB M 135 5 <| rV 1 <| ZE M 137 0 3 <| rV 1 <| ZE M 139 0 6 <| pD M 140 (.tuple #[.string zb, .agg (av 5 (zq 5)), .int .i64 (anE (uS5 rb rp T1) (uF rb rp T1) (rE T1) rf rt)]) (fun w M => da_E (uS5 rb rp T1) (uF rb rp T1) (rE T1) rf rt rfl (uS5_hs _ _ _) (uS5_cs _ _ _) (uF_sz c3) (rE_sz c3) c4 w M.laid) fun u19 M => rV 5 <| ZL M 6 5 (zq 5) fun u20 M => rV 1 <| nT ?_
      refine wp_seq <| sR <| rV 4 <| pB M 148 4 <| pB M 149 6 <| n41 150 zb zb zb zb zb <| rV 4 <| ZD 155 ((anE (uS5 rb rp T1) (uF rb rp T1) (rE T1) rf rt) = (anE (uS5 rb rp T1) (uF rb rp T1) (rE T1) rf rt)) <| rV 1 <| nT <| cF <| wp_skip <| au_then <| wp_seq <| sq <| cF ?_
      refine wp_skip <| au_then <| sR <| rV 3 ?_
      obtain ⟨T3, hT3⟩ := turnX ⟨#[]⟩ n1 n3
      obtain ⟨T3, hT3⟩ := turnX ⟨#[]⟩ n1 n3
      refine pD M 163 (.string T3) (fun w M => hT3 w M.laid) fun u21 M => rV 1 <| nT <| sR <| rV 2 ?_
      by_cases c5 : (fiE (tS5 ra (puV rb) re rp ro) ra re T3) = 0
      ·refine pD M 167 (.tuple #[.agg (av 5 (sQ [puV rb, gP (tS5 ra (puV rb) re rp ro) ra re T3, nxA (gS4 (tS5 ra (puV rb) re rp ro) ra re T3).c ⟨#[]⟩, nxB (gS4 (tS5 ra (puV rb) re rp ro) ra re T3).c ⟨#[]⟩, (gS4 (tS5 ra (puV rb) re rp ro) ra re T3).h])), .int .i64 0]) (fun w M => f_O g2 (tS5 ra (puV rb) re rp ro) ra re (puV rb) T3 rfl (tS5_hs _ _ _ _ _) (bg0 c2).1 (bg0 c2).2.2.1 c5 w M.laid (M.get 1 rfl) (M.ne0 1 rfl)) fun u22 M => rV 3 <| ZL M 4 5 (sQ [puV rb, gP (tS5 ra (puV rb) re rp ro) ra re T3, nxA (gS4 (tS5 ra (puV rb) re rp ro) ra re T3).c ⟨#[]⟩, nxB (gS4 (tS5 ra (puV rb) re rp ro) ra re T3).c ⟨#[]⟩, (gS4 (tS5 ra (puV rb) re rp ro) ra re T3).h]) fun u23 M => rV 1 <| nT <| sR <| pB M 171 2 <| rV 1 <| pD M 173 (.tuple #[.agg (av 5 (sQ [puV rb, gP (tS5 ra (puV rb) re rp ro) ra re T3, nxA (gS4 (tS5 ra (puV rb) re rp ro) ra re T3).c ⟨#[]⟩, nxB (gS4 (tS5 ra (puV rb) re rp ro) ra re T3).c ⟨#[]⟩, (gS4 (tS5 ra (puV rb) re rp ro) ra re T3).h])), .int .i64 0]) (fun w M => df_O (tS5 ra (puV rb) re rp ro) ra re (puV rb) T3 rfl (tS5_hs _ _ _ _ _) (tS5_cs _ _ _ _ _) (bg0 c2).1 (bg0 c2).2.2.1 c5 w M.laid) fun u24 M => rV 3 <| ZL M 6 5 (sQ [puV rb, gP (tS5 ra (puV rb) re rp ro) ra re T3, nxA (gS4 (tS5 ra (puV rb) re rp ro) ra re T3).c ⟨#[]⟩, nxB (gS4 (tS5 ra (puV rb) re rp ro) ra re T3).c ⟨#[]⟩, (gS4 (tS5 ra (puV rb) re rp ro) ra re T3).h]) fun u25 M => rV 1 <| nT <| sR <| pB M 176 4 <| pB M 177 6 ?_
       refine z41 178 (puV rb) (gP (tS5 ra (puV rb) re rp ro) ra re T3) (nxA (gS4 (tS5 ra (puV rb) re rp ro) ra re T3).c ⟨#[]⟩) (nxB (gS4 (tS5 ra (puV rb) re rp ro) ra re T3).c ⟨#[]⟩) ((gS4 (tS5 ra (puV rb) re rp ro) ra re T3).h) <| rV 6 <| pl_call M (by kernel_rfl) (some 185) rfl 8 #[] (.bool true) (fun _ => by kernel_rfl) (fun w M => c_alive w M.laid) fun u26 M => rV 2 <| nT <| wp_ret ?_
       exact b1 M
      ·refine pD M 167 (.tuple #[.agg (av 5 (zq 5)), .int .i64 (fiE (tS5 ra (puV rb) re rp ro) ra re T3)]) (fun w M => f_E g2 (tS5 ra (puV rb) re rp ro) ra re (puV rb) T3 rfl (tS5_hs _ _ _ _ _) (bg0 c2).1 (bg0 c2).2.2.1 c5 w M.laid (M.get 1 rfl) (M.ne0 1 rfl)) fun u22 M => rV 3 <| ZL M 4 5 (zq 5) fun u23 M => rV 1 <| nT <| sR <| pB M 171 2 <| rV 1 <| pD M 173 (.tuple #[.agg (av 5 (zq 5)), .int .i64 (fiE (tS5 ra (puV rb) re rp ro) ra re T3)]) (fun w M => df_E (tS5 ra (puV rb) re rp ro) ra re (puV rb) T3 rfl (tS5_hs _ _ _ _ _) (tS5_cs _ _ _ _ _) (bg0 c2).1 (bg0 c2).2.2.1 c5 w M.laid) fun u24 M => rV 3 <| ZL M 6 5 (zq 5) fun u25 M => rV 1 <| nT <| sR <| pB M 176 4 <| pB M 177 6 ?_
       refine z41 178 zb zb zb zb zb <| rV 3 <| ZT 182 ((fiE (tS5 ra (puV rb) re rp ro) ra re T3) = (fiE (tS5 ra (puV rb) re rp ro) ra re T3)) <| rV 2 <| pl_call M (by kernel_rfl) (some 185) rfl 8 #[] (.bool true) (fun _ => by kernel_rfl) (fun w M => c_alive w M.laid) fun u26 M => rV 2 <| nT <| wp_ret ?_
       exact b1 M
    ·refine ZC M 92 (fun w M => c_ReadE rb rp T1 c3 w M.laid) fun u9 M => rV 4 <| pN M 19 (.cells (av 5 (zq 5)) 41) fun g4 u10 M => rV 1 <| ZL M 3 5 (zq 5) fun u11 M => rV 1 <| nT <| sR <| rV 1 <| ZE M 98 0 1 <| rV 1 <| ZE M 100 0 4 <| rV 1 <| pD M 102 (.tuple #[.agg (av 5 (zq 5)), .agg (av 5 (zq 5)), .int .i64 (rdE rb rp T1)]) (fun w M => dr_E rb rp T1 c3 w M.laid) fun u12 M => rV 4 <| pN M 20 (.cells (av 5 (zq 5)) 45) fun g5 u13 M => ?_
     refine pN M 21 (.cells (av 5 (zq 5)) 41) fun g6 u14 M => ZL M 4 5 (zq 5) fun u15 M => ZL M 5 5 (zq 5) fun u16 M => rV 1 <| nT <| wp_seq <| sR <| pB M 106 3 <| pB M 107 5 <| n41 108 zb zb zb zb zb <| rV 3 <| ZD 112 ((rdE rb rp T1) = (rdE rb rp T1)) <| rV 5 <| wU 118 c3 <| rV 2 <| nT ?_
     refine cF <| wp_skip <| au_then <| wp_seq <| sR <| rV 1 <| wU 122 c3 <| nT <| cT <| sR <| ZC M 123 (fun w M => c_alive w M.laid) fun u17 M => rV 1 <| nT <| wp_ret <| au_then_ret ?_
     exact b1 M
   ·refine ZC M 49 (fun w M => c_BeginE ra (puV rb) re rp ro c2 w M.laid) fun u4 M => rV 7 <| nT <| sR <| rV 1 <| ZE M 55 0 0 <| rV 2 <| ZE M 58 0 2 <| rV 1 <| ZE M 60 0 4 <| rV 1 <| ZE M 62 0 5 <| pD M 63 (.tuple #[.agg (av 6 (zq 6)), .string zb, .int .i64 (bgE ra (puV rb) re rp ro)]) (fun w M => db_E ra (puV rb) re rp ro c2 w M.laid) fun u5 M => rV 4 <| pN M 14 (.cells (av 6 (zq 6)) 35) fun g2 u6 M => ZL M 1 6 (zq 6) fun u7 M => ?_
    refine rV 2 <| nT <| wp_seq <| sR <| rV 6 <| ZD 73 ((bgE ra (puV rb) re rp ro) = (bgE ra (puV rb) re rp ro)) <| rV 5 <| wU 79 c2 <| rV 2 <| nT <| cF <| wp_skip <| au_then <| sR <| rV 3 ?_
    obtain ⟨T4, hT4⟩ := turnX ⟨#[]⟩ n1 n2
    obtain ⟨T4, hT4⟩ := turnX ⟨#[]⟩ n1 n2
    refine pD M 85 (.string T4) (fun w M => hT4 w M.laid) fun u8 M => rV 1 <| nT <| sR <| rV 1 <| ZE M 88 0 1 <| rV 1 <| ZE M 90 0 4 <| rV 1 ?_
    by_cases c3 : (rdE rb rp T4) = 0
    ·refine pl_calln M (want_no rfl) (some 92) rfl 13 #[.string rb, .string rp, .string T4] (fun g3 => .tuple #[pJ g3, .agg (av 5 (sQ [uF rb rp T4, uP rb rp T4, zb, zb, zb])), .int .i64 0]) (.cells (av 6 (stL (endF (uS5 rb rp T4)) [.string (uF rb rp T4), .string (rE T4)])) 77) (fun _ => by kernel_rfl) (fun w M => r_O rb rp T4 c3 w M.laid) fun g3 u9 M => rV 4 <| pN M 19 (.cells (av 5 (zq 5)) 41) fun g4 u10 M => rV 1 <| ZL M 3 5 (sQ [uF rb rp T4, uP rb rp T4, zb, zb, zb]) fun u11 M => rV 1 <| nT <| sR <| rV 1 <| ZE M 98 0 1 <| rV 1 <| ZE M 100 0 4 <| rV 1 <| pD M 102 (.tuple #[.agg (av 5 (tm (uS5 rb rp T4) [uF rb rp T4, rE T4])), .agg (av 5 (sQ [uF rb rp T4, uP rb rp T4, zb, zb, zb])), .int .i64 0]) (fun w M => dr_O rb rp T4 c3 w M.laid) fun u12 M => rV 4 <| pN M 20 (.cells (av 5 (zq 5)) 45) fun g5 u13 M => ?_
     refine pN M 21 (.cells (av 5 (zq 5)) 41) fun g6 u14 M => ZL M 4 5 (tm (uS5 rb rp T4) [uF rb rp T4, rE T4]) fun u15 M => ZL M 5 5 (sQ [uF rb rp T4, uP rb rp T4, zb, zb, zb]) fun u16 M => rV 1 <| nT <| wp_seq <| sR <| pB M 106 3 <| pB M 107 5 <| n41 108 (uF rb rp T4) (uP rb rp T4) zb zb zb <| rV 12 <| nT <| cF <| wp_skip <| au_then <| wp_seq ?_
     refine sq <| cF <| wp_skip <| au_then <| sR <| rV 2 <| ZE M 127 0 3 <| rV 1 <| ZE M 129 0 6 ?_
     by_cases c4 : (anE (uS5 rb rp T4) (uF rb rp T4) (rE T4) rf rt) = 0
     ·refine pD M 130 (.tuple #[.string (vRp (uS5 rb rp T4) (uF rb rp T4) (rE T4) rf rt), .agg (av 5 (sQ [uF rb rp T4, zb, nxB (vS4 (uS5 rb rp T4) (uF rb rp T4) (rE T4) rf rt).c ⟨#[]⟩, nxA (vS4 (uS5 rb rp T4) (uF rb rp T4) (rE T4) rf rt).c ⟨#[]⟩, (vS4 (uS5 rb rp T4) (uF rb rp T4) (rE T4) rf rt).h])), .int .i64 0]) (fun w M => a_O g3 (uS5 rb rp T4) (uF rb rp T4) (rE T4) rf rt rfl (uS5_hs _ _ _) (uF_sz c3) (rE_sz c3) c4 w M.laid (M.get 2 rfl) (M.ne0 2 rfl)) fun u17 M => rV 5 <| ZL M 3 5 (sQ [uF rb rp T4, zb, nxB (vS4 (uS5 rb rp T4) (uF rb rp T4) (rE T4) rf rt).c ⟨#[]⟩, nxA (vS4 (uS5 rb rp T4) (uF rb rp T4) (rE T4) rf rt).c ⟨#[]⟩, (vS4 (uS5 rb rp T4) (uF rb rp T4) (rE T4) rf rt).h]) fun u18 M => rV 1 <| nT <| sR <| pB M 135 4 <| rV 1 <| ZE M 137 0 3 <| rV 1 <| ZE M 139 0 6 <| pD M 140 (.tuple #[.string (vRp (uS5 rb rp T4) (uF rb rp T4) (rE T4) rf rt), .agg (av 5 (sQ [uF rb rp T4, zb, nxB (vS4 (uS5 rb rp T4) (uF rb rp T4) (rE T4) rf rt).c ⟨#[]⟩, nxA (vS4 (uS5 rb rp T4) (uF rb rp T4) (rE T4) rf rt).c ⟨#[]⟩, (vS4 (uS5 rb rp T4) (uF rb rp T4) (rE T4) rf rt).h])), .int .i64 0]) (fun w M => da_O (uS5 rb rp T4) (uF rb rp T4) (rE T4) rf rt rfl (uS5_hs _ _ _) (uS5_cs _ _ _) (uF_sz c3) (rE_sz c3) c4 w M.laid) fun u19 M => rV 5 <| ZL M 5 5 (sQ [uF rb rp T4, zb, nxB (vS4 (uS5 rb rp T4) (uF rb rp T4) (rE T4) rf rt).c ⟨#[]⟩, nxA (vS4 (uS5 rb rp T4) (uF rb rp T4) (rE T4) rf rt).c ⟨#[]⟩, (vS4 (uS5 rb rp T4) (uF rb rp T4) (rE T4) rf rt).h]) fun u20 M => rV 1 <| nT ?_
      refine wp_seq <| sR <| rV 2 <| zN 146 (vRp (uS5 rb rp T4) (uF rb rp T4) (rE T4) rf rt) <| rV 1 <| pB M 148 3 <| pB M 149 5 <| n41 150 (uF rb rp T4) zb (nxB (vS4 (uS5 rb rp T4) (uF rb rp T4) (rE T4) rf rt).c ⟨#[]⟩) (nxA (vS4 (uS5 rb rp T4) (uF rb rp T4) (rE T4) rf rt).c ⟨#[]⟩) ((vS4 (uS5 rb rp T4) (uF rb rp T4) (rE T4) rf rt).h) <| rV 6 <| nT <| cF <| wp_skip <| au_then <| wp_seq <| sR <| rV 1 ?_
      refine wU 158 c2 <| nT <| cT <| sR <| ZC M 159 (fun w M => c_alive w M.laid) fun u21 M => rV 1 <| nT <| wp_ret <| au_then_ret ?_
      exact b1 M
     ·refine pD M 130 (.tuple #[.string zb, .agg (av 5 (zq 5)), .int .i64 (anE (uS5 rb rp T4) (uF rb rp T4) (rE T4) rf rt)]) (fun w M => a_E g3 (uS5 rb rp T4) (uF rb rp T4) (rE T4) rf rt rfl (uS5_hs _ _ _) (uF_sz c3) (rE_sz c3) c4 w M.laid (M.get 2 rfl) (M.ne0 2 rfl)) fun u17 M => rV 5 <| ZL M 3 5 (zq 5) fun u18 M => rV 1 <| nT <| sR <| pB M 135 4 <| rV 1 <| ZE M 137 0 3 <| rV 1 <| ZE M 139 0 6 <| pD M 140 (.tuple #[.string zb, .agg (av 5 (zq 5)), .int .i64 (anE (uS5 rb rp T4) (uF rb rp T4) (rE T4) rf rt)]) (fun w M => da_E (uS5 rb rp T4) (uF rb rp T4) (rE T4) rf rt rfl (uS5_hs _ _ _) (uS5_cs _ _ _) (uF_sz c3) (rE_sz c3) c4 w M.laid) fun u19 M => rV 5 <| ZL M 5 5 (zq 5) fun u20 M => rV 1 <| nT ?_
      refine wp_seq <| sR <| rV 4 <| pB M 148 3 <| pB M 149 5 <| n41 150 zb zb zb zb zb <| rV 4 <| ZD 155 ((anE (uS5 rb rp T4) (uF rb rp T4) (rE T4) rf rt) = (anE (uS5 rb rp T4) (uF rb rp T4) (rE T4) rf rt)) <| rV 1 <| nT <| cF <| wp_skip <| au_then <| wp_seq <| sR <| rV 1 ?_
      refine wU 158 c2 <| nT <| cT <| sR <| ZC M 159 (fun w M => c_alive w M.laid) fun u21 M => rV 1 <| nT <| wp_ret <| au_then_ret ?_
      exact b1 M
    ·refine ZC M 92 (fun w M => c_ReadE rb rp T4 c3 w M.laid) fun u9 M => rV 4 <| pN M 19 (.cells (av 5 (zq 5)) 41) fun g3 u10 M => rV 1 <| ZL M 2 5 (zq 5) fun u11 M => rV 1 <| nT <| sR <| rV 1 <| ZE M 98 0 1 <| rV 1 <| ZE M 100 0 4 <| rV 1 <| pD M 102 (.tuple #[.agg (av 5 (zq 5)), .agg (av 5 (zq 5)), .int .i64 (rdE rb rp T4)]) (fun w M => dr_E rb rp T4 c3 w M.laid) fun u12 M => rV 4 <| pN M 20 (.cells (av 5 (zq 5)) 45) fun g4 u13 M => ?_
     refine pN M 21 (.cells (av 5 (zq 5)) 41) fun g5 u14 M => ZL M 3 5 (zq 5) fun u15 M => ZL M 4 5 (zq 5) fun u16 M => rV 1 <| nT <| wp_seq <| sR <| pB M 106 2 <| pB M 107 4 <| n41 108 zb zb zb zb zb <| rV 3 <| ZD 112 ((rdE rb rp T4) = (rdE rb rp T4)) <| rV 5 <| wU 118 c3 <| rV 2 <| nT ?_
     refine cF <| wp_skip <| au_then <| wp_seq <| sR <| rV 1 <| wU 122 c3 <| nT <| cT <| sR <| ZC M 123 (fun w M => c_alive w M.laid) fun u17 M => rV 1 <| nT <| wp_ret <| au_then_ret ?_
     exact b1 M
  ·refine pD M 32 (.tuple #[.string zb, .int .i64 2]) (fun w M => Mon.rpub_no rb w c1) fun u3 M => rV 5 <| nT <| wp_seq <| sq <| cT <| rg_lit <| rV 1 <| ZE M 38 0 1 <| rV 1 <| nT <| sR <| rV 1 <| ZE M 41 0 0 <| rV 2 <| ZE M 44 0 2 ?_
   refine rV 1 <| ZE M 46 0 4 <| rV 1 <| ZE M 48 0 5 ?_
   by_cases c2 : (bgE ra rb re rp ro) = 0
   ·exact absurd (bg0 c2).2.1 c1
   ·refine ZC M 49 (fun w M => c_BeginE ra rb re rp ro c2 w M.laid) fun u4 M => rV 7 <| nT <| sR <| rV 1 <| ZE M 55 0 0 <| rV 2 <| ZE M 58 0 2 <| rV 1 <| ZE M 60 0 4 <| rV 1 <| ZE M 62 0 5 <| pD M 63 (.tuple #[.agg (av 6 (zq 6)), .string zb, .int .i64 (bgE ra rb re rp ro)]) (fun w M => db_E ra rb re rp ro c2 w M.laid) fun u5 M => rV 4 <| pN M 14 (.cells (av 6 (zq 6)) 35) fun g2 u6 M => ZL M 1 6 (zq 6) fun u7 M => ?_
    refine rV 2 <| nT <| wp_seq <| sR <| rV 6 <| ZD 73 ((bgE ra rb re rp ro) = (bgE ra rb re rp ro)) <| rV 5 <| wU 79 c2 <| rV 2 <| nT <| cF <| wp_skip <| au_then <| sR <| rV 3 ?_
    obtain ⟨T4, hT4⟩ := turnX ⟨#[]⟩ n1 n2
    obtain ⟨T4, hT4⟩ := turnX ⟨#[]⟩ n1 n2
    refine pD M 85 (.string T4) (fun w M => hT4 w M.laid) fun u8 M => rV 1 <| nT <| sR <| rV 1 <| ZE M 88 0 1 <| rV 1 <| ZE M 90 0 4 <| rV 1 ?_
    by_cases c3 : (rdE rb rp T4) = 0
    ·exact absurd (rd0 c3).1 c1
    ·refine ZC M 92 (fun w M => c_ReadE rb rp T4 c3 w M.laid) fun u9 M => rV 4 <| pN M 19 (.cells (av 5 (zq 5)) 41) fun g3 u10 M => rV 1 <| ZL M 2 5 (zq 5) fun u11 M => rV 1 <| nT <| sR <| rV 1 <| ZE M 98 0 1 <| rV 1 <| ZE M 100 0 4 <| rV 1 <| pD M 102 (.tuple #[.agg (av 5 (zq 5)), .agg (av 5 (zq 5)), .int .i64 (rdE rb rp T4)]) (fun w M => dr_E rb rp T4 c3 w M.laid) fun u12 M => rV 4 <| pN M 20 (.cells (av 5 (zq 5)) 45) fun g4 u13 M => ?_
     refine pN M 21 (.cells (av 5 (zq 5)) 41) fun g5 u14 M => ZL M 3 5 (zq 5) fun u15 M => ZL M 4 5 (zq 5) fun u16 M => rV 1 <| nT <| wp_seq <| sR <| pB M 106 2 <| pB M 107 4 <| n41 108 zb zb zb zb zb <| rV 3 <| ZD 112 ((rdE rb rp T4) = (rdE rb rp T4)) <| rV 5 <| wU 118 c3 <| rV 2 <| nT ?_
     refine cF <| wp_skip <| au_then <| wp_seq <| sR <| rV 1 <| wU 122 c3 <| nT <| cT <| sR <| ZC M 123 (fun w M => c_alive w M.laid) fun u17 M => rV 1 <| nT <| wp_ret <| au_then_ret ?_
     exact b1 M
open Go.RowKit
def lay6 : List (String × DataW Unit) := [("isthmus/blake.orders", Rows.laid_isthmus_blake_orders), ("isthmus/chacha.turns", Rows.laid_isthmus_chacha_turns)]
theorem int_of_trod {H : Type} {enc : TypeId × Value → H} {P : Program} {w : World} {base : Nat} {sp : Nat → Bool} {held : Bool} {fuel : Nat} {t : TypeId} {k : IntKind} {c : Value} {y : DataW H × List MemPlace}
  (ht : P.underlying t = some (.int k)) (h : DataW.trod enc P w base sp held fuel t [c] = some y) : ∃ n, c = .int k n ∧ y = (.lit (.int k n), []) := by
 cases fuel with
 | zero => simp [DataW.trod] at h
 | succ fuel =>
  cases c <;> simp [DataW.trod, ht] at h
  rename_i k' n
  obtain ⟨⟨rfl, _⟩, rfl⟩ := h
  exact ⟨n, rfl, rfl⟩
def litsOf : DataW Unit → List (DataW Unit)
 | .agg l => l
 | _ => []
theorem glA : Tryz.prog.globalNamed "isthmus/blake.orders" = some 0 := by kernel_rfl
theorem glTA : (Tryz.prog.globals[0]?).map (·.type) = some 215 := by kernel_rfl
theorem clCA : Tryz.prog.cellsOf 5 = 1 := by kernel_rfl
theorem clEA : Tryz.prog.cellsOf 214 = 16 := by kernel_rfl
theorem litsA : ∀ a, a < 10 → ∀ b, b < 16 → (litsOf (((litsOf Rows.laid_isthmus_blake_orders)[a]?).getD .nil))[b]? = some (.lit (.int .u8 (OF (a * 16 + b)))) := by
 have h : ((List.range 10).all fun a => (List.range 16).all fun b => match (litsOf (((litsOf Rows.laid_isthmus_blake_orders)[a]?).getD .nil))[b]? with | some (.lit (.int .u8 n)) => n == (OF (a * 16 + b) : Int) | _ => false) = true := by decide +kernel
 intro a ha b hb
 have h1 := List.all_eq_true.1 h a (List.mem_range.2 ha)
 have h2 := List.all_eq_true.1 h1 b (List.mem_range.2 hb)
 split at h2
 ·rename_i n e
  rw [e, eq_of_beq h2]
 ·cases h2
theorem layA {W : World} {cs : Array Value} {fuel : Nat} {p : List MemPlace} (hvar : W.var? Tryz.prog "isthmus/blake.orders" = some cs) (hd : DataW.trod (fun _ => ()) Tryz.prog W 0 (fun _ => true) false fuel 215 cs.toList = some (Rows.laid_isthmus_blake_orders, p)) : ∀ i, i < 160 → W.cell? ⟨0, i, none⟩ = some (.int .u8 (OF i)) := by
 obtain ⟨xs, m, _, hx, hlen, hxl, hat⟩ := DataW.trod_array Tryz.underlying215 hd
 have hl160 : cs.toList.length = 160 := hlen.trans (by kernel_rfl)
 have e1 : litsOf Rows.laid_isthmus_blake_orders = xs.map (·.1) := by
  have := congrArg Prod.fst hx
  simp only at this
  rw [this]
  rfl
 intro i hi
 rw [World.var?_cell glA hvar i]
 obtain ⟨a, ha⟩ : ∃ a, a = i / 16 := ⟨_, rfl⟩
 obtain ⟨b, hb⟩ : ∃ b, b = i % 16 := ⟨_, rfl⟩
 have hi3 : i = a * 16 + b := by omega
 have ha1 : a < 10 := by omega
 have hb1 : b < 16 := by omega
 have h1 := hat a ha1
 rw [clEA, List.getElem?_eq_getElem (by omega)] at h1
 have h3 := litsA a ha1 b hb1
 rw [e1, List.getElem?_map, List.getElem?_eq_getElem (l := xs) (i := a) (by omega), Option.map_some, Option.getD_some] at h3
 generalize xs[a] = xa at h1 h3
 obtain ⟨ys, m2, _, hy, hlen2, hyl, hat2⟩ := DataW.trod_array Tryz.underlying214 h1
 have e2 : litsOf xa.1 = ys.map (·.1) := by rw [hy]; rfl
 have h4 := hat2 b hb1
 have hl2 : cs.size = 160 := by simpa using hl160
 have hi2 : b < (List.take 16 (List.drop (a * 16) cs.toList)).length := by simp; omega
 rw [clCA, Nat.mul_one, List.drop_eq_getElem_cons hi2, List.take_succ_cons, List.take_zero, List.getElem?_eq_getElem (by omega)] at h4
 obtain ⟨n, hc, hy2⟩ := int_of_trod Tryz.underlying5 h4
 rw [e2, List.getElem?_map, List.getElem?_eq_getElem (l := ys) (i := b) (by omega), hy2] at h3
 simp at h3
 subst h3
 have e5 : cs.toList[i]? = some (List.take 16 (List.drop (a * 16) cs.toList))[b] := by
  rw [← List.getElem?_eq_getElem hi2, List.getElem?_take_of_lt hb1, List.getElem?_drop, hi3]
 rw [← Array.getElem?_toList, e5, hc, hi3]
theorem glB : Tryz.prog.globalNamed "isthmus/chacha.turns" = some 2 := by kernel_rfl
theorem glTB : (Tryz.prog.globals[2]?).map (·.type) = some 242 := by kernel_rfl
theorem clCB : Tryz.prog.cellsOf 3 = 1 := by kernel_rfl
theorem clEB : Tryz.prog.cellsOf 241 = 2 := by kernel_rfl
theorem litsB : ∀ a, a < 2 → ∀ b, b < 2 → (litsOf (((litsOf Rows.laid_isthmus_chacha_turns)[a]?).getD .nil))[b]? = some (.lit (.int .i64 (TF (a * 2 + b)))) := by
 have h : ((List.range 2).all fun a => (List.range 2).all fun b => match (litsOf (((litsOf Rows.laid_isthmus_chacha_turns)[a]?).getD .nil))[b]? with | some (.lit (.int .i64 n)) => n == (TF (a * 2 + b) : Int) | _ => false) = true := by decide +kernel
 intro a ha b hb
 have h1 := List.all_eq_true.1 h a (List.mem_range.2 ha)
 have h2 := List.all_eq_true.1 h1 b (List.mem_range.2 hb)
 split at h2
 ·rename_i n e
  rw [e, eq_of_beq h2]
 ·cases h2
theorem layB {W : World} {cs : Array Value} {fuel : Nat} {p : List MemPlace} (hvar : W.var? Tryz.prog "isthmus/chacha.turns" = some cs) (hd : DataW.trod (fun _ => ()) Tryz.prog W 0 (fun _ => true) false fuel 242 cs.toList = some (Rows.laid_isthmus_chacha_turns, p)) : ∀ i, i < 4 → W.cell? ⟨2, i, none⟩ = some (.int .i64 (TF i)) := by
 obtain ⟨xs, m, _, hx, hlen, hxl, hat⟩ := DataW.trod_array Tryz.underlying242 hd
 have hl160 : cs.toList.length = 4 := hlen.trans (by kernel_rfl)
 have e1 : litsOf Rows.laid_isthmus_chacha_turns = xs.map (·.1) := by
  have := congrArg Prod.fst hx
  simp only at this
  rw [this]
  rfl
 intro i hi
 rw [World.var?_cell glB hvar i]
 obtain ⟨a, ha⟩ : ∃ a, a = i / 2 := ⟨_, rfl⟩
 obtain ⟨b, hb⟩ : ∃ b, b = i % 2 := ⟨_, rfl⟩
 have hi3 : i = a * 2 + b := by omega
 have ha1 : a < 2 := by omega
 have hb1 : b < 2 := by omega
 have h1 := hat a ha1
 rw [clEB, List.getElem?_eq_getElem (by omega)] at h1
 have h3 := litsB a ha1 b hb1
 rw [e1, List.getElem?_map, List.getElem?_eq_getElem (l := xs) (i := a) (by omega), Option.map_some, Option.getD_some] at h3
 generalize xs[a] = xa at h1 h3
 obtain ⟨ys, m2, _, hy, hlen2, hyl, hat2⟩ := DataW.trod_array Tryz.underlying241 h1
 have e2 : litsOf xa.1 = ys.map (·.1) := by rw [hy]; rfl
 have h4 := hat2 b hb1
 have hl2 : cs.size = 4 := by simpa using hl160
 have hi2 : b < (List.take 2 (List.drop (a * 2) cs.toList)).length := by simp; omega
 rw [clCB, Nat.mul_one, List.drop_eq_getElem_cons hi2, List.take_succ_cons, List.take_zero, List.getElem?_eq_getElem (by omega)] at h4
 obtain ⟨n, hc, hy2⟩ := int_of_trod Tryz.underlying3 h4
 rw [e2, List.getElem?_map, List.getElem?_eq_getElem (l := ys) (i := b) (by omega), hy2] at h3
 simp at h3
 subst h3
 have e5 : cs.toList[i]? = some (List.take 2 (List.drop (a * 2) cs.toList))[b] := by
  rw [← List.getElem?_eq_getElem hi2, List.getElem?_take_of_lt hb1, List.getElem?_drop, hi3]
 rw [← Array.getElem?_toList, e5, hc, hi3]
theorem laid_of {W : World} (h0 : laidMetH Tryz.prog lay6 W) : Laid W := by
 have h : laidMet Tryz.prog lay6 W := h0
 obtain ⟨ps, ⟨g, t, cs, fuel, p, q, hg, ht, hvar, hd, ⟨g2, t2, c2, f2, p2, q2, hg2, ht2, hv2, hd2, _, _⟩, _⟩, _⟩ := h
 obtain rfl := Option.some.inj (glA.symm.trans hg)
 obtain rfl := Option.some.inj (glTA.symm.trans ht)
 obtain rfl := Option.some.inj (glB.symm.trans hg2)
 obtain rfl := Option.some.inj (glTB.symm.trans ht2)
 exact ⟨layA hvar hd, layB hv2 hd2⟩
theorem lay_witness (os : Os) (args : Array Value) : laidMetH Tryz.prog lay6 ((World.laidAll Tryz.prog os lay6).forCall (fun _ _ => 0) ⟨#[], args, []⟩).memory := laidMet_laidAll (laid := lay6) args (by kernel_rfl) (by kernel_rfl)
open Go.ChangeShapes Go.WideShapes Go.ChangeAt Go.RowKit
theorem laidOut : laidOutB Tryz.prog = true := by kernel_rfl
section
variable {W : World} {b0 : Nat} {v : Value}
theorem cell_u8 (h : Cell.okWide Tryz.prog W .any b0 5 v) : ∃ n, v = .int .u8 n ∧ 0 ≤ n ∧ n < 256 := by
 simp only [Cell.okWide, Tryz.underlying5] at h
 cases v <;> simp_all [Cell.ok, Tryz.underlying5]
 rename_i k n
 obtain ⟨rfl, h1, h2⟩ := h
 simp [IntKind.min, IntKind.max, IntKind.bits, IntKind.signed] at h1 h2
 exact ⟨h1, by omega⟩
theorem cell_str (h : Cell.okWide Tryz.prog W .any b0 9 v) : ∃ s, v = .string s := by
 simp only [Cell.okWide, Tryz.underlying9] at h
 cases v <;> simp_all [Cell.ok, Tryz.underlying9]
theorem op5 (h : Value.okWide Tryz.prog W .any b0 5 v) : ∃ n, v = .int .u8 n ∧ 0 ≤ n ∧ n < 256 := by
 simp only [Value.okWide, Tryz.underlying5] at h
 exact cell_u8 h
theorem op3 (h : Value.okWide Tryz.prog W .any b0 3 v) : ∃ n, v = .int .i64 n ∧ -9223372036854775808 ≤ n ∧ n < 9223372036854775808 := by
 simp only [Value.okWide, Tryz.underlying3, Cell.okWide] at h
 cases v <;> simp_all [Cell.ok, Tryz.underlying3]
 rename_i k n
 obtain ⟨rfl, h1, h2⟩ := h
 simp [IntKind.min, IntKind.max, IntKind.bits, IntKind.signed] at h1 h2
 exact ⟨h1, by omega⟩
theorem row_av (cs : Array Value) (l : List Value) (hs : cs.size = l.length) (h : ∀ i, i < l.length → cs[i]? = l[i]?) : cs = av l.length (ls l) := by
 apply Array.ext_getElem?
 intro i
 by_cases hi : i < l.length
 ·rw [h i hi, av_get _ _ _ hi]
  unfold ls
  rw [getD_app, List.getElem?_eq_getElem hi]
  rfl
 ·rw [Array.getElem?_eq_none (by omega), Array.getElem?_eq_none (by rw [av_size]; omega)]
end
theorem row_cells {W : World} {b0 : Nat} {t : TypeId} {v : Value} {fs : Array Field} {ts : List TypeId} (ht : Tryz.prog.underlying t = some (.struct fs)) (hc : Tryz.prog.cellTypes Tryz.prog.depth t = some ts) (hn : Tryz.prog.cellsOf t = ts.length) (h : Value.okWide Tryz.prog W .any b0 t v) : ∃ cs, v = .agg cs ∧ cs.size = ts.length ∧ ∀ (i : Nat) (u : TypeId), ts[i]? = some u → ∃ x, cs[i]? = some x ∧ Cell.okWide Tryz.prog W .any b0 u x := by
 simp only [Value.okWide, ht] at h
 obtain ⟨cs, rfl, h2, ts2, h3, _, h4⟩ := h
 rw [hc] at h3
 cases h3
 refine ⟨cs, rfl, by omega, fun i u hu => ?_⟩
 have hi := (List.getElem?_eq_some_iff.1 hu).1
 obtain ⟨u2, hu2, hx⟩ := h4 i cs[i] (Array.getElem?_eq_getElem (by omega))
 rw [Nat.mod_eq_of_lt hi, hu] at hu2
 cases hu2
 exact ⟨cs[i], Array.getElem?_eq_getElem (by omega), hx⟩
theorem op23 {W : World} {b0 : Nat} {v : Value} (h : Value.okWide Tryz.prog W .any b0 23 v) : ∃ ra rb re rf rp ro rt, v = .agg (av 7 (ls [.string ra, .string rb, .string re, .string rf, .string rp, .string ro, .string rt])) := by
 obtain ⟨cs, rfl, hs, hc⟩ := row_cells (ts := [9, 9, 9, 9, 9, 9, 9]) Tryz.underlying23 (by kernel_rfl) (by kernel_rfl) h
 obtain ⟨x0, e0, o0⟩ := hc 0 9 rfl
 obtain ⟨ra, rfl⟩ := cell_str o0
 obtain ⟨x1, e1, o1⟩ := hc 1 9 rfl
 obtain ⟨rb, rfl⟩ := cell_str o1
 obtain ⟨x2, e2, o2⟩ := hc 2 9 rfl
 obtain ⟨re, rfl⟩ := cell_str o2
 obtain ⟨x3, e3, o3⟩ := hc 3 9 rfl
 obtain ⟨rf, rfl⟩ := cell_str o3
 obtain ⟨x4, e4, o4⟩ := hc 4 9 rfl
 obtain ⟨rp, rfl⟩ := cell_str o4
 obtain ⟨x5, e5, o5⟩ := hc 5 9 rfl
 obtain ⟨ro, rfl⟩ := cell_str o5
 obtain ⟨x6, e6, o6⟩ := hc 6 9 rfl
 obtain ⟨rt, rfl⟩ := cell_str o6
 refine ⟨ra, rb, re, rf, rp, ro, rt, congrArg Value.agg (row_av cs [.string ra, .string rb, .string re, .string rf, .string rp, .string ro, .string rt] hs fun i hi => ?_)⟩
 rcases i with _ | _ | _ | _ | _ | _ | _ | i
 ·exact e0
 ·exact e1
 ·exact e2
 ·exact e3
 ·exact e4
 ·exact e5
 ·exact e6
 ·exact absurd hi (by simp)
theorem wt_str {H : Type} (P : Program) (t : TypeId) (ts : List TypeId) (s : Yb) (r : List (DataW H)) (h : (DataW.weightsEach P (t :: ts) (.lit (.string s.data.toList) :: r)).all (· ≤ reachBytes) = true) : s.size ≤ 140737488351232 ∧ (DataW.weightsEach P ts r).all (· ≤ reachBytes) = true := by
 simp only [DataW.weightsEach, DataW.weights, List.all_append, Bool.and_eq_true, List.all_cons, List.all_nil, reachBytes, Bool.and_true] at h
 refine ⟨?_, h.2⟩
 have h1 := of_decide_eq_true h.1
 have e : s.data.toList.length = s.size := rfl
 omega
theorem wt_cons {H : Type} (P : Program) (t : TypeId) (ts : List TypeId) (d : DataW H) (r : List (DataW H)) (h : (DataW.weightsEach P (t :: ts) (d :: r)).all (· ≤ reachBytes) = true) : (d.weights P t).all (· ≤ reachBytes) = true ∧ (DataW.weightsEach P ts r).all (· ≤ reachBytes) = true := by
 simp only [DataW.weightsEach, List.all_append, Bool.and_eq_true] at h
 exact h
theorem wt_at {H : Type} (P : Program) : ∀ (ts : List TypeId) (ds : List (DataW H)) (i : Nat) (t : TypeId) (s : Yb), ts[i]? = some t → ds[i]? = some (.lit (.string s.data.toList)) → (DataW.weightsEach P ts ds).all (· ≤ reachBytes) = true → s.size ≤ 140737488351232
 | t :: ts, d :: ds, 0, t', s, _, hd, h => by
  simp only [List.getElem?_cons_zero, Option.some.injEq] at hd
  subst hd
  exact (wt_str P t ts s ds h).1
 | t :: ts, d :: ds, i + 1, t', s, ht, hd, h => by
  simp only [List.getElem?_cons_succ] at ht hd
  exact wt_at P ts ds i t' s ht hd (wt_cons P t ts d ds h).2
 | [], _, _, _, _, ht, _, _ => by simp at ht
 | _ :: _, [], _, _, _, _, hd, _ => by simp at hd
theorem wt_run {H : Type} {enc : TypeId × Value → H} {W : World} {b0 : Nat} {sp : Nat → Bool} {hd : Bool} {ra rb re rf rp ro rt : Yb} {d : DataW H} {p : List MemPlace} {ts : List TypeId} {r : List (DataW H)} (h : DataW.Trod enc Tryz.prog W b0 sp hd 23 (.agg (av 7 (ls [.string ra, .string rb, .string re, .string rf, .string rp, .string ro, .string rt]))) d p) (hw : (DataW.weightsEach Tryz.prog (23 :: ts) (d :: r)).all (· ≤ reachBytes) = true) : ra.size + rb.size + re.size + rf.size + rp.size + ro.size + rt.size < 4611686018427387904 ∧ (DataW.weightsEach Tryz.prog ts r).all (· ≤ reachBytes) = true := by
 obtain ⟨h1, h2⟩ := wt_cons _ _ _ _ _ hw
 refine ⟨?_, h2⟩
 obtain ⟨fuel, h⟩ := h
 obtain ⟨xs, n, _, hx, _, hlen, hf⟩ := DataW.trod_struct Tryz.underlying23 h
 have h7 : xs.length = 7 := hlen
 have hx1 := congrArg Prod.fst hx
 simp only at hx1
 subst hx1
 have hws : (DataW.weightsEach Tryz.prog [9, 9, 9, 9, 9, 9, 9] (xs.map (·.1))).all (· ≤ reachBytes) = true := by
  unfold DataW.weights at h1
  rw [Tryz.underlying23] at h1
  exact h1
 have key : ∀ (i : Nat) (s : Yb), ([9, 9, 9, 9, 9, 9, 9] : List TypeId)[i]? = some 9 → DataW.trod enc Tryz.prog W b0 sp hd n 9 [.string s] = xs[i]? → s.size ≤ 140737488351232 := fun i s ht he => by
  cases hxi : xs[i]? with
  | none =>
   rw [hxi] at he
   have hl : i < xs.length := by
    have := (List.getElem?_eq_some_iff.1 ht).1
    simp at this
    omega
   rw [List.getElem?_eq_getElem hl] at hxi
   cases hxi
  | some y =>
   rw [hxi] at he
   obtain ⟨s', e1, e2, _⟩ := DataW.trod_string Tryz.underlying9 he
   simp only [List.cons.injEq, Value.string.injEq, and_true] at e1
   subst e1
   exact wt_at _ _ _ i 9 s ht (by rw [List.getElem?_map, hxi, e2]; rfl) hws
 have k0 := key 0 ra rfl (hf 0 _ rfl)
 have k1 := key 1 rb rfl (hf 1 _ rfl)
 have k2 := key 2 re rfl (hf 2 _ rfl)
 have k3 := key 3 rf rfl (hf 3 _ rfl)
 have k4 := key 4 rp rfl (hf 4 _ rfl)
 have k5 := key 5 ro rfl (hf 5 _ rfl)
 have k6 := key 6 rt rfl (hf 6 _ rfl)
 omega
end Go.Proofs.YtffimigpbcilbaaGreatDoor
