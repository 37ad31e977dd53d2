/- Part 5 of the walks and facts behind signStrict_holds. -/
import Derived.Test.YtmhfmhmpoobmlaaGreatDoorCs4
import Derived.Lay
import Derived.OpenShut
import Derived.ProofKit
import Derived.Test.YtmhfmhmpoobmlaaGreatDoorRows
import Derived.Test.YtmhfmhmpoobmlaaGreatDoorTie
/- Public keys, signatures, and which are verified: the walks of Public, Sign and Verify. -/
namespace Go.Proofs.YtmhfmhmpoobmlaaGreatDoor.Sha
open Go.RowKit

def s3 (a b c : ByteArray) : Nat → ByteArray := fun i => if i = 0 then a else if i = 1 then b else c
def t3 (a b c : ByteArray) : Nat → Value := fun i => if i = 0 then .string a else if i = 1 then .string b else .string c
theorem t3_s (a b c : ByteArray) (i : Nat) : t3 a b c i = .string (s3 a b c i) := by
  unfold t3 s3
  split
  · rfl
  · split <;> rfl
theorem jo2 (a b c : ByteArray) : jo (s3 a b c) 2 = a ++ b := by
  show (⟨#[]⟩ ++ a) ++ b = a ++ b
  rw [e_app]
theorem jo3 (a b c : ByteArray) : jo (s3 a b c) 3 = a ++ b ++ c := by
  show ((⟨#[]⟩ ++ a) ++ b) ++ c = a ++ b ++ c
  rw [e_app]
/-- What a signature is. -/
def rn (k s : ByteArray) : Int := nm (px k ++ s)
theorem rn_bd (k s : ByteArray) : 0 ≤ rn k s ∧ rn k s < Ord.Lm := nm_bd _
def kn (R A s : ByteArray) : Int := nm (R ++ A ++ s)
theorem kn_bd (R A s : ByteArray) : 0 ≤ kn R A s ∧ kn R A s < Ord.Lm := nm_bd _
def xn (k s : ByteArray) : Int := (rn k s + kn (pb (rn k s)) (pb (an k)) s * an k % Ord.Lm) % Ord.Lm
def sg (k s : ByteArray) : ByteArray := pb (rn k s) ++ Ord.lebytes (xn k s)
theorem lmod (x : Int) : 0 ≤ x % Ord.Lm ∧ x % Ord.Lm < Ord.Lm := Ord.lmod x
/-- Which signatures are verified. -/
def vfy (p s x : ByteArray) : Bool :=
  if x.size = 64 ∧ decC p = 0 ∧ smallV (decP p) = false ∧ decC (x.extract 0 32) = 0 ∧ Ord.bv (x.extract 32 x.size) 32 < Ord.Lm then sameV (mulV base5 (Go.Proofs.YtmhfmhmpoobmlaaGreatDoor.ofV (x.extract 32 x.size))) (addV (decP (x.extract 0 32)) (mulV (decP p) (kn (x.extract 0 32) p s))) else false
theorem xl (x : ByteArray) (h : x.size = 64) : (x.extract 32 x.size).size = 32 := by
  rw [ByteArray.size_extract]
  omega
theorem pb_size (a : Int) (ha : 0 ≤ a ∧ a < Ord.Lm) : (pb a).size = 32 := by
  unfold pb
  rw [(base_rep.mul ha).bytes]
  unfold ptS encS
  rw [Go.Proofs.YtmhfmhmpoobmlaaGreatDoor.bs_size]
  simp

set_option maxRecDepth 100000 in
set_option maxHeartbeats 4000000 in
theorem c_Public (secret : ByteArray) (w : World) (hL : Laid w)  :
    Calls Tryz.prog 8 #[.string secret] w fun r w' => r = .returned (if secret.size = 32 then .tuple #[.string (pb (an secret)), .int .i64 0] else .tuple #[.string ⟨#[]⟩, .int .i64 2]) ∧ Below w.heap.size w w' := by
  go_enter Tryz.func8, Tryz.ntmps8
  have M := Mem.start hL
  refine wp_seq ?_
  by_cases h : secret.size = 32
  · skip
    refine rg_lit ?_
    refine pV 2 (.string ⟨#[]⟩) ?_
    refine pV 3 (.int .i64 0) ?_
    refine nT ?_
    refine sR ?_
    refine pV 7 (.string secret) ?_
    refine pC M 8 17 #[.string secret] (.tuple #[.agg (av 5 (hd (an secret) (px secret))), .int .i64 0]) (fun w M => (by have e := c_held secret w M.laid; rw [if_pos h] at e; exact e)) fun u1 M => ?_
    refine pV 6 (.tuple #[.agg (av 5 (hd (an secret) (px secret))), .int .i64 0]) ?_
    refine pV 9 (.agg (av 5 (hd (an secret) (px secret)))) ?_
    refine pV 10 (.int .i64 0) ?_
    refine pN M 4 (.cells (av 5 (hd 0 ⟨#[]⟩)) 46) fun g1 u2 M => ?_
    refine pl_put M (want_no rfl) rfl 46 _ _ rfl 0 g1 0 (by kernel_rfl) 5 46 (hd 0 ⟨#[]⟩) rfl 5 (hd (an secret) (px secret)) (hd (an secret) (px secret)) (by kernel_rfl) inz46 (by decide) (hd_one _ _) (fun j hj => by rw [if_pos (by omega), Nat.sub_zero]) fun u3 M => ?_
    refine pV 5 (.int .i64 0) ?_
    refine nT ?_
    refine wp_seq ?_
    refine sR ?_
    refine pV 11 (.int .i64 0) ?_
    refine pV 12 (.bool false) ?_
    refine nT ?_
    refine wp_cond_false (by kernel_rfl) ?_
    refine wp_skip ?_
    refine au_then ?_
    refine sR ?_
    refine pA M 14 0 5 (hd (an secret) (px secret)) ?_
    refine pC M 15 18 #[.agg (av 5 (hd (an secret) (px secret)))] (.string (pb (an secret))) (fun w M => c_public _ _ (an_bd secret) w M.laid) fun u4 M => ?_
    refine pV 2 (.string (pb (an secret))) ?_
    refine pV 3 (.int .i64 0) ?_
    refine nT ?_
    refine wp_ret ?_
    exact bodyPost_ret (v := .tuple #[.string (pb (an secret)), .int .i64 0]) (results_tmp2 Tryz.results8 _ _ _ _ (by kernel_rfl) (by kernel_rfl)) (by kernel_rfl) ⟨by rw [if_pos h], below_grown M.old⟩
  · skip
    refine rg_lit ?_
    refine pV 2 (.string ⟨#[]⟩) ?_
    refine pV 3 (.int .i64 0) ?_
    refine nT ?_
    refine sR ?_
    refine pV 7 (.string secret) ?_
    refine pC M 8 17 #[.string secret] (.tuple #[.agg (av 5 (hd 0 ⟨#[]⟩)), .int .i64 2]) (fun w M => (by have e := c_held secret w M.laid; rw [if_neg h] at e; exact e)) fun u5 M => ?_
    refine pV 6 (.tuple #[.agg (av 5 (hd 0 ⟨#[]⟩)), .int .i64 2]) ?_
    refine pV 9 (.agg (av 5 (hd 0 ⟨#[]⟩))) ?_
    refine pV 10 (.int .i64 2) ?_
    refine pN M 4 (.cells (av 5 (hd 0 ⟨#[]⟩)) 46) fun g2 u6 M => ?_
    refine pl_put M (want_no rfl) rfl 46 _ _ rfl 0 g2 0 (by kernel_rfl) 5 46 (hd 0 ⟨#[]⟩) rfl 5 (hd 0 ⟨#[]⟩) (hd 0 ⟨#[]⟩) (by kernel_rfl) inz46 (by decide) (hd_one _ _) (fun j hj => by rw [if_pos (by omega), Nat.sub_zero]) fun u7 M => ?_
    refine pV 5 (.int .i64 2) ?_
    refine nT ?_
    refine wp_seq ?_
    refine sR ?_
    refine pV 11 (.int .i64 2) ?_
    refine pV 12 (.bool true) ?_
    refine nT ?_
    refine wp_cond_true (by kernel_rfl) ?_
    refine sR ?_
    refine pV 13 (.int .i64 2) ?_
    refine pV 2 (.string ⟨#[]⟩) ?_
    refine pV 3 (.int .i64 2) ?_
    refine nT ?_
    refine wp_ret ?_
    refine au_then_ret ?_
    exact bodyPost_ret (v := .tuple #[.string ⟨#[]⟩, .int .i64 2]) (results_tmp2 Tryz.results8 _ _ _ _ (by kernel_rfl) (by kernel_rfl)) (by kernel_rfl) ⟨by rw [if_neg h], below_grown M.old⟩

set_option maxRecDepth 100000 in
set_option maxHeartbeats 4000000 in
theorem c_Sign (secret s : ByteArray) (w : World) (hL : Laid w)  :
    Calls Tryz.prog 10 #[.string secret, .string s] w fun r w' => r = .returned (if secret.size = 32 then .tuple #[.string (sg secret s), .int .i64 0] else .tuple #[.string ⟨#[]⟩, .int .i64 2]) ∧ Below w.heap.size w w' := by
  go_enter Tryz.func10, Tryz.ntmps10
  have M := Mem.start hL
  refine wp_seq ?_
  by_cases h : secret.size = 32
  · skip
    refine rg_lit ?_
    refine pV 4 (.string ⟨#[]⟩) ?_
    refine pV 5 (.int .i64 0) ?_
    refine nT ?_
    refine sR ?_
    refine pV 12 (.string secret) ?_
    refine pC M 13 17 #[.string secret] (.tuple #[.agg (av 5 (hd (an secret) (px secret))), .int .i64 0]) (fun w M => (by have e := c_held secret w M.laid; rw [if_pos h] at e; exact e)) fun u1 M => ?_
    refine pV 11 (.tuple #[.agg (av 5 (hd (an secret) (px secret))), .int .i64 0]) ?_
    refine pV 14 (.agg (av 5 (hd (an secret) (px secret)))) ?_
    refine pV 15 (.int .i64 0) ?_
    refine pN M 6 (.cells (av 5 (hd 0 ⟨#[]⟩)) 46) fun g1 u2 M => ?_
    refine pl_put M (want_no rfl) rfl 46 _ _ rfl 0 g1 0 (by kernel_rfl) 5 46 (hd 0 ⟨#[]⟩) rfl 5 (hd (an secret) (px secret)) (hd (an secret) (px secret)) (by kernel_rfl) inz46 (by decide) (hd_one _ _) (fun j hj => by rw [if_pos (by omega), Nat.sub_zero]) fun u3 M => ?_
    refine pV 7 (.int .i64 0) ?_
    refine nT ?_
    refine wp_seq ?_
    refine sR ?_
    refine pV 16 (.int .i64 0) ?_
    refine pV 17 (.bool false) ?_
    refine nT ?_
    refine wp_cond_false (by kernel_rfl) ?_
    refine wp_skip ?_
    refine au_then ?_
    refine sR ?_
    refine pV 19 (.pointer (some ⟨g1, 4, none⟩)) ?_
    refine pE M 20 g1 4 (.string (px secret)) (fun w M => M.cell 0 rfl (by decide) (hd_4 _ _)) ?_
    refine pV 21 (.string s) ?_
    refine pl_mk M (want_no rfl) (some 22) rfl (fun g2 => .slice (some ⟨g2, 0, none⟩) 2 2) (.cells (av 2 (t3 (px secret) s ⟨#[]⟩)) 9) (fun _ => by kernel_rfl) fun g2 u4 M => ?_
    refine pC M 23 24 #[.slice (some ⟨g2, 0, none⟩) 2 2] (.agg (av 4 (w64 (Ord.d64 (rn secret s))))) (fun w M => (by have e := c_number g2 2 2 (s3 (px secret) s ⟨#[]⟩) w M.laid (by decide) (fun j hj => by rw [Nat.zero_add, ← t3_s]; exact cell_av (M.get 1 rfl) hj); rw [jo2] at e; exact e)) fun u5 M => ?_
    refine pN M 8 (.cells (av 4 (w64 (fun _ => 0))) 44) fun g3 u6 M => ?_
    refine pl_put M (want_no rfl) rfl 44 _ _ rfl 2 g3 0 (by kernel_rfl) 4 44 (w64 (fun _ => 0)) rfl 4 (w64 (Ord.d64 (rn secret s))) (w64 (Ord.d64 (rn secret s))) (by kernel_rfl) inz44 (by decide) (fun _ _ => rfl) (fun j hj => by rw [if_pos (by omega), Nat.sub_zero]) fun u7 M => ?_
    refine nT ?_
    refine wp_seq ?_
    refine rg_tail M 4 (by kernel_rfl) (by kernel_rfl) ?_
    simp only [List.take_succ_cons, List.take_zero]
    refine kC M 24 25 #[] (.agg (av 20 (w64 base5.f))) (fun w M => z_base w) ?_
    refine kA M 25 2 4 (w64 (Ord.d64 (rn secret s))) ?_
    refine kC M 26 26 #[.agg (av 20 (w64 base5.f)), .agg (av 4 (w64 (Ord.d64 (rn secret s))))] (.agg (av 20 (w64 (mulV base5 (rn secret s)).f))) (fun w M => z_mul base_rep (rn secret s) w) ?_
    refine kC M 27 27 #[.agg (av 20 (w64 (mulV base5 (rn secret s)).f))] (.string (pb (rn secret s))) (fun w M => z_bytes _ (base_rep.mul (rn_bd _ _)).ok w) ?_
    refine kl_nil fun u8 M => ?_
    refine pV 9 (.string (pb (rn secret s))) ?_
    refine nT ?_
    refine sR ?_
    refine pV 28 (.string (pb (rn secret s))) ?_
    refine pA M 29 0 5 (hd (an secret) (px secret)) ?_
    refine pC M 30 18 #[.agg (av 5 (hd (an secret) (px secret)))] (.string (pb (an secret))) (fun w M => c_public _ _ (an_bd secret) w M.laid) fun u9 M => ?_
    refine pV 31 (.string s) ?_
    refine pl_mk M (want_no rfl) (some 32) rfl (fun g4 => .slice (some ⟨g4, 0, none⟩) 3 3) (.cells (av 3 (t3 (pb (rn secret s)) (pb (an secret)) s)) 9) (fun _ => by kernel_rfl) fun g4 u10 M => ?_
    refine pC M 33 24 #[.slice (some ⟨g4, 0, none⟩) 3 3] (.agg (av 4 (w64 (Ord.d64 (kn (pb (rn secret s)) (pb (an secret)) s))))) (fun w M => (by have e := c_number g4 3 3 (s3 (pb (rn secret s)) (pb (an secret)) s) w M.laid (by decide) (fun j hj => by rw [Nat.zero_add, ← t3_s]; exact cell_av (M.get 3 rfl) hj); rw [jo3] at e; exact e)) fun u11 M => ?_
    refine pN M 10 (.cells (av 4 (w64 (fun _ => 0))) 44) fun g5 u12 M => ?_
    refine pl_put M (want_no rfl) rfl 44 _ _ rfl 4 g5 0 (by kernel_rfl) 4 44 (w64 (fun _ => 0)) rfl 4 (w64 (Ord.d64 (kn (pb (rn secret s)) (pb (an secret)) s))) (w64 (Ord.d64 (kn (pb (rn secret s)) (pb (an secret)) s))) (by kernel_rfl) inz44 (by decide) (fun _ _ => rfl) (fun j hj => by rw [if_pos (by omega), Nat.sub_zero]) fun u13 M => ?_
    refine nT ?_
    refine wp_seq ?_
    refine rg_tail M 10 (by kernel_rfl) (by kernel_rfl) ?_
    simp only [List.take_succ_cons, List.take_zero]
    refine kV 34 (.string (pb (rn secret s))) ?_
    refine kA M 35 2 4 (w64 (Ord.d64 (rn secret s))) ?_
    refine kA M 36 4 4 (w64 (Ord.d64 (kn (pb (rn secret s)) (pb (an secret)) s))) ?_
    refine kV 37 (.pointer (some ⟨g1, 0, none⟩)) ?_
    refine kL M 38 0 rfl 0 4 (w64 (Ord.d64 (an secret))) (hd_part _ _) ?_
    refine kC M 39 29 #[.agg (av 4 (w64 (Ord.d64 (kn (pb (rn secret s)) (pb (an secret)) s)))), .agg (av 4 (w64 (Ord.d64 (an secret))))] (.agg (av 4 (w64 (Ord.d64 ((kn (pb (rn secret s)) (pb (an secret)) s) * an secret % Ord.Lm))))) (fun w M => Ord.mul_any _ _ w (kn_bd _ _ _) (an_bd secret)) ?_
    refine kC M 40 28 #[.agg (av 4 (w64 (Ord.d64 (rn secret s)))), .agg (av 4 (w64 (Ord.d64 ((kn (pb (rn secret s)) (pb (an secret)) s) * an secret % Ord.Lm))))] (.agg (av 4 (w64 (Ord.d64 (xn secret s))))) (fun w M => Ord.add_any _ _ w (rn_bd _ _) (lmod _)) ?_
    refine kC M 41 30 #[.agg (av 4 (w64 (Ord.d64 (xn secret s))))] (.string (Ord.lebytes (xn secret s))) (fun w M => Ord.bytes_any _ w) ?_
    refine kH 42 (.string (sg secret s)) (run_cat 9 9 _ _ rfl (pb (rn secret s)) (Ord.lebytes (xn secret s)) (by kernel_rfl) (by kernel_rfl) (by rw [pb_size _ (rn_bd _ _), Ord.leb_size]; decide)) ?_
    refine kV 4 (.string (sg secret s)) ?_
    refine kl_nil fun u14 M => ?_
    refine pV 5 (.int .i64 0) ?_
    refine nT ?_
    refine wp_ret ?_
    exact bodyPost_ret (v := .tuple #[.string (sg secret s), .int .i64 0]) (results_tmp2 Tryz.results10 _ _ _ _ (by kernel_rfl) (by kernel_rfl)) (by kernel_rfl) ⟨by rw [if_pos h], below_grown M.old⟩
  · skip
    refine rg_lit ?_
    refine pV 4 (.string ⟨#[]⟩) ?_
    refine pV 5 (.int .i64 0) ?_
    refine nT ?_
    refine sR ?_
    refine pV 12 (.string secret) ?_
    refine pC M 13 17 #[.string secret] (.tuple #[.agg (av 5 (hd 0 ⟨#[]⟩)), .int .i64 2]) (fun w M => (by have e := c_held secret w M.laid; rw [if_neg h] at e; exact e)) fun u15 M => ?_
    refine pV 11 (.tuple #[.agg (av 5 (hd 0 ⟨#[]⟩)), .int .i64 2]) ?_
    refine pV 14 (.agg (av 5 (hd 0 ⟨#[]⟩))) ?_
    refine pV 15 (.int .i64 2) ?_
    refine pN M 6 (.cells (av 5 (hd 0 ⟨#[]⟩)) 46) fun g6 u16 M => ?_
    refine pl_put M (want_no rfl) rfl 46 _ _ rfl 0 g6 0 (by kernel_rfl) 5 46 (hd 0 ⟨#[]⟩) rfl 5 (hd 0 ⟨#[]⟩) (hd 0 ⟨#[]⟩) (by kernel_rfl) inz46 (by decide) (hd_one _ _) (fun j hj => by rw [if_pos (by omega), Nat.sub_zero]) fun u17 M => ?_
    refine pV 7 (.int .i64 2) ?_
    refine nT ?_
    refine wp_seq ?_
    refine sR ?_
    refine pV 16 (.int .i64 2) ?_
    refine pV 17 (.bool true) ?_
    refine nT ?_
    refine wp_cond_true (by kernel_rfl) ?_
    refine sR ?_
    refine pV 18 (.int .i64 2) ?_
    refine pV 4 (.string ⟨#[]⟩) ?_
    refine pV 5 (.int .i64 2) ?_
    refine nT ?_
    refine wp_ret ?_
    refine au_then_ret ?_
    exact bodyPost_ret (v := .tuple #[.string ⟨#[]⟩, .int .i64 2]) (results_tmp2 Tryz.results10 _ _ _ _ (by kernel_rfl) (by kernel_rfl)) (by kernel_rfl) ⟨by rw [if_neg h], below_grown M.old⟩

set_option maxRecDepth 100000 in
set_option maxHeartbeats 4000000 in
theorem c_Verify (p s x : ByteArray) (w : World) (hL : Laid w)  :
    Calls Tryz.prog 12 #[.string p, .string s, .string x] w fun r w' => r = .returned (.bool (vfy p s x)) ∧ Below w.heap.size w w' := by
  go_enter Tryz.func12, Tryz.ntmps12
  have M := Mem.start hL
  refine sR ?_
  refine pV 6 (.bool false) ?_
  refine nT ?_
  refine wp_seq ?_
  refine wp_seq ?_
  by_cases h0 : x.size = 64
  · skip
    refine rg_lit ?_
    refine pV 15 (.string x) ?_
    refine pV 16 (.int .i64 (x.size : Int)) ?_
    refine pH 17 (.bool false) (nF ((x.size : Int) = 64) (by omega)) ?_
    refine nT ?_
    refine wp_cond_false (by kernel_rfl) ?_
    refine wp_skip ?_
    refine au_then ?_
    refine wp_seq ?_
    refine rg_tail M 5 (by kernel_rfl) (by kernel_rfl) ?_
    simp only [List.take_succ_cons, List.take_zero]
    refine kV 18 (.string x) ?_
    refine kH 19 (.string (x.extract 0 32)) (run_strh 9 Tryz.underlying9 _ _ rfl x (by kernel_rfl) .i64 32 (by kernel_rfl) (by omega) _ rfl) ?_
    refine kV 20 (.string x) ?_
    refine kH 21 (.string (x.extract 32 x.size)) (run_strl 9 Tryz.underlying9 _ _ rfl x (by kernel_rfl) .i64 32 (by kernel_rfl) (by omega) _ rfl) ?_
    refine kV 7 (.string (x.extract 0 32)) ?_
    refine kl_nil fun u1 M => ?_
    refine pV 8 (.string (x.extract 32 x.size)) ?_
    refine nT ?_
    refine wp_seq ?_
    by_cases hp : decC p = 0
    · skip
      refine rg_lit ?_
      refine pV 23 (.string p) ?_
      refine pC M 24 34 #[.string p] (.tuple #[.agg (av 20 (w64 (decP p).f)), .int .i64 (decC p)]) (fun w M => z_dec p w) fun u2 M => ?_
      refine pV 22 (.tuple #[.agg (av 20 (w64 (decP p).f)), .int .i64 (decC p)]) ?_
      refine pV 25 (.agg (av 20 (w64 (decP p).f))) ?_
      refine pV 26 (.int .i64 (decC p)) ?_
      refine pN M 9 (.cells (av 20 (w64 (fun _ => 0))) 60) fun g1 u3 M => ?_
      refine pl_put M (want_no rfl) rfl 60 _ _ rfl 0 g1 0 (by kernel_rfl) 20 60 (w64 (fun _ => 0)) rfl 20 (w64 (decP p).f) (w64 (decP p).f) (by kernel_rfl) inz60 (by decide) (fun _ _ => rfl) (fun j hj => by rw [if_pos (by omega), Nat.sub_zero]) fun u4 M => ?_
      refine pV 10 (.int .i64 (decC p)) ?_
      refine nT ?_
      refine wp_seq ?_
      refine wp_seq ?_
      by_cases hs : smallV (decP p) = false
      · skip
        refine rg_lit ?_
        refine pV 27 (.int .i64 (decC p)) ?_
        refine pH 28 (.bool false) (nF (decC p = 0) (hp)) ?_
        refine pV 29 (.bool false) ?_
        refine pl_load M (want_on 2 false rfl 29 rfl (by kernel_rfl)) (some 30) rfl 60 _ rfl 0 g1 0 (by kernel_rfl) 20 60 (w64 (decP p).f) rfl 20 (w64 (decP p).f) (fun j _ => by rw [Nat.zero_add]) (by decide) _ Tryz.underlying60 rfl inz60 ?_
        refine pl_call M (want_on 2 false rfl 29 rfl (by kernel_rfl)) (some 31) rfl 35 #[.agg (av 20 (w64 (decP p).f))] (.bool false) (fun _ => by kernel_rfl) (fun w M => (by have e := z_small _ (dec_both hp).1.ok w; rw [hs] at e; exact e)) fun u5 M => ?_
        refine pV 32 (.bool false) ?_
        refine nT ?_
        refine wp_cond_false (by kernel_rfl) ?_
        refine wp_skip ?_
        refine au_then ?_
        refine wp_seq ?_
        by_cases hf : decC (x.extract 0 32) = 0
        · skip
          refine rg_lit ?_
          refine pV 34 (.string (x.extract 0 32)) ?_
          refine pC M 35 34 #[.string (x.extract 0 32)] (.tuple #[.agg (av 20 (w64 (decP (x.extract 0 32)).f)), .int .i64 (decC (x.extract 0 32))]) (fun w M => z_dec (x.extract 0 32) w) fun u6 M => ?_
          refine pV 33 (.tuple #[.agg (av 20 (w64 (decP (x.extract 0 32)).f)), .int .i64 (decC (x.extract 0 32))]) ?_
          refine pV 36 (.agg (av 20 (w64 (decP (x.extract 0 32)).f))) ?_
          refine pV 37 (.int .i64 (decC (x.extract 0 32))) ?_
          refine pN M 11 (.cells (av 20 (w64 (fun _ => 0))) 60) fun g2 u7 M => ?_
          refine pl_put M (want_no rfl) rfl 60 _ _ rfl 1 g2 0 (by kernel_rfl) 20 60 (w64 (fun _ => 0)) rfl 20 (w64 (decP (x.extract 0 32)).f) (w64 (decP (x.extract 0 32)).f) (by kernel_rfl) inz60 (by decide) (fun _ _ => rfl) (fun j hj => by rw [if_pos (by omega), Nat.sub_zero]) fun u8 M => ?_
          refine pV 10 (.int .i64 (decC (x.extract 0 32))) ?_
          refine nT ?_
          refine wp_seq ?_
          refine wp_seq ?_
          by_cases hc : Ord.bv (x.extract 32 x.size) 32 < Ord.Lm
          · skip
            refine rg_lit ?_
            refine pV 38 (.int .i64 (decC (x.extract 0 32))) ?_
            refine pH 39 (.bool false) (nF (decC (x.extract 0 32) = 0) (hf)) ?_
            refine pV 40 (.bool false) ?_
            refine pl_val (want_on 2 false rfl 40 rfl (by kernel_rfl)) (some 41) rfl (.string (x.extract 32 x.size)) (fun _ => by kernel_rfl) ?_
            refine pl_call M (want_on 2 false rfl 40 rfl (by kernel_rfl)) (some 42) rfl 36 #[.string (x.extract 32 x.size)] (.bool true) (fun _ => by kernel_rfl) (fun w M => (by have e := Ord.canon_yes (x.extract 32 x.size) w (xl x h0); rw [decide_eq_true hc] at e; exact e)) fun u9 M => ?_
            refine pl_val (want_on 2 false rfl 40 rfl (by kernel_rfl)) (some 43) rfl (.bool false) (fun _ => by kernel_rfl) ?_
            refine pV 44 (.bool false) ?_
            refine nT ?_
            refine wp_cond_false (by kernel_rfl) ?_
            refine wp_skip ?_
            refine au_then ?_
            refine sR ?_
            refine pV 46 (.string (x.extract 32 x.size)) ?_
            refine pC M 47 37 #[.string (x.extract 32 x.size)] (.tuple #[.agg (av 4 (w64 (Ord.d64 (Go.Proofs.YtmhfmhmpoobmlaaGreatDoor.ofV (x.extract 32 x.size))))), .int .i64 (Go.Proofs.YtmhfmhmpoobmlaaGreatDoor.ofC (x.extract 32 x.size))]) (fun w M => z_of (x.extract 32 x.size) w) fun u10 M => ?_
            refine pV 45 (.tuple #[.agg (av 4 (w64 (Ord.d64 (Go.Proofs.YtmhfmhmpoobmlaaGreatDoor.ofV (x.extract 32 x.size))))), .int .i64 (Go.Proofs.YtmhfmhmpoobmlaaGreatDoor.ofC (x.extract 32 x.size))]) ?_
            refine pV 48 (.agg (av 4 (w64 (Ord.d64 (Go.Proofs.YtmhfmhmpoobmlaaGreatDoor.ofV (x.extract 32 x.size)))))) ?_
            refine pV 49 (.int .i64 (Go.Proofs.YtmhfmhmpoobmlaaGreatDoor.ofC (x.extract 32 x.size))) ?_
            refine pN M 12 (.cells (av 4 (w64 (fun _ => 0))) 44) fun g3 u11 M => ?_
            refine pl_put M (want_no rfl) rfl 44 _ _ rfl 2 g3 0 (by kernel_rfl) 4 44 (w64 (fun _ => 0)) rfl 4 (w64 (Ord.d64 (Go.Proofs.YtmhfmhmpoobmlaaGreatDoor.ofV (x.extract 32 x.size)))) (w64 (Ord.d64 (Go.Proofs.YtmhfmhmpoobmlaaGreatDoor.ofV (x.extract 32 x.size)))) (by kernel_rfl) inz44 (by decide) (fun _ _ => rfl) (fun j hj => by rw [if_pos (by omega), Nat.sub_zero]) fun u12 M => ?_
            refine pV 13 (.int .i64 (Go.Proofs.YtmhfmhmpoobmlaaGreatDoor.ofC (x.extract 32 x.size))) ?_
            refine nT ?_
            refine sR ?_
            refine pV 50 (.string (x.extract 0 32)) ?_
            refine pV 51 (.string p) ?_
            refine pV 52 (.string s) ?_
            refine pl_mk M (want_no rfl) (some 53) rfl (fun g4 => .slice (some ⟨g4, 0, none⟩) 3 3) (.cells (av 3 (t3 (x.extract 0 32) p s)) 9) (fun _ => by kernel_rfl) fun g4 u13 M => ?_
            refine pC M 54 24 #[.slice (some ⟨g4, 0, none⟩) 3 3] (.agg (av 4 (w64 (Ord.d64 (kn (x.extract 0 32) p s))))) (fun w M => (by have e := c_number g4 3 3 (s3 (x.extract 0 32) p s) w M.laid (by decide) (fun j hj => by rw [Nat.zero_add, ← t3_s]; exact cell_av (M.get 3 rfl) hj); rw [jo3] at e; exact e)) fun u14 M => ?_
            refine pN M 14 (.cells (av 4 (w64 (fun _ => 0))) 44) fun g5 u15 M => ?_
            refine pl_put M (want_no rfl) rfl 44 _ _ rfl 4 g5 0 (by kernel_rfl) 4 44 (w64 (fun _ => 0)) rfl 4 (w64 (Ord.d64 (kn (x.extract 0 32) p s))) (w64 (Ord.d64 (kn (x.extract 0 32) p s))) (by kernel_rfl) inz44 (by decide) (fun _ _ => rfl) (fun j hj => by rw [if_pos (by omega), Nat.sub_zero]) fun u16 M => ?_
            refine nT ?_
            refine wp_seq ?_
            refine rg_tail M 9 (by kernel_rfl) (by kernel_rfl) ?_
            simp only [List.take_succ_cons, List.take_zero]
            refine kC M 55 25 #[] (.agg (av 20 (w64 base5.f))) (fun w M => z_base w) ?_
            refine kA M 56 2 4 (w64 (Ord.d64 (Go.Proofs.YtmhfmhmpoobmlaaGreatDoor.ofV (x.extract 32 x.size)))) ?_
            refine kC M 57 26 #[.agg (av 20 (w64 base5.f)), .agg (av 4 (w64 (Ord.d64 (Go.Proofs.YtmhfmhmpoobmlaaGreatDoor.ofV (x.extract 32 x.size)))))] (.agg (av 20 (w64 (mulV base5 (Go.Proofs.YtmhfmhmpoobmlaaGreatDoor.ofV (x.extract 32 x.size))).f))) (fun w M => z_mul base_rep (Go.Proofs.YtmhfmhmpoobmlaaGreatDoor.ofV (x.extract 32 x.size)) w) ?_
            refine kA M 58 1 20 (w64 (decP (x.extract 0 32)).f) ?_
            refine kA M 59 0 20 (w64 (decP p).f) ?_
            refine kA M 60 4 4 (w64 (Ord.d64 (kn (x.extract 0 32) p s))) ?_
            refine kC M 61 26 #[.agg (av 20 (w64 (decP p).f)), .agg (av 4 (w64 (Ord.d64 (kn (x.extract 0 32) p s))))] (.agg (av 20 (w64 (mulV (decP p) (kn (x.extract 0 32) p s)).f))) (fun w M => z_mul (dec_both hp).1 (kn (x.extract 0 32) p s) w) ?_
            refine kC M 62 39 #[.agg (av 20 (w64 (decP (x.extract 0 32)).f)), .agg (av 20 (w64 (mulV (decP p) (kn (x.extract 0 32) p s)).f))] (.agg (av 20 (w64 (addV (decP (x.extract 0 32)) (mulV (decP p) (kn (x.extract 0 32) p s))).f))) (fun w M => z_add _ _ (dec_both hf).1.ok ((dec_both hp).1.mul (kn_bd _ _ _)).ok w) ?_
            refine kC M 63 38 #[.agg (av 20 (w64 (mulV base5 (Go.Proofs.YtmhfmhmpoobmlaaGreatDoor.ofV (x.extract 32 x.size))).f)), .agg (av 20 (w64 (addV (decP (x.extract 0 32)) (mulV (decP p) (kn (x.extract 0 32) p s))).f))] (.bool (sameV (mulV base5 (Go.Proofs.YtmhfmhmpoobmlaaGreatDoor.ofV (x.extract 32 x.size))) (addV (decP (x.extract 0 32)) (mulV (decP p) (kn (x.extract 0 32) p s))))) (fun w M => z_same _ _ (base_rep.mul (ofV_bd _)).ok ((dec_both hf).1.add ((dec_both hp).1.mul (kn_bd _ _ _))).ok w) ?_
            refine kl_nil fun u17 M => ?_
            refine pV 6 (.bool (sameV (mulV base5 (Go.Proofs.YtmhfmhmpoobmlaaGreatDoor.ofV (x.extract 32 x.size))) (addV (decP (x.extract 0 32)) (mulV (decP p) (kn (x.extract 0 32) p s))))) ?_
            refine nT ?_
            refine wp_ret ?_
            exact bodyPost_ret (v := .bool (sameV (mulV base5 (Go.Proofs.YtmhfmhmpoobmlaaGreatDoor.ofV (x.extract 32 x.size))) (addV (decP (x.extract 0 32)) (mulV (decP p) (kn (x.extract 0 32) p s))))) (results_tmp1 Tryz.results12 _ _ _ (by kernel_rfl)) (by kernel_rfl) ⟨by rw [vfy, if_pos ⟨h0, hp, hs, hf, hc⟩], below_grown M.old⟩
          · skip
            refine rg_lit ?_
            refine pV 38 (.int .i64 (decC (x.extract 0 32))) ?_
            refine pH 39 (.bool false) (nF (decC (x.extract 0 32) = 0) (hf)) ?_
            refine pV 40 (.bool false) ?_
            refine pl_val (want_on 2 false rfl 40 rfl (by kernel_rfl)) (some 41) rfl (.string (x.extract 32 x.size)) (fun _ => by kernel_rfl) ?_
            refine pl_call M (want_on 2 false rfl 40 rfl (by kernel_rfl)) (some 42) rfl 36 #[.string (x.extract 32 x.size)] (.bool false) (fun _ => by kernel_rfl) (fun w M => (by have e := Ord.canon_yes (x.extract 32 x.size) w (xl x h0); rw [decide_eq_false hc] at e; exact e)) fun u18 M => ?_
            refine pl_val (want_on 2 false rfl 40 rfl (by kernel_rfl)) (some 43) rfl (.bool true) (fun _ => by kernel_rfl) ?_
            refine pV 44 (.bool true) ?_
            refine nT ?_
            refine wp_cond_true (by kernel_rfl) ?_
            refine sR ?_
            refine pV 6 (.bool false) ?_
            refine nT ?_
            refine wp_ret ?_
            refine au_then_ret ?_
            exact bodyPost_ret (v := .bool false) (results_tmp1 Tryz.results12 _ _ _ (by kernel_rfl)) (by kernel_rfl) ⟨by rw [vfy, if_neg (fun c => hc c.2.2.2.2)], below_grown M.old⟩
        · skip
          refine rg_lit ?_
          refine pV 34 (.string (x.extract 0 32)) ?_
          refine pC M 35 34 #[.string (x.extract 0 32)] (.tuple #[.agg (av 20 (w64 (decP (x.extract 0 32)).f)), .int .i64 (decC (x.extract 0 32))]) (fun w M => z_dec (x.extract 0 32) w) fun u19 M => ?_
          refine pV 33 (.tuple #[.agg (av 20 (w64 (decP (x.extract 0 32)).f)), .int .i64 (decC (x.extract 0 32))]) ?_
          refine pV 36 (.agg (av 20 (w64 (decP (x.extract 0 32)).f))) ?_
          refine pV 37 (.int .i64 (decC (x.extract 0 32))) ?_
          refine pN M 11 (.cells (av 20 (w64 (fun _ => 0))) 60) fun g6 u20 M => ?_
          refine pl_put M (want_no rfl) rfl 60 _ _ rfl 1 g6 0 (by kernel_rfl) 20 60 (w64 (fun _ => 0)) rfl 20 (w64 (decP (x.extract 0 32)).f) (w64 (decP (x.extract 0 32)).f) (by kernel_rfl) inz60 (by decide) (fun _ _ => rfl) (fun j hj => by rw [if_pos (by omega), Nat.sub_zero]) fun u21 M => ?_
          refine pV 10 (.int .i64 (decC (x.extract 0 32))) ?_
          refine nT ?_
          refine wp_seq ?_
          refine sR ?_
          refine pV 38 (.int .i64 (decC (x.extract 0 32))) ?_
          refine pH 39 (.bool true) (nU (decC (x.extract 0 32) = 0) (hf)) ?_
          refine pV 40 (.bool true) ?_
          refine pl_skip (want_off 2 false rfl 40 rfl (by kernel_rfl)) (some 41) rfl ?_
          refine pl_skip (want_off 2 false rfl 40 rfl (by kernel_rfl)) (some 42) rfl ?_
          refine pl_skip (want_off 2 false rfl 40 rfl (by kernel_rfl)) (some 43) rfl ?_
          refine pV 44 (.bool true) ?_
          refine nT ?_
          refine wp_cond_true (by kernel_rfl) ?_
          refine sR ?_
          refine pV 6 (.bool false) ?_
          refine nT ?_
          refine wp_ret ?_
          refine au_then_ret ?_
          exact bodyPost_ret (v := .bool false) (results_tmp1 Tryz.results12 _ _ _ (by kernel_rfl)) (by kernel_rfl) ⟨by rw [vfy, if_neg (fun c => hf c.2.2.2.1)], below_grown M.old⟩
      · skip
        refine rg_lit ?_
        refine pV 27 (.int .i64 (decC p)) ?_
        refine pH 28 (.bool false) (nF (decC p = 0) (hp)) ?_
        refine pV 29 (.bool false) ?_
        refine pl_load M (want_on 2 false rfl 29 rfl (by kernel_rfl)) (some 30) rfl 60 _ rfl 0 g1 0 (by kernel_rfl) 20 60 (w64 (decP p).f) rfl 20 (w64 (decP p).f) (fun j _ => by rw [Nat.zero_add]) (by decide) _ Tryz.underlying60 rfl inz60 ?_
        refine pl_call M (want_on 2 false rfl 29 rfl (by kernel_rfl)) (some 31) rfl 35 #[.agg (av 20 (w64 (decP p).f))] (.bool true) (fun _ => by kernel_rfl) (fun w M => (by have e := z_small _ (dec_both hp).1.ok w; rw [(Bool.not_eq_false _).mp hs] at e; exact e)) fun u22 M => ?_
        refine pV 32 (.bool true) ?_
        refine nT ?_
        refine wp_cond_true (by kernel_rfl) ?_
        refine sR ?_
        refine pV 6 (.bool false) ?_
        refine nT ?_
        refine wp_ret ?_
        refine au_then_ret ?_
        exact bodyPost_ret (v := .bool false) (results_tmp1 Tryz.results12 _ _ _ (by kernel_rfl)) (by kernel_rfl) ⟨by rw [vfy, if_neg (fun c => hs c.2.2.1)], below_grown M.old⟩
    · skip
      refine rg_lit ?_
      refine pV 23 (.string p) ?_
      refine pC M 24 34 #[.string p] (.tuple #[.agg (av 20 (w64 (decP p).f)), .int .i64 (decC p)]) (fun w M => z_dec p w) fun u23 M => ?_
      refine pV 22 (.tuple #[.agg (av 20 (w64 (decP p).f)), .int .i64 (decC p)]) ?_
      refine pV 25 (.agg (av 20 (w64 (decP p).f))) ?_
      refine pV 26 (.int .i64 (decC p)) ?_
      refine pN M 9 (.cells (av 20 (w64 (fun _ => 0))) 60) fun g7 u24 M => ?_
      refine pl_put M (want_no rfl) rfl 60 _ _ rfl 0 g7 0 (by kernel_rfl) 20 60 (w64 (fun _ => 0)) rfl 20 (w64 (decP p).f) (w64 (decP p).f) (by kernel_rfl) inz60 (by decide) (fun _ _ => rfl) (fun j hj => by rw [if_pos (by omega), Nat.sub_zero]) fun u25 M => ?_
      refine pV 10 (.int .i64 (decC p)) ?_
      refine nT ?_
      refine wp_seq ?_
      refine sR ?_
      refine pV 27 (.int .i64 (decC p)) ?_
      refine pH 28 (.bool true) (nU (decC p = 0) (hp)) ?_
      refine pV 29 (.bool true) ?_
      refine pl_skip (want_off 2 false rfl 29 rfl (by kernel_rfl)) (some 30) rfl ?_
      refine pl_skip (want_off 2 false rfl 29 rfl (by kernel_rfl)) (some 31) rfl ?_
      refine pV 32 (.bool true) ?_
      refine nT ?_
      refine wp_cond_true (by kernel_rfl) ?_
      refine sR ?_
      refine pV 6 (.bool false) ?_
      refine nT ?_
      refine wp_ret ?_
      refine au_then_ret ?_
      exact bodyPost_ret (v := .bool false) (results_tmp1 Tryz.results12 _ _ _ (by kernel_rfl)) (by kernel_rfl) ⟨by rw [vfy, if_neg (fun c => hp c.2.1)], below_grown M.old⟩
  · skip
    refine rg_lit ?_
    refine pV 15 (.string x) ?_
    refine pV 16 (.int .i64 (x.size : Int)) ?_
    refine pH 17 (.bool true) (nU ((x.size : Int) = 64) (by omega)) ?_
    refine nT ?_
    refine wp_cond_true (by kernel_rfl) ?_
    refine sR ?_
    refine pV 6 (.bool false) ?_
    refine nT ?_
    refine wp_ret ?_
    refine au_then_ret ?_
    exact bodyPost_ret (v := .bool false) (results_tmp1 Tryz.results12 _ _ _ (by kernel_rfl)) (by kernel_rfl) ⟨by rw [vfy, if_neg (fun c => h0 c.1)], below_grown M.old⟩


end Go.Proofs.YtmhfmhmpoobmlaaGreatDoor.Sha

/- Of numbers modulo the prime: powers, squares; just one of a number and twice it has a root. -/
namespace Go.Proofs.YtmhfmhmpoobmlaaGreatDoor

theorem cg_nat {a b : Nat} (h : a % pN = b % pN) : Cg (a : Int) (b : Int) := by
  refine Cg.of_emod ?_
  rw [← pN_P, ← Int.natCast_emod, ← Int.natCast_emod, h]

theorem cast_pow (i : Nat) : ((2 ^ i : Nat) : Int) = (2 : Int) ^ i := by simp

theorem genPN : Gen pN 2 := genP

theorem some_pow {A : Int} (h0 : 0 < A) (h1 : A < Pm) : ∃ i : Nat, Cg A ((2 : Int) ^ i) := by
  have hlt : A.toNat < pN := by have := pN_P; omega
  obtain ⟨i, hi⟩ := genPN.all A.toNat (by omega) hlt
  refine ⟨i, ?_⟩
  have h : Cg ((A.toNat : Nat) : Int) ((2 ^ i : Nat) : Int) := cg_nat (by rw [Nat.mod_eq_of_lt hlt]; exact hi.symm)
  rw [cast_pow] at h
  rwa [show ((A.toNat : Nat) : Int) = A by omega] at h

theorem two_full : Cg ((2 : Int) ^ (pN - 1)) 1 := by
  have h : Cg ((2 ^ (pN - 1) : Nat) : Int) ((1 : Nat) : Int) := cg_nat (by rw [show (1 : Nat) % pN = 1 by decide]; exact genPN.per)
  rw [cast_pow] at h
  exact h

/-- (p - 1) / 4 -/
def hN : Nat := 14474011154664524427946373126085988481658748083205070504932198000989141204987
theorem two_half : Cg ((2 : Int) ^ (2 * hN)) (-1) := by
  have e : pmf pN 255 2 (2 * hN) = pN - 1 := by decide +kernel
  rw [pmf_eq pN 255 2 _ (by decide)] at e
  have h : Cg ((2 ^ (2 * hN) : Nat) : Int) ((pN - 1 : Nat) : Int) := cg_nat (by rw [e]; decide)
  rw [cast_pow] at h
  refine h.trans ⟨1, ?_⟩
  decide

theorem Cg.pow_one {x : Int} (h : Cg x 1) (k : Nat) : Cg (x ^ k) 1 := by
  have := h.pow k
  rwa [Int.one_pow] at this

/-- Each number but 0, to the power of p - 1, is 1. -/
theorem fermat {A : Int} {i : Nat} (h : Cg A ((2 : Int) ^ i)) : Cg (A ^ (pN - 1)) 1 := by
  refine (h.pow _).trans ?_
  rw [← Int.pow_mul, Nat.mul_comm, Int.pow_mul]
  exact two_full.pow_one i

theorem neg_one_pow : ∀ k : Nat, ((-1 : Int) ^ k = 1 ∧ k % 2 = 0) ∨ ((-1 : Int) ^ k = -1 ∧ k % 2 = 1)
  | 0 => .inl ⟨rfl, rfl⟩
  | k + 1 => by
    rw [Int.pow_succ]
    rcases neg_one_pow k with ⟨h1, h2⟩ | ⟨h1, h2⟩
    · exact .inr ⟨by rw [h1]; rfl, by omega⟩
    · exact .inl ⟨by rw [h1]; rfl, by omega⟩

theorem quarter {A : Int} {i : Nat} (h : Cg A ((2 : Int) ^ i)) : (i % 2 = 0 ∧ (Cg (A ^ hN) 1 ∨ Cg (A ^ hN) (-1))) ∨ (i % 2 = 1 ∧ Cg (A ^ (2 * hN)) (-1)) := by
  by_cases hi : i % 2 = 0
  · left
    refine ⟨hi, ?_⟩
    obtain ⟨k, rfl⟩ : ∃ k, i = 2 * k := ⟨i / 2, by omega⟩
    have e : Cg (A ^ hN) ((-1) ^ k) := by
      refine (h.pow _).trans ?_
      rw [← Int.pow_mul, show 2 * k * hN = 2 * hN * k by rw [Nat.mul_assoc, Nat.mul_assoc, Nat.mul_comm k hN], Int.pow_mul]
      exact two_half.pow k
    rcases neg_one_pow k with ⟨h1, _⟩ | ⟨h1, _⟩
    · rw [h1] at e; exact .inl e
    · rw [h1] at e; exact .inr e
  · right
    refine ⟨by omega, ?_⟩
    have e : Cg (A ^ (2 * hN)) ((-1) ^ i) := by
      refine (h.pow _).trans ?_
      rw [← Int.pow_mul, Nat.mul_comm, Int.pow_mul]
      exact two_half.pow i
    rcases neg_one_pow i with ⟨_, h2⟩ | ⟨h1, _⟩
    · omega
    · rw [h1] at e; exact e

theorem sq_pow {A U : Int} (h : Cg U (A ^ (2 ^ 252 - 2))) : Cg (U * U) (A * A ^ hN) := by
  refine (h.mul h).trans (Cg.of_eq ?_)
  rw [← Int.pow_add, Int.mul_comm, ← Int.pow_succ]
  congr 1

theorem half_no {A U : Int} {i : Nat} (hA : Cg A ((2 : Int) ^ i)) (hU : Cg (U * U) (A * A ^ hN)) (hh : Cg (A ^ (2 * hN)) (-1)) (h : Cg ((U * U) * (U * U)) (A * A)) : False := by
  have e1 : Cg ((U * U) * (U * U)) (A * A * A ^ (2 * hN)) := by
    refine (hU.mul hU).trans (Cg.of_eq ?_)
    rw [Nat.two_mul, Int.pow_add, Int.mul_assoc, Int.mul_left_comm (A ^ hN) A, ← Int.mul_assoc]
  have e2 : Cg (A * A * A ^ (2 * hN)) (A * A * (-1)) := (Cg.refl _).mul hh
  have e3 : Cg (A * A) (A * A * (-1)) := h.symm.trans (e1.trans e2)
  have hf := fermat hA
  have e4 : A ^ (pN - 1) = A * A * A ^ (pN - 3) := by
    rw [show pN - 1 = pN - 3 + 1 + 1 by decide, Int.pow_succ, Int.pow_succ, Int.mul_assoc, Int.mul_comm]
  have e5 : Cg (A * A * A ^ (pN - 3)) (A * A * (-1) * A ^ (pN - 3)) := e3.mul (Cg.refl _)
  rw [show A * A * (-1) * A ^ (pN - 3) = - (A * A * A ^ (pN - 3)) by rw [Int.mul_neg, Int.mul_one, Int.neg_mul], ← e4] at e5
  have e6 : Cg 1 (-1) := hf.symm.trans (e5.trans hf.neg)
  have := e6.emod
  revert this
  decide

theorem rrF_has {A : Int} {i : Nat} (h0 : 0 ≤ A) (h1 : A < Pm) (h : Cg A ((2 : Int) ^ i)) : (rrF A).2 = decide (i % 2 = 0) := by
  have hU : Cg (pwm A (xbit 252 2) 252) (A ^ (2 ^ 252 - 2)) := by
    rw [← ex252]
    exact pwm_pow A _ 252
  have hUU := sq_pow hU
  unfold rrF
  generalize pwm A (xbit 252 2) 252 = U at *
  simp only
  have hVV : Cg ((U * rmo.n % Pm) * (U * rmo.n % Pm)) (- (U * U)) := by
    refine ((cg_emod _).mul (cg_emod _)).trans ?_
    have e : U * rmo.n * (U * rmo.n) = U * U * (rmo.n * rmo.n) := by rw [Int.mul_assoc, Int.mul_assoc, Int.mul_left_comm rmo.n U]
    rw [e]
    have := (Cg.refl (U * U)).mul rmo_sq
    rw [show U * U * -1 = -(U * U) by omega] at this
    exact this
  generalize U * rmo.n % Pm = V at *
  have hs : ∀ {B : Int}, Cg B A → B % Pm = A := fun hB => by rw [hB.emod, em_self ⟨h0, h1⟩]
  have hs2 : ∀ {B : Int}, B % Pm = A → Cg B A := fun hB => Cg.of_emod (by rw [hB, em_self ⟨h0, h1⟩])
  rcases quarter h with ⟨hi, hq | hq⟩ | ⟨hi, hq⟩
  · rw [if_pos (hs (hUU.trans (by have := (Cg.refl A).mul hq; rwa [Int.mul_one] at this)))]
    simp [hi]
  · rw [decide_eq_true hi]
    split
    · rfl
    · rw [if_pos (hs (hVV.trans (by
        have := (hUU.trans ((Cg.refl A).mul hq)).neg
        rwa [show -(A * -1) = A by omega] at this)))]
  · rw [decide_eq_false (by omega)]
    rw [if_neg (fun e => half_no h hUU hq ((hs2 e).mul (hs2 e))), if_neg (fun e => half_no h hUU hq (by
      have := (hVV.symm.trans (hs2 e)).neg
      rw [Int.neg_neg] at this
      have := this.mul this
      rwa [show -A * -A = A * A by rw [Int.neg_mul_neg]] at this))]

theorem rrF_zero : rrF 0 = (0, true) := by
  have hU : pwm 0 (xbit 252 2) 252 = 0 := by
    have h := (pwm_pow 0 (xbit 252 2) 252).emod
    rw [em_self (pwm_bd _ _ _), ex252, Int.zero_pow (by decide)] at h
    exact h
  unfold rrF
  simp only [hU]
  decide

end Go.Proofs.YtmhfmhmpoobmlaaGreatDoor

/- The bytes of a point are read as that point; only multiples of the order make zero of the base point; a clamped secret is no multiple of the order. -/
namespace Go.Proofs.YtmhfmhmpoobmlaaGreatDoor
open Go.RowKit

theorem bt_leb (W : Int) {i : Nat} (hi : i < 32) : bt (lebytes W) i = W / 256 ^ i % 256 := by
  have h : bt (lebytes W) i = Ord.bt (Ord.bs (Ord.le W 32)) i := by
    rw [← Ord.leb_le W]
    rfl
  rw [h, Ord.bt_le W hi]
theorem bt_leb31 {W : Int} (h0 : 0 ≤ W) (h1 : W < Pm) : 0 ≤ bt (lebytes W) 31 ∧ bt (lebytes W) 31 < 128 := by
  rw [bt_leb W (by decide)]
  have hP : Pm < 2 ^ 255 := by decide
  have e : (256 : Int) ^ 31 = 2 ^ 248 := by decide
  rw [e]
  omega
theorem bt_enc (o : Bool) {W : Int} {i : Nat} (hi : i < 32) : bt (encS o (lebytes W)) i = encF o (lebytes W) i := by
  have hb := bt_bd (lebytes W) 31
  have h2 : 0 ≤ encF o (lebytes W) i ∧ encF o (lebytes W) i < 256 := by
    unfold encF
    cases o
    · simp only [Bool.false_eq_true, if_false]
      exact bt_bd _ _
    · simp only [if_true]
      exact upd_bd (bits_bd hb.1 hb.2).2.1 i
  exact bt_bs _ _ _ (by simp [List.getElem?_map, List.getElem?_range hi]) h2.1 h2.2
theorem enc31 (o : Bool) {W : Int} (h0 : 0 ≤ W) (h1 : W < Pm) : bt (encS o (lebytes W)) 31 = bt (lebytes W) 31 + (if o then 128 else 0) := by
  have hb := bt_leb31 h0 h1
  rw [bt_enc o (by decide)]
  unfold encF
  cases o
  · simp
  · simp only [if_true]
    unfold upd
    rw [if_pos rfl, (bits_bd hb.1 (by omega)).2.2.2.2.2.2.2 hb.2]
theorem cut_enc (o : Bool) {W : Int} (h0 : 0 ≤ W) (h1 : W < Pm) : cutS (encS o (lebytes W)) = lebytes W := by
  have hb := bt_leb31 h0 h1
  unfold cutS
  refine bs_bt _ (leb_size W) _ fun i hi => ?_
  unfold cutF upd
  by_cases e : i = 31
  · have hc := bt_bd (encS o (lebytes W)) 31
    rw [if_pos e, (bits_bd hc.1 hc.2).2.2.2.2.1, enc31 o h0 h1, e]
    cases o
    · simp only [Bool.false_eq_true, if_false]
      omega
    · simp only [if_true]
      omega
  · rw [if_neg e, bt_enc o hi]
    unfold encF
    cases o
    · rfl
    · simp only [if_true]
      unfold upd
      rw [if_neg e]
theorem odd_enc (o : Bool) {W : Int} (h0 : 0 ≤ W) (h1 : W < Pm) : oddB (encS o (lebytes W)) = o := by
  have hb := bt_leb31 h0 h1
  rw [← odd_eq, enc31 o h0 h1]
  cases o
  · simp only [Bool.false_eq_true, if_false]
    exact decide_eq_false (by omega)
  · simp only [if_true]
    exact decide_eq_true (by omega)
theorem val_leb {W : Int} (h0 : 0 ≤ W) (h1 : W < Pm) : val (lebytes W) = W := by
  have h : val (lebytes W) = Ord.bv (Ord.bs (Ord.le W 32)) 32 := by
    rw [← Ord.leb_le W, ← Ord.val_bv]
    rfl
  have hP : Pm < 256 ^ 32 := by decide
  rw [h, Ord.bv_le W h0 32 32 (Nat.le_refl _), Int.emod_eq_of_lt h0 (by omega)]
theorem fq_bd (x : Fq) : 0 ≤ ((x.val : Nat) : Int) ∧ ((x.val : Nat) : Int) < Pm := by
  have := x.isLt
  have := pN_P
  omega
theorem toF_fq (x : Fq) : toF ((x.val : Nat) : Int) = x := by
  refine fq_int ?_
  rw [toF_val, em_self (fq_bd x)]
theorem sq_alg {d x y v : Fq} (h : y * y - x * x = 1 + d * (x * x * (y * y))) (hv : (d * (y * y) + 1) * v = 1) : (y * y - 1) * v = x * x := by grind
theorem sq_cases {a b : Fq} (h : a * a = b * b) : a = b ∨ a = -b := by
  have e : (a - b) * (a + b) = 0 := by grind
  rcases fq_mul e with h1 | h1
  · left
    grind
  · right
    grind
theorem aI_sq (P : Pt) : toF (aI ((P.y.val : Nat) : Int)) = P.x * P.x := by
  have eb : toF (pI (mI DI (mI ((P.y.val : Nat) : Int) ((P.y.val : Nat) : Int))) 1) = dE * (P.y * P.y) + 1 := by
    rw [tpI, tmI, tmI, DI_t, toF_one, toF_fq]
  have hv := tvI (a := pI (mI DI (mI ((P.y.val : Nat) : Int) ((P.y.val : Nat) : Int))) 1) (by rw [eb]; exact den0 _)
  rw [eb] at hv
  unfold aI
  rw [tmI, tsI, tmI, toF_one, toF_fq]
  exact sq_alg P.on hv
/-- The bytes of a point are read as that point. -/
theorem enc_dec (P : Pt) : ∃ h : rdecB (ptS P) = true, decPt (ptS P) h = P := by
  have hx := fq_bd P.x
  have hy := fq_bd P.y
  have tx := toF_fq P.x
  have ty := toF_fq P.y
  have ha := aI_sq P
  have hab := aI_bd ((P.y.val : Nat) : Int)
  have ho : oddB (ptS P) = (((P.x.val : Nat) : Int) % 2 == 1) := odd_enc _ hy.1 hy.2
  have hc : val (cutS (ptS P)) = ((P.y.val : Nat) : Int) := by
    show val (cutS (encS _ _)) = _
    rw [cut_enc _ hy.1 hy.2, val_leb hy.1 hy.2]
  have hY : rY (ptS P) = ((P.y.val : Nat) : Int) := by
    unfold rY
    rw [hc, em_self hy]
  have hP : Pm % 2 = 1 := by decide
  have key : (rr (aI (rY (ptS P)))).2 = true ∧ ((rX (ptS P) == 0) && oddB (ptS P)) = false ∧ toF (rdecX (ptS P)) = P.x := by
    unfold rdecX
    rw [ho]
    unfold rX
    rw [hY]
    have he := rr_even (aI ((P.y.val : Nat) : Int))
    have hb := rr_bd (aI ((P.y.val : Nat) : Int))
    have h2 : (rr (aI ((P.y.val : Nat) : Int))).2 = true := by
      rw [rr_eq]
      by_cases h0 : ((P.x.val : Nat) : Int) = 0
      · have hz : P.x = 0 := by rw [← tx, h0, toF_zero]
        rw [hz] at ha
        have h3 : aI ((P.y.val : Nat) : Int) = 0 := toF_inj hab ⟨by decide, by decide⟩ (by rw [ha, toF_zero]; exact zz)
        rw [h3, rrF_zero]
      · obtain ⟨i, hi⟩ := some_pow (A := ((P.x.val : Nat) : Int)) (by omega) hx.2
        have h3 : Cg (aI ((P.y.val : Nat) : Int)) (2 ^ (i + i)) := by
          have h4 : Cg (aI ((P.y.val : Nat) : Int)) (((P.x.val : Nat) : Int) * ((P.x.val : Nat) : Int)) := by
            have e := toF_eq.1 (show toF (aI ((P.y.val : Nat) : Int)) = toF (((P.x.val : Nat) : Int) * ((P.x.val : Nat) : Int)) by rw [toF_mul, tx, ha])
            exact (cg_emod _).symm.trans (by rw [e]; exact cg_emod _)
          rw [Int.pow_add]
          exact h4.trans (hi.mul hi)
        rw [rrF_has hab.1 hab.2 h3]
        exact decide_eq_true (by omega)
    have hs := rr_sq h2
    rw [ha] at hs
    generalize (rr (aI ((P.y.val : Nat) : Int))).1 = r at he hb hs ⊢
    refine ⟨h2, ?_⟩
    rcases sq_cases hs with h3 | h3
    · have e : r = ((P.x.val : Nat) : Int) := toF_inj hb hx (by rw [h3, tx])
      have o : (((P.x.val : Nat) : Int) % 2 == 1) = false := by rw [← e, he]; rfl
      rw [o]
      exact ⟨by simp, h3⟩
    · by_cases h0 : r = 0
      · have h4 : P.x = 0 := by
          rw [h0, toF_zero] at h3
          grind
        have h5 : ((P.x.val : Nat) : Int) = 0 := by rw [h4]; rfl
        rw [h5, h0, h4]
        exact ⟨by simp, by simp only [show ((0 : Int) % 2 == 1) = false from rfl, Bool.false_eq_true, if_false]; exact toF_zero⟩
      · have e : ((P.x.val : Nat) : Int) = Pm - r := by
          refine toF_inj hx (by have := hb.1; have := hb.2; omega) ?_
          rw [toF_sub, h3, tx]
          have h6 : toF Pm = 0 := by decide +kernel
          rw [h6]
          grind
        have o : (((P.x.val : Nat) : Int) % 2 == 1) = true := by
          rw [e]
          have : (Pm - r) % 2 = 1 := by omega
          rw [this]
          rfl
        rw [o]
        refine ⟨by simp [h0], ?_⟩
        simp only [if_true]
        rw [tnI, h3]
        grind
  have hB : rdecB (ptS P) = true := by
    unfold rdecB
    rw [key.1, key.2.1, hc, decide_eq_true hy.2]
    rfl
  refine ⟨hB, Pt.ext key.2.2 ?_⟩
  show toF (rY (ptS P)) = P.y
  rw [hY, ty]
theorem ptS_size (P : Pt) : (ptS P).size = 32 := by
  unfold ptS encS
  rw [bs_size]
  simp
theorem enc_c (P : Pt) : decC (ptS P) = 0 := by
  obtain ⟨h, _⟩ := enc_dec P
  unfold decC
  rw [if_pos (ptS_size P), dec_eq, h]
  exact if_pos rfl
theorem enc_q (P : Pt) : decQ (ptS P) = P := by
  obtain ⟨h, e⟩ := enc_dec P
  unfold decQ
  rw [dif_pos h, e]

/- The base point's order. -/
theorem base_nz : baseQ ≠ zeroP := fun h => by
  have h1 := base_rep.small
  rw [h, add_zero', add_zero', add_zero'] at h1
  have h2 := h1.2 rfl
  rw [base_nsmall] at h2
  cases h2
theorem gcd_zero : ∀ (m n : Nat), baseQ.mul m = zeroP → baseQ.mul n = zeroP → baseQ.mul (Nat.gcd m n) = zeroP := by
  intro m n
  induction m, n using Nat.gcd.induction with
  | H0 n => intro _ hn; rwa [Nat.gcd_zero_left]
  | H1 m n hm ih =>
    intro h1 h2
    rw [Nat.gcd_rec]
    refine ih ?_ h1
    have e : n = m * (n / m) + n % m := (Nat.div_add_mod n m).symm
    have h3 : baseQ.mul n = (baseQ.mul (m * (n / m))).add (baseQ.mul (n % m)) := by
      conv => lhs; rw [e]
      rw [mul_add']
    rw [mul_mul', h1, zero_mul', add_comm', add_zero'] at h3
    rw [← h3]
    exact h2
theorem isO : IsP oN := isL
theorem ord_dvd {k : Nat} (h : baseQ.mul k = zeroP) : oN ∣ k := by
  have hg := gcd_zero oN k ord_zero h
  rcases isO.2 _ (Nat.gcd_dvd_left oN k) with h1 | h1
  · rw [h1] at hg
    exact absurd (by
      have h2 : baseQ.mul 1 = baseQ := by
        show zeroP.add baseQ = baseQ
        rw [add_comm', add_zero']
      rw [← h2, hg]) base_nz
  · rw [← h1]
    exact Nat.gcd_dvd_right oN k

theorem isO_mul {a b : Nat} (h : oN ∣ a * b) : oN ∣ a ∨ oN ∣ b := by
  by_cases ha : oN ∣ a
  · exact .inl ha
  · right
    have hg : Nat.Coprime oN a := by
      rcases isO.2 _ (Nat.gcd_dvd_left oN a) with h1 | h1
      · exact h1
      · exact absurd (h1 ▸ Nat.gcd_dvd_right oN a) ha
    exact Nat.Coprime.dvd_of_dvd_mul_left hg h

/- A clamped secret is no multiple of the order. -/
namespace Ord
theorem cl_bits {x : Int} (h0 : 0 ≤ x) (h1 : x < 256) : bits .and .u8 x 248 % 8 = 0 ∧ 64 ≤ bits .or .u8 (bits .and .u8 x 127) 64 ∧ bits .or .u8 (bits .and .u8 x 127) 64 < 128 := by
  obtain ⟨X, rfl⟩ := Int.eq_ofNat_of_zero_le h0
  have h : ∀ n : Fin 256, bits .and .u8 ((n.val : Nat) : Int) 248 % 8 = 0 ∧ 64 ≤ bits .or .u8 (bits .and .u8 ((n.val : Nat) : Int) 127) 64 ∧ bits .or .u8 (bits .and .u8 ((n.val : Nat) : Int) 127) 64 < 128 := by decide +kernel
  exact h ⟨X, by omega⟩
theorem bt_cl (s : ByteArray) {i : Nat} (hi : i < 32) : bt (clS s) i = clF s i := bt_bs _ _ _ (by simp [List.getElem?_map, List.getElem?_range hi]) (clF_bd s i).1 (clF_bd s i).2
theorem cl_alg {V : Int} (h0 : 0 ≤ V) (h1 : V < 115792089237316195423570985008687907853269984665640564039457584007913129639936) (h : 64 ≤ V / 452312848583266388373324160190187140051835877600158453279131187530910662656 % 256 ∧ V / 452312848583266388373324160190187140051835877600158453279131187530910662656 % 256 < 128) (h8 : V % 256 % 8 = 0) : 28948022309329048855892746252171976963317496166410141009864396001978282409984 ≤ V ∧ V < 57896044618658097711785492504343953926634992332820282019728792003956564819968 ∧ V % 8 = 0 := by
  refine ⟨?_, ?_, ?_⟩
  · clear h8
    omega
  · clear h8
    omega
  · clear h
    omega
theorem mul_bd {k V L : Int} (hL : 0 ≤ L) (hk : V = L * k) (h0 : 0 < V) (h1 : V < L * 8) : 0 < k ∧ k < 8 := by
  constructor
  · refine Classical.byContradiction fun hn => ?_
    have := Int.mul_le_mul_of_nonneg_left (show k ≤ 0 by omega) hL
    rw [Int.mul_zero] at this
    omega
  · refine Classical.byContradiction fun hn => ?_
    have := Int.mul_le_mul_of_nonneg_left (show 8 ≤ k by omega) hL
    omega
theorem cl_not {V L k : Int} (hL : L % 8 = 5) (h0 : 0 ≤ L) (h1 : 0 < V) (h2 : V < L * 8) (h3 : V % 8 = 0) : ¬ V = L * k := fun hk => by
  obtain ⟨hk0, hk8⟩ := mul_bd h0 hk h1 h2
  rcases (show k = 1 ∨ k = 2 ∨ k = 3 ∨ k = 4 ∨ k = 5 ∨ k = 6 ∨ k = 7 by omega) with rfl | rfl | rfl | rfl | rfl | rfl | rfl <;> omega
theorem Lm_8 : Lm % 8 = 5 ∧ 0 ≤ Lm ∧ 57896044618658097711785492504343953926634992332820282019728792003956564819968 ≤ Lm * 8 ∧ (0 : Int) < 28948022309329048855892746252171976963317496166410141009864396001978282409984 := by decide +kernel
theorem p31 : (256 : Int) ^ 31 = 452312848583266388373324160190187140051835877600158453279131187530910662656 := by decide +kernel
theorem p32 : (256 : Int) ^ 32 = 115792089237316195423570985008687907853269984665640564039457584007913129639936 := by decide +kernel
theorem cl_0 (s : ByteArray) : bt (clS s) 0 % 8 = 0 := by
  have b0 := bt_bd s 0
  have h0 := (cl_bits b0.1 b0.2).1
  rw [bt_cl s (by decide)]
  unfold clF upd
  rw [if_neg (by decide), if_pos rfl]
  exact h0
theorem cl_31 (s : ByteArray) : 64 ≤ bt (clS s) 31 ∧ bt (clS s) 31 < 128 := by
  have b31 := bt_bd s 31
  have h1 := (cl_bits b31.1 b31.2).2
  rw [bt_cl s (by decide)]
  unfold clF upd
  rw [if_pos rfl]
  exact h1
theorem cl_nd (s : ByteArray) : ¬ Lm ∣ bv (clS s) 32 := by
  have h0 := cl_0 s
  have h1 := cl_31 s
  have a0 := bv_at (clS s) (j := 0) (m := 32) (by decide)
  have a31 := bv_at (clS s) (j := 31) (m := 32) (by decide)
  have hb := bv_bd (clS s) 32
  rw [Int.pow_zero, Int.ediv_one] at a0
  rw [p31] at a31
  rw [p32] at hb
  rw [← a0] at h0
  rw [← a31] at h1
  have hV := cl_alg hb.1 hb.2 h1 h0
  rintro ⟨k, hk⟩
  exact cl_not Lm_8.1 Lm_8.2.1 (Int.lt_of_lt_of_le Lm_8.2.2.2 hV.1) (Int.lt_of_lt_of_le hV.2.1 Lm_8.2.2.1) hV.2.2 hk
end Ord

end Go.Proofs.YtmhfmhmpoobmlaaGreatDoor

/- Both verify the same; what is signed is verified; what is not. -/
namespace Go.Proofs.YtmhfmhmpoobmlaaGreatDoor.Sha
open Go.RowKit

theorem pb_pt (a : Int) (ha : 0 ≤ a ∧ a < Ord.Lm) : pb a = ptS (baseQ.mul a.toNat) := (base_rep.mul ha).bytes
theorem sg_size (k s : ByteArray) : (sg k s).size = 64 := by
  unfold sg
  rw [ByteArray.size_append, pb_size _ (rn_bd _ _), Ord.leb_size]
theorem ex_l (a b : ByteArray) (n : Nat) (h : a.size = n) : (a ++ b).extract 0 n = a := by
  rw [← h]
  exact ByteArray.extract_append_eq_left rfl
theorem ex_r (a b : ByteArray) (n m : Nat) (h : a.size = n) (hm : (a ++ b).size = m) : (a ++ b).extract n m = b := by
  rw [← h, ← hm, ByteArray.size_append]
  exact ByteArray.extract_append_eq_right rfl rfl
theorem sg_l (k s : ByteArray) : (sg k s).extract 0 32 = pb (rn k s) := ex_l _ _ _ (pb_size _ (rn_bd _ _))
theorem sg_r (k s : ByteArray) : (sg k s).extract 32 (sg k s).size = Ord.lebytes (xn k s) := ex_r _ _ _ _ (pb_size _ (rn_bd _ _)) rfl
theorem an_nd (k : ByteArray) : ¬ oN ∣ (an k).toNat := fun h => by
  have hb := an_bd k
  have e : an k = Ord.bv (Ord.clS ((ofV k).extract 0 32)) 32 % Ord.Lm := by
    unfold an
    show (if _ then _ else _) = _
    rw [if_pos (.inl (Ord.clS_size _))]
    unfold Ord.ofN
    rw [Ord.clS_size]
  have h2 := Nat.eq_zero_of_dvd_of_lt h (by have := oN_Lm; omega)
  exact Ord.cl_nd ((ofV k).extract 0 32) (Int.dvd_of_emod_eq_zero (by rw [← e]; omega))
theorem oct_mul (n : Nat) : (((baseQ.mul n).add (baseQ.mul n)).add ((baseQ.mul n).add (baseQ.mul n))).add (((baseQ.mul n).add (baseQ.mul n)).add ((baseQ.mul n).add (baseQ.mul n))) = baseQ.mul (8 * n) := by
  rw [← mul_add', ← mul_add', ← mul_add']
  congr 1
  omega
theorem an_big (k : ByteArray) : smallV (decP (pb (an k))) = false := by
  have hc : decC (pb (an k)) = 0 := by rw [pb_pt _ (an_bd k)]; exact enc_c _
  have hs := (dec_both hc).1.small
  have hq : decQ (pb (an k)) = baseQ.mul (an k).toNat := by rw [pb_pt _ (an_bd k)]; exact enc_q _
  rw [hq, oct_mul] at hs
  cases h : smallV (decP (pb (an k)))
  · rfl
  · rcases isO_mul (ord_dvd (hs.1 h)) with h8 | h8
    · exact absurd h8 (by decide)
    · exact absurd h8 (an_nd k)
theorem of_leb {x : Int} (h : 0 ≤ x ∧ x < Ord.Lm) : Go.Proofs.YtmhfmhmpoobmlaaGreatDoor.ofV (Ord.lebytes x) = x := by
  show (if _ then _ else _) = _
  rw [if_pos (.inl (Ord.leb_size x))]
  unfold Ord.ofN
  rw [Ord.leb_size, Ord.leb_bv h, Int.emod_eq_of_lt h.1 h.2]
theorem xn_bd (k s : ByteArray) : 0 ≤ xn k s ∧ xn k s < Ord.Lm := lmod _
/-- What a signature's number makes of the base point. -/
theorem xn_pt (k s : ByteArray) : baseQ.mul (xn k s).toNat = (baseQ.mul (rn k s).toNat).add ((baseQ.mul (an k).toNat).mul (kn (pb (rn k s)) (pb (an k)) s).toNat) := by
  unfold xn
  rw [l_add (rn_bd k s).1 (lmod _).1, l_mul (kn_bd _ _ _).1 (an_bd k).1, mul_swap]
/-- With any text a signature is verified just where the equation holds. -/
theorem vfy_sg (k s t : ByteArray) : vfy (pb (an k)) t (sg k s) = true ↔ (baseQ.mul (an k).toNat).mul (kn (pb (rn k s)) (pb (an k)) s).toNat = (baseQ.mul (an k).toNat).mul (kn (pb (rn k s)) (pb (an k)) t).toNat := by
  have ha : decC (pb (an k)) = 0 := by rw [pb_pt _ (an_bd k)]; exact enc_c _
  have qa : decQ (pb (an k)) = baseQ.mul (an k).toNat := by rw [pb_pt _ (an_bd k)]; exact enc_q _
  have hr : decC (pb (rn k s)) = 0 := by rw [pb_pt _ (rn_bd k s)]; exact enc_c _
  have qr : decQ (pb (rn k s)) = baseQ.mul (rn k s).toNat := by rw [pb_pt _ (rn_bd k s)]; exact enc_q _
  unfold vfy
  rw [sg_l, sg_r, if_pos ⟨sg_size k s, ha, an_big k, hr, by rw [Ord.leb_bv (xn_bd k s)]; exact (xn_bd k s).2⟩, of_leb (xn_bd k s)]
  have h1 := base_rep.mul (xn_bd k s)
  rw [xn_pt] at h1
  have h2 := (dec_both hr).1.add ((dec_both ha).1.mul (kn_bd (pb (rn k s)) (pb (an k)) t))
  rw [qr, qa] at h2
  rw [h1.same h2]
  constructor
  · intro h
    have h3 := congrArg (fun Q => (baseQ.mul (rn k s).toNat).neg.add Q) h
    rw [← add_assoc', ← add_assoc', add_comm' (baseQ.mul (rn k s).toNat).neg, add_neg', add_comm' zeroP, add_zero', add_comm' zeroP, add_zero'] at h3
    exact h3
  · intro h
    rw [h]
/-- What is signed is verified. -/
theorem vfy_back (k s : ByteArray) : vfy (pb (an k)) s (sg k s) = true := (vfy_sg k s s).2 rfl
theorem mul_inj {a m n : Nat} (ha : ¬ oN ∣ a) (h : (baseQ.mul a).mul m = (baseQ.mul a).mul n) (hm : m < oN) (hn : n < oN) : m = n := by
  have key : ∀ m n : Nat, m ≤ n → n < oN → (baseQ.mul a).mul m = (baseQ.mul a).mul n → m = n := fun m n hmn hn h => by
    have e : (baseQ.mul a).mul n = ((baseQ.mul a).mul m).add ((baseQ.mul a).mul (n - m)) := by
      rw [← mul_add']
      congr 1
      omega
    rw [e] at h
    have h3 := congrArg (fun Q => ((baseQ.mul a).mul m).neg.add Q) h
    rw [← add_assoc', add_comm' ((baseQ.mul a).mul m).neg, add_neg', add_comm' zeroP, add_zero', ← mul_mul'] at h3
    rcases isO_mul (ord_dvd h3.symm) with h4 | h4
    · exact absurd h4 ha
    · have := Nat.eq_zero_of_dvd_of_lt h4 (by omega)
      omega
  rcases Nat.le_total m n with h1 | h1
  · exact key m n h1 hn h
  · exact (key n m h1 hm h.symm).symm
theorem vfy_no (k s t : ByteArray) (h : kn (pb (rn k s)) (pb (an k)) s ≠ kn (pb (rn k s)) (pb (an k)) t) : vfy (pb (an k)) t (sg k s) = false := by
  cases hv : vfy (pb (an k)) t (sg k s)
  · rfl
  · have h1 := kn_bd (pb (rn k s)) (pb (an k)) s
    have h2 := kn_bd (pb (rn k s)) (pb (an k)) t
    have hL := oN_Lm
    have h3 := mul_inj (an_nd k) ((vfy_sg k s t).1 hv) (by omega) (by omega)
    exact absurd (by omega) h
theorem vfy_size {p s x : ByteArray} (h : x.size ≠ 64) : vfy p s x = false := by
  unfold vfy
  rw [if_neg fun c => h c.1]

end Go.Proofs.YtmhfmhmpoobmlaaGreatDoor.Sha

/- A secret of bytes 0, its signature of a text, and that it is no other text's: by certificates. -/
namespace Go.Proofs.YtmhfmhmpoobmlaaGreatDoor.Sha
open Go.RowKit

/-- The states of a digest, by the two words that are new in each. -/
def mkS (a e : List Int) : List (List Int) := (List.range 81).map fun j => [a.getD (j + 3) 0, a.getD (j + 2) 0, a.getD (j + 1) 0, a.getD j 0, e.getD (j + 3) 0, e.getD (j + 2) 0, e.getD (j + 1) 0, e.getD j 0]
def padL (n : Nat) : List Int := [128] ++ List.replicate ((239 - ((n : Int) % 128).toNat) % 128) 0 ++ hI (r2 (sr n 61) (sl n 3)) 2
theorem dig_cert (s : ByteArray) (n : Nat) (hn : s.size = n) (h : n < 112) (l W a e out : List Int) (hl : sb s = l) (h1 : chk1 (l ++ padL n) W = true) (h2 : chkW W = true) (h3 : chkS W (mkS a e) = true) (h0 : ∀ i, i < 8 → HB i = lf ((mkS a e).getD 0 []) i) (ho : hI (fun i => ua (HB i) (lf ((mkS a e).getD 80 []) i)) 8 = out) : ofV s = bs out := by
  have e1 : sb s ++ sb (padS n) = l ++ padL n := by rw [hl, pad_sb]; rfl
  unfold ofV sumV
  rw [sum_one s n hn h _ e1, hI_congr 8 (mix_cert (lf (l ++ padL n)) (l ++ padL n) W (mkS a e) (fun _ _ => rfl) h1 h2 h3 h0), ho]
def zB (n : Nat) : ByteArray := bs ((List.range n).map fun _ => 0)
theorem zB_size (n : Nat) : (zB n).size = n := by
  unfold zB
  rw [bs_size]
  simp
theorem z_nn (n : Nat) : ∀ x ∈ (List.range n).map fun _ => (0 : Int), 0 ≤ x ∧ x < 256 := fun x hx => by
  obtain ⟨i, _, rfl⟩ := List.mem_map.1 hx
  decide
theorem sb_av (n : Nat) (F : Nat → Int) (T : TypeId) : SB (.cells (av n (w8 F)) T) n (vs8 ((List.range n).map F)) := ⟨_, T, (0, 0), rfl, by simp [vs8], by rw [av_size]; exact Nat.le_refl _, fun i hi => by
  simp [vs8] at hi
  simp [vs8, av, w8, hi], fun i _ => by simp⟩
def inB (l : List Int) : Bool := l.all fun x => decide (0 ≤ x) && decide (x < 256)
theorem sb_lit (l : List Int) (h : inB l = true) : sb (bs l) = l := sb_bs l fun x hx => by
  have h2 := List.all_eq_true.1 h x hx
  simpa using h2
theorem bs_app (l m : List Int) : bs l ++ bs m = bs (l ++ m) := by
  apply ByteArray.ext
  simp [bs]
theorem ext_bs (l : List Int) (i j : Nat) : (bs l).extract i j = bs ((l.take j).drop i) := by
  apply ByteArray.ext
  rw [ByteArray.data_extract]
  unfold bs
  rw [← Array.toList_inj]
  simp [List.map_take, List.map_drop, List.drop_take]
def tT : ByteArray := ⟨#[116, 101, 120, 116]⟩
def tU : ByteArray := ⟨#[116, 101, 120, 84]⟩
def tS : ByteArray := ⟨#[115, 104, 111, 114, 116]⟩
theorem tT_bs : tT = bs [116, 101, 120, 116] := by decide +kernel
theorem tU_bs : tU = bs [116, 101, 120, 84] := by decide +kernel
def dW0 : List Int := [0, 0, 0, 0, 9223372036854775808, 0, 0, 0, 0, 0, 0, 0, 0, 0, 0, 256, 0, 9007199254743044, 0, 4719772426664165376, 9223372036854775808, 361985685131002114, 144132780261900548, 8648063572759674900, 1173187702963572776, 126768607751657609, 13944307785744826688, 2667488058145767452, 2023559755096263684, 3076264096972779889, 1827872124046622896, 8310353164642315215, 12136906272933825081, 15545001212044488457, 14814700502097700868, 12285100419639919475, 9670082501097730335, 5518604699939968887, 9476093506087548489, 9796596215299450625, 5958344982377384288, 12265343076877762427, 12165219924428479518, 1325243823695169124, 11281310535319608749, 1034882804047488912, 1535714187706151253, 649279741799497956, 17459309777971477598, 5500650830056389434, 16562679484493522125, 13945535446963880796, 15567785657537865457, 14580602548817413697, 8635629319549429025, 14777824508854947588, 16911204817919595455, 13700561142527922852, 2574132088199195008, 10308614111758391576, 10852703017310842740, 16082347588028971208, 2184371991873687222, 12033888635545163341, 10419660119830469926, 8585216435925201857, 14386434745505789993, 7139669067458878980, 16562904965169700491, 18303181280394127650, 7589255923654424011, 10370349966052406001, 9383377643078173111, 7113417478183963821, 9287236787583809989, 7025827219752386637, 2720506219950445715, 11463598587821378836, 11074598858778813994, 3215546073741905920]
def dA0 : List Int := [11912009170470909681, 4354685564936845355, 13503953896175478587, 7640891576956012808, 10758372976291012085, 11115036946241619673, 4126266364255868068, 5343641584730768695, 11168902456601489605, 1302396440103629798, 15200776334310210592, 17208046804368280137, 8492703388701907715, 7755397839558790253, 7030135620985194732, 2312015059832132880, 16523165081541911161, 5830777752747395166, 10783373218667509365, 4479050482935558316, 11702245667014225582, 3280029084718757303, 7259474283948259824, 12603740802078081619, 1537361645710774433, 2396587261501461511, 15578081726648313859, 5464896530425090686, 8079588423635971269, 8590249264134269809, 7463697391145966002, 3706265178671430226, 3525803993081217942, 7047087411074569085, 5664254687711525247, 14726941729103868001, 7020929409684525903, 8461667706126069220, 379464524265310633, 15549802313875602274, 17263284987263657958, 14638953785217629854, 18014955160550453689, 6109844019387451280, 3934753730757518807, 11221941365251729549, 12170060852399267806, 15552401992348485791, 7917789096369028140, 5980717885382567603, 2164993625293247554, 6484337866056519823, 4514939707137230467, 15645523297110002428, 16447334635902428014, 17023595609519142724, 6401030026082633268, 14333128423172872232, 2340657871528695503, 17181778841757954467, 8316550594923792609, 16525350475053332148, 16732118037317178048, 10477334923476079977, 1675981542843284747, 18002758202473554379, 18349958183428923895, 14263519478537648808, 2518871767924734864, 10167427158072057591, 6453938761489340098, 15156157019208777747, 17406653508796741912, 1570791217848826313, 14488324544568235627, 13060178779355539256, 18328841029446720343, 18170168180967726918, 3931110873737423470, 5567541349902180190, 5776266022435338917, 2037463206167937637, 13818184367001344771, 16590354316283047806]
def dE0 : List Int := [6620516959819538809, 2270897969802886507, 11170449401992604703, 5840696475078001361, 17827673622936100753, 9932265545342369336, 4897852136903073097, 16523341605267860574, 627079433320757529, 14806635048689895951, 15174314027989733557, 9272832003298536862, 16034440948875958624, 13502761422932650927, 2096611521171684090, 13672406949288936619, 16941445236327295330, 18281535139762694881, 2421145553396808227, 851941326718768001, 17300981003431507799, 16714166088777974375, 7521305024183279694, 2439087024015677111, 3061020130476478910, 18327999007697665139, 5182447908206143290, 4489227580986569443, 963291311694375013, 8078194955157153449, 10553505094661485635, 10628536666645987242, 13287781554297122783, 13566656608276548562, 13874964982419472308, 5173953181071844509, 5615751895262237939, 4941752670844118600, 16203679033354392874, 14712077907107959277, 16337914719854201846, 6531442153746177128, 14194663295104695616, 4534933068400390657, 7262160739443047838, 5752790583666708941, 4863095209128836662, 8352703515361797755, 337867160903401868, 10992113497116646001, 16909216741560437109, 11893120751304626942, 1125160240832120182, 3626739556018553871, 14023129358220355687, 11177193476556092421, 15308037697050920686, 15298117696424949212, 6818534125984460103, 15841754175645970547, 5658120392235887474, 15136793916924334787, 3774921253118411700, 4564036060695640955, 825740300549928085, 4891636288461320038, 12384616198518925361, 3806274531594431357, 10885499170187179968, 14923328952548945946, 7469784290968133967, 14829823243297303650, 2125308069535244253, 8272582750246839156, 10039812137888914178, 8486314926255750478, 6817047941946052733, 1142590970254049387, 6248892937991631189, 3003314452009162791, 2551491534185647194, 16194014959973738944, 11114007369083713373, 13356607129400399863]
def dO0 : List Int := [80, 70, 173, 193, 219, 168, 56, 134, 123, 43, 187, 253, 208, 195, 66, 62, 88, 181, 121, 112, 181, 38, 122, 144, 245, 121, 96, 146, 74, 135, 241, 150, 10, 106, 133, 234, 166, 66, 218, 200, 53, 66, 75, 93, 124, 141, 99, 124, 0, 64, 140, 122, 115, 218, 103, 43, 127, 73, 133, 33, 66, 11, 109, 211]
def dW1 : List Int := [750559530768849608, 3837712697366766460, 18168856067073835, 9172008494005186003, 8387242322806439936, 0, 0, 0, 0, 0, 0, 0, 0, 0, 0, 288, 8172178851288711395, 16178850739266177468, 13184329770222612898, 10987296798125727252, 18416343984124410788, 9400903734819522590, 10958711670980846797, 5920321529425694664, 6257621101859338660, 14479121345185470063, 5858713978585951938, 10233119413801548922, 8171379153922904460, 13097327218590637353, 5974510115659034577, 1830976645559501713, 3150478362048407237, 7912051182054136982, 15583877852681308480, 17940814351173241182, 9544907037481446283, 14060173647201376905, 1743797302923894886, 438570371368955896, 1493942602807139738, 2369428513030719986, 13049851311102140571, 16523007612248596867, 16490534170042785258, 1460151693016687844, 5016664017083791087, 2132067666984261489, 3470400670908062526, 1612117446509641615, 8355501289967693788, 855730398845792876, 7932689595244161440, 3770547529632113482, 14196430168108636798, 14178703362395727667, 1545238845582394963, 3385671332616731359, 2636178310056486317, 8405715174811049342, 1717589454276026018, 12506133091993017727, 4579421329283004491, 13743187758681813310, 1069788162326311876, 16822374551475858656, 12902488593343955805, 14483897662821333909, 5686833033852663320, 13118865488958974168, 17623073699472541017, 18222895667829772336, 10297663202582650427, 4036058505827753004, 2386630437937518415, 9284280203590407112, 5813298476710950554, 14798853600712335378, 13260629003527045316, 9032228332966153704]
def dA1 : List Int := [11912009170470909681, 4354685564936845355, 13503953896175478587, 7640891576956012808, 11508932507059861693, 2485968504658123344, 13795627049530891592, 8933270148465558266, 3677496828665251651, 16180658513941775127, 913493271653264818, 6088806482001140886, 3694041135436908960, 16449905076575344752, 3198448970197690439, 222585616160904028, 11806280291936876030, 9472125922349782405, 7138003036830236781, 14576027401778885042, 4025112601888218293, 14665030710716333400, 9217477186169321899, 6023854871475250099, 8382673204331128315, 9725517616045794501, 8095769217896102550, 13260007253169683927, 13421802344753348375, 14634374187685782859, 3238143521409065136, 7549915692690587426, 13079037423271549923, 12866750314188626887, 4744268138694035816, 3878866690212675224, 3386724500869090544, 16099205014449260054, 4042601185012038071, 105813442604283125, 892390799560201824, 2956511827842573616, 16681902216022728139, 17030163194248075928, 12993302880718919321, 7341403289522778364, 13230310803140874705, 12171666974091493079, 1148156909440427766, 13485943602022384049, 2462162172890278646, 15457724930134297927, 10443028509412403846, 14256134067945972347, 6814834653708086541, 17270837350601205199, 6258265003732552065, 18137250000899315728, 6473350300803361507, 13193608044636355330, 13440833212137077247, 11689617399649537125, 14845223922247509528, 4477315858103338447, 17618481935032611439, 16785929029491407669, 750930483617312208, 5878218512426417029, 230259317424175943, 16445893357836147040, 2204500015214757485, 4552418460753484857, 10282195699036152035, 9519381492918177327, 17138792811835949375, 10317094583881139525, 15444557032910964426, 7456891514089023622, 9050345554638793915, 17717422163960017991, 11145616313259798721, 9475505157884729449, 8675975349195063296, 2218876695761766101]
def dE1 : List Int := [6620516959819538809, 2270897969802886507, 11170449401992604703, 5840696475078001361, 131489079995398745, 17714031664895469478, 2068901488057841030, 5612410083633048772, 1313423988650093691, 17119283879505488976, 7128281017916416237, 1789204086299542087, 3106299597292299572, 1759816037332660314, 2273659157830026366, 1509186575950109835, 3138134987294150338, 2078872368395177106, 16363492710675005431, 7511821647375400637, 3895617391163820536, 10914916360019848266, 4752168186128982352, 6941948488666372246, 7924770300840023952, 5160135992509061069, 2556427345673687954, 9740003933504438334, 17409185867272108115, 5423096667458516908, 6835485195569643871, 17696665424862153965, 16949059204422308232, 2258691150005735997, 12569980463578388954, 16960752442937122163, 4549457123282242205, 7293896271872514223, 15737069644432964163, 11485889962932922902, 14735803136337597891, 10274305564659753113, 4680241863248496707, 14670790558273657512, 12481936378279264231, 12347791603210778517, 12707455595303293120, 2714208641846409840, 12262041166004546302, 15740932826187549512, 3489873071951662570, 9445671440789795275, 9820517498956019389, 17354040143566523126, 13997861240547146167, 5475534566674783370, 9688617381776463442, 5089143684887241249, 6691940850278896842, 6403996106497527302, 18338200328851803314, 9780356908517485463, 3476642940042084872, 143679585358061499, 17871143141204514293, 18350653981875091856, 13209325275850049379, 10708617274183462686, 7326645549770779657, 8514076024522161122, 12207081989503688487, 12867747532049971297, 14457449396555349577, 1414371170206481213, 9750868645339384955, 9455404865551153424, 11318957645020546395, 9989313826737892405, 11539731483082991512, 1832905535542646647, 6580079469259499305, 1351848391722487308, 7144074614551603289, 7879823713545200561]
def dO1 : List Int := [136, 212, 239, 1, 55, 2, 143, 221, 51, 206, 240, 34, 101, 155, 231, 59, 191, 238, 181, 47, 217, 174, 208, 148, 63, 253, 36, 54, 129, 195, 103, 178, 190, 105, 20, 106, 200, 118, 38, 130, 254, 42, 66, 142, 252, 122, 84, 120, 50, 70, 148, 159, 38, 15, 11, 119, 183, 49, 240, 131, 50, 139, 200, 162]
def dW2 : List Int := [1061375085944885014, 8962854425434791289, 2096582599789853497, 9493603814270147272, 4281278087644488749, 7107710248939359603, 7291914348012913574, 4233463508393122345, 8387242322806439936, 0, 0, 0, 0, 0, 0, 544, 15451955703711957425, 3770044562995775826, 9685513759305246742, 14424142897325846254, 12877485147779564064, 14876985546682175593, 5809753849601377141, 3348548711230495670, 9576453025997545835, 9112534128947430262, 8159006097699877614, 9573772924868587631, 919700137341466741, 11211960032692431697, 2278626137085429718, 8353162846312811798, 16274156623772678284, 8167609344852865244, 15632686164508171501, 9985784634144432540, 3253020748801195005, 17182251635315239315, 3800722863122730288, 7378927798861208331, 4358658332646792694, 5708310891908587134, 17391212975070582081, 11007854578713882203, 312221516364701818, 2593301231766389421, 12979469813727899090, 3848520303274239710, 13526939020304516208, 5913011296789468363, 9959266933957128027, 14877778463938363409, 4944520871377739637, 3859275513276274818, 4093826686130986174, 18035762733989840301, 7911697594579201526, 10029796676269983335, 5832508780888983123, 644121929973677656, 8970952685645387217, 8576412984293869508, 3173414298750073550, 13856971081781531848, 11642962061261558797, 11420220916200484565, 10321277303028983905, 7403851260628676033, 15209357521571339367, 402881760643910681, 5376310730055965768, 14511602807649952020, 17117755851008708372, 8796288969695731646, 16301172166003379198, 5640777829911622998, 3201615938461026063, 2875110930423677747, 15706094572397764478, 7624440773703310456]
def dA2 : List Int := [11912009170470909681, 4354685564936845355, 13503953896175478587, 7640891576956012808, 11819748062235897099, 16151555680418539432, 10394253696933487311, 7155433546836398814, 4229902945461707296, 14884004554638493832, 8139770155474714445, 14159633049619928036, 13752802279893305276, 10949975289873978485, 17102859924910068341, 6939421022419485493, 17843873034539818132, 2141581752228421223, 18122768491617616635, 5871285599956406059, 6442012895931083254, 17459682329210730187, 14416787823864646686, 12357946353579660917, 7979464018922345483, 816232602733770610, 12567150284860538219, 13729232240523847038, 14661802527642093415, 5815614520473492203, 13267730975076536116, 5204086754341393179, 9166073808691742033, 1114754615496918196, 9798515189588874936, 9521675085159291906, 4306030347007166009, 12313616437555582990, 622769449857781684, 11376838135265718533, 10199352811237423831, 16251161775362815386, 14835451326250579144, 12412626723739287703, 1295708257339917804, 14885160837487369779, 3304282766066289870, 5937414204096533968, 11395797332077982415, 3138653988208723229, 7896264629704586312, 10862053724962245927, 13456415840821714966, 8029032273062311885, 12476721526878413227, 6314165584518203430, 18223938745760363771, 1819728140135098795, 17640513952060738377, 3943500419580950078, 9888451423859334520, 3421057622628710152, 4994499358104009364, 7875153642333838562, 5093832102024545072, 17364977025802231213, 7358679855208323241, 17948142587425290331, 18112346348455479629, 1318073656862098533, 11258641043630766480, 5767884394108451677, 5422203520344791297, 13231861111709455232, 8692506035654099939, 11897145183917172558, 7964165189274877848, 18317510825018644714, 7077023537704663264, 13554564832986107460, 3718409537964967790, 2060178945327746497, 10970092128816514317, 15362366162194017638]
def dE2 : List Int := [6620516959819538809, 2270897969802886507, 11170449401992604703, 5840696475078001361, 442304635171434151, 13824354291137608391, 13241470826530358481, 2754157355313106364, 17738773726599369512, 12167557307115348636, 8552999243079667751, 6621820700729777153, 7852581412916549588, 10939575284274576058, 6767259689710407044, 8871923788239204271, 10285199582214033796, 5556983381356326800, 8240551237054724005, 14194521245485340342, 15877166490987511741, 17071964056233434191, 13573618516442651552, 13156382703648731012, 6796463153489101626, 1129764626145202087, 11949252057775477074, 6775749068229062212, 12879835600521099185, 17769926957082946086, 554670266929231589, 8859088032501972199, 2690740108585592096, 6772301292721016413, 13111367713622376733, 17365967237478150592, 14975353448395395423, 15857069523098421569, 13665910321775578924, 12437577194939846261, 4033788911418858300, 16204252402408257066, 14487090714288511312, 507173542781974416, 3980046397085386198, 6982774973798232892, 15974058508848649826, 11265684424803435371, 1469652674133000104, 14997607002171569558, 13196412330682862148, 2081603446940983626, 15445222681667223098, 8044580629691905836, 1731559691902133964, 13938542477486764083, 7344466729329498591, 7341879236933996508, 5633945776599340595, 11054888815365105657, 218467120496881575, 6736439154693709376, 8969992685104227264, 9520141218929215780, 17296642631449144165, 5909295615453031327, 15220896187268698865, 9332447632199963037, 11101885902252485736, 4807620529817669687, 2191263950138269640, 7652525901995881618, 11015567418840493662, 8932887532414227989, 14742993958055650973, 1832040252023722282, 5227968814193245463, 2282385426402348708, 5596824697008311861, 8985207433732196768, 4896423930507118206, 8344737747902227284, 17408648228424823121, 5029999270981230254]
def dO2 : List Int := [63, 59, 253, 9, 138, 202, 246, 110, 83, 165, 71, 48, 208, 53, 108, 72, 89, 6, 45, 72, 224, 148, 197, 236, 216, 234, 103, 0, 118, 240, 190, 95, 150, 220, 120, 47, 133, 53, 225, 127, 140, 157, 89, 224, 86, 61, 29, 112, 147, 82, 80, 112, 242, 195, 32, 191, 159, 212, 100, 184, 107, 23, 103, 247]
def dW3 : List Int := [1061375085944885014, 8962854425434791289, 2096582599789853497, 9493603814270147272, 4281278087644488749, 7107710248939359603, 7291914348012913574, 4233463508393122345, 8387242185367486464, 0, 0, 0, 0, 0, 0, 544, 15451955703711957425, 3770044562995775826, 9685513759305246742, 14424142897325846254, 12877485147779564064, 14876985546682175593, 5809753849601377141, 3348548641974148022, 9576452888558592363, 9112533575961347958, 8159002805608231662, 14221492035393224849, 10143116120200943735, 6521417594068430382, 2709403865959351594, 17929745441822200044, 17463093141708846608, 8768410598392644974, 18362978321477198055, 16263499547604005843, 9652243303418640601, 725644484080966583, 17677793166259093674, 6745985365967446633, 2427628068183313710, 2101459008363995401, 9400716526008298537, 8745891457078857275, 8557397041752122106, 12922675811361663676, 2892634237036435909, 14982479179480682276, 13014857484317635913, 6577086493430148439, 18139464636393613657, 14546986046748650788, 4506073704700339574, 14228504077752385922, 323471687797638344, 9332313304567114646, 5191560766112541309, 17730779380972743539, 6307880904622091352, 6348211000245163983, 15653487579414027513, 3211213564672053899, 17106630307796105985, 68194622573744689, 6115616099911544248, 10266908942118492617, 6313036308938602645, 6845864049120004308, 6322592694371389129, 3277644403132605944, 731751628565578638, 11542388448653569884, 1224560044497517114, 17223914741485144394, 13502011348314031744, 9184390715644401849, 11327258695581973009, 18339774981777740299, 7759965921742668754, 155479745019079246]
def dA3 : List Int := [11912009170470909681, 4354685564936845355, 13503953896175478587, 7640891576956012808, 11819748062235897099, 16151555680418539432, 10394253696933487311, 7155433546836398814, 4229902945461707296, 14884004554638493832, 8139770155474714445, 14159633049619928036, 13752802142454351804, 14408739803685607021, 16485014787096269871, 16898101988506200237, 7906096277351864111, 17631723371256839336, 16686195948879928668, 5703489369544800287, 17242597617869572156, 16796736308162553049, 9124706130717387555, 9988662057487405083, 644630239305564233, 7894022562025039016, 6524009830198284797, 1100584238051260679, 15974785270483929133, 13379394266603727518, 6942254880541148655, 14609586023984334478, 715230724836352541, 15523166568318225165, 341800375650359396, 17144567918288097225, 5346578057721364610, 3904444790399789481, 3436196906245823497, 12542346814255462060, 5336453675642264777, 13655627392767652620, 10469691347729909347, 1053092061061351359, 17881941401221620267, 14230124083608955052, 10166836073332497511, 6248452867624646814, 18316842080797807099, 3573558488074307926, 12412792152559313725, 9850736473209679201, 12996052979106343125, 17493252627081462937, 16968925595325379396, 4138896457918115581, 16637859030597078371, 10685002844687374975, 640692967391177156, 65393898012535390, 4947730610947563733, 8970425833629793069, 17792301489125571242, 8563084393465623705, 5525859710010300625, 11938339612223083966, 12761466662855291642, 5788802156700535244, 35393722218809996, 12934190737788530211, 13927894605733970949, 803300803490742235, 11555290177936464621, 9517652992250756552, 12344387902887427911, 18411896444989626644, 15192522102296539793, 7694054272156290278, 4586639212035875513, 57317858650624854, 1301146494819736074, 6293474810963760923, 13910556951414383766, 3024999367685350318]
def dE3 : List Int := [6620516959819538809, 2270897969802886507, 11170449401992604703, 5840696475078001361, 442304635171434151, 13824354291137608391, 13241470826530358481, 2754157355313106364, 17738773726599369512, 12167557307115348636, 8552999243079667751, 6621820700729777153, 7852581275477596116, 9786653917097769658, 9073111495017647942, 4586761802735808407, 6870185830195784356, 3363090170688373276, 3318649698079613528, 10699050258774565840, 4274535598171862061, 15904644656834405198, 13243280149145647578, 3890193351594802931, 16398350265222754161, 16585628178090702401, 444950519954820974, 10187805757550173745, 182224245652086612, 10611264696071829268, 11752625631419276397, 17186340940429696437, 4125039750838410868, 5729780845680180438, 14854338879899207192, 4484495253782600046, 11723167065951430761, 12564274850615121900, 8007321440180663825, 9476221327068297441, 15997118188571380292, 1000608377186541264, 3646558800440885452, 5005807230693537979, 295992338414518817, 3070284384162279042, 4551697410524531776, 17578841945101399603, 14620679240484372300, 12101131320438948484, 11456301850294047519, 16452531256957360453, 10501533870278835162, 9658387937469133028, 13428084108354652240, 9146652764768194622, 4742500834159221887, 4477698070633057715, 7426025748233721929, 13203408896490464904, 7548524778542240208, 12578085736257741944, 576360259453401538, 8071001469492759658, 9309185796121634165, 5452229052842093010, 15514600490476349411, 9286679948244322882, 14532062676321499341, 4935517169949181566, 12640128975082204365, 6717253458273663220, 9301690299329693672, 16949913218511940237, 2593992346527918268, 9530294456624744050, 8564258178984243075, 6087309716216556579, 2869802681471755266, 13720851753828334021, 10361202291506523741, 6865449765972880303, 1588088050676476889, 18263525096835716446]
def dO3 : List Int := [148, 4, 219, 77, 200, 103, 108, 182, 124, 115, 232, 94, 25, 175, 203, 209, 147, 197, 221, 114, 12, 242, 15, 70, 183, 94, 143, 18, 63, 150, 208, 251, 78, 131, 101, 207, 93, 57, 152, 47, 177, 15, 110, 55, 47, 219, 151, 248, 126, 202, 211, 219, 247, 91, 233, 26, 235, 171, 47, 175, 162, 179, 207, 214]
def bA : List Int := [59, 106, 39, 188, 206, 182, 164, 45, 98, 163, 168, 208, 42, 111, 13, 115, 101, 50, 21, 119, 29, 226, 67, 166, 58, 192, 72, 161, 139, 89, 218, 41]
def bR : List Int := [14, 186, 195, 4, 107, 49, 207, 22, 124, 98, 116, 156, 217, 148, 29, 121, 29, 24, 142, 196, 46, 189, 59, 57, 131, 192, 14, 94, 171, 221, 154, 200]
theorem d0 : ofV (zB 32) = bs dO0 := dig_cert _ 32 (zB_size 32) (by decide) _ dW0 dA0 dE0 dO0 (sb_lit _ (by decide +kernel)) (by decide +kernel) (by decide +kernel) (by decide +kernel) (lt8 (by decide +kernel)) (by decide +kernel)
theorem px0 : px (zB 32) = bs (dO0.drop 32) := by
  unfold px
  rw [d0, ext_bs]
  decide +kernel
theorem cl_lit (l : List Int) (n : Int) (h : (if (Ord.clS (bs l)).size = 32 ∨ (Ord.clS (bs l)).size = 64 then Ord.ofN (Ord.clS (bs l)) else 0) = n) : Go.Proofs.YtmhfmhmpoobmlaaGreatDoor.ofV (Ord.clS (bs l)) = n := h
def a0 : Int := 3140620980319341722849076354004524857726602937622481303882784251885505225391
def r0 : Int := 850196773666356309422339814893910971881761216279783485008188274366385375558
theorem an0 : an (zB 32) = a0 := by
  unfold an
  rw [d0, ext_bs]
  exact cl_lit _ _ (by decide +kernel)
theorem nm_lit {s : ByteArray} {l : List Int} {n : Int} (hs : ofV s = bs l) (h : (if (bs l).size = 32 ∨ (bs l).size = 64 then Ord.ofN (bs l) else 0) = n) : nm s = n := by
  unfold nm
  rw [hs]
  exact h
theorem rn0 : rn (zB 32) tT = r0 := by
  unfold rn
  rw [px0, tT_bs, bs_app]
  exact nm_lit (dig_cert _ 36 (by rw [bs_size]; decide +kernel) (by decide) _ dW1 dA1 dE1 dO1 (sb_lit _ (by decide +kernel)) (by decide +kernel) (by decide +kernel) (by decide +kernel) (lt8 (by decide +kernel)) (by decide +kernel)) (by decide +kernel)
theorem pb_lit (a : Int) (ha : 0 ≤ a ∧ a < Ord.Lm) (l : List (Nat × Nat × RQ)) (b : List Int) (h1 : chkR bQ l o0 = true) (h2 : endN l 0 = a.toNat) (h3 : rbytesV (endR l o0) = bs b) : pb a = bs b := by
  have h := chkR_rep bq_rep l o0 0 h1 rzero_rep
  rw [h2] at h
  rw [pb_pt a ha, ← h.bytes, h3]
def lA : List (Nat × Nat × RQ) := [(16, 56880, ⟨47392728051292193177083580817052938755782173421515646894732100005325660751328, 47844204888470565464643279308154396955609168832552175268794794333439109011694, 24724317601974467951278333864800771713261437337201843318302336295363995759258, 49804831257213985881188688573799260801400184722529961867661636063914394376649⟩), (16, 59730, ⟨19628539917617829881947485946208757443931716500951710483107856745918797846643, 48820407900691160906770605739894023460934929735179758483790272442950597565021, 22075353930332073000389849905632039986566884056907200651018461994716541073174, 11460725477243484969459976245430017215428440469336893560824970932331650696635⟩), (16, 19471, ⟨54557439740057032949653321963366506464541602055486961899631731163682148723945, 5977846545658396054689863199088847243899664945112148203770594641124808940565, 6168606372537675122623871218577656603795514155175898795383924011282277915725, 22658165331712641067399222604101008507035703213491271897744087187055459614317⟩), (16, 16050, ⟨9450548391774978413852136557242381735584467806408510998444435574282320969336, 899836676322368575762505067945977932187176087023879568838002085450398286752, 37081809733792652677309712293126996760876904430255381448613008329463715459950, 4826511071391252697063562666701602900962741883667340786048189148150952386178⟩), (16, 3908, ⟨34025200238398180430954591488631848166222041813749483913146087567793968755661, 54412617648431799624061065256674009292430909517730103400507914431597844713584, 27781992795025298745460557005747484090670000018868037877170504149134852840032, 27100050748903072047062318508333473803611285414330933662455334954565189705926⟩), (16, 54958, ⟨55025457646749056483197402645037264305270906054242710734501247642235718948777, 4321035622555295430339212552105317548911525126294368254940706431672338910693, 35381847789328792742417728020231588161707980374119790263545567796643066336017, 39233397480716268539761063502964932466642165378392749963430714391457308025181⟩), (16, 3894, ⟨44012771962847941464939628843827768258724424761234898208265821893814351486162, 19042562223482128704898739275093195421280368346264892107933992336133329855052, 23698529812789059738910629748645445503664673597210963816757234544769888360029, 15384540208663927395952119523002633444557842918479833723849657508712333162378⟩), (16, 43770, ⟨56478356704753972794565272681654111877458137107774545048200365820308332169157, 51010428512334185120250815358913471209260326297642019298940768956302741893664, 17960365438377791650575808626925678237078278606704498547033224091961665782067, 41721063780382465558943744288322785923400844515760242610758429144263304622712⟩), (16, 48380, ⟨27347716689446854169182852825020047941508149933708579010984865919403545552695, 22557595480205148056967919556811887345930260933013406941721664813056398062896, 24035123753468855738507841937220638170981026658181249825712856060421121901179, 23827220327967571863029954869214994207743714892725856120537572888792714775849⟩), (16, 20217, ⟨10193370639133454110311195361999699876438839247020612263725355403138532350802, 47955602500401445930924788001127113856352147328519835176150024042964970233542, 13314307006419048532448060776177150596076209037771313188574549353742434141557, 53697395709430983479079764260605121493076441728837084960871449431123238975003⟩), (16, 56483, ⟨25421200701498510629392498700314027157785621594014418781408023953781247809276, 37841362438890072982100826313096310942199084929230689956772017512060977853040, 38532835935103417736882682385981916973037510548405085828132252644451299407488, 56360603104842566298852031662338699633223329881626972468813007873045065127251⟩), (16, 27001, ⟨29320197877404866232624134929916225896873028551304934430687338038248470682597, 39178680489049501518117930646911491128988380680062699912538859094047277488764, 33804705289361027265031175209435198593462825209799813131507494187921965713211, 6823059690353581070586131902992798021358014804152819792384293479308262241504⟩), (16, 48023, ⟨18079006405160081566659875432906257129248808631794595322219385858901654059160, 34576369337824751514611510214586649783972041273806950230996539587109150901477, 6360067251576134178599230222646643574043062244739424013746345109205941799761, 28484422356085825007962995404544827576480742164310858019619101973762612745138⟩), (16, 11006, ⟨21052291749473979147879690357730490394575244488637001856096999852747181164487, 15666985391273032157223538097413242569816178802432398596218681166833847571502, 54398222935277895726073183334086360984127638164681405342914922107597068154167, 46383327002695206684037447535524549108549391084556568627958539373956159024024⟩), (16, 7172, ⟨56431617093571938640073530131727936812588212468180649964659213136606661003479, 19206575120452931953086585360272088220573899455680615442498251852784400414739, 37142079148138008372561311529447403963031715104055312599581726062147601960603, 36445320108719809231368378322266645351216915558282268905747130504681475075452⟩), (11, 687, ⟨1183871363344715955718359301896417905677143519762800882119939064613885064646, 29502265105688239593174763359614945266913032368490425000442479130546293978451, 47386510771999163702051059136061057788008919030098669850267459767202655350486, 16961729243169144679912222658793958887239554431336831198062027615852321443121⟩)]
def lR : List (Nat × Nat × RQ) := [(16, 61592, ⟨31632899903821935047414308256684270146848929500235195451948695756374086871868, 13536432406231425764009977654212357531181615854874969901408968785859221430080, 55171649239332876395203045365046835295894302160585271306759942904522562646312, 51264623032655562798608316771254188813004030667573118747328336141500366999899⟩), (16, 57218, ⟨731846840790690119776752692405887921520148199004028137801975889076540070296, 14512090145533578120130341982377628727922948546500686919247053208024092175466, 26004037315010266947746820631064745942798271983320406708636472126687085271066, 40795290527803565578464578845800481875329816256147886711494374395831617698830⟩), (16, 51619, ⟨39221768752868686193024656442363790379857901272665637965692687938924008221452, 27160981642065071297497418340412449148185801299212788677694666027416026743286, 19584496960923399251604757586753378888277495356915717357327002675280267813349, 2386080139295614715829167124096922876598622515077306788692686054297862715403⟩), (16, 21350, ⟨22459187452552880329430467678630740775400608985672386821375925711680803184186, 47614996398885337094723431878777703723462194862314390895102543001635918341519, 49823304637416321235758263740768575920017362922594888214093651188680781631412, 34805783144456749734994827383663955511681626889252442076890132352790347548907⟩), (16, 8815, ⟨21786194711116940175189412442424870907579803989737094792285352614130809574129, 54455205346277362598095642973659995334811934442886282091547033807950319973156, 39222467342343407176120307096643061835352349020131104539472658200929364523446, 1455412610848549193554832789687357744143500875651393524667980884168180986761⟩), (16, 49225, ⟨42681784946637306914069630292010576826847968606960850775219849196381541153741, 36100200296470434253386516897000205250187218247225828617459256077275108351928, 11874874798595774473479755325749038841746395004539196788125701663529963771174, 33194946602132418184037516304976690597984111118395610426568314432272546533858⟩), (16, 35692, ⟨27572235840107833094063211857346428278437913884743940930840061464851623315894, 7737034285370351455358764515099688127858538280236514897092199154297462240675, 15281544193847677587926244552539319746206306573952161524806541210899321578651, 29899891853242925123655018788043222878325878981174842790148313074832414593464⟩), (16, 44603, ⟨8707410589376197089175271166780782392722637038085770774868717898757860358064, 15509680095160079979461578062846196960549288629505879632281130651738783848950, 1905302125691036432160334317756349303915033996868987696382514022699975407808, 42814876092983230791534918193739739797492918262251763003923760644682214591304⟩), (16, 46548, ⟨1633841678885457078772247200309323818759343105708297787441371712094196223144, 42404246310015857693963294945401231663767887109982991378875985628744542670015, 40686948331157785113371183134661219760027669634709391583484044326467792362270, 27677003957485426237809582348734366055542952553146429351583939265141280301679⟩), (16, 9123, ⟨53584073887906610242640575303140243929328089845493629954690360970528243324193, 8249054812662850014944065211014647020264913789661967434224531656623659035446, 3867677766704969927069330078336146400001786949106124356511179552559162110693, 8174885608970895731456062845341153321193142295858945724787380514779918527153⟩), (16, 44296, ⟨29084537480696495661853036296359028822770214231875859159867144033849487439425, 41296383248267745743958544324423778861291569118494709817130952310584579357296, 7508661209127928391497015684116984583408443954615531747971732048826545941319, 21526027337853014571929592216145200598040508376238202601416470566427419208030⟩), (16, 45973, ⟨20209185690787752164098833135246810835299659290522213072669651031669196543258, 42055636464046621576693962681211945547856972231903766111015418978481936055761, 53431518400364920607024010803386031484992776992813126306327918990616171378147, 52817551276023058362805970025773311109011774859264136400561923676890363625619⟩), (16, 40680, ⟨14478243825755953651480811774422156060671180439547640242746750482108205121187, 18206031221665026014367478803695877393705232559674649109138374322603628183299, 8754215616981474355958746004958817476566972891940898256826570923915005300086, 32743656590530071405275025604982526439762317130365906724112794636531256161485⟩), (16, 37655, ⟨37676299218221792349497395248224097498702550546321800181003953221159179778319, 20750076457141510241977095842116009950302141486838780974907960092273156773118, 23095813166832696757519040893267980345622289329907491194121651686693144321554, 1548197343979409312366293082625007804170238166611365479145448823187961494871⟩), (16, 64292, ⟨26419391100952777406901481685476179581266789597050323018644765713091571455044, 31973771867903909503243547717999124880248375589781937929144844734394888349586, 55854505057668936275171870827746406075967834162564888342904649510480413044712, 38888560310070156402730429251104011974253840158723852769730427891780305619093⟩), (9, 326, ⟨33936440328723907093529285033591040996764296079498746153239636988355988871518, 8550392201239658419447751805192584332038904366158946192347128183717737095882, 44639093395076796390928934700982067472467477179916079127304428778484961894035, 49697694794426836564676746532476521992394617206982891249025145126223134650168⟩)]
theorem pbA : pb (an (zB 32)) = bs bA := by
  rw [an0]
  exact pb_lit a0 (by decide +kernel) lA bA (by decide +kernel) (by decide +kernel) (by decide +kernel)
theorem pbR : pb (rn (zB 32) tT) = bs bR := by
  rw [rn0]
  exact pb_lit r0 (by decide +kernel) lR bR (by decide +kernel) (by decide +kernel) (by decide +kernel)
theorem kn1 : kn (bs bR) (bs bA) tT = 3051700886902431880199312561605616305919771856675659439704689325507489791389 := by
  unfold kn
  rw [tT_bs, bs_app, bs_app]
  exact nm_lit (dig_cert _ 68 (by rw [bs_size]; decide +kernel) (by decide) _ dW2 dA2 dE2 dO2 (sb_lit _ (by decide +kernel)) (by decide +kernel) (by decide +kernel) (by decide +kernel) (lt8 (by decide +kernel)) (by decide +kernel)) (by decide +kernel)
theorem kn2 : kn (bs bR) (bs bA) tU = 6926124309909794583650894854177328360763410026704415995850608499506585452493 := by
  unfold kn
  rw [tU_bs, bs_app, bs_app]
  exact nm_lit (dig_cert _ 68 (by rw [bs_size]; decide +kernel) (by decide) _ dW3 dA3 dE3 dO3 (sb_lit _ (by decide +kernel)) (by decide +kernel) (by decide +kernel) (by decide +kernel) (lt8 (by decide +kernel)) (by decide +kernel)) (by decide +kernel)
theorem alive_no : vfy (pb (an (zB 32))) tU (sg (zB 32) tT) = false := by
  refine vfy_no _ _ _ ?_
  rw [pbA, pbR, kn1, kn2]
  decide +kernel
set_option maxRecDepth 100000 in
set_option maxHeartbeats 4000000 in
theorem c_alive  (w : World) (hL : Laid w)  :
    Calls Tryz.prog 7 #[] w fun r w' => r = .returned (.bool true) ∧ Below w.heap.size w w' := by
  go_enter Tryz.func7, Tryz.ntmps7
  have M := Mem.start hL
  refine sR ?_
  refine pV 0 (.bool false) ?_
  refine nT ?_
  refine sR ?_
  refine pl_mk M (want_no rfl) (some 8) rfl (fun g1 => .slice (some ⟨g1, 0, none⟩) 32 32) (.cells (av 32 (w8 (fun _ => 0))) 5) (fun _ => by kernel_rfl) fun g1 u1 M => ?_
  refine pl_back M (want_no rfl) (some 9) rfl _ rfl 0 g1 32 32 (by kernel_rfl) _ rfl ((List.range 32).map fun _ => 0) 32 (sb_av 32 _ _) (by simp) (z_nn _) ?_
  refine pV 1 (.string (zB 32)) ?_
  refine nT ?_
  refine sR ?_
  refine pV 11 (.string (zB 32)) ?_
  refine pC M 12 8 #[.string (zB 32)] (.tuple #[.string (pb (an (zB 32))), .int .i64 0]) (fun w M => (by have e := c_Public (zB 32) w M.laid; rw [if_pos (zB_size 32)] at e; exact e)) fun u2 M => ?_
  refine pV 10 (.tuple #[.string (pb (an (zB 32))), .int .i64 0]) ?_
  refine pV 13 (.string (pb (an (zB 32)))) ?_
  refine pV 14 (.int .i64 0) ?_
  refine pV 2 (.string (pb (an (zB 32)))) ?_
  refine pV 3 (.int .i64 0) ?_
  refine nT ?_
  refine sR ?_
  refine pV 16 (.string (zB 32)) ?_
  refine pC M 17 10 #[.string (zB 32), .string ⟨#[116, 101, 120, 116]⟩] (.tuple #[.string (sg (zB 32) tT), .int .i64 0]) (fun w M => (by have e := c_Sign (zB 32) tT w M.laid; rw [if_pos (zB_size 32)] at e; exact e)) fun u3 M => ?_
  refine pV 15 (.tuple #[.string (sg (zB 32) tT), .int .i64 0]) ?_
  refine pV 18 (.string (sg (zB 32) tT)) ?_
  refine pV 19 (.int .i64 0) ?_
  refine pV 4 (.string (sg (zB 32) tT)) ?_
  refine pV 5 (.int .i64 0) ?_
  refine nT ?_
  refine sR ?_
  refine pC M 21 10 #[.string ⟨#[115, 104, 111, 114, 116]⟩, .string ⟨#[116, 101, 120, 116]⟩] (.tuple #[.string ⟨#[]⟩, .int .i64 2]) (fun w M => (by have e := c_Sign tS tT w M.laid; rw [if_neg (by decide)] at e; exact e)) fun u4 M => ?_
  refine pV 20 (.tuple #[.string ⟨#[]⟩, .int .i64 2]) ?_
  refine pV 22 (.string ⟨#[]⟩) ?_
  refine pV 23 (.int .i64 2) ?_
  refine pV 6 (.string ⟨#[]⟩) ?_
  refine pV 7 (.int .i64 2) ?_
  refine nT ?_
  refine sR ?_
  refine pV 24 (.int .i64 0) ?_
  refine pV 25 (.bool true) ?_
  refine pV 26 (.bool true) ?_
  refine pl_val (want_on 2 true rfl 26 rfl (by kernel_rfl)) (some 27) rfl (.int .i64 0) (fun _ => by kernel_rfl) ?_
  refine pl_val (want_on 2 true rfl 26 rfl (by kernel_rfl)) (some 28) rfl (.bool true) (fun _ => by kernel_rfl) ?_
  refine pV 29 (.bool true) ?_
  refine pV 30 (.bool true) ?_
  refine pl_val (want_on 6 true rfl 30 rfl (by kernel_rfl)) (some 31) rfl (.string (pb (an (zB 32)))) (fun _ => by kernel_rfl) ?_
  refine pl_val (want_on 6 true rfl 30 rfl (by kernel_rfl)) (some 32) rfl (.int .i64 ((pb (an (zB 32))).size : Int)) (fun _ => by kernel_rfl) ?_
  refine pl_val (want_on 6 true rfl 30 rfl (by kernel_rfl)) (some 33) rfl (.bool true) (fun w => Eq.trans (b := .ok (.value (.bool (decide (((pb (an (zB 32))).size : Int) = 32)))) w) (by kernel_rfl) (by rw [decide_eq_true (by rw [pb_size _ (an_bd _)]; decide)])) ?_
  refine pV 34 (.bool true) ?_
  refine pV 35 (.bool true) ?_
  refine pl_val (want_on 11 true rfl 35 rfl (by kernel_rfl)) (some 36) rfl (.string (sg (zB 32) tT)) (fun _ => by kernel_rfl) ?_
  refine pl_val (want_on 11 true rfl 35 rfl (by kernel_rfl)) (some 37) rfl (.int .i64 ((sg (zB 32) tT).size : Int)) (fun _ => by kernel_rfl) ?_
  refine pl_val (want_on 11 true rfl 35 rfl (by kernel_rfl)) (some 38) rfl (.bool true) (fun w => Eq.trans (b := .ok (.value (.bool (decide (((sg (zB 32) tT).size : Int) = 64)))) w) (by kernel_rfl) (by rw [decide_eq_true (by rw [sg_size]; decide)])) ?_
  refine pV 39 (.bool true) ?_
  refine pV 40 (.bool true) ?_
  refine pl_val (want_on 16 true rfl 40 rfl (by kernel_rfl)) (some 41) rfl (.int .i64 2) (fun _ => by kernel_rfl) ?_
  refine pl_val (want_on 16 true rfl 40 rfl (by kernel_rfl)) (some 42) rfl (.bool true) (fun _ => by kernel_rfl) ?_
  refine pV 43 (.bool true) ?_
  refine pV 44 (.bool true) ?_
  refine pl_val (want_on 20 true rfl 44 rfl (by kernel_rfl)) (some 45) rfl (.string (pb (an (zB 32)))) (fun _ => by kernel_rfl) ?_
  refine pl_val (want_on 20 true rfl 44 rfl (by kernel_rfl)) (some 46) rfl (.string (sg (zB 32) tT)) (fun _ => by kernel_rfl) ?_
  refine pl_call M (want_on 20 true rfl 44 rfl (by kernel_rfl)) (some 47) rfl 12 #[.string (pb (an (zB 32))), .string ⟨#[116, 101, 120, 116]⟩, .string (sg (zB 32) tT)] (.bool true) (fun _ => by kernel_rfl) (fun w M => (by have e := c_Verify (pb (an (zB 32))) tT (sg (zB 32) tT) w M.laid; rw [vfy_back] at e; exact e)) fun u5 M => ?_
  refine pV 48 (.bool true) ?_
  refine pV 49 (.bool true) ?_
  refine pl_val (want_on 25 true rfl 49 rfl (by kernel_rfl)) (some 50) rfl (.string (pb (an (zB 32)))) (fun _ => by kernel_rfl) ?_
  refine pl_val (want_on 25 true rfl 49 rfl (by kernel_rfl)) (some 51) rfl (.string (sg (zB 32) tT)) (fun _ => by kernel_rfl) ?_
  refine pl_call M (want_on 25 true rfl 49 rfl (by kernel_rfl)) (some 52) rfl 12 #[.string (pb (an (zB 32))), .string ⟨#[116, 101, 120, 84]⟩, .string (sg (zB 32) tT)] (.bool false) (fun _ => by kernel_rfl) (fun w M => (by have e := c_Verify (pb (an (zB 32))) tU (sg (zB 32) tT) w M.laid; rw [alive_no] at e; exact e)) fun u6 M => ?_
  refine pl_val (want_on 25 true rfl 49 rfl (by kernel_rfl)) (some 53) rfl (.bool true) (fun _ => by kernel_rfl) ?_
  refine pV 54 (.bool true) ?_
  refine pV 55 (.bool true) ?_
  refine pl_val (want_on 31 true rfl 55 rfl (by kernel_rfl)) (some 56) rfl (.string (pb (an (zB 32)))) (fun _ => by kernel_rfl) ?_
  refine pl_val (want_on 31 true rfl 55 rfl (by kernel_rfl)) (some 57) rfl (.string (sg (zB 32) tT)) (fun _ => by kernel_rfl) ?_
  refine pl_val (want_on 31 true rfl 55 rfl (by kernel_rfl)) (some 58) rfl (.string ((sg (zB 32) tT).extract 0 63)) (run_strh 9 Tryz.underlying9 _ _ rfl (sg (zB 32) tT) (by kernel_rfl) .i64 63 (by kernel_rfl) (by rw [sg_size]; decide) _ rfl) ?_
  refine pl_call M (want_on 31 true rfl 55 rfl (by kernel_rfl)) (some 59) rfl 12 #[.string (pb (an (zB 32))), .string ⟨#[116, 101, 120, 116]⟩, .string ((sg (zB 32) tT).extract 0 63)] (.bool false) (fun _ => by kernel_rfl) (fun w M => (by have e := c_Verify (pb (an (zB 32))) tT ((sg (zB 32) tT).extract 0 63) w M.laid; rw [vfy_size (by rw [ByteArray.size_extract, sg_size]; decide)] at e; exact e)) fun u7 M => ?_
  refine pl_val (want_on 31 true rfl 55 rfl (by kernel_rfl)) (some 60) rfl (.bool true) (fun _ => by kernel_rfl) ?_
  refine pV 61 (.bool true) ?_
  refine pV 0 (.bool true) ?_
  refine nT ?_
  refine wp_ret ?_
  exact bodyPost_ret (v := .bool true) (results_tmp1 Tryz.results7 _ _ _ (by kernel_rfl)) (by kernel_rfl) ⟨rfl, below_grown M.old⟩


end Go.Proofs.YtmhfmhmpoobmlaaGreatDoor.Sha

/- The order is added to a signature's number: the walk of SignStrict. -/
namespace Go.Proofs.YtmhfmhmpoobmlaaGreatDoor.Sha
open Go.RowKit

/-- What is carried, and the parts, behind some steps of adding the order. -/
def cy (x : Int) (j : Nat) : Int := (x % 65536 ^ j + Ord.Lm % 65536 ^ j) / 65536 ^ j
def mx (x : Int) (j : Nat) : Nat → Int := fun i => if i < j then Ord.d16 (x + Ord.Lm) i else Ord.d16 x i
def sy (x : Int) (j : Nat) : Int := Ord.d16 x j + Ord.oF j + cy x j
theorem oF_d {j : Nat} (h : j < 16) : Ord.oF j = Ord.d16 Ord.Lm j := Ord.S_inj Ord.oF_dig (Ord.d16_dig _ 16) (by rw [Ord.oF_S, Ord.d16_S _ (by decide)]; decide +kernel) j h
theorem mod_step (x b : Int) (hb : 0 < b) : x % (b * 65536) = x % b + b * (x / b % 65536) := by
  have e1 := Int.mul_ediv_add_emod x b
  have e2 := Int.mul_ediv_add_emod (x / b) 65536
  have h1 := Int.emod_nonneg x (show b ≠ 0 by omega)
  have h2 := Int.emod_lt_of_pos x hb
  have h3 := Int.emod_nonneg (x / b) (show (65536 : Int) ≠ 0 by decide)
  have h4 := Int.emod_lt_of_pos (x / b) (show (0 : Int) < 65536 by decide)
  have e : x = x % b + b * (x / b % 65536) + b * 65536 * (x / b / 65536) := by
    have h5 : b * (x / b) = b * (65536 * (x / b / 65536) + x / b % 65536) := by rw [e2]
    rw [Int.mul_add, ← Int.mul_assoc] at h5
    omega
  have hlt : x % b + b * (x / b % 65536) < b * 65536 := by
    have h6 := Int.mul_le_mul_of_nonneg_left (show x / b % 65536 ≤ 65535 by omega) (show 0 ≤ b by omega)
    omega
  have hge : 0 ≤ x % b + b * (x / b % 65536) := Int.add_nonneg h1 (Int.mul_nonneg (by omega) h3)
  conv => lhs; rw [e]
  rw [Int.add_mul_emod_self_left, Int.emod_eq_of_lt hge hlt]
theorem cy_step (x : Int) {j : Nat} (h : j < 16) : cy x (j + 1) = sy x j / 65536 ∧ Ord.d16 (x + Ord.Lm) j = sy x j % 65536 := by
  have hb : (0 : Int) < 65536 ^ j := Int.pow_pos (by decide)
  unfold sy
  rw [oF_d h]
  unfold cy Ord.d16
  rw [Int.pow_succ, mod_step x _ hb, mod_step Ord.Lm _ hb]
  have e1 := Int.mul_ediv_add_emod x (65536 ^ j)
  have e2 := Int.mul_ediv_add_emod Ord.Lm (65536 ^ j)
  generalize (65536 : Int) ^ j = b at *
  constructor
  · rw [show x % b + b * (x / b % 65536) + (Ord.Lm % b + b * (Ord.Lm / b % 65536)) = (x % b + Ord.Lm % b) + b * (x / b % 65536 + Ord.Lm / b % 65536) by rw [Int.mul_add]; omega, ← Int.ediv_ediv_of_nonneg (by omega), Int.add_mul_ediv_left _ _ (by omega)]
    congr 1
    omega
  · have e3 : x + Ord.Lm = (x % b + Ord.Lm % b) + b * (x / b + Ord.Lm / b) := by
      rw [Int.mul_add]
      omega
    rw [e3, Int.add_mul_ediv_left _ _ (by omega)]
    omega
theorem cy_bd (x : Int) (j : Nat) : 0 ≤ cy x j ∧ cy x j ≤ 1 := by
  have hb : (0 : Int) < 65536 ^ j := Int.pow_pos (by decide)
  unfold cy
  have h1 := Int.emod_nonneg x (show (65536 : Int) ^ j ≠ 0 by omega)
  have h2 := Int.emod_lt_of_pos x hb
  have h3 := Int.emod_nonneg Ord.Lm (show (65536 : Int) ^ j ≠ 0 by omega)
  have h4 := Int.emod_lt_of_pos Ord.Lm hb
  refine ⟨Int.ediv_nonneg (by omega) (by omega), ?_⟩
  have h5 := Int.ediv_lt_of_lt_mul (a := x % 65536 ^ j + Ord.Lm % 65536 ^ j) (b := 2) hb (by omega)
  omega
theorem ua_lt {x y : Int} (h0 : 0 ≤ x + y) (h1 : x + y < 18446744073709551616) : ua x y = x + y := by rw [ua_eq, Int.emod_eq_of_lt h0 h1]
theorem st_a (x : Int) {j : Nat} (h : j < 16) : ua (mx x j j) (Ord.oF j) = Ord.d16 x j + Ord.oF j := by
  have h1 := Ord.d16_dig x 16 j h
  have h2 := Ord.oF_dig j h
  unfold mx
  rw [if_neg (Nat.lt_irrefl j), ua_lt (by omega) (by omega)]
theorem st_b (x : Int) {j : Nat} (h : j < 16) : ua (Ord.d16 x j + Ord.oF j) (cy x j) = sy x j := by
  have h1 := Ord.d16_dig x 16 j h
  have h2 := Ord.oF_dig j h
  have h3 := cy_bd x j
  exact ua_lt (by omega) (by omega)
theorem un_16 {v : Int} (h0 : 0 ≤ v) (h1 : v < 18446744073709551616) : un v 65535 = v % 65536 := by
  obtain ⟨n, rfl⟩ := Int.eq_ofNat_of_zero_le h0
  unfold un
  have e : (BitVec.ofInt 64 ((n : Nat) : Int) &&& BitVec.ofInt 64 65535).toNat = n % 65536 := by
    rw [BitVec.toNat_and, BitVec.toNat_ofInt, BitVec.toNat_ofInt, show (((65535 : Int) % ((2 ^ 64 : Nat) : Int)).toNat) = 2 ^ 16 - 1 from by decide, Nat.and_two_pow_sub_one_eq_mod]
    omega
  rw [e]
  simp [IntKind.wrap, IntKind.signed, IntKind.bits]
  omega
theorem sy_bd (x : Int) {j : Nat} (h : j < 16) : 0 ≤ sy x j ∧ sy x j < 18446744073709551616 := by
  have h1 := Ord.d16_dig x 16 j h
  have h2 := Ord.oF_dig j h
  have h3 := cy_bd x j
  unfold sy
  omega
theorem st_c (x : Int) {j : Nat} (h : j < 16) : un (sy x j) 65535 = Ord.d16 (x + Ord.Lm) j := by
  rw [un_16 (sy_bd x h).1 (sy_bd x h).2, (cy_step x h).2]
theorem st_d (x : Int) {j : Nat} (h : j < 16) : sr (sy x j) 16 = cy x (j + 1) := by
  rw [(cy_step x h).1]
  unfold sr
  rw [Int.fdiv_eq_ediv_of_nonneg _ (by decide)]
  rfl
theorem mx_step (x : Int) (j : Nat) : upd (mx x j) j (Ord.d16 (x + Ord.Lm) j) = mx x (j + 1) := by
  funext i
  unfold upd mx
  by_cases h : i = j
  · rw [if_pos h, if_pos (by omega), h]
  · rw [if_neg h]
    by_cases h2 : i < j
    · rw [if_pos h2, if_pos (by omega)]
    · rw [if_neg h2, if_neg (by omega)]
theorem cy_0 (x : Int) : cy x 0 = 0 := by
  unfold cy
  simp [Int.emod_one]
theorem mx_0 (x : Int) : mx x 0 = Ord.d16 x := by
  funext i
  unfold mx
  rw [if_neg (Nat.not_lt_zero i)]
theorem mx_16 (x : Int) : av 16 (w64 (mx x 16)) = av 16 (w64 (Ord.d16 (x + Ord.Lm))) := av_congr fun i hi => by
  unfold w64 mx
  rw [if_pos hi]
theorem z_parts (x : Int) (hx : 0 ≤ x ∧ x < Ord.Lm) (w : World) : Calls Tryz.prog 14 #[.string (Ord.lebytes x)] w fun r w' => r = .returned (.agg (av 16 (w64 (mx x 0)))) ∧ Below w.heap.size w w' := by
  have e := Ord.parts_any (Ord.lebytes x) w (Ord.leb_size x)
  have e2 : arr 16 (Ord.pt (Ord.lebytes x) 32) = av 16 (w64 (mx x 0)) := by
    rw [mx_0]
    exact av_congr (F := w64 (Ord.pt (Ord.lebytes x) 32)) fun i hi => by
      unfold w64
      rw [Ord.S_inj (Ord.pt_dig _ 32) (Ord.d16_dig x 16) (by rw [Ord.pt_S, Ord.val_bv, Ord.leb_bv hx, Ord.d16_S _ hx.1, Int.emod_eq_of_lt hx.1 (by have := Ord.Lm_P; omega)]) i hi]
  rw [e2] at e
  exact e
theorem big_bd {x : Int} (hx : 0 ≤ x ∧ x < Ord.Lm) : 0 ≤ x + Ord.Lm ∧ x + Ord.Lm < 65536 ^ 16 := by
  have hL : 0 ≤ Ord.Lm ∧ Ord.Lm + Ord.Lm < 65536 ^ 16 := by decide +kernel
  omega
theorem z_rnl (x : Int) (hx : 0 ≤ x ∧ x < Ord.Lm) (w : World) : Calls Tryz.prog 16 #[.agg (av 16 (w64 (mx x 16)))] w fun r w' => r = .returned (.string (Ord.lebytes (x + Ord.Lm))) ∧ Below w.heap.size w w' := by
  have e := Ord.rbytes_any (Ord.d16 (x + Ord.Lm)) w (Ord.d16_dig _ 16)
  rw [← Ord.lebytes_S (Ord.d16_dig _ 16), Ord.dSL (big_bd hx).1 (big_bd hx).2] at e
  rw [mx_16]
  exact e
/-- The signature with the order added to its number. -/
def ng (k s : ByteArray) : ByteArray := pb (rn k s) ++ Ord.lebytes (xn k s + Ord.Lm)
theorem leb_big {x : Int} (hx : 0 ≤ x ∧ x < Ord.Lm) : Ord.bv (Ord.lebytes (x + Ord.Lm)) 32 = x + Ord.Lm := by
  have h := big_bd hx
  rw [Ord.leb_le, Ord.bv_le _ h.1 32 32 (Nat.le_refl _), show (256 : Int) ^ 32 = 65536 ^ 16 from by decide +kernel, Int.emod_eq_of_lt h.1 h.2]
theorem vfy_ng (k s p : ByteArray) : vfy p s (ng k s) = false := by
  unfold vfy
  rw [if_neg]
  rintro ⟨_, _, _, _, hc⟩
  have e : (ng k s).extract 32 (ng k s).size = Ord.lebytes (xn k s + Ord.Lm) := ex_r _ _ _ _ (pb_size _ (rn_bd _ _)) rfl
  rw [e, leb_big (xn_bd k s)] at hc
  have := (xn_bd k s).1
  omega
def oneS : ByteArray := ⟨#[1]⟩ ++ zB 31
theorem one_pt : oneS = ptS zeroP := by decide +kernel
theorem vfy_one (s x : ByteArray) : vfy oneS s x = false := by
  unfold vfy
  rw [if_neg]
  rintro ⟨_, hp, hs, _⟩
  have h := (dec_both hp).1.small
  rw [one_pt, enc_q, add_zero', add_zero', add_zero', ← one_pt] at h
  rw [h.2 rfl] at hs
  cases hs

set_option maxRecDepth 100000 in
set_option maxHeartbeats 4000000 in
theorem c_strict (secret s : ByteArray) (b1 : s.size ≤ 140737488351232) (w : World) (hL : Laid w)  :
    Calls Tryz.prog 6 #[.string secret, .string s] w fun r w' => r = .returned (.bool true) ∧ Below w.heap.size w w' := by
  go_enter Tryz.func6, Tryz.ntmps6
  have M := Mem.start hL
  refine sR ?_
  refine pV 4 (.bool false) ?_
  refine nT ?_
  refine wp_seq ?_
  refine wp_seq ?_
  by_cases h : secret.size = 32
  · skip
    by_cases hz : 1024 < s.size
    · skip
      refine rg_lit ?_
      refine pV 15 (.string secret) ?_
      refine pV 16 (.int .i64 (secret.size : Int)) ?_
      refine pH 17 (.bool false) (nF ((secret.size : Int) = 32) (by omega)) ?_
      refine pV 18 (.bool false) ?_
      refine pl_val (want_on 3 false rfl 18 rfl (by kernel_rfl)) (some 19) rfl (.string s) (fun _ => by kernel_rfl) ?_
      refine pl_val (want_on 3 false rfl 18 rfl (by kernel_rfl)) (some 20) rfl (.int .i64 (s.size : Int)) (fun _ => by kernel_rfl) ?_
      refine pl_val (want_on 3 false rfl 18 rfl (by kernel_rfl)) (some 21) rfl (.bool true) (fun w => Eq.trans (b := .ok (.value (.bool (decide ((1024 : Int) < (s.size : Int))))) w) (by kernel_rfl) (by rw [decide_eq_true (by omega)])) ?_
      refine pV 22 (.bool true) ?_
      refine nT ?_
      refine wp_cond_true (by kernel_rfl) ?_
      refine sR ?_
      refine pC M 23 7 #[] (.bool true) (fun w M => c_alive w M.laid) fun u1 M => ?_
      refine pV 4 (.bool true) ?_
      refine nT ?_
      refine wp_ret ?_
      refine au_then_ret ?_
      exact bodyPost_ret (v := .bool true) (results_tmp1 Tryz.results6 _ _ _ (by kernel_rfl)) (by kernel_rfl) ⟨rfl, below_grown M.old⟩
    · skip
      refine rg_lit ?_
      refine pV 15 (.string secret) ?_
      refine pV 16 (.int .i64 (secret.size : Int)) ?_
      refine pH 17 (.bool false) (nF ((secret.size : Int) = 32) (by omega)) ?_
      refine pV 18 (.bool false) ?_
      refine pl_val (want_on 3 false rfl 18 rfl (by kernel_rfl)) (some 19) rfl (.string s) (fun _ => by kernel_rfl) ?_
      refine pl_val (want_on 3 false rfl 18 rfl (by kernel_rfl)) (some 20) rfl (.int .i64 (s.size : Int)) (fun _ => by kernel_rfl) ?_
      refine pl_val (want_on 3 false rfl 18 rfl (by kernel_rfl)) (some 21) rfl (.bool false) (fun w => Eq.trans (b := .ok (.value (.bool (decide ((1024 : Int) < (s.size : Int))))) w) (by kernel_rfl) (by rw [decide_eq_false (by omega)])) ?_
      refine pV 22 (.bool false) ?_
      refine nT ?_
      refine wp_cond_false (by kernel_rfl) ?_
      refine wp_skip ?_
      refine au_then ?_
      refine sR ?_
      refine pV 25 (.string secret) ?_
      refine pC M 26 8 #[.string secret] (.tuple #[.string (pb (an secret)), .int .i64 0]) (fun w M => (by have e := c_Public secret w M.laid; rw [if_pos h] at e; exact e)) fun u2 M => ?_
      refine pV 24 (.tuple #[.string (pb (an secret)), .int .i64 0]) ?_
      refine pV 27 (.string (pb (an secret))) ?_
      refine pV 28 (.int .i64 0) ?_
      refine pV 5 (.string (pb (an secret))) ?_
      refine pV 6 (.int .i64 0) ?_
      refine nT ?_
      refine sR ?_
      refine pV 30 (.string secret) ?_
      refine pV 31 (.string s) ?_
      refine pC M 32 10 #[.string secret, .string s] (.tuple #[.string (sg secret s), .int .i64 0]) (fun w M => (by have e := c_Sign secret s w M.laid; rw [if_pos h] at e; exact e)) fun u3 M => ?_
      refine pV 29 (.tuple #[.string (sg secret s), .int .i64 0]) ?_
      refine pV 33 (.string (sg secret s)) ?_
      refine pV 34 (.int .i64 0) ?_
      refine pV 7 (.string (sg secret s)) ?_
      refine pV 8 (.int .i64 0) ?_
      refine nT ?_
      refine wp_seq ?_
      refine sR ?_
      refine pV 35 (.int .i64 0) ?_
      refine pV 36 (.bool false) ?_
      refine pV 37 (.bool false) ?_
      refine pl_val (want_on 2 false rfl 37 rfl (by kernel_rfl)) (some 38) rfl (.int .i64 0) (fun _ => by kernel_rfl) ?_
      refine pl_val (want_on 2 false rfl 37 rfl (by kernel_rfl)) (some 39) rfl (.bool false) (fun _ => by kernel_rfl) ?_
      refine pV 40 (.bool false) ?_
      refine pV 41 (.bool false) ?_
      refine pl_val (want_on 6 false rfl 41 rfl (by kernel_rfl)) (some 42) rfl (.string (sg secret s)) (fun _ => by kernel_rfl) ?_
      refine pl_val (want_on 6 false rfl 41 rfl (by kernel_rfl)) (some 43) rfl (.int .i64 ((sg secret s).size : Int)) (fun _ => by kernel_rfl) ?_
      refine pl_val (want_on 6 false rfl 41 rfl (by kernel_rfl)) (some 44) rfl (.bool false) (fun w => Eq.trans (b := .ok (.value (.bool (!(decide (((sg secret s).size : Int) = 64))))) w) (by kernel_rfl) (by rw [decide_eq_true (by rw [sg_size]; decide)]; rfl)) ?_
      refine pV 45 (.bool false) ?_
      refine nT ?_
      refine wp_cond_false (by kernel_rfl) ?_
      refine wp_skip ?_
      refine au_then ?_
      refine sR ?_
      refine pV 46 (.string (sg secret s)) ?_
      refine pH 47 (.string (Ord.lebytes (xn secret s))) (run_strl 9 Tryz.underlying9 _ _ rfl (sg secret s) (by kernel_rfl) .i64 32 (by kernel_rfl) (by rw [sg_size]; decide) _ (sg_r secret s)) ?_
      refine pC M 48 14 #[.string (Ord.lebytes (xn secret s))] (.agg (av 16 (w64 (mx (xn secret s) 0)))) (fun w M => z_parts _ (xn_bd secret s) w) fun u4 M => ?_
      refine pN M 9 (.cells (av 16 (w64 (fun _ => 0))) 36) fun g1 u5 M => ?_
      refine pl_put M (want_no rfl) rfl 36 _ _ rfl 0 g1 0 (by kernel_rfl) 16 36 (w64 (fun _ => 0)) rfl 16 (w64 (mx (xn secret s) 0)) (w64 (mx (xn secret s) 0)) (by kernel_rfl) inz36 (by decide) (fun _ _ => rfl) (fun j hj => by rw [if_pos (by omega), Nat.sub_zero]) fun u6 M => ?_
      refine nT ?_
      refine sR ?_
      refine pC M 49 15 #[] (.agg (av 16 (w64 Ord.oF))) (fun w M => Ord.order_any w) fun u7 M => ?_
      refine pN M 10 (.cells (av 16 (w64 (fun _ => 0))) 36) fun g2 u8 M => ?_
      refine pl_put M (want_no rfl) rfl 36 _ _ rfl 1 g2 0 (by kernel_rfl) 16 36 (w64 (fun _ => 0)) rfl 16 (w64 Ord.oF) (w64 Ord.oF) (by kernel_rfl) inz36 (by decide) (fun _ _ => rfl) (fun j hj => by rw [if_pos (by omega), Nat.sub_zero]) fun u9 M => ?_
      refine nT ?_
      refine sR ?_
      refine pH 11 (.int .u64 (cy (xn secret s) 0)) (fun w => Eq.trans (b := .ok (.value (.int .u64 0)) w) (by kernel_rfl) (by rw [cy_0])) ?_
      refine nT ?_
      refine wp_seq ?_
      refine sR ?_
      refine pV 12 (.int .i64 0) ?_
      refine nT ?_
      refine wp_block ?_
      refine au_loop (fun j a w' => ∃ v1 : Nat → Value, a = ⟨#[.string secret, .string s, undef, undef, .bool false, .string (pb (an secret)), .int .i64 0, .string (sg secret s), .int .i64 0, .pointer (some ⟨g1, 0, none⟩), .pointer (some ⟨g2, 0, none⟩), .int .u64 (cy (xn secret s) j), .int .i64 (j : Int), v1 13, undef, .string secret, .int .i64 (secret.size : Int), .bool false, .bool false, .string s, .int .i64 (s.size : Int), .bool false, .bool false, undef, .tuple #[.string (pb (an secret)), .int .i64 0], .string secret, .tuple #[.string (pb (an secret)), .int .i64 0], .string (pb (an secret)), .int .i64 0, .tuple #[.string (sg secret s), .int .i64 0], .string secret, .string s, .tuple #[.string (sg secret s), .int .i64 0], .string (sg secret s), .int .i64 0, .int .i64 0, .bool false, .bool false, .int .i64 0, .bool false, .bool false, .bool false, .string (sg secret s), .int .i64 ((sg secret s).size : Int), .bool false, .bool false, .string (sg secret s), .string (Ord.lebytes (xn secret s)), .agg (av 16 (w64 (mx (xn secret s) 0))), .agg (av 16 (w64 Ord.oF)), v1 50, v1 51, v1 52, v1 53, v1 54, v1 55, v1 56, v1 57, v1 58, v1 59, v1 60, v1 61, v1 62, v1 63, v1 64, v1 65, v1 66, v1 67, v1 68, undef, undef, undef, undef, undef, undef, undef, undef, undef, undef, undef, undef, undef, undef, undef, undef, undef, undef, undef, undef, undef, undef, undef, undef, undef, undef, undef, undef, undef, undef, undef], []⟩ ∧ Mem ⟨w, []⟩ [⟨g1, .cells (av 16 (w64 (mx (xn secret s) j))) 36⟩, ⟨g2, .cells (av 16 (w64 Ord.oF)) 36⟩] w') 16 ⟨fun k_ => ([undef, undef, undef, undef, undef, undef, undef, undef, undef, undef, undef, undef, undef, undef, undef, undef, undef, undef, undef, undef, undef, undef, undef, undef, undef, undef, undef, undef, undef, undef, undef, undef, undef, undef, undef, undef, undef, undef, undef, undef, undef, undef, undef, undef, undef, undef, undef, undef, undef, undef, undef, undef, undef, undef, undef, undef] : List Value).getD (k_ - 13) undef, by kernel_rfl, M⟩ ?_ ?_
      · intro j a u0 hj hI
        obtain ⟨v1, rfl, M⟩ := hI
        refine wp_seq ?_
        refine sR ?_
        refine pV 50 (.int .i64 (j : Int)) ?_
        refine pH 51 (.bool true) (dT ((j : Int) < 16) (by omega)) ?_
        refine nT ?_
        refine wp_cond_true (by kernel_rfl) ?_
        refine wp_skip ?_
        refine au_then ?_
        refine wp_seq ?_
        refine wp_block ?_
        refine wp_seq ?_
        refine rg_tail M 9 (by kernel_rfl) (by kernel_rfl) ?_
        simp only [List.take_succ_cons, List.take_zero]
        refine kV 54 (.int .i64 (j : Int)) ?_
        refine kH 55 (.pointer (some ⟨g1, j, none⟩)) (run_ix1 36 16 34 Tryz.underlying36 inz34 _ _ rfl g1 (by kernel_rfl) .i64 (j) (by kernel_rfl) (by omega)) ?_
        refine kE M 56 g1 j (.int .u64 ((mx (xn secret s) j) j)) (fun w M => M.cell 0 rfl (by omega) rfl) ?_
        refine kV 57 (.int .i64 (j : Int)) ?_
        refine kH 58 (.pointer (some ⟨g2, j, none⟩)) (run_ix1 36 16 34 Tryz.underlying36 inz34 _ _ rfl g2 (by kernel_rfl) .i64 (j) (by kernel_rfl) (by omega)) ?_
        refine kE M 59 g2 j (.int .u64 (Ord.oF j)) (fun w M => M.cell 1 rfl (by omega) rfl) ?_
        refine kH 60 (.int .u64 (Ord.d16 (xn secret s) j + Ord.oF j)) (fun w => Eq.trans (b := .ok (.value (.int .u64 (ua (mx (xn secret s) j j) (Ord.oF j)))) w) (by kernel_rfl) (by rw [st_a _ hj])) ?_
        refine kV 61 (.int .u64 (cy (xn secret s) j)) ?_
        refine kH 62 (.int .u64 (sy (xn secret s) j)) (fun w => Eq.trans (b := .ok (.value (.int .u64 (ua (Ord.d16 (xn secret s) j + Ord.oF j) (cy (xn secret s) j)))) w) (by kernel_rfl) (by rw [st_b _ hj])) ?_
        refine kl_nil fun u10 M => ?_
        refine pV 13 (.int .u64 (sy (xn secret s) j)) ?_
        refine nT ?_
        refine sR ?_
        refine pV 63 (.int .i64 (j : Int)) ?_
        refine pV 64 (.int .u64 (sy (xn secret s) j)) ?_
        refine pH 65 (.int .u64 (Ord.d16 ((xn secret s) + Ord.Lm) j)) (fun w => Eq.trans (b := .ok (.value (.int .u64 (un (sy (xn secret s) j) 65535))) w) (by kernel_rfl) (by rw [st_c _ hj])) ?_
        refine pH 66 (.pointer (some ⟨g1, j, none⟩)) (run_ix1 36 16 34 Tryz.underlying36 inz34 _ _ rfl g1 (by kernel_rfl) .i64 (j) (by kernel_rfl) (by omega)) ?_
        refine pP M 0 rfl j (.int .u64 (Ord.d16 ((xn secret s) + Ord.Lm) j)) (w64 (upd (mx (xn secret s) j) j (Ord.d16 ((xn secret s) + Ord.Lm) j))) (by omega) (fun j _ => put_w64 _ _ _ j) fun u11 M => ?_
        refine nT ?_
        refine rg_lit ?_
        refine pV 67 (.int .u64 (sy (xn secret s) j)) ?_
        refine pH 68 (.int .u64 (cy (xn secret s) (j + 1))) (fun w => Eq.trans (b := .ok (.value (.int .u64 (sr (sy (xn secret s) j) 16))) w) (by kernel_rfl) (by rw [st_d _ hj])) ?_
        refine pV 11 (.int .u64 (cy (xn secret s) (j + 1))) ?_
        refine pl_nil ?_
        refine au_block ?_
        refine au_then ?_
        refine rg_lit ?_
        refine pV 52 (.int .i64 (j : Int)) ?_
        refine pH 53 (.int .i64 ((j + 1 : Nat) : Int)) (iV ((j : Int) + 1) (by omega) (by omega) (by omega)) ?_
        refine pV 12 (.int .i64 ((j + 1 : Nat) : Int)) ?_
        refine nT ?_
        rw [mx_step] at M
        exact ⟨fun k_ => ([.int .u64 (sy (xn secret s) j), undef, undef, undef, undef, undef, undef, undef, undef, undef, undef, undef, undef, undef, undef, undef, undef, undef, undef, undef, undef, undef, undef, undef, undef, undef, undef, undef, undef, undef, undef, undef, undef, undef, undef, undef, undef, .int .i64 (j : Int), .bool true, .int .i64 (j : Int), .int .i64 ((j + 1 : Nat) : Int), .int .i64 (j : Int), .pointer (some ⟨g1, j, none⟩), .int .u64 ((mx (xn secret s) j) j), .int .i64 (j : Int), .pointer (some ⟨g2, j, none⟩), .int .u64 (Ord.oF j), .int .u64 (Ord.d16 (xn secret s) j + Ord.oF j), .int .u64 (cy (xn secret s) j), .int .u64 (sy (xn secret s) j), .int .i64 (j : Int), .int .u64 (sy (xn secret s) j), .int .u64 (Ord.d16 ((xn secret s) + Ord.Lm) j), .pointer (some ⟨g1, j, none⟩), .int .u64 (sy (xn secret s) j), .int .u64 (cy (xn secret s) (j + 1))] : List Value).getD (k_ - 13) undef, by kernel_rfl, M⟩
      · intro a u0 hI
        obtain ⟨v1, rfl, M⟩ := hI
        refine wp_seq ?_
        refine sR ?_
        refine pV 50 (.int .i64 (16 : Int)) ?_
        refine pH 51 (.bool false) (dF (((16 : Nat) : Int) < 16) (by decide)) ?_
        refine nT ?_
        refine wp_cond_false (by kernel_rfl) ?_
        refine wp_exit ?_
        refine au_then_exit ?_
        refine au_then_exit ?_
        refine au_block_exit ?_
        refine au_then ?_
        refine sR ?_
        refine pl_mk M (want_no rfl) (some 69) rfl (fun g3 => .slice (some ⟨g3, 0, none⟩) 31 31) (.cells (av 31 (w8 (fun _ => 0))) 5) (fun _ => by kernel_rfl) fun g3 u12 M => ?_
        refine pl_back M (want_no rfl) (some 70) rfl _ rfl 2 g3 31 31 (by kernel_rfl) _ rfl ((List.range 31).map fun _ => 0) 31 (sb_av 31 _ _) (by simp) (z_nn _) ?_
        refine pH 71 (.string oneS) (run_cat 9 9 _ _ rfl ⟨#[1]⟩ (zB 31) (by kernel_rfl) (by kernel_rfl) (by rw [zB_size]; decide)) ?_
        refine pV 14 (.string oneS) ?_
        refine nT ?_
        refine wp_seq ?_
        refine rg_held M [⟨g1, .cells (av 16 (w64 (mx (xn secret s) 16))) 36⟩, ⟨g2, .cells (av 16 (w64 Ord.oF)) 36⟩, ⟨g3, .cells (av 31 (w8 (fun _ => 0))) 5⟩] 28 rfl (by kernel_rfl) (by kernel_rfl) (fun _ _ d _ _ h => by cases d <;> exact h) fun u13 M => ?_
        refine qV M 0 72 (.string (pb (an secret))) ?_
        refine qV M 1 73 (.string s) ?_
        refine qV M 2 74 (.string (sg secret s)) ?_
        refine hl_one 3 (by decide) (by kernel_rfl) rfl ?_
        refine pC M 75 12 #[.string (pb (an secret)), .string s, .string (sg secret s)] (.bool true) (fun w M => (by have e := c_Verify (pb (an secret)) s (sg secret s) w M.laid; rw [vfy_back] at e; exact e)) fun u14 M => ?_
        refine nT ?_
        refine ⟨M, ?_⟩
        refine qV M 4 76 (.bool true) ?_
        refine hl_val M 5 rfl (by decide) (by kernel_rfl) (by kernel_rfl) (want_on 4 true rfl 76 rfl (by kernel_rfl)) (some 77) rfl (.string (pb (an secret))) (fun _ _ => by kernel_rfl) ?_
        refine hl_val M 6 rfl (by decide) (by kernel_rfl) (by kernel_rfl) (want_on 4 true rfl 76 rfl (by kernel_rfl)) (some 78) rfl (.string s) (fun _ _ => by kernel_rfl) ?_
        refine hl_val M 7 rfl (by decide) (by kernel_rfl) (by kernel_rfl) (want_on 4 true rfl 76 rfl (by kernel_rfl)) (some 79) rfl (.string (sg secret s)) (fun _ _ => by kernel_rfl) ?_
        refine hl_val M 8 rfl (by decide) (by kernel_rfl) (by kernel_rfl) (want_on 4 true rfl 76 rfl (by kernel_rfl)) (some 80) rfl (.string (pb (rn secret s))) (fun w _ => (run_strh 9 Tryz.underlying9 _ _ rfl (sg secret s) (by kernel_rfl) .i64 32 (by kernel_rfl) (by rw [sg_size]; decide) _ (sg_l secret s)) w) ?_
        refine hl_load M 9 rfl (by decide) (by kernel_rfl) (by kernel_rfl) (want_on 4 true rfl 76 rfl (by kernel_rfl)) (some 81) rfl 36 _ rfl 0 g1 0 (by kernel_rfl) 16 36 (w64 (mx (xn secret s) 16)) rfl 16 (w64 (mx (xn secret s) 16)) (fun j _ => by rw [Nat.zero_add]) (by decide) _ Tryz.underlying36 rfl inz36 ?_
        refine hl_one 10 (by decide) (by kernel_rfl) rfl ?_
        refine pl_call M (want_on 4 true rfl 76 rfl (by kernel_rfl)) (some 82) rfl 16 #[.agg (av 16 (w64 (mx (xn secret s) 16)))] (.string (Ord.lebytes ((xn secret s) + Ord.Lm))) (fun _ => by kernel_rfl) (fun w M => z_rnl _ (xn_bd secret s) w) fun u15 M => ?_
        refine nT ?_
        refine ⟨M, ?_⟩
        refine hl_val M 11 rfl (by decide) (by kernel_rfl) (by kernel_rfl) (want_on 4 true rfl 76 rfl (by kernel_rfl)) (some 83) rfl (.string (ng secret s)) (fun w _ => (run_cat 9 9 _ _ rfl (pb (rn secret s)) (Ord.lebytes ((xn secret s) + Ord.Lm)) (by kernel_rfl) (by kernel_rfl) (by rw [pb_size _ (rn_bd _ _), Ord.leb_size]; decide)) w) ?_
        refine hl_one 12 (by decide) (by kernel_rfl) rfl ?_
        refine pl_call M (want_on 4 true rfl 76 rfl (by kernel_rfl)) (some 84) rfl 12 #[.string (pb (an secret)), .string s, .string (ng secret s)] (.bool false) (fun _ => by kernel_rfl) (fun w M => (by have e := c_Verify (pb (an secret)) s (ng secret s) w M.laid; rw [vfy_ng] at e; exact e)) fun u16 M => ?_
        refine nT ?_
        refine ⟨M, ?_⟩
        refine hl_val M 13 rfl (by decide) (by kernel_rfl) (by kernel_rfl) (want_on 4 true rfl 76 rfl (by kernel_rfl)) (some 85) rfl (.bool true) (fun _ _ => by kernel_rfl) ?_
        refine qV M 14 86 (.bool true) ?_
        refine qV M 15 87 (.bool true) ?_
        refine hl_val M 16 rfl (by decide) (by kernel_rfl) (by kernel_rfl) (want_on 15 true rfl 87 rfl (by kernel_rfl)) (some 88) rfl (.string oneS) (fun _ _ => by kernel_rfl) ?_
        refine hl_val M 17 rfl (by decide) (by kernel_rfl) (by kernel_rfl) (want_on 15 true rfl 87 rfl (by kernel_rfl)) (some 89) rfl (.string s) (fun _ _ => by kernel_rfl) ?_
        refine hl_val M 18 rfl (by decide) (by kernel_rfl) (by kernel_rfl) (want_on 15 true rfl 87 rfl (by kernel_rfl)) (some 90) rfl (.string oneS) (fun _ _ => by kernel_rfl) ?_
        refine hl_one 19 (by decide) (by kernel_rfl) rfl ?_
        refine pl_mk M (want_on 15 true rfl 87 rfl (by kernel_rfl)) (some 91) rfl (fun g4 => .slice (some ⟨g4, 0, none⟩) 32 32) (.cells (av 32 (w8 (fun _ => 0))) 5) (fun _ => by kernel_rfl) fun g4 u17 M => ?_
        refine nT ?_
        refine ⟨(M.drop (.cons_cons _ (.cons_cons _ (.cons_cons _ (.cons _ (.slnil)))))), ?_⟩
        refine hl_one 20 (by decide) (by kernel_rfl) rfl ?_
        refine pl_back M (want_on 15 true rfl 87 rfl (by kernel_rfl)) (some 92) rfl _ rfl 3 g4 32 32 (by kernel_rfl) _ rfl ((List.range 32).map fun _ => 0) 32 (sb_av 32 _ _) (by simp) (z_nn _) ?_
        refine nT ?_
        refine ⟨(M.drop (.cons_cons _ (.cons_cons _ (.cons_cons _ (.cons _ (.slnil)))))), ?_⟩
        refine hl_val (M.drop (.cons_cons _ (.cons_cons _ (.cons_cons _ (.cons _ (.slnil)))))) 21 rfl (by decide) (by kernel_rfl) (by kernel_rfl) (want_on 15 true rfl 87 rfl (by kernel_rfl)) (some 93) rfl (.string (oneS ++ zB 32)) (fun w _ => (run_cat 9 9 _ _ rfl oneS (zB 32) (by kernel_rfl) (by kernel_rfl) (by unfold oneS; rw [ByteArray.size_append, zB_size, zB_size]; decide)) w) ?_
        refine hl_one 22 (by decide) (by kernel_rfl) rfl ?_
        refine pl_call M (want_on 15 true rfl 87 rfl (by kernel_rfl)) (some 94) rfl 12 #[.string oneS, .string s, .string (oneS ++ zB 32)] (.bool false) (fun _ => by kernel_rfl) (fun w M => (by have e := c_Verify oneS s (oneS ++ zB 32) w M.laid; rw [vfy_one] at e; exact e)) fun u18 M => ?_
        refine nT ?_
        refine ⟨(M.drop (.cons_cons _ (.cons_cons _ (.cons_cons _ (.cons _ (.slnil)))))), ?_⟩
        refine hl_val (M.drop (.cons_cons _ (.cons_cons _ (.cons_cons _ (.cons _ (.slnil)))))) 23 rfl (by decide) (by kernel_rfl) (by kernel_rfl) (want_on 15 true rfl 87 rfl (by kernel_rfl)) (some 95) rfl (.bool true) (fun _ _ => by kernel_rfl) ?_
        refine qV (M.drop (.cons_cons _ (.cons_cons _ (.cons_cons _ (.cons _ (.slnil)))))) 24 96 (.bool true) ?_
        refine qV (M.drop (.cons_cons _ (.cons_cons _ (.cons_cons _ (.cons _ (.slnil)))))) 25 97 (.bool true) ?_
        refine hl_one 26 (by decide) (by kernel_rfl) rfl ?_
        refine pl_call M (want_on 25 true rfl 97 rfl (by kernel_rfl)) (some 98) rfl 7 #[] (.bool true) (fun _ => by kernel_rfl) (fun w M => c_alive w M.laid) fun u19 M => ?_
        refine nT ?_
        refine ⟨(M.drop (.cons_cons _ (.cons_cons _ (.cons_cons _ (.cons _ (.slnil)))))), ?_⟩
        refine qV (M.drop (.cons_cons _ (.cons_cons _ (.cons_cons _ (.cons _ (.slnil)))))) 27 99 (.bool true) ?_
        refine hl_end (by kernel_rfl) (by kernel_rfl) rfl ?_
        refine pV 4 (.bool true) ?_
        refine nT ?_
        refine au_then ?_
        refine wp_ret ?_
        exact bodyPost_ret (v := .bool true) (results_tmp1 Tryz.results6 _ _ _ (by kernel_rfl)) (by kernel_rfl) ⟨rfl, below_grown M.old⟩
  · skip
    refine rg_lit ?_
    refine pV 15 (.string secret) ?_
    refine pV 16 (.int .i64 (secret.size : Int)) ?_
    refine pH 17 (.bool true) (nU ((secret.size : Int) = 32) (by omega)) ?_
    refine pV 18 (.bool true) ?_
    refine pl_skip (want_off 3 false rfl 18 rfl (by kernel_rfl)) (some 19) rfl ?_
    refine pl_skip (want_off 3 false rfl 18 rfl (by kernel_rfl)) (some 20) rfl ?_
    refine pl_skip (want_off 3 false rfl 18 rfl (by kernel_rfl)) (some 21) rfl ?_
    refine pV 22 (.bool true) ?_
    refine nT ?_
    refine wp_cond_true (by kernel_rfl) ?_
    refine sR ?_
    refine pC M 23 7 #[] (.bool true) (fun w M => c_alive w M.laid) fun u20 M => ?_
    refine pV 4 (.bool true) ?_
    refine nT ?_
    refine wp_ret ?_
    refine au_then_ret ?_
    exact bodyPost_ret (v := .bool true) (results_tmp1 Tryz.results6 _ _ _ (by kernel_rfl)) (by kernel_rfl) ⟨rfl, below_grown M.old⟩


end Go.Proofs.YtmhfmhmpoobmlaaGreatDoor.Sha

/- The package variable: what the condition gives a walk; a world that meets it. -/
namespace Go.Proofs.YtmhfmhmpoobmlaaGreatDoor.Sha
open Go.RowKit

def lay5 : List (String × DataW Unit) := [("isthmus/sha.constants", Rows.laid_isthmus_sha_constants)]
theorem gl0 : Tryz.prog.globalNamed "isthmus/sha.constants" = some 0 := by kernel_rfl
theorem glT : (Tryz.prog.globals[0]?).map (·.type) = some 155 := by kernel_rfl
theorem cells34 : Tryz.prog.cellsOf 34 = 1 := by kernel_rfl
theorem int_of_trod {H : Type} {enc : TypeId × Value → H} {P : Program} {w : World} {base : Nat} {sp : Nat → Bool} {held : Bool} {fuel : Nat} {t : TypeId} {k : IntKind} {c : Value} {y : DataW H × List MemPlace}
    (ht : P.underlying t = some (.int k)) (h : DataW.trod enc P w base sp held fuel t [c] = some y) : ∃ n, c = .int k n ∧ y = (.lit (.int k n), []) := by
  cases fuel with
  | zero => simp [DataW.trod] at h
  | succ fuel =>
    cases c <;> simp [DataW.trod, ht] at h
    rename_i k' n
    obtain ⟨⟨rfl, _⟩, rfl⟩ := h
    exact ⟨n, rfl, rfl⟩
def litsOf : DataW Unit → List (DataW Unit)
  | .agg l => l
  | _ => []
theorem lits_at : ∀ i, i < 80 → (litsOf Rows.laid_isthmus_sha_constants)[i]? = some (.lit (.int .u64 (KF i))) := by
  have h : ((List.range 80).all fun i => match (litsOf Rows.laid_isthmus_sha_constants)[i]? with | some (.lit (.int .u64 n)) => n == KF i | _ => false) = true := by decide +kernel
  intro i hi
  have h2 := List.all_eq_true.1 h i (List.mem_range.2 hi)
  split at h2
  · rename_i n e
    rw [e, eq_of_beq h2]
  · cases h2
theorem laid_of {W : World} (h0 : laidMetH Tryz.prog lay5 W) : Laid W := by
  have h : laidMet Tryz.prog lay5 W := h0
  obtain ⟨ps, ⟨g, t, cs, fuel, p, q, hg, ht, hvar, hd, _, _⟩, _⟩ := h
  obtain rfl := Option.some.inj (gl0.symm.trans hg)
  obtain rfl := Option.some.inj (glT.symm.trans ht)
  obtain ⟨xs, m, _, hx, hlen, hxl, hat⟩ := DataW.trod_array Tryz.underlying155 hd
  have hl80 : cs.toList.length = 80 := hlen.trans (by kernel_rfl)
  have e1 : litsOf Rows.laid_isthmus_sha_constants = xs.map (·.1) := by
    have := congrArg Prod.fst hx
    simp only at this
    rw [this]
    rfl
  intro i hi
  rw [World.var?_cell gl0 hvar i]
  have h1 := hat i hi
  have hi2 : i < cs.toList.length := by omega
  rw [cells34, Nat.mul_one, List.drop_eq_getElem_cons hi2, List.take_succ_cons, List.take_zero, List.getElem?_eq_getElem (by omega)] at h1
  obtain ⟨n, hc, hy⟩ := int_of_trod Tryz.underlying34 h1
  have h3 := lits_at i hi
  rw [e1, List.getElem?_map, List.getElem?_eq_getElem (by omega), hy] at h3
  simp at h3
  subst h3
  rw [← Array.getElem?_toList, List.getElem?_eq_getElem hi2, hc]
theorem lay_witness (os : Os) (args : Array Value) : laidMetH Tryz.prog lay5 ((World.laidAll Tryz.prog os lay5).forCall (fun _ _ => 0) ⟨#[], args, []⟩).memory := laidMet_laidAll (laid := lay5) args (by kernel_rfl) (by kernel_rfl)

end Go.Proofs.YtmhfmhmpoobmlaaGreatDoor.Sha
