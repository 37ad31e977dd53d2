/- Part 6 of the walks and facts. -/
import Derived.Test.YtiahdbibeleakaaGreatDoorCa5
import Derived.Carry
import Derived.Deep.SlicePairs
import Derived.Lib.SliceRun
import Derived.OpenShut
import Derived.ProofKit
import Derived.ShutString
import Derived.SizedLaws
set_option maxHeartbeats 16000000
set_option maxRecDepth 100000
set_option linter.unusedSimpArgs false
set_option linter.unusedVariables false
namespace Go.Proofs.YtiahdbibeleakaaGreatDoor
open Go.RowKit
theorem val_pu (y : Yb) : Mon.val (Mon.mkS (puV y)) % Mon.Pm = Mon.shV (Mon.clS y) 9 := Mon.val_leb (Mon.tells9.cl y).bd
theorem sh_pu (x y : Yb) : shN x (puV y) = Mon.shV (Mon.clS x) (Mon.shV (Mon.clS y) 9) := by
 unfold shN
 rw [val_pu]
theorem sh_swap (x y : Yb) : shN x (puV y) = shN y (puV x) := by
 rw [sh_pu, sh_pu]
 exact Mon.tells9.swap x y
theorem sh_ne (x y : Yb) : ¬ shN x (puV y) = 0 := by
 rw [sh_pu]
 exact ((Mon.tells9.cl y).cl x).ne0
theorem ext_mid (x y z : Yb) {i j : Nat} (hi : x.size = i) (hj : x.size + y.size = j) : (x ++ y ++ z).extract i j = y := by
 subst hi hj
 rw [Bla.ba_app, Bla.ba_app, Bla.ba_none (A := x) (by omega), Bla.ba_none (A := z) (by rw [ByteArray.size_append]; omega), Nat.sub_self, Nat.add_sub_cancel_left, Bla.ba_whole (Nat.le_refl _)]
 exact (congrArg (· ++ _) ByteArray.empty_append).trans ByteArray.append_empty
section
variable (a b e pr pl : Yb)
theorem tX1_size : (tX1 a b e pr).size = 48 := by
 unfold tX1
 rw [sealS_size, puV_size]
theorem tX2_size : (tX2 a b e pr pl).size = pl.size + 16 := sealS_size _ _ _ _
theorem tMs_size : (tMs a b e pr pl).size = pl.size + 96 := by
 unfold tMs
 rw [ByteArray.size_append, ByteArray.size_append, puV_size, tX1_size, tX2_size]
 omega
theorem tMs_E : rE (tMs a b e pr pl) = puV e := by
 unfold rE tMs
 rw [ByteArray.append_assoc]
 have h := ext_left (puV e) (tX1 a b e pr ++ tX2 a b e pr pl)
 rwa [puV_size] at h
theorem tMs_1 : rC1 (tMs a b e pr pl) = tX1 a b e pr := by
 unfold rC1 tMs
 exact ext_mid _ _ _ (puV_size e) (by rw [puV_size, tX1_size])
theorem tMs_2 : rC2 (tMs a b e pr pl) = tX2 a b e pr pl := by
 unfold rC2 tMs
 have h := ext_right (puV e ++ tX1 a b e pr) (tX2 a b e pr pl)
 rwa [ByteArray.size_append, puV_size, tX1_size] at h
theorem seal_tag (s : St) (t : Yb) : tagOk s (sealS s.k n0 s.h t) := seal_tg _ _ _ _
theorem uS2_t : uS2 b pr (tMs a (puV b) e pr pl) = tS2 (puV b) e pr := by
 unfold uS2 rS1
 rw [tMs_E, sh_swap b e]
 rfl
theorem uS2_tag : tagOk (uS2 b pr (tMs a (puV b) e pr pl)) (rC1 (tMs a (puV b) e pr pl)) := by
 rw [uS2_t, tMs_1]
 exact seal_tag _ _
theorem uF_t : uF b pr (tMs a (puV b) e pr pl) = puV a := by
 unfold uF
 rw [uS2_t, tMs_1]
 exact seal_op _ _ _ _
theorem uS4_t : uS4 b pr (tMs a (puV b) e pr pl) = tS4 a (puV b) e pr := by
 unfold uS4 uS3
 rw [uF_t, uS2_t, tMs_1, sh_swap b a]
 rfl
theorem uS4_tag : tagOk (uS4 b pr (tMs a (puV b) e pr pl)) (rC2 (tMs a (puV b) e pr pl)) := by
 rw [uS4_t, tMs_2]
 exact seal_tag _ _
theorem uP_t : uP b pr (tMs a (puV b) e pr pl) = pl := by
 unfold uP
 rw [uS4_t, tMs_2]
 exact seal_op _ _ _ _
theorem uS5_t : uS5 b pr (tMs a (puV b) e pr pl) = tS5 a (puV b) e pr pl := by
 unfold uS5
 rw [uS4_t, tMs_2]
 rfl
theorem rE_ne : ¬ shN b (rE (tMs a (puV b) e pr pl)) = 0 := by
 rw [tMs_E]
 exact sh_ne _ _
theorem uF_ne : ¬ shN b (uF b pr (tMs a (puV b) e pr pl)) = 0 := by
 rw [uF_t]
 exact sh_ne _ _
theorem read_e : (rS5 b pr (tMs a (puV b) e pr pl)).e = 0 := by
 rw [rS5_e, if_neg (rE_ne a b e pr pl), if_pos (uS2_tag a b e pr pl), if_neg (uF_ne a b e pr pl), if_pos (uS4_tag a b e pr pl)]
theorem read_s : rS5 b pr (tMs a (puV b) e pr pl) = tS5 a (puV b) e pr pl := (rS5_u (rE_ne a b e pr pl) (uS2_tag a b e pr pl) (uF_ne a b e pr pl) (uS4_tag a b e pr pl)).trans (uS5_t a b e pr pl)
theorem read_f : rF b pr (tMs a (puV b) e pr pl) = puV a := (rF_u (rE_ne a b e pr pl) (uS2_tag a b e pr pl)).trans (uF_t a b e pr pl)
theorem read_p : rP b pr (tMs a (puV b) e pr pl) = pl := (rP_u (rE_ne a b e pr pl) (uS2_tag a b e pr pl) (uF_ne a b e pr pl) (uS4_tag a b e pr pl)).trans (uP_t a b e pr pl)
theorem begin_0 (ha : a.size = 32) (he : e.size = 32) (hp : pr.size ≤ 4096) (hl : pl.size ≤ 4096) : bgE a (puV b) e pr pl = 0 := by
 unfold bgE
 rw [if_pos (by omega), if_pos (by rw [puV_size]; rfl), if_pos (by omega), if_neg (by omega), if_neg (by omega), bS5_e, if_neg (sh_ne e b), if_neg (sh_ne a b)]
theorem begin_m : bMs a (puV b) e pr pl = tMs a (puV b) e pr pl := bMs_t (sh_ne e b) (sh_ne a b)
theorem begin_s : bS5 a (puV b) e pr pl = tS5 a (puV b) e pr pl := bS5_t (sh_ne e b) (sh_ne a b)
theorem read_0 (hb : b.size = 32) (hp : pr.size ≤ 4096) (hl : pl.size ≤ 4096) : rdE b pr (tMs a (puV b) e pr pl) = 0 := by
 have h := tMs_size a (puV b) e pr pl
 unfold rdE
 rw [if_pos (by omega), if_neg (by omega), if_neg (by omega), if_neg (by omega), read_e]
end
section
variable {s : St} (a e f pl : Yb)
theorem vX_size (x y : Yb) : (vX s x y f pl).size = pl.size + 16 := sealS_size _ _ _ _
theorem vRp_size (x y : Yb) : (vRp s x y f pl).size = pl.size + 48 := by
 unfold vRp
 rw [ByteArray.size_append, puV_size, vX_size]
 omega
theorem vRp_E (x y : Yb) : rE (vRp s x y f pl) = puV f := by
 unfold rE vRp
 have h := ext_left (puV f) (vX s x y f pl)
 rwa [puV_size] at h
theorem vRp_C (x y : Yb) : fC (vRp s x y f pl) = vX s x y f pl := by
 unfold fC vRp
 have h := ext_right (puV f) (vX s x y f pl)
 rwa [puV_size] at h
theorem gS3_v : gS3 s a e (vRp s (puV a) (puV e) f pl) = vS3 s (puV a) (puV e) f := by
 unfold gS3 gS2 fS1
 rw [vRp_E, sh_swap e f, sh_swap a f]
 rfl
theorem gS3_tag : tagOk (gS3 s a e (vRp s (puV a) (puV e) f pl)) (fC (vRp s (puV a) (puV e) f pl)) := by
 rw [gS3_v, vRp_C]
 exact seal_tag _ _
theorem gP_v : gP s a e (vRp s (puV a) (puV e) f pl) = pl := by
 unfold gP
 rw [gS3_v, vRp_C]
 exact seal_op _ _ _ _
theorem gS4_v : gS4 s a e (vRp s (puV a) (puV e) f pl) = vS4 s (puV a) (puV e) f pl := by
 unfold gS4
 rw [gS3_v, vRp_C]
 rfl
theorem fE_ne (x : Yb) : ¬ shN x (rE (vRp s (puV a) (puV e) f pl)) = 0 := by
 rw [vRp_E]
 exact sh_ne _ _
end
section
variable {s : St} (a e f pl : Yb)
theorem answer_0 (h0 : s.e = 0) (hf : f.size = 32) (hl : pl.size ≤ 4096) : anE s (puV a) (puV e) f pl = 0 := by
 unfold anE
 rw [if_pos (by omega), if_neg (by omega), aS4_e _ _ _ _ h0, if_neg (sh_ne f e), if_neg (sh_ne f a)]
theorem answer_r (h0 : s.e = 0) : aRp s (puV a) (puV e) f pl = vRp s (puV a) (puV e) f pl := aRp_v h0 (sh_ne f e) (sh_ne f a)
theorem answer_s (h0 : s.e = 0) : aS4 s (puV a) (puV e) f pl = vS4 s (puV a) (puV e) f pl := aS4_v h0 (sh_ne f e) (sh_ne f a)
theorem finish_0 (h0 : s.e = 0) (hl : pl.size ≤ 4096) : fiE s a e (vRp s (puV a) (puV e) f pl) = 0 := by
 have h := vRp_size (s := s) f pl (puV a) (puV e)
 unfold fiE
 rw [if_neg (by omega), if_neg (by omega), fS4_e _ _ _ h0, if_neg (fE_ne a e f pl e), if_neg (fE_ne a e f pl a), if_pos (gS3_tag a e f pl)]
theorem finish_s (h0 : s.e = 0) : fS4 s a e (vRp s (puV a) (puV e) f pl) = vS4 s (puV a) (puV e) f pl := (fS4_g h0 (fE_ne a e f pl e) (fE_ne a e f pl a) (gS3_tag a e f pl)).trans (gS4_v a e f pl)
theorem finish_p (h0 : s.e = 0) : fP s a e (vRp s (puV a) (puV e) f pl) = pl := (fP_g h0 (fE_ne a e f pl e) (fE_ne a e f pl a) (gS3_tag a e f pl)).trans (gP_v a e f pl)
end
end Go.Proofs.YtiahdbibeleakaaGreatDoor
namespace Go.Proofs.YtiahdbibeleakaaGreatDoor.Mon
open Go.RowKit
theorem mk32 (w : World) : (Instr.makeSlice 44 (.int .i64 32) (.int .i64 32)).run Tryz.prog w = .ok (.slice (some ⟨w.heap.size, 0, none⟩) 32 32) (w.alloc (.cells #[Value.int .u8 0, Value.int .u8 0, Value.int .u8 0, Value.int .u8 0, Value.int .u8 0, Value.int .u8 0, Value.int .u8 0, Value.int .u8 0, Value.int .u8 0, Value.int .u8 0, Value.int .u8 0, Value.int .u8 0, Value.int .u8 0, Value.int .u8 0, Value.int .u8 0, Value.int .u8 0, Value.int .u8 0, Value.int .u8 0, Value.int .u8 0, Value.int .u8 0, Value.int .u8 0, Value.int .u8 0, Value.int .u8 0, Value.int .u8 0, Value.int .u8 0, Value.int .u8 0, Value.int .u8 0, Value.int .u8 0, Value.int .u8 0, Value.int .u8 0, Value.int .u8 0, Value.int .u8 0] 5)) := by kernel_rfl
theorem bc32 (w : World) : BC (w.alloc (.cells #[Value.int .u8 0, Value.int .u8 0, Value.int .u8 0, Value.int .u8 0, Value.int .u8 0, Value.int .u8 0, Value.int .u8 0, Value.int .u8 0, Value.int .u8 0, Value.int .u8 0, Value.int .u8 0, Value.int .u8 0, Value.int .u8 0, Value.int .u8 0, Value.int .u8 0, Value.int .u8 0, Value.int .u8 0, Value.int .u8 0, Value.int .u8 0, Value.int .u8 0, Value.int .u8 0, Value.int .u8 0, Value.int .u8 0, Value.int .u8 0, Value.int .u8 0, Value.int .u8 0, Value.int .u8 0, Value.int .u8 0, Value.int .u8 0, Value.int .u8 0, Value.int .u8 0, Value.int .u8 0] 5)) w.heap.size (fun _ => 0) 32 where
 lt := by simp
 c := fun i hi => by
  rw [cell_of_row _ _ _ _ _ _ (heap_alloc_new w _)]
  have h : ∀ j : Fin 32, (#[Value.int .u8 0, Value.int .u8 0, Value.int .u8 0, Value.int .u8 0, Value.int .u8 0, Value.int .u8 0, Value.int .u8 0, Value.int .u8 0, Value.int .u8 0, Value.int .u8 0, Value.int .u8 0, Value.int .u8 0, Value.int .u8 0, Value.int .u8 0, Value.int .u8 0, Value.int .u8 0, Value.int .u8 0, Value.int .u8 0, Value.int .u8 0, Value.int .u8 0, Value.int .u8 0, Value.int .u8 0, Value.int .u8 0, Value.int .u8 0, Value.int .u8 0, Value.int .u8 0, Value.int .u8 0, Value.int .u8 0, Value.int .u8 0, Value.int .u8 0, Value.int .u8 0, Value.int .u8 0] : Array Value)[j.val]? = some (.int .u8 0) := fun j => by
   rcases j with ⟨j, hj⟩
   have : j < 32 := hj
   rcases j with _|_|_|_|_|_|_|_|_|_|_|_|_|_|_|_|_|_|_|_|_|_|_|_|_|_|_|_|_|_|_|_|j
   all_goals first | rfl | omega
  exact h ⟨i, hi⟩
 fz := fun i hi => by
  unfold World.frozen?
  rw [heap_alloc_new w _]
  simp
theorem nine_bs : bs ((List.range 32).map (upd (fun _ => 0) 0 9)) = nineS := by decide +kernel
open Go.RowKit
theorem rladL (s p : Yb) (w : World) (hL : Laid w) (V : Int) (hs : s.size = 32) (hp : p.size = 32) (hV : shV (clS s) (val (mkS p) % Pm) = V) : Cs 30 #[.string s, .string p] w (.string (lebytes V)) := by
 have h := l_ladder s p (clS s) (val (mkS p) % Pm) hs hp rfl rfl w hL
 have e : lebytes V = bs (rb (d16 ((rladF (clS s) (val (mkS p) % Pm) 255).x2 * pwm (rladF (clS s) (val (mkS p) % Pm) 255).z2 (xbit 255 21) 255 % Pm)) 32) := by
  rw [← hV]
  exact leb_rb (shV_bd _ _)
 rwa [← e] at h
theorem rpub_genL (s S : Yb) (w : World) (hL : Laid w) (hs : s.size = 32) (H : ∀ w, Laid w → Cs 30 #[.string s, .string nineS] w (.string S)) : Cs 15 #[.string s] w (.tuple #[.string S, .int .i64 0]) := by
 have n1 : ((s.size : Int) != 32) = false := by simp [hs]
 clear hs
 have H1 := hide H
 clear H
 have m1 := mk32 w
 have B := bc32 w
 have c0 := B.c 0 (by omega)
 have f0 := B.fz 0 (by omega)
 have gl := B.lt
 have hbk := conv_back (B.set (k := 0) (by omega) 9) 32 (fun i _ => by unfold upd; by_cases h : i = 0 <;> simp [h])
 rw [nine_bs] at hbk
 have O := hide ((new_below w (.cells #[Value.int .u8 0, Value.int .u8 0, Value.int .u8 0, Value.int .u8 0, Value.int .u8 0, Value.int .u8 0, Value.int .u8 0, Value.int .u8 0, Value.int .u8 0, Value.int .u8 0, Value.int .u8 0, Value.int .u8 0, Value.int .u8 0, Value.int .u8 0, Value.int .u8 0, Value.int .u8 0, Value.int .u8 0, Value.int .u8 0, Value.int .u8 0, Value.int .u8 0, Value.int .u8 0, Value.int .u8 0, Value.int .u8 0, Value.int .u8 0, Value.int .u8 0, Value.int .u8 0, Value.int .u8 0, Value.int .u8 0, Value.int .u8 0, Value.int .u8 0, Value.int .u8 0, Value.int .u8 0] 5)).setCell (p := ⟨w.heap.size, 0, none⟩) (Nat.le_refl _) (.int .u8 9))
 clear B
 generalize nineS = N at *
 generalize w.alloc (.cells #[Value.int .u8 0, Value.int .u8 0, Value.int .u8 0, Value.int .u8 0, Value.int .u8 0, Value.int .u8 0, Value.int .u8 0, Value.int .u8 0, Value.int .u8 0, Value.int .u8 0, Value.int .u8 0, Value.int .u8 0, Value.int .u8 0, Value.int .u8 0, Value.int .u8 0, Value.int .u8 0, Value.int .u8 0, Value.int .u8 0, Value.int .u8 0, Value.int .u8 0, Value.int .u8 0, Value.int .u8 0, Value.int .u8 0, Value.int .u8 0, Value.int .u8 0, Value.int .u8 0, Value.int .u8 0, Value.int .u8 0, Value.int .u8 0, Value.int .u8 0, Value.int .u8 0, Value.int .u8 0] 5) = W1 at *
 go_enter Tryz.func15, Tryz.ntmps15
 go_wp2_with fail
 refine (H1.out _ (below_laid O.out hL)).mono ?_
 rintro _ w3 ⟨rfl, hb⟩
 have O2 := O.out.trans (hb.mono O.out.size)
 clear hb H1
 go_wp2_with fail
 exact bodyPost_ret (v := .tuple #[.string S, .int .i64 0]) (by simp [results, Tryz.results15, go_sem]) rfl ⟨rfl, O2⟩
theorem rpubL (s : Yb) (w : World) (hL : Laid w) (hs : s.size = 32) : Cs 15 #[.string s] w (.tuple #[.string (lebytes (shV (clS s) 9)), .int .i64 0]) :=
 rpub_genL s _ w hL hs fun w hL => rladL s nineS w hL _ hs nineS_size (by rw [v9])
end Go.Proofs.YtiahdbibeleakaaGreatDoor.Mon
namespace Go.Proofs.YtiahdbibeleakaaGreatDoor
open Go.RowKit
theorem cv_u64 (x : Int) : cv .u64 x = x % 18446744073709551616 := by
 unfold cv
 simp [IntKind.wrap, IntKind.signed, IntKind.bits]
section
variable {P : Program} {ops : Array Oper} {o o2 o3 : Oper} {a : Act} {w : World} {Q : Exit → Act → World → Prop} {S : World → Prop} {n fuel : Nat} {listed : Array Bool}
theorem hl_name (h : ∀ H : Nat → Array Bool → Act → World → Prop, (∀ f l a w, H f l a w → HL P ops Q S n f l a w) → (∀ f l a w, HL P ops Q S n f l a w → H f l a w) → H fuel listed a w) : HL P ops Q S n fuel listed a w := h _ (fun _ _ _ _ h => h) (fun _ _ _ _ h => h)
end
theorem if_max (x y : Int) : (if y > x then y else x) = max x y := by
 rw [Int.max_def]
 split <;> split <;> omega
theorem run_shlX {P : Program} {a : Act} {o : Oper} (t rt : TypeId) (x y : Operand) (ho : o.op = .binOp .shl t x y rt) (k : Int) (ky : IntKind) (m : Nat) (hx : a.eval x = .int .u64 k) (hy : a.eval y = .int ky (m : Int)) (w : World) :
  (execOp a.eval o).run P w = .ok (.value (.int .u64 (sl k m))) w := by
 by_cases hm : m ≤ 64
 ·exact Pol.run_shlU t rt x y ho k ky m hx hy hm w
 ·have e : IntKind.wrap .u64 (k * 2 ^ min m 64) = IntKind.wrap .u64 (k * 2 ^ m) := by
   obtain ⟨n, rfl⟩ : ∃ n, m = n + 64 := ⟨m - 64, by omega⟩
   rw [IntKind.wrap_u64, IntKind.wrap_u64, Nat.min_eq_right (by omega), Int.pow_add, ← Int.mul_assoc]
   have : (2 : Int) ^ 64 = 18446744073709551616 := rfl
   rw [this, Int.mul_emod_left, Int.mul_emod_left]
  unfold execOp sl
  rw [← e]
  simp [ho, hx, hy, eqGuard, binOp, Op.shift, IntKind.bits]
  intro h
  omega
structure There (w : World) (T : List Blk) : Prop where
 at_ : ∀ b ∈ T, w.heap[b.g]? = some b.Z
 nodup : (T.map Blk.g).Nodup
 ne : ∀ b ∈ T, 2 < b.g
theorem Mem.startT {w : World} {T : List Blk} (hL : Laid w) (h : There w T) : Mem ⟨w, T.map Blk.g⟩ T w :=
 ⟨grown_refl _ _, h.at_, fun b hb => .inr (List.mem_map_of_mem hb), h.nodup, hL, fun k hk => by obtain ⟨b, hb, rfl⟩ := List.mem_map.1 hk; exact h.ne b hb⟩
theorem Mem.there {c : Ctx} {L T : List Blk} {W : World} (M : Mem c L W) (h : T.Sublist L) : There W T := ⟨fun b hb => M.at_ b (h.subset hb), M.nodup.sublist (h.map _), fun b hb => by
 rcases M.ge b (h.subset hb) with h1 | h1
 ·exact Nat.lt_of_lt_of_le M.lay.lt h1
 ·exact M.ne _ h1⟩
theorem ro_T {w W : World} {T : List Blk} (h : There w T) (M : Mem ⟨w, T.map Blk.g⟩ T W) : Below w.heap.size w W := ⟨M.old.os, M.old.tape, M.old.output, M.old.size, fun k hk => by
 by_cases e : k ∈ T.map Blk.g
 ·obtain ⟨b, hb, rfl⟩ := List.mem_map.1 e
  rw [h.at_ b hb, M.at_ b hb]
 ·exact M.old.block k hk e⟩
structure OkT (w w' : World) (T T' : List Blk) : Prop where
 grw : Grw w w' (T.map Blk.g)
 at_ : ∀ b ∈ T', w'.heap[b.g]? = some b.Z
 nodup : (T'.map Blk.g).Nodup
 ge : ∀ b ∈ T', b.g ∈ T.map Blk.g ∨ w.heap.size ≤ b.g
theorem Mem.okT0 {w : World} {T T' : List Blk} {W : World} (M : Mem ⟨w, T.map Blk.g⟩ T' W) : OkT w W T T' := ⟨M.old, M.at_, M.nodup, fun b hb => (M.ge b hb).symm⟩
theorem Mem.putT {c : Ctx} {L T T' : List Blk} {W W' : World} (M : Mem c (L ++ T) W) (h : OkT W W' T T') : Mem c (L ++ T') W' where
 old := ⟨h.grw.os.trans M.old.os, h.grw.tape.trans M.old.tape, h.grw.output.trans M.old.output, Nat.le_trans M.old.size h.grw.size, fun k hk hr => by
  refine (h.grw.block k (Nat.lt_of_lt_of_le hk M.old.size) fun e => ?_).trans (M.old.block k hk hr)
  obtain ⟨b, hb, rfl⟩ := List.mem_map.1 e
  rcases M.ge b (List.mem_append_right _ hb) with h1 | h1
  ·omega
  ·exact hr h1⟩
 at_ := fun b hb => by
  rcases List.mem_append.1 hb with hb | hb
  ·rw [h.grw.block _ (M.lt (List.mem_append_left _ hb)) fun e => ?_]
   ·exact M.at_ b (List.mem_append_left _ hb)
   ·have hn := M.nodup
    rw [List.map_append, List.nodup_append] at hn
    exact hn.2.2 _ (List.mem_map_of_mem hb) _ e rfl
  ·exact h.at_ b hb
 ge := fun b hb => by
  rcases List.mem_append.1 hb with hb | hb
  ·exact M.ge b (List.mem_append_left _ hb)
  ·rcases h.ge b hb with h1 | h1
   ·obtain ⟨d, hd, e⟩ := List.mem_map.1 h1
    rw [← e]
    exact M.ge d (List.mem_append_right _ hd)
   ·exact .inl (Nat.le_trans M.old.size h1)
 nodup := by
  have hn := M.nodup
  rw [List.map_append, List.nodup_append] at hn ⊢
  refine ⟨hn.1, h.nodup, fun x hx y hy e => ?_⟩
  obtain ⟨d, hd, rfl⟩ := List.mem_map.1 hy
  rcases h.ge d hd with h1 | h1
  ·exact hn.2.2 _ hx _ h1 e
  ·obtain ⟨b, hb, rfl⟩ := List.mem_map.1 hx
   have := M.lt (List.mem_append_left _ hb)
   omega
 lay := M.lay
 ne := M.ne
theorem Mem.mid {c : Ctx} {L pre T suf T' : List Blk} {W W' : World} (M : Mem c L W) (hp : L = pre ++ (T ++ suf)) (h : OkT W W' T T') : Mem c (pre ++ (T' ++ suf)) W' := by
 subst hp
 have p : ∀ X : List Blk, (pre ++ (X ++ suf)).Perm ((pre ++ suf) ++ X) := fun X => by
  rw [List.append_assoc]
  exact List.Perm.append_left pre List.perm_append_comm
 exact ((M.perm (p T)).putT h).perm (p T').symm
theorem Mem.thereM {c : Ctx} {L pre T suf : List Blk} {W : World} (M : Mem c L W) (hp : L = pre ++ (T ++ suf)) : There W T := by
 subst hp
 exact M.there ((List.sublist_append_left T suf).trans (List.sublist_append_right pre _))
section
variable {P : Program} {ops : Array Oper} {rest : List Oper} {o : Oper} {a : Act} {w : World} {c : Ctx} {L : List Blk} {Q : Exit → Act → World → Prop} {α : Type}
theorem pl_callM (M : Mem c L w) (hw : Region.wanted o (yielded ops a.tmps) = true) (d : Option Tmp) (hd : o.dst = d) (f : FuncId) (args : Array Value) (pre T suf : List Blk) (hp : L = pre ++ (T ++ suf)) (v : α → Value) (T' : α → List Blk) (R : α → Prop) (hrun : ∀ w, (execOp a.eval o).run P w = .ok (.enter f args) w)
  (hc : ∀ w, Laid w → There w T → Calls P f args w fun e w' => ∃ x, e = .returned (v x) ∧ R x ∧ OkT w w' T (T' x)) (h : ∀ x w', R x → Mem c (pre ++ (T' x ++ suf)) w' → PL P ops Q rest (a.put d (v x)) w') : PL P ops Q (o :: rest) a w :=
 pl_callq hw d hd f args hrun ((hc w M.laid (M.thereM hp)).mono fun _ w' ⟨x, he, hR, hk⟩ => ⟨v x, he, h x w' hR (M.mid hp hk)⟩)
theorem pl_call2 (M : Mem c L w) (hw : Region.wanted o (yielded ops a.tmps) = true) (d : Option Tmp) (hd : o.dst = d) (f : FuncId) (args : Array Value) (v : Value) (i j g k : Nat) (Z Y Z' Y' : Obj) (hi : L[i]? = some ⟨g, Z⟩) (hj : L[j]? = some ⟨k, Y⟩) (hrun : ∀ w, (execOp a.eval o).run P w = .ok (.enter f args) w)
  (hc : ∀ w, Mem c L w → Calls P f args w fun e w' => e = .returned v ∧ Grw w w' [g, k] ∧ w'.heap[g]? = some Z' ∧ w'.heap[k]? = some Y') (h : ∀ w', Mem c ((L.set i ⟨g, Z'⟩).set j ⟨k, Y'⟩) w' → PL P ops Q rest (a.put d v) w') : PL P ops Q (o :: rest) a w :=
 pl_callq hw d hd f args hrun ((hc w M).mono fun _ w' ⟨he, h1, h2, h3⟩ => ⟨v, he, h w' (M.put2 i j ⟨g, Z⟩ ⟨k, Y⟩ hi hj Z' Y' h1 h2 h3)⟩)
end
def InfoIs (P : Program) (e : TypeId) (zv : Value) : Prop := ∃ i, P.info? e = some i ∧ i.zero = some zv ∧ i.size = 1 ∧ i.bytes ≤ 16
theorem infoIs {P : Program} {e : TypeId} {zv : Value} {b : Nat} (h1 : (P.info? e).map (·.zero) = some (some zv)) (h2 : (P.info? e).map (·.size) = some 1) (h3 : (P.info? e).map (·.bytes) = some b) (hb : b ≤ 16) : InfoIs P e zv := by
 cases h : P.info? e with
 | none => rw [h] at h2; cases h2
 | some i =>
  rw [h] at h1 h2 h3
  simp only [Option.map_some, Option.some.injEq] at h1 h2 h3
  exact ⟨i, h, h1, h2, by omega⟩
theorem info33 : InfoIs Tryz.prog 33 (.int .u64 0) := infoIs (b := 8) (by kernel_rfl) (by kernel_rfl) (by kernel_rfl) (by decide)
section
variable {P : Program} {ops : Array Oper} {rest : List Oper} {o : Oper} {a : Act} {w : World} {c : Ctx} {L : List Blk} {Q : Exit → Act → World → Prop}
end
def ud (x y : Int) : Int := IntKind.wrap .u64 (BitVec.ofInt 64 x &&& ~~~ BitVec.ofInt 64 y).toNat
theorem run_remU {P : Program} {a : Act} {o : Oper} (t rt : TypeId) (x y : Operand) (ho : o.op = .binOp .rem t x y rt) (m d : Nat) (hx : a.eval x = .int .u64 (m : Int)) (hy : a.eval y = .int .u64 (d : Int)) (hd : 0 < d) (w : World) :
  (execOp a.eval o).run P w = .ok (.value (.int .u64 ((m % d : Nat) : Int))) w := by
 have h0 : ¬ d = 0 := by omega
 have e : Int.tmod (m : Int) (d : Int) = (m : Int) % (d : Int) := rfl
 unfold execOp
 simp [ho, hx, hy, eqGuard, binOp, Op.intDiv, h0, e]
theorem run_quoU {P : Program} {a : Act} {o : Oper} (t rt : TypeId) (x y : Operand) (ho : o.op = .binOp .quo t x y rt) (m d : Nat) (hx : a.eval x = .int .u64 (m : Int)) (hy : a.eval y = .int .u64 (d : Int)) (hd : 0 < d) (hm : m < 18446744073709551616) (w : World) :
  (execOp a.eval o).run P w = .ok (.value (.int .u64 ((m / d : Nat) : Int))) w := by
 have h0 : ¬ d = 0 := by omega
 have h2 : m / d ≤ m := Nat.div_le_self m d
 have e2 : IntKind.wrap .u64 ((m : Int) / (d : Int)) = (m : Int) / (d : Int) := by
  have e3 : (m : Int) / (d : Int) = ((m / d : Nat) : Int) := rfl
  rw [e3]
  generalize m / d = q at *
  rw [IntKind.wrap_u64]
  omega
 unfold execOp
 simp only [ho, hx, hy]
 simp [eqGuard, binOp, Op.intDiv, h0]
 exact e2
def nW (s : Nat) : Nat := (s + 63) / 64
def clF (n : Nat) (m : NI) : Nat → Int := fun i => if i < n then 0 else m i
section
variable {ops : Array Oper} {rest : List Oper} {o : Oper} {a : Act} {w : World} {c : Ctx} {L : List Blk} {Q : Exit → Act → World → Prop}
theorem pl_makeW (M : Mem c L w) (hw : Region.wanted o (yielded ops a.tmps) = true) (d : Option Tmp) (hd : o.dst = d) (x y : Operand) (ho : o.op = .makeSlice 120 x y) (n : Nat) (hx : a.eval x = .int .i64 (n : Int)) (hy : a.eval y = .int .i64 (n : Int)) (hc : n < 1000000)
  (h : ∀ g w', Mem c (L ++ [⟨g, .cells (av n (w64 (fun _ => 0))) 33⟩]) w' → PL Tryz.prog ops Q rest (a.put d (.slice (some ⟨g, 0, none⟩) n n)) w') : PL Tryz.prog ops Q (o :: rest) a w := by
 obtain ⟨info, i1, i2, i3, i4⟩ := info33
 have hr := run_make (P := Tryz.prog) w 120 33 info (.int .u64 0) Tryz.underlying120 i1 i2 .i64 .i64 (n : Int) (n : Int) (by omega) (by omega) (by
  have := Int.mul_le_mul (show (info.bytes : Int) ≤ 16 by omega) (show (n : Int) ≤ 1000000 by omega) (by omega) (by omega)
  omega) (by omega)
 simp only [Int.toNat_natCast, i3, Nat.mul_one] at hr
 have e : madeCells (Value.int .u64 0).cells n = av n (w64 (fun _ => 0)) := by
  apply Array.ext_getElem?
  intro i
  by_cases hi : i < n
  ·rw [av_get n _ i hi]
   simp [madeCells, hi, w64, Value.cells, Nat.mod_one]
  ·rw [Array.getElem?_eq_none (by simp [madeCells]; omega), Array.getElem?_eq_none (by simp [av_size]; omega)]
 rw [e] at hr
 refine pl_to hw d hd (.slice (some ⟨w.heap.size, 0, none⟩) n n) _ ?_ (h w.heap.size (w.alloc (.cells (av n (w64 (fun _ => 0))) 33)) (M.new _ _ (new_below w _) (heap_alloc_new w _) (Nat.le_refl _)))
 unfold execOp
 simp only [ho, hx, hy, Sem.run_bind, Sem.run_pure]
 rw [hr]
 rfl
theorem pl_clearW (M : Mem c L w) (hw : Region.wanted o (yielded ops a.tmps) = true) (hd : o.dst = none) (i g N : Nat) (m : NI) (hi : L[i]? = some ⟨g, .cells (av N (w64 m)) 33⟩) (n cp : Nat) (hn : 0 < n) (hle : n ≤ N)
  (hrun : ∀ w, (execOp a.eval o).run Tryz.prog w = (do pure (Next.value (← Builtin.clear_ #[120] 0 #[.slice (some ⟨g, 0, none⟩) n cp]))).run Tryz.prog w)
  (h : ∀ w', Mem c (L.set i ⟨g, .cells (av N (w64 (clF n m))) 33⟩) w' → PL Tryz.prog ops Q rest (a.put none (.tuple #[])) w') : PL Tryz.prog ops Q (o :: rest) a w := by
 have R := M.get i hi
 have hr := Lib.run_clear_slice (P := Tryz.prog) w 120 33 0 (.int .u64 0) Tryz.underlying120 (fun _ => by kernel_rfl) rfl rfl g 0 n cp hn (fun j hj => by rw [Nat.zero_add, cell_av R (by omega)]; rfl) (fun j hj => free_av R _)
 have e : List.replicate n (Value.int .u64 0) = (av n (fun _ => .int .u64 0)).toList := by
  apply List.ext_getElem?
  intro i
  by_cases hi : i < n
  ·have e1 : (av n (fun _ => Value.int .u64 0)).toList[i]? = some (.int .u64 0) := by rw [Array.getElem?_toList, av_get n _ i hi]
   rw [e1]
   simp [hi]
  ·rw [List.getElem?_eq_none (by simp; omega), List.getElem?_eq_none (by simp [av_size]; omega)]
 rw [e] at hr
 refine pl_to hw none hd (.tuple #[]) _ ?_ (h _ (M.put i ⟨g, _⟩ hi _ (grown_setCells g _ _ _) (by rw [heap_setCells g 33 _ w _ 0 R, setAll_av N (w64 m) (fun _ => .int .u64 0) (w64 (clF n m)) 0 n (by omega) (fun j _ => by
  unfold w64 clF
  by_cases hj : j < n
  ·rw [if_pos (by omega), if_pos hj]
  ·rw [if_neg (by omega), if_neg hj])])))
 rw [hrun]
 simp only [Sem.run_bind, hr, Result.andThen_ok, Sem.run_pure]
end
theorem inz23 : (Tryz.prog.info? 23).map (·.size) = some 4 := by kernel_rfl
theorem inz35 : (Tryz.prog.info? 35).map (·.size) = some 5 := by kernel_rfl
open Go.RowKit
def bw (p : Nat) : Int := sl 1 (p % 64)
def hb (m : NI) (p : Nat) : Bool := decide (¬ un (m (p / 64)) (bw p) = 0)
def stM (m : NI) (p : Nat) : Nat → Int := upd m (p / 64) (uo (m (p / 64)) (bw p))
def wpM (m : NI) (p : Nat) : Nat → Int := upd m (p / 64) (ud (m (p / 64)) (bw p))
theorem c_bit (p : Nat) (w : World) (hL : Laid w)  : Cs 106 #[.int .u64 (p : Int)] w (.int .u64 (bw p)) := by
 go_enter Tryz.func106, Tryz.ntmps106
 have M := Mem.start hL
 refine sq <| sR <| rV 1 ?_
 refine pH 4 (.int .u64 ((p % 64 : Nat) : Int)) (run_remU 33 33 _ _ rfl p 64 (by kernel_rfl) (by kernel_rfl) (by decide)) ?_
 refine pH 5 (.int .u64 (sl 1 (p % 64))) (run_shlX 33 33 _ _ rfl 1 .u64 (p % 64) (by kernel_rfl) (by kernel_rfl)) ?_
 refine rV 1 <| nT <| wp_ret ?_
 have e0 : (bw p) = (sl 1 (p % 64)) := rfl
 exact bodyPost_ret (v := .int .u64 (sl 1 (p % 64))) (results_tmp1 Tryz.results106 _ _ _ (by kernel_rfl)) (by kernel_rfl) ⟨by rw [e0], below_grown M.old⟩
theorem c_has (k p n cap : Nat) (m : NI) (hp : p < 18446744073709551616) (hn : p / 64 < n) (hc : n ≤ cap) (w : World) (hL : Laid w)  (hT : There w [⟨k, .cells (av cap (w64 m)) 33⟩]) : Cs 74 #[.slice (some ⟨k, 0, none⟩) n cap, .int .u64 (p : Int)] w (.bool (hb m p)) := by
 go_enter Tryz.func74, Tryz.ntmps74
 have M : Mem ⟨w, [k]⟩ [⟨k, .cells (av cap (w64 m)) 33⟩] w := Mem.startT hL hT
 refine sq <| wp_seq ?_
 refine rg_tail M 9 (by kernel_rfl) (by kernel_rfl) ?_
 simp only [List.take_succ_cons, List.take_zero]
 refine kR 2 ?_
 refine kH 7 (.int .u64 ((p / 64 : Nat) : Int)) (run_quoU 33 33 _ _ rfl p 64 (by kernel_rfl) (by kernel_rfl) (by decide) (by omega)) ?_
 refine kH 8 (.pointer (some ⟨k, ((p / 64)), none⟩)) (run_ix0 120 33 Tryz.underlying120 inz33 _ _ rfl k n cap (by kernel_rfl) .u64 ((p / 64)) (by kernel_rfl) (by omega)) ?_
 refine eE M 9 0 ((p / 64)) ?_
 refine kR 1 ?_
 refine eC M 11 (fun w M => c_bit p w M.laid) ?_
 refine kR 1 ?_
 by_cases c0 : (un (m ((p / 64))) (bw p)) = 0
 ·refine kH 13 (.bool false) (jD ((un (m ((p / 64))) (bw p)) = 0) (c0)) ?_
  refine kl_nil fun u1 M => ?_
  replace M : Mem ⟨w, [k]⟩ [⟨k, .cells (av cap (w64 m)) 33⟩] u1 := M
  refine rV 1 <| nT <| wp_ret ?_
  have e0 : hb m p = false := by first | (simp only [hb, if_pos c0]; done) | simp [hb, c0]
  exact bodyPost_ret (v := .bool false) (results_tmp1 Tryz.results74 _ _ _ (by kernel_rfl)) (by kernel_rfl) ⟨by rw [e0], ro_T hT M⟩
 ·refine kH 13 (.bool true) (jU ((un (m ((p / 64))) (bw p)) = 0) (c0)) ?_
  refine kl_nil fun u1 M => ?_
  replace M : Mem ⟨w, [k]⟩ [⟨k, .cells (av cap (w64 m)) 33⟩] u1 := M
  refine rV 1 <| nT <| wp_ret ?_
  have e0 : hb m p = true := by first | (simp only [hb, if_neg c0]; done) | simp [hb, c0]
  exact bodyPost_ret (v := .bool true) (results_tmp1 Tryz.results74 _ _ _ (by kernel_rfl)) (by kernel_rfl) ⟨by rw [e0], ro_T hT M⟩
theorem c_set (k p n cap : Nat) (m : NI) (hp : p < 18446744073709551616) (hn : p / 64 < n) (hc : n ≤ cap) (w : World) (hL : Laid w)  (hT : There w [⟨k, .cells (av cap (w64 m)) 33⟩]) : Calls Tryz.prog 78 #[.slice (some ⟨k, 0, none⟩) n cap, .int .u64 (p : Int)] w fun r w' => r = .returned (.tuple #[]) ∧ Grw w w' [k] ∧ w'.heap[k]? = some (.cells (av cap (w64 (stM m p))) 33) := by
 go_enter Tryz.func78, Tryz.ntmps78
 have M : Mem ⟨w, [k]⟩ [⟨k, .cells (av cap (w64 m)) 33⟩] w := Mem.startT hL hT
 refine rg_tail M 9 (by kernel_rfl) (by kernel_rfl) ?_
 simp only [List.take_succ_cons, List.take_zero]
 refine kR 2 ?_
 refine kH 6 (.int .u64 ((p / 64 : Nat) : Int)) (run_quoU 33 33 _ _ rfl p 64 (by kernel_rfl) (by kernel_rfl) (by decide) (by omega)) ?_
 refine kH 7 (.pointer (some ⟨k, ((p / 64)), none⟩)) (run_ix0 120 33 Tryz.underlying120 inz33 _ _ rfl k n cap (by kernel_rfl) .u64 ((p / 64)) (by kernel_rfl) (by omega)) ?_
 refine eE M 8 0 ((p / 64)) ?_
 refine kR 1 ?_
 refine eC M 10 (fun w M => c_bit p w M.laid) ?_
 refine kR 1 ?_
 refine kH 12 (.pointer (some ⟨k, ((p / 64)), none⟩)) (run_ix0 120 33 Tryz.underlying120 inz33 _ _ rfl k n cap (by kernel_rfl) .u64 ((p / 64)) (by kernel_rfl) (by omega)) ?_
 refine kl_nil fun u1 M => ?_
 replace M : Mem ⟨w, [k]⟩ [⟨k, .cells (av cap (w64 m)) 33⟩] u1 := M
 refine ZP64 M 0 ((p / 64)) (uo (m ((p / 64))) (bw p)) fun u2 M => ?_
 replace M : Mem ⟨w, [k]⟩ [⟨k, .cells (av cap (w64 (upd m ((p / 64)) (uo (m ((p / 64))) (bw p))))) 33⟩] u2 := M
 refine pl_nil ?_
 exact bodyPost_end (v := .tuple #[]) (results_none Tryz.results78 _ _) (by kernel_rfl) ⟨rfl, M.old, M.get 0 rfl⟩
theorem c_wipe (k p n cap : Nat) (m : NI) (hp : p < 18446744073709551616) (hn : p / 64 < n) (hc : n ≤ cap) (w : World) (hL : Laid w)  (hT : There w [⟨k, .cells (av cap (w64 m)) 33⟩]) : Calls Tryz.prog 107 #[.slice (some ⟨k, 0, none⟩) n cap, .int .u64 (p : Int)] w fun r w' => r = .returned (.tuple #[]) ∧ Grw w w' [k] ∧ w'.heap[k]? = some (.cells (av cap (w64 (wpM m p))) 33) := by
 go_enter Tryz.func107, Tryz.ntmps107
 have M : Mem ⟨w, [k]⟩ [⟨k, .cells (av cap (w64 m)) 33⟩] w := Mem.startT hL hT
 refine rg_tail M 9 (by kernel_rfl) (by kernel_rfl) ?_
 simp only [List.take_succ_cons, List.take_zero]
 refine kR 2 ?_
 refine kH 6 (.int .u64 ((p / 64 : Nat) : Int)) (run_quoU 33 33 _ _ rfl p 64 (by kernel_rfl) (by kernel_rfl) (by decide) (by omega)) ?_
 refine kH 7 (.pointer (some ⟨k, ((p / 64)), none⟩)) (run_ix0 120 33 Tryz.underlying120 inz33 _ _ rfl k n cap (by kernel_rfl) .u64 ((p / 64)) (by kernel_rfl) (by omega)) ?_
 refine eE M 8 0 ((p / 64)) ?_
 refine kR 1 ?_
 refine eC M 10 (fun w M => c_bit p w M.laid) ?_
 refine kR 1 ?_
 refine kH 12 (.pointer (some ⟨k, ((p / 64)), none⟩)) (run_ix0 120 33 Tryz.underlying120 inz33 _ _ rfl k n cap (by kernel_rfl) .u64 ((p / 64)) (by kernel_rfl) (by omega)) ?_
 refine kl_nil fun u1 M => ?_
 replace M : Mem ⟨w, [k]⟩ [⟨k, .cells (av cap (w64 m)) 33⟩] u1 := M
 refine ZP64 M 0 ((p / 64)) (ud (m ((p / 64))) (bw p)) fun u2 M => ?_
 replace M : Mem ⟨w, [k]⟩ [⟨k, .cells (av cap (w64 (upd m ((p / 64)) (ud (m ((p / 64))) (bw p))))) 33⟩] u2 := M
 refine pl_nil ?_
 exact bodyPost_end (v := .tuple #[]) (results_none Tryz.results107 _ _) (by kernel_rfl) ⟨rfl, M.old, M.get 0 rfl⟩
theorem c_place (g k s h cap n : Nat) (hs : 1 ≤ s) (w : World) (hL : Laid w)  (hT : There w [⟨g, .cells (av 3 (ls [.int .u64 (s : Int), .int .u64 (h : Int), .slice (some ⟨k, 0, none⟩) (nW s) cap])) 123⟩]) : Cs 75 #[.pointer (some ⟨g, 0, none⟩), .int .u64 (n : Int)] w (.int .u64 ((n % s : Nat) : Int)) := by
 go_enter Tryz.func75, Tryz.ntmps75
 have M : Mem ⟨w, [g]⟩ [⟨g, .cells (av 3 (ls [.int .u64 (s : Int), .int .u64 (h : Int), .slice (some ⟨k, 0, none⟩) (nW s) cap])) 123⟩] w := Mem.startT hL hT
 refine sq <| sR <| rV 4 <| ZE M 9 0 0 ?_
 refine pH 10 (.int .u64 ((n % s : Nat) : Int)) (run_remU 33 33 _ _ rfl n s (by kernel_rfl) (by kernel_rfl) (by omega)) ?_
 refine rV 1 <| nT <| wp_ret ?_
 exact bodyPost_ret (v := .int .u64 ((n % s : Nat) : Int)) (results_tmp1 Tryz.results75 _ _ _ (by kernel_rfl)) (by kernel_rfl) ⟨rfl, ro_T hT M⟩
theorem c_wmade (g k s h cap : Nat) (hs : 1 ≤ s) (w : World) (hL : Laid w)  (hT : There w [⟨g, .cells (av 3 (ls [.int .u64 (s : Int), .int .u64 (h : Int), .slice (some ⟨k, 0, none⟩) (nW s) cap])) 123⟩]) : Cs 73 #[.pointer (some ⟨g, 0, none⟩)] w (.bool true) := by
 go_enter Tryz.func73, Tryz.ntmps73
 have M : Mem ⟨w, [g]⟩ [⟨g, .cells (av 3 (ls [.int .u64 (s : Int), .int .u64 (h : Int), .slice (some ⟨k, 0, none⟩) (nW s) cap])) 123⟩] w := Mem.startT hL hT
 refine sq <| sR <| rV 6 ?_
 refine pl_cell M (want_on 2 true rfl 5 rfl (by kernel_rfl)) (some 9) rfl 33 _ rfl g 0 (by kernel_rfl) (.int .u64 (s : Int)) (fun _ => by kernel_rfl) (fun w M => M.cell 0 rfl (by decide) rfl) ?_
 by_cases c0 : 0 < (s : Int)
 ·refine pl_val (want_on 2 true rfl 5 rfl (by kernel_rfl)) (some 10) rfl (.bool true) (fun w => Eq.trans (b := .ok (.value (.bool (decide (0 < (s : Int))))) w) (by kernel_rfl) (by rw [decide_eq_true (c0)])) ?_
  refine rV 2 <| nT <| wp_ret ?_
  exact bodyPost_ret (v := .bool true) (results_tmp1 Tryz.results73 _ _ _ (by kernel_rfl)) (by kernel_rfl) ⟨rfl, ro_T hT M⟩
 ·exfalso; omega
theorem quo_nW (s : Nat) (hs : s ≤ 4096) : IntKind.wrap .i64 (Int.tdiv ((s : Int) + 64 - 1) 64) = ((nW s : Nat) : Int) := by
 have e : ((s : Int) + 64 - 1) = ((s + 63 : Nat) : Int) := by omega
 rw [e]
 have e2 : Int.tdiv ((s + 63 : Nat) : Int) 64 = (((s + 63) / 64 : Nat) : Int) := rfl
 rw [e2, wrap64 (by omega) (by omega)]
 rfl
theorem c_room (s : Nat) (hs4 : s ≤ 4096) (w : World) (hL : Laid w) : Calls Tryz.prog 66 #[.int .i64 (s : Int)] w fun r w' => ∃ k, r = .returned (.slice (some ⟨k, 0, none⟩) (nW s) (nW s)) ∧ w.heap.size ≤ k ∧ w'.heap[k]? = some (.cells (av (nW s) (w64 (fun _ => 0))) 33) ∧ Below w.heap.size w w' := by
 go_enter Tryz.func66, Tryz.ntmps66
 have M := Mem.start hL
 refine sq <| sR <| rV 1 ?_
 refine pH 4 (.int .i64 ((s : Int) + 64)) (fun w => Eq.trans (b := .ok (.value (.int .i64 (IntKind.wrap .i64 ((s : Int) + 64)))) w) (by kernel_rfl) (by rw [wrap64 (by omega) (by omega)])) ?_
 refine pH 5 (.int .i64 (((s : Int) + 64) - 1)) (fun w => Eq.trans (b := .ok (.value (.int .i64 (IntKind.wrap .i64 (((s : Int) + 64) - 1)))) w) (by kernel_rfl) (by rw [wrap64 (by omega) (by omega)])) ?_
 refine ZQ 6 .i64 (IntKind.wrap .i64 (Int.tdiv (((s : Int) + 64) - 1) 64)) (quo_nW s hs4) ?_
 refine pl_makeW M (want_no rfl) (some 7) rfl _ _ rfl ((nW s)) (by kernel_rfl) (by kernel_rfl) (by unfold nW; omega) fun g1 u1 M => ?_
 replace M : Mem ⟨w, []⟩ [⟨g1, .cells (av (nW s) (w64 (fun _ => 0))) 33⟩] u1 := M
 refine rV 1 <| nT <| wp_ret ?_
 exact bodyPost_ret (v := .slice (some ⟨g1, 0, none⟩) (nW s) (nW s)) (results_tmp1 Tryz.results66 _ _ _ (by kernel_rfl)) (by kernel_rfl) ⟨_, rfl, ((M.ge _ (List.mem_singleton.2 rfl)).resolve_right (by simp)), M.get 0 rfl, below_grown M.old⟩
open Go.RowKit
theorem wrapU_add (a b : Nat) (h : a + b < 18446744073709551616) : IntKind.wrap .u64 ((a : Int) + (b : Int)) = ((a + b : Nat) : Int) := by
 rw [IntKind.wrap_u64]
 omega
theorem wrapU_sub (a b : Nat) (h : b ≤ a) (ha : a < 18446744073709551616) : IntKind.wrap .u64 ((a : Int) - (b : Int)) = ((a - b : Nat) : Int) := by
 rw [IntKind.wrap_u64]
 omega
def wps (s h : Nat) (m : NI) : Nat → (Nat → Int)
 | 0 => m
 | j + 1 => wpM (wps s h m j) ((h + 1 + j) % s)
def lvM (s h : Nat) (m : NI) (y : Nat) : Nat → Int := if s ≤ y then clF (nW s) m else wps s h m y
def myF (s h : Nat) (m : NI) (n : Nat) : Int := if h < n then 0 else if s ≤ h - n then 170 else if hb m (n % s) = true then 9 else 0
def mkH (s h : Nat) (m : NI) (n : Nat) : Nat := if myF s h m n = 0 then if h < n then n else h else h
def mkM (s h : Nat) (m : NI) (n : Nat) : Nat → Int := if myF s h m n = 0 then stM (if h < n then lvM s h m (n - h) else m) (n % s) else m
theorem c_leave (g k s h cap : Nat) (m : NI) (y : Nat) (hs : 1 ≤ s) (hc : nW s ≤ cap) (hy : h + y < 18446744073709551616) (w : World) (hL : Laid w)  (hT : There w [⟨g, .cells (av 3 (ls [.int .u64 (s : Int), .int .u64 (h : Int), .slice (some ⟨k, 0, none⟩) (nW s) cap])) 123⟩, ⟨k, .cells (av cap (w64 m)) 33⟩]) : Calls Tryz.prog 77 #[.pointer (some ⟨g, 0, none⟩), .int .u64 (y : Int)] w fun r w' => r = .returned (.tuple #[]) ∧ Grw w w' [g, k] ∧ w'.heap[g]? = some (.cells (av 3 (ls [.int .u64 (s : Int), .int .u64 (h : Int), .slice (some ⟨k, 0, none⟩) (nW s) cap])) 123) ∧ w'.heap[k]? = some (.cells (av cap (w64 (lvM s h m y))) 33) := by
 go_enter Tryz.func77, Tryz.ntmps77
 have M : Mem ⟨w, [g, k]⟩ [⟨g, .cells (av 3 (ls [.int .u64 (s : Int), .int .u64 (h : Int), .slice (some ⟨k, 0, none⟩) (nW s) cap])) 123⟩, ⟨k, .cells (av cap (w64 m)) 33⟩] w := Mem.startT hL hT
 refine wp_seq <| sR <| rV 4 <| ZE M 9 0 0 ?_
 by_cases c0 : (y : Int) < (s : Int)
 ·refine ZF 10 ((s : Int) ≤ (y : Int)) <| nT <| cF <| wp_skip <| au_then <| sq <| wp_block ?_
  refine au_loop (fun j a w' => ∃ v1 : NV, a = (fm ([.pointer (some ⟨g, 0, none⟩), .int .u64 (y : Int), undef, undef, v1 4, .int .u64 (y : Int), .pointer (some ⟨g, 0, none⟩), .pointer (some ⟨g, 0, none⟩), .pointer (some ⟨g, 0, none⟩), .int .u64 (s : Int), .bool false] ++ und 4 ++ [.int .u64 (y : Int), .int .u64 (j : Int)] ++ vr v1 17 17)) ∧ Mem ⟨w, [g, k]⟩ [⟨g, .cells (av 3 (ls [.int .u64 (s : Int), .int .u64 (h : Int), .slice (some ⟨k, 0, none⟩) (nW s) cap])) 123⟩, ⟨k, .cells (av cap (w64 (wps s h m j))) 33⟩] w') y (exS M) ?_ ?_
  ·intro j a u0 hj hI
   obtain ⟨v1, rfl, M⟩ := hI
   refine sR <| ZT 17 ((j : Int) < (y : Int)) <| nT <| wp_seq <| cT <| wp_skip <| au_then <| wp_seq <| wp_block <| sq <| rg_tail M 13 (by kernel_rfl) (by kernel_rfl) ?_
   simp only [List.take_succ_cons, List.take_zero]
   refine kR 3 <| eE M 22 0 2 <| kR 4 <| eE M 27 0 1 <| kH 28 (.int .u64 ((h + 1 : Nat) : Int)) (fun w => Eq.trans (b := .ok (.value (.int .u64 (IntKind.wrap .u64 (((h : Nat) : Int) + ((1 : Nat) : Int))))) w) (by kernel_rfl) (by rw [wrapU_add h 1 (by omega)])) <| kR 1 <| kH 30 (.int .u64 ((h + 1 + j : Nat) : Int)) (fun w => Eq.trans (b := .ok (.value (.int .u64 (IntKind.wrap .u64 ((((h + 1) : Nat) : Int) + ((j : Nat) : Int))))) w) (by kernel_rfl) (by rw [wrapU_add (h + 1) j (by omega)])) <| kC M 31 75 #[.pointer (some ⟨g, 0, none⟩), .int .u64 ((h + 1 + j : Nat) : Int)] (.int .u64 (((h + 1 + j) % s : Nat) : Int)) (fun w M => c_place g k s h cap (h + 1 + j) hs w M.laid (M.there (.cons_cons _ (List.nil_sublist _)))) <| kl_nil fun u1 M => ?_
   replace M : Mem ⟨w, [g, k]⟩ [⟨g, .cells (av 3 (ls [.int .u64 (s : Int), .int .u64 (h : Int), .slice (some ⟨k, 0, none⟩) (nW s) cap])) 123⟩, ⟨k, .cells (av cap (w64 (wps s h m j))) 33⟩] u1 := M
   refine pl_callp M (want_no rfl) (some 32) rfl 107 #[.slice (some ⟨k, 0, none⟩) (nW s) cap, .int .u64 (((h + 1 + j) % s : Nat) : Int)] (.tuple #[]) 1 k (.cells (av cap (w64 (wps s h m j))) 33) (.cells (av cap (w64 (wpM (wps s h m j) ((h + 1 + j) % s)))) 33) rfl (fun _ => by kernel_rfl) (fun w M => c_wipe k ((h + 1 + j) % s) (nW s) cap (wps s h m j) (Nat.lt_of_le_of_lt (Nat.mod_le (h + 1 + j) s) (by omega)) (by have := Nat.mod_lt (h + 1 + j) (show 0 < s by omega); unfold nW; omega) hc w M.laid (M.there (.cons _ (.cons_cons _ (List.nil_sublist _))))) fun u2 M => ?_
   replace M : Mem ⟨w, [g, k]⟩ [⟨g, .cells (av 3 (ls [.int .u64 (s : Int), .int .u64 (h : Int), .slice (some ⟨k, 0, none⟩) (nW s) cap])) 123⟩, ⟨k, .cells (av cap (w64 (wpM (wps s h m j) ((h + 1 + j) % s)))) 33⟩] u2 := M
   refine pl_nil <| au_block <| au_then <| rg_lit <| pH 33 (.int .u64 ((j + 1 : Nat) : Int)) (fun w => Eq.trans (b := .ok (.value (.int .u64 (IntKind.wrap .u64 (((j : Nat) : Int) + ((1 : Nat) : Int))))) w) (by kernel_rfl) (by rw [wrapU_add j 1 (by omega)])) <| rV 1 <| nT ?_
   exact exS M
  ·intro a u0 hI
   obtain ⟨v1, rfl, M⟩ := hI
   refine sR <| ZF 17 ((y : Int) < (y : Int)) <| nT <| wp_seq <| cF <| wp_exit <| au_then_exit <| au_then_exit <| au_block_exit ?_
   have e0 : lvM s h m y = (wps s h m y) := by unfold lvM; rw [if_neg (by omega)]
   exact bodyPost_end (v := .tuple #[]) (results_none Tryz.results77 _ _) (by kernel_rfl) ⟨rfl, M.old, M.get 0 rfl, by rw [e0]; exact M.get 1 rfl⟩
 ·refine ZT 10 ((s : Int) ≤ (y : Int)) <| nT <| cT <| sR <| rV 3 <| ZE M 14 0 2 <| pl_clearW M (want_no rfl) rfl 1 k cap m rfl (nW s) cap (by unfold nW; omega) hc (fun _ => by kernel_rfl) fun u1 M => ?_
  replace M : Mem ⟨w, [g, k]⟩ [⟨g, .cells (av 3 (ls [.int .u64 (s : Int), .int .u64 (h : Int), .slice (some ⟨k, 0, none⟩) (nW s) cap])) 123⟩, ⟨k, .cells (av cap (w64 (clF (nW s) m))) 33⟩] u1 := M
  refine nT <| wp_ret <| au_then_ret ?_
  have e0 : lvM s h m y = (clF (nW s) m) := by unfold lvM; rw [if_pos (by omega)]
  exact bodyPost_ret (v := .tuple #[]) (results_none Tryz.results77 _ _) (by kernel_rfl) ⟨rfl, M.old, M.get 0 rfl, by rw [e0]; exact M.get 1 rfl⟩
theorem c_May (g k s h cap : Nat) (m : NI) (n : Nat) (hs : 1 ≤ s) (hc : nW s ≤ cap) (hh : h < 18446744073709551616) (hn : n < 18446744073709551616) (w : World) (hL : Laid w)  (hT : There w [⟨g, .cells (av 3 (ls [.int .u64 (s : Int), .int .u64 (h : Int), .slice (some ⟨k, 0, none⟩) (nW s) cap])) 123⟩, ⟨k, .cells (av cap (w64 m)) 33⟩]) : Cs 48 #[.pointer (some ⟨g, 0, none⟩), .int .u64 (n : Int)] w (.int .i64 (myF s h m n)) := by
 go_enter Tryz.func48, Tryz.ntmps48
 have M : Mem ⟨w, [g, k]⟩ [⟨g, .cells (av 3 (ls [.int .u64 (s : Int), .int .u64 (h : Int), .slice (some ⟨k, 0, none⟩) (nW s) cap])) 123⟩, ⟨k, .cells (av cap (w64 m)) 33⟩] w := Mem.startT hL hT
 refine sq <| wp_seq <| wp_block <| sR <| rV 1 <| pC M 7 73 #[.pointer (some ⟨g, 0, none⟩)] (.bool true) (fun w M => c_wmade g k s h cap hs w M.laid (M.there (.cons_cons _ (List.nil_sublist _)))) fun u1 M => rV 2 <| nT <| cF <| sR <| rV 4 <| ZE M 14 0 1 ?_
 by_cases c0 : (h : Int) < (n : Int)
 ·refine pH 15 (.bool true) (jT ((h : Int) < (n : Int)) (c0)) <| rV 1 <| nT <| cT <| sq <| wp_ret <| au_block_ret <| au_then_ret ?_
  have e0 : (myF s h m n) = 0 := by unfold myF; rw [if_pos (by omega)]
  exact bodyPost_ret (v := .int .i64 0) (results_tmp1 Tryz.results48 _ _ _ (by kernel_rfl)) (by kernel_rfl) ⟨by rw [e0], ro_T hT M⟩
 ·refine pH 15 (.bool false) (jF ((h : Int) < (n : Int)) (c0)) <| rV 1 <| nT <| cF <| wp_seq <| rg_tail M 11 (by kernel_rfl) (by kernel_rfl) ?_
  simp only [List.take_succ_cons, List.take_zero]
  refine kR 3 <| eE M 20 0 1 <| kR 1 <| kH 22 (.int .u64 ((h - n : Nat) : Int)) (fun w => Eq.trans (b := .ok (.value (.int .u64 (IntKind.wrap .u64 (((h : Nat) : Int) - ((n : Nat) : Int))))) w) (by kernel_rfl) (by rw [wrapU_sub h n (by omega) (by omega)])) <| kR 3 <| eE M 26 0 0 ?_
  by_cases c1 : ((h - n : Nat) : Int) < (s : Int)
  ·refine eF 27 ((s : Int) ≤ ((h - n : Nat) : Int)) <| kl_nil fun u2 M => ?_
   replace M : Mem ⟨w, [g, k]⟩ [⟨g, .cells (av 3 (ls [.int .u64 (s : Int), .int .u64 (h : Int), .slice (some ⟨k, 0, none⟩) (nW s) cap])) 123⟩, ⟨k, .cells (av cap (w64 m)) 33⟩] u2 := M
   refine rV 1 <| nT <| cF <| wp_seq <| rg_tail M 8 (by kernel_rfl) (by kernel_rfl) ?_
   simp only [List.take_succ_cons, List.take_zero]
   refine kR 3 <| eE M 32 0 2 <| kR 2 <| kC M 35 75 #[.pointer (some ⟨g, 0, none⟩), .int .u64 (n : Int)] (.int .u64 ((n % s : Nat) : Int)) (fun w M => c_place g k s h cap n hs w M.laid (M.there (.cons_cons _ (List.nil_sublist _)))) ?_
   rcases Bool.eq_false_or_eq_true (hb m (n % s)) with c2 | c2
   ·refine kC M 36 74 #[.slice (some ⟨k, 0, none⟩) (nW s) cap, .int .u64 ((n % s : Nat) : Int)] (.bool true) (fun w M => call_val (c_has k (n % s) (nW s) cap m (Nat.lt_of_le_of_lt (Nat.mod_le n s) (by omega)) (by have := Nat.mod_lt n (show 0 < s by omega); unfold nW; omega) hc w M.laid (M.there (.cons _ (.cons_cons _ (List.nil_sublist _))))) (congrArg Value.bool c2)) ?_
    refine kl_nil fun u3 M => ?_
    replace M : Mem ⟨w, [g, k]⟩ [⟨g, .cells (av 3 (ls [.int .u64 (s : Int), .int .u64 (h : Int), .slice (some ⟨k, 0, none⟩) (nW s) cap])) 123⟩, ⟨k, .cells (av cap (w64 m)) 33⟩] u3 := M
    refine rV 1 <| nT <| cT <| sq <| wp_ret <| au_block_ret <| au_then_ret ?_
    have e0 : (myF s h m n) = 9 := by unfold myF; rw [if_neg (by omega), if_neg (by omega), if_pos c2]
    exact bodyPost_ret (v := .int .i64 9) (results_tmp1 Tryz.results48 _ _ _ (by kernel_rfl)) (by kernel_rfl) ⟨by rw [e0], ro_T hT M⟩
   ·refine kC M 36 74 #[.slice (some ⟨k, 0, none⟩) (nW s) cap, .int .u64 ((n % s : Nat) : Int)] (.bool false) (fun w M => call_val (c_has k (n % s) (nW s) cap m (Nat.lt_of_le_of_lt (Nat.mod_le n s) (by omega)) (by have := Nat.mod_lt n (show 0 < s by omega); unfold nW; omega) hc w M.laid (M.there (.cons _ (.cons_cons _ (List.nil_sublist _))))) (congrArg Value.bool c2)) ?_
    refine kl_nil fun u3 M => ?_
    replace M : Mem ⟨w, [g, k]⟩ [⟨g, .cells (av 3 (ls [.int .u64 (s : Int), .int .u64 (h : Int), .slice (some ⟨k, 0, none⟩) (nW s) cap])) 123⟩, ⟨k, .cells (av cap (w64 m)) 33⟩] u3 := M
    refine rV 1 <| nT <| cF <| wp_skip <| au_block <| au_then <| sq <| wp_ret ?_
    have e0 : (myF s h m n) = 0 := by unfold myF; rw [if_neg (by omega), if_neg (by omega), if_neg (Bool.eq_false_iff.1 c2)]
    exact bodyPost_ret (v := .int .i64 0) (results_tmp1 Tryz.results48 _ _ _ (by kernel_rfl)) (by kernel_rfl) ⟨by rw [e0], ro_T hT M⟩
  ·refine eT 27 ((s : Int) ≤ ((h - n : Nat) : Int)) <| kl_nil fun u2 M => ?_
   replace M : Mem ⟨w, [g, k]⟩ [⟨g, .cells (av 3 (ls [.int .u64 (s : Int), .int .u64 (h : Int), .slice (some ⟨k, 0, none⟩) (nW s) cap])) 123⟩, ⟨k, .cells (av cap (w64 m)) 33⟩] u2 := M
   refine rV 1 <| nT <| cT <| sq <| wp_ret <| au_block_ret <| au_then_ret ?_
   have e0 : (myF s h m n) = 170 := by unfold myF; rw [if_neg (by omega), if_pos (by omega)]
   exact bodyPost_ret (v := .int .i64 170) (results_tmp1 Tryz.results48 _ _ _ (by kernel_rfl)) (by kernel_rfl) ⟨by rw [e0], ro_T hT M⟩
theorem c_Mark (g k s h cap : Nat) (m : NI) (n : Nat) (hs : 1 ≤ s) (hc : nW s ≤ cap) (hh : h < 18446744073709551616) (hn : n < 18446744073709551616) (w : World) (hL : Laid w)  (hT : There w [⟨g, .cells (av 3 (ls [.int .u64 (s : Int), .int .u64 (h : Int), .slice (some ⟨k, 0, none⟩) (nW s) cap])) 123⟩, ⟨k, .cells (av cap (w64 m)) 33⟩]) : Calls Tryz.prog 50 #[.pointer (some ⟨g, 0, none⟩), .int .u64 (n : Int)] w fun r w' => r = .returned (.int .i64 (myF s h m n)) ∧ Grw w w' [g, k] ∧ w'.heap[g]? = some (.cells (av 3 (ls [.int .u64 (s : Int), .int .u64 ((mkH s h m n : Nat) : Int), .slice (some ⟨k, 0, none⟩) (nW s) cap])) 123) ∧ w'.heap[k]? = some (.cells (av cap (w64 (mkM s h m n))) 33) := by
 go_enter Tryz.func50, Tryz.ntmps50
 have M : Mem ⟨w, [g, k]⟩ [⟨g, .cells (av 3 (ls [.int .u64 (s : Int), .int .u64 (h : Int), .slice (some ⟨k, 0, none⟩) (nW s) cap])) 123⟩, ⟨k, .cells (av cap (w64 m)) 33⟩] w := Mem.startT hL hT
 refine sq <| wp_seq <| sR <| rV 2 <| pC M 8 48 #[.pointer (some ⟨g, 0, none⟩), .int .u64 (n : Int)] (.int .i64 (myF s h m n)) (fun w M => c_May g k s h cap m n hs hc hh hn w M.laid (M.there (.cons_cons _ (.cons_cons _ (List.nil_sublist _))))) fun u1 M => rV 1 <| nT <| sR <| rV 1 ?_
 by_cases c0 : (myF s h m n) = 0
 ·refine pH 10 (.bool false) (jD ((myF s h m n) = 0) (c0)) <| nT <| cF <| wp_skip <| au_then <| wp_seq <| sR <| rV 4 <| ZE M 16 0 1 ?_
  by_cases c1 : (h : Int) < (n : Int)
  ·refine pH 17 (.bool true) (jT ((h : Int) < (n : Int)) (c1)) <| nT <| cT <| sR <| rV 5 <| ZE M 23 0 1 <| pH 24 (.int .u64 ((n - h : Nat) : Int)) (fun w => Eq.trans (b := .ok (.value (.int .u64 (IntKind.wrap .u64 (((n : Nat) : Int) - ((h : Nat) : Int))))) w) (by kernel_rfl) (by rw [wrapU_sub n h (by omega) (by omega)])) <| pl_call2 M (want_no rfl) (some 25) rfl 77 #[.pointer (some ⟨g, 0, none⟩), .int .u64 ((n - h : Nat) : Int)] (.tuple #[]) 0 1 g k (.cells (av 3 (ls [.int .u64 (s : Int), .int .u64 (h : Int), .slice (some ⟨k, 0, none⟩) (nW s) cap])) 123) (.cells (av cap (w64 m)) 33) (.cells (av 3 (ls [.int .u64 (s : Int), .int .u64 (h : Int), .slice (some ⟨k, 0, none⟩) (nW s) cap])) 123) (.cells (av cap (w64 (lvM s h m (n - h)))) 33) rfl rfl (fun _ => by kernel_rfl) (fun w M => c_leave g k s h cap m (n - h) hs hc (by omega) w M.laid (M.there (.cons_cons _ (.cons_cons _ (List.nil_sublist _))))) fun u2 M => ?_
   replace M : Mem ⟨w, [g, k]⟩ [⟨g, .cells (av 3 (ls [.int .u64 (s : Int), .int .u64 (h : Int), .slice (some ⟨k, 0, none⟩) (nW s) cap])) 123⟩, ⟨k, .cells (av cap (w64 (lvM s h m (n - h)))) 33⟩] u2 := M
   refine nT <| rg_lit <| rV 4 <| pP M 0 rfl 1 (.int .u64 (n : Int)) (ls [.int .u64 (s : Int), .int .u64 (n : Int), .slice (some ⟨k, 0, none⟩) (nW s) cap]) (by decide) (put_ls _ 1 _ _ rfl) fun u3 M => ?_
   replace M : Mem ⟨w, [g, k]⟩ [⟨g, .cells (av 3 (ls [.int .u64 (s : Int), .int .u64 (n : Int), .slice (some ⟨k, 0, none⟩) (nW s) cap])) 123⟩, ⟨k, .cells (av cap (w64 (lvM s h m (n - h)))) 33⟩] u3 := M
   refine nT <| wp_seq <| rg_tail M 7 (by kernel_rfl) (by kernel_rfl) ?_
   simp only [List.take_succ_cons, List.take_zero]
   refine kR 3 <| eE M 33 0 2 <| kR 2 <| kC M 36 75 #[.pointer (some ⟨g, 0, none⟩), .int .u64 (n : Int)] (.int .u64 ((n % s : Nat) : Int)) (fun w M => c_place g k s n cap n hs w M.laid (M.there (.cons_cons _ (List.nil_sublist _)))) <| kl_nil fun u4 M => ?_
   replace M : Mem ⟨w, [g, k]⟩ [⟨g, .cells (av 3 (ls [.int .u64 (s : Int), .int .u64 (n : Int), .slice (some ⟨k, 0, none⟩) (nW s) cap])) 123⟩, ⟨k, .cells (av cap (w64 (lvM s h m (n - h)))) 33⟩] u4 := M
   refine pl_callp M (want_no rfl) (some 37) rfl 78 #[.slice (some ⟨k, 0, none⟩) (nW s) cap, .int .u64 ((n % s : Nat) : Int)] (.tuple #[]) 1 k (.cells (av cap (w64 (lvM s h m (n - h)))) 33) (.cells (av cap (w64 (stM (lvM s h m (n - h)) (n % s)))) 33) rfl (fun _ => by kernel_rfl) (fun w M => c_set k (n % s) (nW s) cap (lvM s h m (n - h)) (Nat.lt_of_le_of_lt (Nat.mod_le n s) (by omega)) (by have := Nat.mod_lt n (show 0 < s by omega); unfold nW; omega) hc w M.laid (M.there (.cons _ (.cons_cons _ (List.nil_sublist _))))) fun u5 M => ?_
   replace M : Mem ⟨w, [g, k]⟩ [⟨g, .cells (av 3 (ls [.int .u64 (s : Int), .int .u64 (n : Int), .slice (some ⟨k, 0, none⟩) (nW s) cap])) 123⟩, ⟨k, .cells (av cap (w64 (stM (lvM s h m (n - h)) (n % s)))) 33⟩] u5 := M
   refine nT <| sq <| wp_ret ?_
   have e0 : mkH s h m n = n := by unfold mkH; rw [if_pos c0, if_pos (by omega)]
   have e1 : mkM s h m n = (stM (lvM s h m (n - h)) (n % s)) := by unfold mkM; rw [if_pos c0, if_pos (by omega)]
   exact bodyPost_ret (v := .int .i64 0) (results_tmp1 Tryz.results50 _ _ _ (by kernel_rfl)) (by kernel_rfl) ⟨by rw [c0], M.old, by rw [e0]; exact M.get 0 rfl, by rw [e1]; exact M.get 1 rfl⟩
  ·refine pH 17 (.bool false) (jF ((h : Int) < (n : Int)) (c1)) <| nT <| cF <| wp_skip <| au_then <| wp_seq <| rg_tail M 7 (by kernel_rfl) (by kernel_rfl) ?_
   simp only [List.take_succ_cons, List.take_zero]
   refine kR 3 <| eE M 33 0 2 <| kR 2 <| kC M 36 75 #[.pointer (some ⟨g, 0, none⟩), .int .u64 (n : Int)] (.int .u64 ((n % s : Nat) : Int)) (fun w M => c_place g k s h cap n hs w M.laid (M.there (.cons_cons _ (List.nil_sublist _)))) <| kl_nil fun u2 M => ?_
   replace M : Mem ⟨w, [g, k]⟩ [⟨g, .cells (av 3 (ls [.int .u64 (s : Int), .int .u64 (h : Int), .slice (some ⟨k, 0, none⟩) (nW s) cap])) 123⟩, ⟨k, .cells (av cap (w64 m)) 33⟩] u2 := M
   refine pl_callp M (want_no rfl) (some 37) rfl 78 #[.slice (some ⟨k, 0, none⟩) (nW s) cap, .int .u64 ((n % s : Nat) : Int)] (.tuple #[]) 1 k (.cells (av cap (w64 m)) 33) (.cells (av cap (w64 (stM m (n % s)))) 33) rfl (fun _ => by kernel_rfl) (fun w M => c_set k (n % s) (nW s) cap m (Nat.lt_of_le_of_lt (Nat.mod_le n s) (by omega)) (by have := Nat.mod_lt n (show 0 < s by omega); unfold nW; omega) hc w M.laid (M.there (.cons _ (.cons_cons _ (List.nil_sublist _))))) fun u3 M => ?_
   replace M : Mem ⟨w, [g, k]⟩ [⟨g, .cells (av 3 (ls [.int .u64 (s : Int), .int .u64 (h : Int), .slice (some ⟨k, 0, none⟩) (nW s) cap])) 123⟩, ⟨k, .cells (av cap (w64 (stM m (n % s)))) 33⟩] u3 := M
   refine nT <| sq <| wp_ret ?_
   have e0 : mkH s h m n = h := by unfold mkH; rw [if_pos c0, if_neg (by omega)]
   have e1 : mkM s h m n = (stM m (n % s)) := by unfold mkM; rw [if_pos c0, if_neg (by omega)]
   exact bodyPost_ret (v := .int .i64 0) (results_tmp1 Tryz.results50 _ _ _ (by kernel_rfl)) (by kernel_rfl) ⟨by rw [c0], M.old, by rw [e0]; exact M.get 0 rfl, by rw [e1]; exact M.get 1 rfl⟩
 ·refine pH 10 (.bool true) (jU ((myF s h m n) = 0) (c0)) <| nT <| cT <| sq <| wp_ret <| au_then_ret ?_
  have e0 : mkH s h m n = h := by unfold mkH; rw [if_neg c0]
  have e1 : mkM s h m n = m := by unfold mkM; rw [if_neg c0]
  exact bodyPost_ret (v := .int .i64 (myF s h m n)) (results_tmp1 Tryz.results50 _ _ _ (by kernel_rfl)) (by kernel_rfl) ⟨rfl, M.old, by rw [e0]; exact M.get 0 rfl, by rw [e1]; exact M.get 1 rfl⟩
theorem c_WNew (s : Nat) (hs : 1 ≤ s) (hs4 : s ≤ 4096) (w : World) (hL : Laid w) : Calls Tryz.prog 42 #[.int .i64 (s : Int)] w fun r w' => ∃ x : Nat × Nat, r = .returned (.tuple #[.pointer (some ⟨x.1, 0, none⟩), .int .i64 0]) ∧ True ∧ OkT w w' [] [⟨x.1, (.cells (av 3 (ls [.int .u64 (s : Int), .int .u64 0, .slice (some ⟨x.2, 0, none⟩) (nW s) (nW s)])) 123)⟩, ⟨x.2, .cells (av (nW s) (w64 (fun _ => 0))) 33⟩] := by
 go_enter Tryz.func42, Tryz.ntmps42
 have M := Mem.start hL
 refine sq <| wp_seq <| sR <| rV 1 ?_
 by_cases c0 : (s : Int) < 1
 ·exfalso; omega
 ·refine pH 5 (.bool false) (jF ((s : Int) < 1) (c0)) <| rV 2 ?_
  by_cases c1 : 4096 < (s : Int)
  ·exfalso; omega
  ·refine pl_val (want_on 2 false rfl 6 rfl (by kernel_rfl)) (some 8) rfl (.bool false) (fun w => Eq.trans (b := .ok (.value (.bool (decide (4096 < (s : Int))))) w) (by kernel_rfl) (by rw [decide_eq_false (c1)])) <| rV 1 <| nT <| cF <| wp_skip <| au_then <| sR <| rV 1 <| pH 11 (.int .u64 (s : Int)) (fun w => Eq.trans (b := .ok (.value (.int .u64 (cv .u64 (s : Int)))) w) (by kernel_rfl) (by rw [cv_u64, Int.emod_eq_of_lt (by omega) (by omega)])) <| rV 1 <| pl_calln M (want_no rfl) (some 13) rfl 66 #[.int .i64 (s : Int)] (fun g1 => .slice (some ⟨g1, 0, none⟩) (nW s) (nW s)) (.cells (av (nW s) (w64 (fun _ => 0))) 33) (fun _ => by kernel_rfl) (fun w M => c_room s hs4 w M.laid) fun g1 u1 M => ?_
   replace M : Mem ⟨w, []⟩ [⟨g1, .cells (av (nW s) (w64 (fun _ => 0))) 33⟩] u1 := M
   refine rV 1 <| pN M 15 (.cells (av 3 (ls [.int .u64 (s : Int), .int .u64 0, .slice (some ⟨g1, 0, none⟩) (nW s) (nW s)])) 123) fun g2 u2 M => ?_
   replace M : Mem ⟨w, []⟩ [⟨g1, .cells (av (nW s) (w64 (fun _ => 0))) 33⟩, ⟨g2, .cells (av 3 (ls [.int .u64 (s : Int), .int .u64 0, .slice (some ⟨g1, 0, none⟩) (nW s) (nW s)])) 123⟩] u2 := M
   refine rV 2 <| nT <| wp_ret ?_
   exact bodyPost_ret (v := .tuple #[.pointer (some ⟨g2, 0, none⟩), .int .i64 0]) (results_tmp2 Tryz.results42 _ _ _ _ (by kernel_rfl) (by kernel_rfl)) (by kernel_rfl) ⟨(_, _), rfl, trivial, Mem.okT0 (T := []) (M.perm (.swap _ _ _))⟩
open Go.RowKit
theorem wrapN (b : BitVec 64) : IntKind.wrap .u64 (b.toNat : Int) = (b.toNat : Int) := by
 have := b.isLt
 rw [IntKind.wrap_u64]
 omega
theorem ofI (b : BitVec 64) : BitVec.ofInt 64 (b.toNat : Int) = b := by
 rw [BitVec.ofInt_natCast, BitVec.ofNat_toNat, BitVec.setWidth_eq]
theorem bw_two (p : Nat) : BitVec.ofInt 64 (bw p) = BitVec.twoPow 64 (p % 64) := by
 have hp : p % 64 < 64 := Nat.mod_lt _ (by decide)
 have e : bw p = ((BitVec.twoPow 64 (p % 64)).toNat : Int) := by
  unfold bw sl
  rw [IntKind.wrap_u64, BitVec.toNat_twoPow]
  simp
 rw [e, ofI]
theorem hb_bit (m : NI) (p : Nat) : hb m p = (BitVec.ofInt 64 (m (p / 64))).getLsbD (p % 64) := by
 have hp : p % 64 < 64 := Nat.mod_lt _ (by decide)
 unfold hb un
 rw [bw_two, wrapN, BitVec.and_twoPow]
 cases h : (BitVec.ofInt 64 (m (p / 64))).getLsbD (p % 64)
 ·simp
 ·have h2 : (BitVec.twoPow 64 (p % 64)).toNat ≠ 0 := by
   rw [BitVec.toNat_twoPow, Nat.mod_eq_of_lt (Nat.pow_lt_pow_right (by decide) hp)]
   exact Nat.pos_iff_ne_zero.1 (Nat.pow_pos (by decide))
  simp only [if_true, decide_eq_true_eq]
  omega
theorem pl_eq {p q : Nat} (h : q / 64 = p / 64) : p % 64 = q % 64 ↔ q = p := by omega
theorem hb_set (m : NI) (p q : Nat) : hb (stM m p) q = (decide (q = p) || hb m q) := by
 have hq : q % 64 < 64 := Nat.mod_lt _ (by decide)
 rw [hb_bit, hb_bit]
 unfold stM upd uo
 by_cases h : q / 64 = p / 64
 ·rw [if_pos h, wrapN, ofI, BitVec.getLsbD_or, bw_two, BitVec.getLsbD_twoPow, h]
  by_cases e : q = p
  ·subst e
   simp [hq]
  ·have e2 : ¬ p % 64 = q % 64 := fun x => e ((pl_eq h).1 x)
   simp [e, e2]
 ·rw [if_neg h]
  have e : ¬ q = p := fun e => h (by rw [e])
  simp [e]
theorem hb_wipe (m : NI) (p q : Nat) : hb (wpM m p) q = (!decide (q = p) && hb m q) := by
 have hq : q % 64 < 64 := Nat.mod_lt _ (by decide)
 rw [hb_bit, hb_bit]
 unfold wpM upd ud
 by_cases h : q / 64 = p / 64
 ·rw [if_pos h, wrapN, ofI, BitVec.getLsbD_and, BitVec.getLsbD_not, bw_two, BitVec.getLsbD_twoPow, h]
  by_cases e : q = p
  ·subst e
   simp [hq]
  ·have e2 : ¬ p % 64 = q % 64 := fun x => e ((pl_eq h).1 x)
   simp [e, e2, hq]
 ·rw [if_neg h]
  have e : ¬ q = p := fun e => h (by rw [e])
  simp [e]
theorem hb_zero (q : Nat) : hb (fun _ => 0) q = false := by
 rw [hb_bit]
 simp
theorem hb_clear (n : Nat) (m : NI) (q : Nat) (h : q / 64 < n) : hb (clF n m) q = false := by
 rw [hb_bit]
 unfold clF
 rw [if_pos h]
 simp
theorem hb_wps (s h : Nat) (m : NI) (q : Nat) : ∀ j, hb (wps s h m j) q = true ↔ hb m q = true ∧ ∀ i, i < j → q ≠ (h + 1 + i) % s
 | 0 => by simp [wps]
 | j + 1 => by
  have ih := hb_wps s h m q j
  unfold wps
  rw [hb_wipe]
  simp only [Bool.and_eq_true, Bool.not_eq_true', decide_eq_false_iff_not]
  constructor
  ·intro ⟨h1, h2⟩
   obtain ⟨h3, h4⟩ := ih.1 h2
   refine ⟨h3, fun i hi => ?_⟩
   by_cases e : i = j
   ·subst e
    exact h1
   ·exact h4 i (by omega)
  ·intro ⟨h1, h2⟩
   exact ⟨h2 j (by omega), ih.2 ⟨h1, fun i hi => h2 i (by omega)⟩⟩
def mx (l : List Nat) : Nat := l.foldl max 0
theorem mx_app (l : List Nat) (n : Nat) : mx (l ++ [n]) = max (mx l) n := by simp [mx, List.foldl_append]
theorem foldl_ge : ∀ (l : List Nat) (a : Nat), a ≤ l.foldl max a ∧ ∀ n ∈ l, n ≤ l.foldl max a
 | [], a => ⟨Nat.le_refl _, by simp⟩
 | x :: l, a => by
  obtain ⟨h1, h2⟩ := foldl_ge l (max a x)
  rw [List.foldl_cons]
  refine ⟨by omega, fun n hn => ?_⟩
  rcases List.mem_cons.1 hn with rfl | hn
  ·omega
  ·exact h2 n hn
theorem le_mx {l : List Nat} {n : Nat} (h : n ∈ l) : n ≤ mx l := (foldl_ge l 0).2 n h
def my (s : Nat) (l : List Nat) (n : Nat) : Int := if l ≠ [] ∧ n < mx l ∧ s ≤ mx l - n then 170 else if n ∈ l then 9 else 0
def mk (s : Nat) (l : List Nat) (n : Nat) : List Nat := if my s l n = 0 then l ++ [n] else l
structure Inv (s h : Nat) (m : NI) (l : List Nat) : Prop where
 hi : h = mx l
 bits : ∀ n, n ≤ h → h < n + s → (hb m (n % s) = true ↔ n ∈ l)
theorem inv_new (s : Nat) : Inv s 0 (fun _ => 0) [] := ⟨rfl, fun n _ _ => by simp [hb_zero]⟩
theorem mod_in (s n : Nat) (hs : 1 ≤ s) : (n % s) / 64 < nW s := by
 have := Nat.mod_lt n (show 0 < s by omega)
 unfold nW
 omega
theorem may_eq {s h : Nat} {m : NI} {l : List Nat} (I : Inv s h m l) (hs : 1 ≤ s) (n : Nat) : myF s h m n = my s l n := by
 have hh := I.hi
 unfold myF my
 by_cases c1 : h < n
 ·rw [if_pos c1, if_neg (by omega), if_neg (fun hm => by have := le_mx hm; omega)]
 ·rw [if_neg c1]
  by_cases c2 : s ≤ h - n
  ·rw [if_pos c2, if_pos ⟨fun e => by subst e; simp [mx] at hh; omega, by omega, by omega⟩]
  ·have c4 : ¬ (l ≠ [] ∧ n < mx l ∧ s ≤ mx l - n) := by omega
   rw [if_neg c2, if_neg c4]
   have hbt := I.bits n (by omega) (by omega)
   by_cases c3 : n ∈ l
   ·rw [if_pos (hbt.2 c3), if_pos c3]
   ·rw [if_neg (fun x => c3 (hbt.1 x)), if_neg c3]
theorem mod_ne {s a b : Nat} (h1 : a < b) (h2 : b < a + s) : a % s ≠ b % s := by
 intro e
 have h3 := Nat.div_add_mod a s
 have h4 := Nat.div_add_mod b s
 rw [e] at h3
 have h5 : s * (a / s) < s * (b / s) := by omega
 have h6 : a / s < b / s := Nat.lt_of_mul_lt_mul_left h5
 have h7 : s * (a / s + 1) ≤ s * (b / s) := Nat.mul_le_mul_left s h6
 rw [Nat.mul_add, Nat.mul_one] at h7
 omega
theorem mod_one_of {s a b : Nat} (h1 : a < b + s) (h2 : b < a + s) (e : a % s = b % s) : a = b := by
 rcases Nat.lt_trichotomy a b with h | h | h
 ·exact absurd e (mod_ne h h2)
 ·exact h
 ·exact absurd e.symm (mod_ne h h1)
theorem inv_mark {s h : Nat} {m : NI} {l : List Nat} (I : Inv s h m l) (hs : 1 ≤ s) (n : Nat) : Inv s (mkH s h m n) (mkM s h m n) (mk s l n) := by
 have hh := I.hi
 have he := may_eq I hs n
 unfold mkH mkM mk
 rw [he]
 by_cases c0 : my s l n = 0
 ·rw [if_pos c0, if_pos c0, if_pos c0]
  by_cases c1 : h < n
  ·rw [if_pos c1, if_pos c1]
   refine ⟨by rw [mx_app]; omega, fun q h1 h2 => ?_⟩
   rw [hb_set, Bool.or_eq_true, decide_eq_true_eq, List.mem_append, List.mem_singleton]
   have e1 : q % s = n % s ↔ q = n := ⟨fun e => mod_one_of (by omega) (by omega) e, fun e => by rw [e]⟩
   rw [e1]
   have e2 : hb (lvM s h m (n - h)) (q % s) = true ↔ q ∈ l ∧ q ≠ n := by
    unfold lvM
    by_cases c2 : s ≤ n - h
    ·rw [if_pos c2, hb_clear _ _ _ (mod_in s q hs)]
     constructor
     ·intro x
      cases x
     ·intro ⟨x, _⟩
      have := le_mx x
      omega
    ·rw [if_neg c2, hb_wps]
     constructor
     ·intro ⟨x, y⟩
      have h3 : q ≤ h := by
       refine Nat.le_of_not_lt fun h4 => y (q - (h + 1)) (by omega) ?_
       rw [show h + 1 + (q - (h + 1)) = q by omega]
      exact ⟨(I.bits q h3 (by omega)).1 x, by omega⟩
     ·intro ⟨x, y⟩
      have h3 := le_mx x
      exact ⟨(I.bits q (by omega) (by omega)).2 x, fun i hi => mod_ne (by omega) (by omega)⟩
   rw [e2]
   constructor
   ·intro x
    rcases x with x | x
    ·exact .inr x
    ·exact .inl x.1
   ·intro x
    by_cases y : q = n
    ·exact .inl y
    ·rcases x with x | x
     ·exact .inr ⟨x, y⟩
     ·exact .inl x
  ·rw [if_neg c1, if_neg c1]
   have c2 : ¬ s ≤ h - n := fun c2 => by
    unfold myF at he
    rw [if_neg c1, if_pos c2, c0] at he
    cases he
   refine ⟨by rw [mx_app]; omega, fun q h1 h2 => ?_⟩
   rw [hb_set, Bool.or_eq_true, decide_eq_true_eq, List.mem_append, List.mem_singleton]
   have e1 : q % s = n % s ↔ q = n := ⟨fun e => mod_one_of (by omega) (by omega) e, fun e => by rw [e]⟩
   rw [e1, I.bits q h1 h2]
   exact Or.comm
 ·rw [if_neg c0, if_neg c0, if_neg c0]
  exact I
theorem mkH_lt {s h : Nat} {m : NI} {n B : Nat} (hh : h < B) (hn : n < B) : mkH s h m n < B := by
 unfold mkH
 split
 ·split <;> omega
 ·exact hh
open Go.RowKit
def ovB (sd : Yb) (lf mt n : Nat) : Bool := decide (sd = ⟨#[]⟩ ∨ lf ≤ n - mt)
def slF (sd : Yb) (su : Bool) (ct lf nx mt n : Nat) : Int := if ovB sd lf mt n = true then 180 else if ct ≤ nx then 180 else if su = true then 0 else 3
theorem age_eq (n mt : Nat) (hn : n < 18446744073709551616) : IntKind.wrap .u64 (max (n : Int) (mt : Int) - (mt : Int)) = ((n - mt : Nat) : Int) := by
 rw [IntKind.wrap_u64]
 omega
theorem a_Mark {g k s h : Nat} {m : NI} {n : Nat} {l : List Nat} (hs : 1 ≤ s) (hh : h < 18446744073709551616) (hn : n < 18446744073709551616) (I : Inv s h m l) (w : World) (hL : Laid w) (hT : There w [⟨g, .cells (av 3 (ls [.int .u64 (s : Int), .int .u64 (h : Int), .slice (some ⟨k, 0, none⟩) (nW s) (nW s)])) 123⟩, ⟨k, .cells (av (nW s) (w64 m)) 33⟩]) : Calls Tryz.prog 50 #[.pointer (some ⟨g, 0, none⟩), .int .u64 (n : Int)] w fun r w' => ∃ x : Nat × (Nat → Int), r = .returned (.int .i64 (my s l n)) ∧ (Inv s x.1 x.2 (mk s l n) ∧ x.1 < 18446744073709551616) ∧ OkT w w' [⟨g, .cells (av 3 (ls [.int .u64 (s : Int), .int .u64 (h : Int), .slice (some ⟨k, 0, none⟩) (nW s) (nW s)])) 123⟩, ⟨k, .cells (av (nW s) (w64 m)) 33⟩] [⟨g, .cells (av 3 (ls [.int .u64 (s : Int), .int .u64 ((x.1 : Nat) : Int), .slice (some ⟨k, 0, none⟩) (nW s) (nW s)])) 123⟩, ⟨k, .cells (av (nW s) (w64 x.2)) 33⟩] := by
 rw [← may_eq I hs n]
 exact (c_Mark g k s h (nW s) m n hs (Nat.le_refl _) hh hn w hL hT).mono fun _ _ ⟨he, h1, h2, h3⟩ => ⟨(mkH s h m n, mkM s h m n), he, ⟨inv_mark I hs n, mkH_lt hh hn⟩, h1, by simpa using ⟨h2, h3⟩, by simpa using hT.nodup, by simp⟩
theorem a_May {g k s h : Nat} {m : NI} {n : Nat} {l : List Nat} (hs : 1 ≤ s) (hh : h < 18446744073709551616) (hn : n < 18446744073709551616) (I : Inv s h m l) (w : World) (hL : Laid w) (hT : There w [⟨g, .cells (av 3 (ls [.int .u64 (s : Int), .int .u64 (h : Int), .slice (some ⟨k, 0, none⟩) (nW s) (nW s)])) 123⟩, ⟨k, .cells (av (nW s) (w64 m)) 33⟩]) : Cs 48 #[.pointer (some ⟨g, 0, none⟩), .int .u64 (n : Int)] w (.int .i64 (my s l n)) := by
 rw [← may_eq I hs n]
 exact c_May g k s h (nW s) m n hs (Nat.le_refl _) hh hn w hL hT
theorem c_wiped {e wd md : Nat} {rc ct rk lf sz nx : Nat} {sd rv : Yb} {fi su : Bool} (w : World) (hL : Laid w)  (hT : There w [⟨e, .cells (av 12 (ls [.pointer (some ⟨wd, 0, none⟩), .func (.func 67) #[] #[.pointer (some ⟨md, 0, none⟩)], .int .u64 (rc : Int), .int .u64 (ct : Int), .int .u64 (rk : Int), .int .u64 (lf : Int), .int .i64 (sz : Int), .string sd, .string rv, .bool (fi), .bool (su), .int .u64 (nx : Int)])) 78⟩]) : Cs 68 #[.pointer (some ⟨e, 0, none⟩)] w (.bool (decide (sd = (⟨#[]⟩ : Yb)))) := by
 go_enter Tryz.func68, Tryz.ntmps68
 have M : Mem ⟨w, [e]⟩ [⟨e, .cells (av 12 (ls [.pointer (some ⟨wd, 0, none⟩), .func (.func 67) #[] #[.pointer (some ⟨md, 0, none⟩)], .int .u64 (rc : Int), .int .u64 (ct : Int), .int .u64 (rk : Int), .int .u64 (lf : Int), .int .i64 (sz : Int), .string sd, .string rv, .bool (fi), .bool (su), .int .u64 (nx : Int)])) 78⟩] w := Mem.startT hL hT
 refine sq <| sR <| rV 3 <| ZE M 6 0 7 ?_
 by_cases c0 : sd = (⟨#[]⟩ : Yb)
 ·refine pH 7 (.bool true) (fun w => Eq.trans (b := .ok (.value (.bool (sd.toList == (⟨#[]⟩ : Yb).toList))) w) (by kernel_rfl) (by rw [seq_pos c0])) <| rV 1 <| nT <| wp_ret ?_
  have e0 : decide (sd = (⟨#[]⟩ : Yb)) = true := by first | (simp only [if_pos c0]; done) | simp [c0]
  exact bodyPost_ret (v := .bool true) (results_tmp1 Tryz.results68 _ _ _ (by kernel_rfl)) (by kernel_rfl) ⟨by rw [e0], ro_T hT M⟩
 ·refine pH 7 (.bool false) (fun w => Eq.trans (b := .ok (.value (.bool (sd.toList == (⟨#[]⟩ : Yb).toList))) w) (by kernel_rfl) (by rw [seq_neg c0])) <| rV 1 <| nT <| wp_ret ?_
  have e0 : decide (sd = (⟨#[]⟩ : Yb)) = false := by first | (simp only [if_neg c0]; done) | simp [c0]
  exact bodyPost_ret (v := .bool false) (results_tmp1 Tryz.results68 _ _ _ (by kernel_rfl)) (by kernel_rfl) ⟨by rw [e0], ro_T hT M⟩
theorem c_age {md mt n : Nat} (hn : n < 18446744073709551616) (w : World) (hL : Laid w)  (hT : There w [⟨md, .cells (av 1 (ls [.int .u64 (mt : Int)])) 33⟩]) : Cs 67 #[.int .u64 (n : Int), .pointer (some ⟨md, 0, none⟩)] w (.int .u64 ((n - mt : Nat) : Int)) := by
 go_enter Tryz.func67, Tryz.ntmps67
 have M : Mem ⟨w, [md]⟩ [⟨md, .cells (av 1 (ls [.int .u64 (mt : Int)])) 33⟩] w := Mem.startT hL hT
 refine sq <| sR <| rV 1 <| ZE M 5 0 0 <| pH 6 (.int .u64 (max (n : Int) (mt : Int))) (fun w => Eq.trans (b := .ok (.value (.int .u64 (if ((mt : Int) : Int) > (n : Int) then (mt : Int) else (n : Int)))) w) (by kernel_rfl) (by rw [if_max])) <| ZE M 7 0 0 <| pH 8 (.int .u64 ((n - mt : Nat) : Int)) (fun w => Eq.trans (b := .ok (.value (.int .u64 (IntKind.wrap .u64 (max (n : Int) (mt : Int) - (mt : Int))))) w) (by kernel_rfl) (by rw [age_eq n mt hn])) <| rV 1 <| nT <| wp_ret ?_
 exact bodyPost_ret (v := .int .u64 ((n - mt : Nat) : Int)) (results_tmp1 Tryz.results67 _ _ _ (by kernel_rfl)) (by kernel_rfl) ⟨rfl, ro_T hT M⟩
theorem c_over {e wd md : Nat} {rc ct rk lf sz nx mt : Nat} {sd rv : Yb} {fi su : Bool} {n : Nat} (hn : n < 18446744073709551616) (w : World) (hL : Laid w)  (hT : There w [⟨e, .cells (av 12 (ls [.pointer (some ⟨wd, 0, none⟩), .func (.func 67) #[] #[.pointer (some ⟨md, 0, none⟩)], .int .u64 (rc : Int), .int .u64 (ct : Int), .int .u64 (rk : Int), .int .u64 (lf : Int), .int .i64 (sz : Int), .string sd, .string rv, .bool (fi), .bool (su), .int .u64 (nx : Int)])) 78⟩, ⟨md, .cells (av 1 (ls [.int .u64 (mt : Int)])) 33⟩]) : Cs 44 #[.pointer (some ⟨e, 0, none⟩), .int .u64 (n : Int)] w (.bool (ovB sd lf mt n)) := by
 go_enter Tryz.func44, Tryz.ntmps44
 have M : Mem ⟨w, [e, md]⟩ [⟨e, .cells (av 12 (ls [.pointer (some ⟨wd, 0, none⟩), .func (.func 67) #[] #[.pointer (some ⟨md, 0, none⟩)], .int .u64 (rc : Int), .int .u64 (ct : Int), .int .u64 (rk : Int), .int .u64 (lf : Int), .int .i64 (sz : Int), .string sd, .string rv, .bool (fi), .bool (su), .int .u64 (nx : Int)])) 78⟩, ⟨md, .cells (av 1 (ls [.int .u64 (mt : Int)])) 33⟩] w := Mem.startT hL hT
 refine sq <| wp_seq <| rg_held M [⟨e, .cells (av 12 (ls [.pointer (some ⟨wd, 0, none⟩), .func (.func 67) #[] #[.pointer (some ⟨md, 0, none⟩)], .int .u64 (rc : Int), .int .u64 (ct : Int), .int .u64 (rk : Int), .int .u64 (lf : Int), .int .i64 (sz : Int), .string sd, .string rv, .bool (fi), .bool (su), .int .u64 (nx : Int)])) 78⟩, ⟨md, .cells (av 1 (ls [.int .u64 (mt : Int)])) 33⟩] 16 rfl (by kernel_rfl) (by kernel_rfl) (fun _ _ d _ _ h => by cases d <;> exact h) fun u1 M => ?_
 replace M : Mem ⟨w, [e, md]⟩ [⟨e, .cells (av 12 (ls [.pointer (some ⟨wd, 0, none⟩), .func (.func 67) #[] #[.pointer (some ⟨md, 0, none⟩)], .int .u64 (rc : Int), .int .u64 (ct : Int), .int .u64 (rk : Int), .int .u64 (lf : Int), .int .i64 (sz : Int), .string sd, .string rv, .bool (fi), .bool (su), .int .u64 (nx : Int)])) 78⟩, ⟨md, .cells (av 1 (ls [.int .u64 (mt : Int)])) 33⟩] u1 := M
 refine qV M 0 5 (.pointer (some ⟨e, 0, none⟩)) <| hl_one 1 (by decide) (by kernel_rfl) rfl ?_
 by_cases c0 : sd = (⟨#[]⟩ : Yb)
 ·refine pC M 6 68 #[.pointer (some ⟨e, 0, none⟩)] (.bool true) (fun w M => call_val (c_wiped w M.laid (M.there (.cons_cons _ (List.nil_sublist _)))) (congrArg Value.bool (decide_eq_true (c0)))) fun u2 M => nT ?_
  refine ⟨M, ?_⟩
  refine qV M 2 7 (.bool true) <| hl_skip M 3 rfl (by decide) (by kernel_rfl) (by kernel_rfl) (want_off 2 false rfl 7 rfl (by kernel_rfl)) (some 8) rfl <| hl_skip M 4 rfl (by decide) (by kernel_rfl) (by kernel_rfl) (want_off 2 false rfl 7 rfl (by kernel_rfl)) (some 9) rfl <| hl_skip M 5 rfl (by decide) (by kernel_rfl) (by kernel_rfl) (want_off 2 false rfl 7 rfl (by kernel_rfl)) (some 10) rfl <| hl_skip M 6 rfl (by decide) (by kernel_rfl) (by kernel_rfl) (want_off 2 false rfl 7 rfl (by kernel_rfl)) (some 11) rfl <| hl_skip M 7 rfl (by decide) (by kernel_rfl) (by kernel_rfl) (want_off 2 false rfl 7 rfl (by kernel_rfl)) (some 12) rfl <| hl_skip M 8 rfl (by decide) (by kernel_rfl) (by kernel_rfl) (want_off 2 false rfl 7 rfl (by kernel_rfl)) (some 13) rfl <| hl_skip M 9 rfl (by decide) (by kernel_rfl) (by kernel_rfl) (want_off 2 false rfl 7 rfl (by kernel_rfl)) (some 14) rfl <| hl_skip M 10 rfl (by decide) (by kernel_rfl) (by kernel_rfl) (want_off 2 false rfl 7 rfl (by kernel_rfl)) (some 15) rfl <| hl_skip M 11 rfl (by decide) (by kernel_rfl) (by kernel_rfl) (want_off 2 false rfl 7 rfl (by kernel_rfl)) (some 16) rfl <| hl_skip M 12 rfl (by decide) (by kernel_rfl) (by kernel_rfl) (want_off 2 false rfl 7 rfl (by kernel_rfl)) (some 17) rfl <| hl_skip M 13 rfl (by decide) (by kernel_rfl) (by kernel_rfl) (want_off 2 false rfl 7 rfl (by kernel_rfl)) (some 18) rfl <| hl_skip M 14 rfl (by decide) (by kernel_rfl) (by kernel_rfl) (want_off 2 false rfl 7 rfl (by kernel_rfl)) (some 19) rfl <| qV M 15 20 (.bool true) <| hl_end (by kernel_rfl) (by kernel_rfl) rfl <| rV 1 ?_
  refine nT <| au_then <| wp_ret ?_
  have e0 : ovB sd lf mt n = true := by unfold ovB; exact decide_eq_true (.inl c0)
  exact bodyPost_ret (v := .bool true) (results_tmp1 Tryz.results44 _ _ _ (by kernel_rfl)) (by kernel_rfl) ⟨by rw [e0], ro_T hT M⟩
 ·refine pC M 6 68 #[.pointer (some ⟨e, 0, none⟩)] (.bool false) (fun w M => call_val (c_wiped w M.laid (M.there (.cons_cons _ (List.nil_sublist _)))) (congrArg Value.bool (decide_eq_false (c0)))) fun u2 M => nT ?_
  refine ⟨M, ?_⟩
  refine qV M 2 7 (.bool false) <| hl_val M 3 rfl (by decide) (by kernel_rfl) (by kernel_rfl) (want_on 2 false rfl 7 rfl (by kernel_rfl)) (some 8) rfl (.pointer (some ⟨e, 0, none⟩)) (fun _ _ => by kernel_rfl) <| hl_val M 4 rfl (by decide) (by kernel_rfl) (by kernel_rfl) (want_on 2 false rfl 7 rfl (by kernel_rfl)) (some 9) rfl (.pointer (some ⟨e, 0, none⟩)) (fun _ _ => by kernel_rfl) <| hl_val M 5 rfl (by decide) (by kernel_rfl) (by kernel_rfl) (want_on 2 false rfl 7 rfl (by kernel_rfl)) (some 10) rfl (.pointer (some ⟨e, 1, none⟩)) (fun _ _ => by kernel_rfl) <| hl_cell M 6 rfl (by decide) (by kernel_rfl) (by kernel_rfl) (want_on 2 false rfl 7 rfl (by kernel_rfl)) (some 11) rfl 76 _ rfl e 1 (by kernel_rfl) (.func (.func 67) #[] #[.pointer (some ⟨md, 0, none⟩)]) (fun _ => by kernel_rfl) (fun w M => M.cell 0 rfl (by decide) rfl) <| hl_val M 7 rfl (by decide) (by kernel_rfl) (by kernel_rfl) (want_on 2 false rfl 7 rfl (by kernel_rfl)) (some 12) rfl (.int .u64 (n : Int)) (fun _ _ => by kernel_rfl) <| hl_val M 9 rfl (by decide) (by kernel_rfl) (by kernel_rfl) (want_on 2 false rfl 7 rfl (by kernel_rfl)) (some 14) rfl (.pointer (some ⟨e, 0, none⟩)) (fun _ _ => by kernel_rfl) <| hl_val M 10 rfl (by decide) (by kernel_rfl) (by kernel_rfl) (want_on 2 false rfl 7 rfl (by kernel_rfl)) (some 15) rfl (.pointer (some ⟨e, 0, none⟩)) (fun _ _ => by kernel_rfl) <| hl_val M 11 rfl (by decide) (by kernel_rfl) (by kernel_rfl) (want_on 2 false rfl 7 rfl (by kernel_rfl)) (some 16) rfl (.pointer (some ⟨e, 2, none⟩)) (fun _ _ => by kernel_rfl) <| hl_val M 12 rfl (by decide) (by kernel_rfl) (by kernel_rfl) (want_on 2 false rfl 7 rfl (by kernel_rfl)) (some 17) rfl (.pointer (some ⟨e, 5, none⟩)) (fun _ _ => by kernel_rfl) <| hl_cell M 13 rfl (by decide) (by kernel_rfl) (by kernel_rfl) (want_on 2 false rfl 7 rfl (by kernel_rfl)) (some 18) rfl 33 _ rfl e 5 (by kernel_rfl) (.int .u64 (lf : Int)) (fun _ => by kernel_rfl) (fun w M => M.cell 0 rfl (by decide) rfl) <| hl_one 8 (by decide) (by kernel_rfl) rfl <| pl_call M (want_on 2 false rfl 7 rfl (by kernel_rfl)) (some 13) rfl 67 #[.int .u64 (n : Int), .pointer (some ⟨md, 0, none⟩)] (.int .u64 ((n - mt : Nat) : Int)) (fun _ => by kernel_rfl) (fun w M => c_age hn w M.laid (M.there (.cons _ (.cons_cons _ (List.nil_sublist _))))) fun u3 M => nT ?_
  refine ⟨M, ?_⟩
  by_cases c1 : ((n - mt : Nat) : Int) < (lf : Int)
  ·refine hl_val M 14 rfl (by decide) (by kernel_rfl) (by kernel_rfl) (want_on 2 false rfl 7 rfl (by kernel_rfl)) (some 19) rfl (.bool false) (fun w _ => (fun w => Eq.trans (b := .ok (.value (.bool (decide ((lf : Int) ≤ ((n - mt : Nat) : Int))))) w) (by kernel_rfl) (by rw [decide_eq_false (by omega)])) w) <| qV M 15 20 (.bool false) <| hl_end (by kernel_rfl) (by kernel_rfl) rfl <| rV 1 <| nT <| au_then <| wp_ret ?_
   have e0 : ovB sd lf mt n = false := by unfold ovB; exact decide_eq_false (by rintro (h | h) <;> first | exact c0 h | omega)
   exact bodyPost_ret (v := .bool false) (results_tmp1 Tryz.results44 _ _ _ (by kernel_rfl)) (by kernel_rfl) ⟨by rw [e0], ro_T hT M⟩
  ·refine hl_val M 14 rfl (by decide) (by kernel_rfl) (by kernel_rfl) (want_on 2 false rfl 7 rfl (by kernel_rfl)) (some 19) rfl (.bool true) (fun w _ => (fun w => Eq.trans (b := .ok (.value (.bool (decide ((lf : Int) ≤ ((n - mt : Nat) : Int))))) w) (by kernel_rfl) (by rw [decide_eq_true (by omega)])) w) <| qV M 15 20 (.bool true) <| hl_end (by kernel_rfl) (by kernel_rfl) rfl <| rV 1 <| nT <| au_then <| wp_ret ?_
   have e0 : ovB sd lf mt n = true := by unfold ovB; exact decide_eq_true (.inr (by omega))
   exact bodyPost_ret (v := .bool true) (results_tmp1 Tryz.results44 _ _ _ (by kernel_rfl)) (by kernel_rfl) ⟨by rw [e0], ro_T hT M⟩
theorem c_spent {e wd md : Nat} {rc ct rk lf sz nx : Nat} {sd rv : Yb} {fi su : Bool} (w : World) (hL : Laid w)  (hT : There w [⟨e, .cells (av 12 (ls [.pointer (some ⟨wd, 0, none⟩), .func (.func 67) #[] #[.pointer (some ⟨md, 0, none⟩)], .int .u64 (rc : Int), .int .u64 (ct : Int), .int .u64 (rk : Int), .int .u64 (lf : Int), .int .i64 (sz : Int), .string sd, .string rv, .bool (fi), .bool (su), .int .u64 (nx : Int)])) 78⟩]) : Cs 45 #[.pointer (some ⟨e, 0, none⟩)] w (.bool (decide ((nx : Int) ≥ (ct : Int)))) := by
 go_enter Tryz.func45, Tryz.ntmps45
 have M : Mem ⟨w, [e]⟩ [⟨e, .cells (av 12 (ls [.pointer (some ⟨wd, 0, none⟩), .func (.func 67) #[] #[.pointer (some ⟨md, 0, none⟩)], .int .u64 (rc : Int), .int .u64 (ct : Int), .int .u64 (rk : Int), .int .u64 (lf : Int), .int .i64 (sz : Int), .string sd, .string rv, .bool (fi), .bool (su), .int .u64 (nx : Int)])) 78⟩] w := Mem.startT hL hT
 refine sq <| wp_seq <| rg_held M [⟨e, .cells (av 12 (ls [.pointer (some ⟨wd, 0, none⟩), .func (.func 67) #[] #[.pointer (some ⟨md, 0, none⟩)], .int .u64 (rc : Int), .int .u64 (ct : Int), .int .u64 (rk : Int), .int .u64 (lf : Int), .int .i64 (sz : Int), .string sd, .string rv, .bool (fi), .bool (su), .int .u64 (nx : Int)])) 78⟩] 10 rfl (by kernel_rfl) (by kernel_rfl) (fun _ _ d _ _ h => by cases d <;> exact h) fun u1 M => ?_
 replace M : Mem ⟨w, [e]⟩ [⟨e, .cells (av 12 (ls [.pointer (some ⟨wd, 0, none⟩), .func (.func 67) #[] #[.pointer (some ⟨md, 0, none⟩)], .int .u64 (rc : Int), .int .u64 (ct : Int), .int .u64 (rk : Int), .int .u64 (lf : Int), .int .i64 (sz : Int), .string sd, .string rv, .bool (fi), .bool (su), .int .u64 (nx : Int)])) 78⟩] u1 := M
 refine qV M 0 3 (.pointer (some ⟨e, 0, none⟩)) <| qV M 1 4 (.pointer (some ⟨e, 0, none⟩)) <| qV M 2 5 (.pointer (some ⟨e, 11, none⟩)) <| hl_cell M 3 rfl (by decide) (by kernel_rfl) (by kernel_rfl) (want_no rfl) (some 6) rfl 33 _ rfl e 11 (by kernel_rfl) (.int .u64 (nx : Int)) (fun _ => by kernel_rfl) (fun w M => M.cell 0 rfl (by decide) rfl) <| qV M 4 7 (.pointer (some ⟨e, 0, none⟩)) <| qV M 5 8 (.pointer (some ⟨e, 0, none⟩)) <| qV M 6 9 (.pointer (some ⟨e, 2, none⟩)) <| qV M 7 10 (.pointer (some ⟨e, 3, none⟩)) <| hl_cell M 8 rfl (by decide) (by kernel_rfl) (by kernel_rfl) (want_no rfl) (some 11) rfl 33 _ rfl e 3 (by kernel_rfl) (.int .u64 (ct : Int)) (fun _ => by kernel_rfl) (fun w M => M.cell 0 rfl (by decide) rfl) ?_
 by_cases c0 : (nx : Int) < (ct : Int)
 ·refine hl_val M 9 rfl (by decide) (by kernel_rfl) (by kernel_rfl) (want_no rfl) (some 12) rfl (.bool false) (fun w _ => (fun w => Eq.trans (b := .ok (.value (.bool (decide ((ct : Int) ≤ (nx : Int))))) w) (by kernel_rfl) (by rw [decide_eq_false (by omega)])) w) <| hl_end (by kernel_rfl) (by kernel_rfl) rfl <| rV 1 <| nT <| au_then <| wp_ret ?_
  have e0 : decide ((nx : Int) ≥ (ct : Int)) = false := decide_eq_false (by omega)
  exact bodyPost_ret (v := .bool false) (results_tmp1 Tryz.results45 _ _ _ (by kernel_rfl)) (by kernel_rfl) ⟨by rw [e0], ro_T hT M⟩
 ·refine hl_val M 9 rfl (by decide) (by kernel_rfl) (by kernel_rfl) (want_no rfl) (some 12) rfl (.bool true) (fun w _ => (fun w => Eq.trans (b := .ok (.value (.bool (decide ((ct : Int) ≤ (nx : Int))))) w) (by kernel_rfl) (by rw [decide_eq_true (by omega)])) w) <| hl_end (by kernel_rfl) (by kernel_rfl) rfl <| rV 1 <| nT <| au_then <| wp_ret ?_
  have e0 : decide ((nx : Int) ≥ (ct : Int)) = true := decide_eq_true (by omega)
  exact bodyPost_ret (v := .bool true) (results_tmp1 Tryz.results45 _ _ _ (by kernel_rfl)) (by kernel_rfl) ⟨by rw [e0], ro_T hT M⟩
theorem c_sealFault {e wd md : Nat} {rc ct rk lf sz nx mt : Nat} {sd rv : Yb} {fi su : Bool} {n : Nat} (hn : n < 18446744073709551616) (w : World) (hL : Laid w)  (hT : There w [⟨e, .cells (av 12 (ls [.pointer (some ⟨wd, 0, none⟩), .func (.func 67) #[] #[.pointer (some ⟨md, 0, none⟩)], .int .u64 (rc : Int), .int .u64 (ct : Int), .int .u64 (rk : Int), .int .u64 (lf : Int), .int .i64 (sz : Int), .string sd, .string rv, .bool (fi), .bool (su), .int .u64 (nx : Int)])) 78⟩, ⟨md, .cells (av 1 (ls [.int .u64 (mt : Int)])) 33⟩]) : Cs 22 #[.pointer (some ⟨e, 0, none⟩), .int .u64 (n : Int)] w (.int .i64 (slF sd su ct lf nx mt n)) := by
 go_enter Tryz.func22, Tryz.ntmps22
 have M : Mem ⟨w, [e, md]⟩ [⟨e, .cells (av 12 (ls [.pointer (some ⟨wd, 0, none⟩), .func (.func 67) #[] #[.pointer (some ⟨md, 0, none⟩)], .int .u64 (rc : Int), .int .u64 (ct : Int), .int .u64 (rk : Int), .int .u64 (lf : Int), .int .i64 (sz : Int), .string sd, .string rv, .bool (fi), .bool (su), .int .u64 (nx : Int)])) 78⟩, ⟨md, .cells (av 1 (ls [.int .u64 (mt : Int)])) 33⟩] w := Mem.startT hL hT
 refine sq <| wp_seq <| wp_block <| wp_seq <| sR <| rV 2 ?_
 rcases Bool.eq_false_or_eq_true (ovB sd lf mt n) with c0 | c0
 ·refine pC M 8 44 #[.pointer (some ⟨e, 0, none⟩), .int .u64 (n : Int)] (.bool true) (fun w M => call_val (c_over hn w M.laid (M.there (.cons_cons _ (.cons_cons _ (List.nil_sublist _))))) (congrArg Value.bool c0)) fun u1 M => rV 1 <| nT <| cT <| wp_skip <| au_then <| cT <| sq <| wp_ret <| au_block_ret <| au_then_ret ?_
  have e0 : (slF sd su ct lf nx mt n) = 180 := by unfold slF; rw [if_pos c0]
  exact bodyPost_ret (v := .int .i64 180) (results_tmp1 Tryz.results22 _ _ _ (by kernel_rfl)) (by kernel_rfl) ⟨by rw [e0], ro_T hT M⟩
 ·refine pC M 8 44 #[.pointer (some ⟨e, 0, none⟩), .int .u64 (n : Int)] (.bool false) (fun w M => call_val (c_over hn w M.laid (M.there (.cons_cons _ (.cons_cons _ (List.nil_sublist _))))) (congrArg Value.bool c0)) fun u1 M => rV 1 <| nT <| cF <| rg_lit <| rV 1 ?_
  by_cases c1 : (nx : Int) < (ct : Int)
  ·refine pC M 10 45 #[.pointer (some ⟨e, 0, none⟩)] (.bool false) (fun w M => call_val (c_spent w M.laid (M.there (.cons_cons _ (List.nil_sublist _)))) (congrArg Value.bool (decide_eq_false (by omega)))) fun u2 M => rV 1 <| nT <| cF <| sR <| rV 3 ?_
   rcases Bool.eq_false_or_eq_true (su) with c2 | c2
   ·refine pE M 15 e 10 (.bool true) (fun w M => M.cell 0 rfl (by decide) (congrArg Value.bool c2)) <| rV 2 <| nT <| cF <| wp_skip <| au_block <| au_then <| sq <| wp_ret ?_
    have e0 : (slF sd su ct lf nx mt n) = 0 := by unfold slF; rw [if_neg (Bool.eq_false_iff.1 c0), if_neg (by omega), if_pos c2]
    exact bodyPost_ret (v := .int .i64 0) (results_tmp1 Tryz.results22 _ _ _ (by kernel_rfl)) (by kernel_rfl) ⟨by rw [e0], ro_T hT M⟩
   ·refine pE M 15 e 10 (.bool false) (fun w M => M.cell 0 rfl (by decide) (congrArg Value.bool c2)) <| rV 2 <| nT <| cT <| sq <| wp_ret <| au_block_ret <| au_then_ret ?_
    have e0 : (slF sd su ct lf nx mt n) = 3 := by unfold slF; rw [if_neg (Bool.eq_false_iff.1 c0), if_neg (by omega), if_neg (Bool.eq_false_iff.1 c2)]
    exact bodyPost_ret (v := .int .i64 3) (results_tmp1 Tryz.results22 _ _ _ (by kernel_rfl)) (by kernel_rfl) ⟨by rw [e0], ro_T hT M⟩
  ·refine pC M 10 45 #[.pointer (some ⟨e, 0, none⟩)] (.bool true) (fun w M => call_val (c_spent w M.laid (M.there (.cons_cons _ (List.nil_sublist _)))) (congrArg Value.bool (decide_eq_true (by omega)))) fun u2 M => rV 1 <| nT <| cT <| sq <| wp_ret <| au_block_ret <| au_then_ret ?_
   have e0 : (slF sd su ct lf nx mt n) = 180 := by unfold slF; rw [if_neg (Bool.eq_false_iff.1 c0), if_pos (by omega)]
   exact bodyPost_ret (v := .int .i64 180) (results_tmp1 Tryz.results22 _ _ _ (by kernel_rfl)) (by kernel_rfl) ⟨by rw [e0], ro_T hT M⟩
open Go.RowKit
theorem wrapU_suc (a : Nat) (h : a + 1 < 18446744073709551616) : IntKind.wrap .u64 ((a : Int) + 1) = ((a + 1 : Nat) : Int) := by
 rw [IntKind.wrap_u64]
 omega
def slZ (sd : Yb) (nx : Nat) (s : Yb) : Int := sf sd (nS (nx : Int)) ⟨#[]⟩ s 0
def slN (sd : Yb) (nx : Nat) (s : Yb) : Nat := if slZ sd nx s = 0 then nx else 0
def slC (sd : Yb) (nx : Nat) (s : Yb) : ByteArray := if slZ sd nx s = 0 then sealS sd (nS (nx : Int)) ⟨#[]⟩ s else ⟨#[]⟩
def slX (sd : Yb) (nx : Nat) (s : Yb) : Nat := if slZ sd nx s = 0 then nx + 1 else nx
def opZ (rv : Yb) (i : Nat) (c : Yb) : Int := if sf rv (nS (i : Int)) ⟨#[]⟩ c 16 = 0 then (if tgX rv (nS (i : Int)) ⟨#[]⟩ c = c.extract (c.size - 16) c.size then 0 else 100) else sf rv (nS (i : Int)) ⟨#[]⟩ c 16
def opC (rv : Yb) (i : Nat) (c : Yb) : ByteArray := if opZ rv i c = 0 then opS rv (nS (i : Int)) c else ⟨#[]⟩
def opU (su : Bool) (rv : Yb) (i : Nat) (c : Yb) : Bool := if opZ rv i c = 0 then true else su
def opQ (sz : Nat) (q : List Nat) (rv : Yb) (i : Nat) (c : Yb) : List Nat := if opZ rv i c = 0 then mk sz q i else q
def opF (sd : Yb) (ct lf sz mt : Nat) (q : List Nat) (n i : Nat) : Int := if ovB sd lf mt n = true then 180 else if ct ≤ i then 180 else my sz q i
theorem c_ASeal (sd : Yb) (nx : Nat) (s : Yb) (w : World) (hL : Laid w) : Cs 46 #[.string sd, .string (nS (nx : Int)), .string ⟨#[]⟩, .string s] w (.tuple #[.string (slC sd nx s), .int .i64 (slZ sd nx s)]) := by
 by_cases h : slZ sd nx s = 0
 ·unfold slC
  rw [if_pos h, h]
  exact c_SealA _ _ _ _ h w hL
 ·unfold slC
  rw [if_neg h]
  exact c_SealB _ _ _ _ h w hL
theorem c_AOpen (rv : Yb) (i : Nat) (c : Yb) (w : World) (hL : Laid w) : Cs 49 #[.string rv, .string (nS (i : Int)), .string ⟨#[]⟩, .string c] w (.tuple #[.string (opC rv i c), .int .i64 (opZ rv i c)]) := by
 unfold opC
 by_cases h : sf rv (nS (i : Int)) ⟨#[]⟩ c 16 = 0
 ·by_cases h2 : tgX rv (nS (i : Int)) ⟨#[]⟩ c = c.extract (c.size - 16) c.size
  ·have e : opZ rv i c = 0 := by unfold opZ; rw [if_pos h, if_pos h2]
   rw [if_pos e, e]
   exact c_OpenA _ _ _ _ h h2 w hL
  ·have e : opZ rv i c = 100 := by unfold opZ; rw [if_pos h, if_neg h2]
   rw [if_neg (by rw [e]; decide), e]
   exact c_OpenB _ _ _ _ h h2 w hL
 ·have e : opZ rv i c = sf rv (nS (i : Int)) ⟨#[]⟩ c 16 := by unfold opZ; rw [if_neg h]
  rw [if_neg (by rw [e]; exact h), e]
  exact c_OpenC _ _ _ _ h w hL
theorem c_tseal {e wd md : Nat} {rc ct rk lf sz nx : Nat} {sd rv : Yb} {fi su : Bool} {s : Yb} (hx : nx + 1 < 18446744073709551616) (w : World) (hL : Laid w)  (hT : There w [⟨e, .cells (av 12 (ls [.pointer (some ⟨wd, 0, none⟩), .func (.func 67) #[] #[.pointer (some ⟨md, 0, none⟩)], .int .u64 (rc : Int), .int .u64 (ct : Int), .int .u64 (rk : Int), .int .u64 (lf : Int), .int .i64 (sz : Int), .string sd, .string rv, .bool (fi), .bool (su), .int .u64 (nx : Int)])) 78⟩]) : Calls Tryz.prog 23 #[.pointer (some ⟨e, 0, none⟩), .string s] w fun r w' => r = .returned (.tuple #[.int .u64 ((slN sd nx s : Nat) : Int), .string (slC sd nx s), .int .i64 (slZ sd nx s)]) ∧ Grw w w' [e] ∧ w'.heap[e]? = some (.cells (av 12 (ls [.pointer (some ⟨wd, 0, none⟩), .func (.func 67) #[] #[.pointer (some ⟨md, 0, none⟩)], .int .u64 (rc : Int), .int .u64 (ct : Int), .int .u64 (rk : Int), .int .u64 (lf : Int), .int .i64 (sz : Int), .string sd, .string rv, .bool (fi), .bool (su), .int .u64 ((slX sd nx s : Nat) : Int)])) 78) := by
 go_enter Tryz.func23, Tryz.ntmps23
 have M : Mem ⟨w, [e]⟩ [⟨e, .cells (av 12 (ls [.pointer (some ⟨wd, 0, none⟩), .func (.func 67) #[] #[.pointer (some ⟨md, 0, none⟩)], .int .u64 (rc : Int), .int .u64 (ct : Int), .int .u64 (rk : Int), .int .u64 (lf : Int), .int .i64 (sz : Int), .string sd, .string rv, .bool (fi), .bool (su), .int .u64 (nx : Int)])) 78⟩] w := Mem.startT hL hT
 refine sq <| sR <| rV 3 <| ZE M 13 0 11 <| rV 1 <| nT <| wp_seq <| rg_held M [⟨e, .cells (av 12 (ls [.pointer (some ⟨wd, 0, none⟩), .func (.func 67) #[] #[.pointer (some ⟨md, 0, none⟩)], .int .u64 (rc : Int), .int .u64 (ct : Int), .int .u64 (rk : Int), .int .u64 (lf : Int), .int .i64 (sz : Int), .string sd, .string rv, .bool (fi), .bool (su), .int .u64 (nx : Int)])) 78⟩] 12 rfl (by kernel_rfl) (by kernel_rfl) (fun _ _ d _ _ h => by cases d <;> exact h) fun u1 M => ?_
 replace M : Mem ⟨w, [e]⟩ [⟨e, .cells (av 12 (ls [.pointer (some ⟨wd, 0, none⟩), .func (.func 67) #[] #[.pointer (some ⟨md, 0, none⟩)], .int .u64 (rc : Int), .int .u64 (ct : Int), .int .u64 (rk : Int), .int .u64 (lf : Int), .int .i64 (sz : Int), .string sd, .string rv, .bool (fi), .bool (su), .int .u64 (nx : Int)])) 78⟩] u1 := M
 refine qV M 0 15 (.pointer (some ⟨e, 0, none⟩)) <| qV M 1 16 (.pointer (some ⟨e, 0, none⟩)) <| qV M 2 17 (.pointer (some ⟨e, 7, none⟩)) <| hl_cell M 3 rfl (by decide) (by kernel_rfl) (by kernel_rfl) (want_no rfl) (some 18) rfl 9 _ rfl e 7 (by kernel_rfl) (.string sd) (fun _ => by kernel_rfl) (fun w M => M.cell 0 rfl (by decide) rfl) <| qV M 4 19 (.int .u64 (nx : Int)) <| qV M 6 21 (.string s) <| hl_one 5 (by decide) (by kernel_rfl) rfl <| ZC M 20 (fun w M => c_Nonce (nx : Int) w M.laid) fun u2 M => nT ?_
 refine ⟨M, ?_⟩
 refine hl_one 7 (by decide) (by kernel_rfl) rfl <| ZC M 22 (fun w M => c_ASeal sd nx s w M.laid) fun u3 M => nT ?_
 refine ⟨M, ?_⟩
 refine qV M 8 14 (.tuple #[.string (slC sd nx s), .int .i64 (slZ sd nx s)]) <| qV M 9 23 (.string (slC sd nx s)) <| qV M 10 24 (.int .i64 (slZ sd nx s)) <| qV M 11 8 (.string (slC sd nx s)) <| hl_end (by kernel_rfl) (by kernel_rfl) rfl <| rV 1 <| nT <| au_then <| wp_seq <| sR <| rV 1 ?_
 by_cases c0 : (slZ sd nx s) = 0
 ·refine pH 26 (.bool false) (jD ((slZ sd nx s) = 0) (c0)) <| nT <| cF <| wp_skip <| au_then <| sR <| rV 3 <| ZE M 31 0 11 <| pH 32 (.int .u64 ((nx + 1 : Nat) : Int)) (fun w => Eq.trans (b := .ok (.value (.int .u64 (IntKind.wrap .u64 (((nx : Nat) : Int) + 1)))) w) (by kernel_rfl) (by rw [wrapU_suc nx (by omega)])) <| rV 2 <| pP M 0 rfl 11 (.int .u64 ((nx + 1 : Nat) : Int)) (ls [.pointer (some ⟨wd, 0, none⟩), .func (.func 67) #[] #[.pointer (some ⟨md, 0, none⟩)], .int .u64 (rc : Int), .int .u64 (ct : Int), .int .u64 (rk : Int), .int .u64 (lf : Int), .int .i64 (sz : Int), .string sd, .string rv, .bool (fi), .bool (su), .int .u64 ((nx + 1 : Nat) : Int)]) (by decide) (put_ls _ 11 _ _ rfl) fun u4 M => ?_
  replace M : Mem ⟨w, [e]⟩ [⟨e, .cells (av 12 (ls [.pointer (some ⟨wd, 0, none⟩), .func (.func 67) #[] #[.pointer (some ⟨md, 0, none⟩)], .int .u64 (rc : Int), .int .u64 (ct : Int), .int .u64 (rk : Int), .int .u64 (lf : Int), .int .i64 (sz : Int), .string sd, .string rv, .bool (fi), .bool (su), .int .u64 ((nx + 1 : Nat) : Int)])) 78⟩] u4 := M
  refine nT <| sq <| wp_ret ?_
  have e0 : slN sd nx s = nx := by unfold slN; rw [if_pos c0]
  have e1 : slX sd nx s = nx + 1 := by unfold slX; rw [if_pos c0]
  have e2 : slC sd nx s = sealS sd (nS (nx : Int)) ⟨#[]⟩ s := by unfold slC; rw [if_pos c0]
  exact bodyPost_ret (v := .tuple #[.int .u64 (nx : Int), .string (slC sd nx s), .int .i64 0]) (results_t3 Tryz.results23 _ _ _ _ _ (by kernel_rfl) (by kernel_rfl) (by kernel_rfl)) (by kernel_rfl) ⟨by rw [e0, c0], M.old, by rw [e1]; exact M.get 0 rfl⟩
 ·refine pH 26 (.bool true) (jU ((slZ sd nx s) = 0) (c0)) <| nT <| cT <| sq <| wp_ret <| au_then_ret ?_
  have e0 : slN sd nx s = 0 := by unfold slN; rw [if_neg c0]
  have e1 : slX sd nx s = nx := by unfold slX; rw [if_neg c0]
  have e2 : slC sd nx s = ⟨#[]⟩ := by unfold slC; rw [if_neg c0]
  exact bodyPost_ret (v := .tuple #[.int .u64 0, .string ⟨#[]⟩, .int .i64 (slZ sd nx s)]) (results_t3 Tryz.results23 _ _ _ _ _ (by kernel_rfl) (by kernel_rfl) (by kernel_rfl)) (by kernel_rfl) ⟨by rw [e0, e2]; rfl, M.old, by rw [e1]; exact M.get 0 rfl⟩
theorem c_openFault {e wd k md : Nat} {rc ct rk lf sz nx mt : Nat} {sd rv : Yb} {fi su : Bool} {h : Nat} {m : NI} {q : List Nat} {n i : Nat} (hs : 1 ≤ sz) (hh : h < 18446744073709551616) (I : Inv sz h m q) (hn : n < 18446744073709551616) (hi : i < 18446744073709551616) (w : World) (hL : Laid w)  (hT : There w [⟨e, .cells (av 12 (ls [.pointer (some ⟨wd, 0, none⟩), .func (.func 67) #[] #[.pointer (some ⟨md, 0, none⟩)], .int .u64 (rc : Int), .int .u64 (ct : Int), .int .u64 (rk : Int), .int .u64 (lf : Int), .int .i64 (sz : Int), .string sd, .string rv, .bool (fi), .bool (su), .int .u64 (nx : Int)])) 78⟩, ⟨wd, .cells (av 3 (ls [.int .u64 (sz : Int), .int .u64 (h : Int), .slice (some ⟨k, 0, none⟩) (nW sz) (nW sz)])) 123⟩, ⟨k, .cells (av (nW sz) (w64 m)) 33⟩, ⟨md, .cells (av 1 (ls [.int .u64 (mt : Int)])) 33⟩]) : Cs 24 #[.pointer (some ⟨e, 0, none⟩), .int .u64 (n : Int), .int .u64 (i : Int)] w (.int .i64 (opF sd ct lf sz mt q n i)) := by
 go_enter Tryz.func24, Tryz.ntmps24
 have M : Mem ⟨w, [e, wd, k, md]⟩ [⟨e, .cells (av 12 (ls [.pointer (some ⟨wd, 0, none⟩), .func (.func 67) #[] #[.pointer (some ⟨md, 0, none⟩)], .int .u64 (rc : Int), .int .u64 (ct : Int), .int .u64 (rk : Int), .int .u64 (lf : Int), .int .i64 (sz : Int), .string sd, .string rv, .bool (fi), .bool (su), .int .u64 (nx : Int)])) 78⟩, ⟨wd, .cells (av 3 (ls [.int .u64 (sz : Int), .int .u64 (h : Int), .slice (some ⟨k, 0, none⟩) (nW sz) (nW sz)])) 123⟩, ⟨k, .cells (av (nW sz) (w64 m)) 33⟩, ⟨md, .cells (av 1 (ls [.int .u64 (mt : Int)])) 33⟩] w := Mem.startT hL hT
 refine sq <| wp_seq <| sR <| rV 2 ?_
 rcases Bool.eq_false_or_eq_true (ovB sd lf mt n) with c0 | c0
 ·refine pC M 9 44 #[.pointer (some ⟨e, 0, none⟩), .int .u64 (n : Int)] (.bool true) (fun w M => call_val (c_over hn w M.laid (M.there (.cons_cons _ (.cons _ (.cons _ (.cons_cons _ (List.nil_sublist _))))))) (congrArg Value.bool c0)) fun u1 M => rV 9 <| nT <| cT <| sq <| wp_ret <| au_then_ret ?_
  have e0 : (opF sd ct lf sz mt q n i) = 180 := by unfold opF; rw [if_pos c0]
  exact bodyPost_ret (v := .int .i64 180) (results_tmp1 Tryz.results24 _ _ _ (by kernel_rfl)) (by kernel_rfl) ⟨by rw [e0], ro_T hT M⟩
 ·refine pC M 9 44 #[.pointer (some ⟨e, 0, none⟩), .int .u64 (n : Int)] (.bool false) (fun w M => call_val (c_over hn w M.laid (M.there (.cons_cons _ (.cons _ (.cons _ (.cons_cons _ (List.nil_sublist _))))))) (congrArg Value.bool c0)) fun u1 M => rV 6 <| pl_cell M (want_on 3 false rfl 10 rfl (by kernel_rfl)) (some 16) rfl 33 _ rfl e 3 (by kernel_rfl) (.int .u64 (ct : Int)) (fun _ => by kernel_rfl) (fun w M => M.cell 0 rfl (by decide) rfl) ?_
  by_cases c1 : (i : Int) < (ct : Int)
  ·refine pl_val (want_on 3 false rfl 10 rfl (by kernel_rfl)) (some 17) rfl (.bool false) (fun w => Eq.trans (b := .ok (.value (.bool (decide ((ct : Int) ≤ (i : Int))))) w) (by kernel_rfl) (by rw [decide_eq_false (by omega)])) <| rV 1 <| nT <| cF <| wp_skip <| au_then <| sR <| rV 3 <| ZE M 22 0 0 <| rV 1 <| pC M 24 48 #[.pointer (some ⟨wd, 0, none⟩), .int .u64 (i : Int)] (.int .i64 (my sz q i)) (fun w M => a_May hs hh hi I w M.laid (M.there (.cons _ (.cons_cons _ (.cons_cons _ (List.nil_sublist _)))))) fun u2 M => rV 1 <| nT <| wp_ret ?_
   have e0 : (opF sd ct lf sz mt q n i) = (my sz q i) := by unfold opF; rw [if_neg (Bool.eq_false_iff.1 c0), if_neg (by omega)]
   exact bodyPost_ret (v := .int .i64 (my sz q i)) (results_tmp1 Tryz.results24 _ _ _ (by kernel_rfl)) (by kernel_rfl) ⟨by rw [e0], ro_T hT M⟩
  ·refine pl_val (want_on 3 false rfl 10 rfl (by kernel_rfl)) (some 17) rfl (.bool true) (fun w => Eq.trans (b := .ok (.value (.bool (decide ((ct : Int) ≤ (i : Int))))) w) (by kernel_rfl) (by rw [decide_eq_true (by omega)])) <| rV 1 <| nT <| cT <| sq <| wp_ret <| au_then_ret ?_
   have e0 : (opF sd ct lf sz mt q n i) = 180 := by unfold opF; rw [if_neg (Bool.eq_false_iff.1 c0), if_pos (by omega)]
   exact bodyPost_ret (v := .int .i64 180) (results_tmp1 Tryz.results24 _ _ _ (by kernel_rfl)) (by kernel_rfl) ⟨by rw [e0], ro_T hT M⟩
theorem c_topen {e wd k md : Nat} {rc ct rk lf sz nx : Nat} {sd rv : Yb} {fi su : Bool} {h : Nat} {m : NI} {q : List Nat} {i : Nat} {c : Yb} (hs : 1 ≤ sz) (hh : h < 18446744073709551616) (I : Inv sz h m q) (hi : i < 18446744073709551616) (w : World) (hL : Laid w)  (hT : There w [⟨e, .cells (av 12 (ls [.pointer (some ⟨wd, 0, none⟩), .func (.func 67) #[] #[.pointer (some ⟨md, 0, none⟩)], .int .u64 (rc : Int), .int .u64 (ct : Int), .int .u64 (rk : Int), .int .u64 (lf : Int), .int .i64 (sz : Int), .string sd, .string rv, .bool (fi), .bool (su), .int .u64 (nx : Int)])) 78⟩, ⟨wd, .cells (av 3 (ls [.int .u64 (sz : Int), .int .u64 (h : Int), .slice (some ⟨k, 0, none⟩) (nW sz) (nW sz)])) 123⟩, ⟨k, .cells (av (nW sz) (w64 m)) 33⟩]) : Calls Tryz.prog 25 #[.pointer (some ⟨e, 0, none⟩), .int .u64 (i : Int), .string c] w fun r w' => ∃ x : Nat × (Nat → Int), r = .returned (.tuple #[.string (opC rv i c), .int .i64 (opZ rv i c)]) ∧ (Inv sz x.1 x.2 (opQ sz q rv i c) ∧ x.1 < 18446744073709551616) ∧ OkT w w' [⟨e, .cells (av 12 (ls [.pointer (some ⟨wd, 0, none⟩), .func (.func 67) #[] #[.pointer (some ⟨md, 0, none⟩)], .int .u64 (rc : Int), .int .u64 (ct : Int), .int .u64 (rk : Int), .int .u64 (lf : Int), .int .i64 (sz : Int), .string sd, .string rv, .bool (fi), .bool (su), .int .u64 (nx : Int)])) 78⟩, ⟨wd, .cells (av 3 (ls [.int .u64 (sz : Int), .int .u64 ((h : Int)), .slice (some ⟨k, 0, none⟩) (nW sz) (nW sz)])) 123⟩, ⟨k, .cells (av (nW sz) (w64 m)) 33⟩] [⟨e, .cells (av 12 (ls [.pointer (some ⟨wd, 0, none⟩), .func (.func 67) #[] #[.pointer (some ⟨md, 0, none⟩)], .int .u64 (rc : Int), .int .u64 (ct : Int), .int .u64 (rk : Int), .int .u64 (lf : Int), .int .i64 (sz : Int), .string sd, .string rv, .bool (fi), .bool (opU su rv i c), .int .u64 (nx : Int)])) 78⟩, ⟨wd, .cells (av 3 (ls [.int .u64 (sz : Int), .int .u64 (((x.1 : Nat) : Int)), .slice (some ⟨k, 0, none⟩) (nW sz) (nW sz)])) 123⟩, ⟨k, .cells (av (nW sz) (w64 x.2)) 33⟩] := by
 go_enter Tryz.func25, Tryz.ntmps25
 have M : Mem ⟨w, [e, wd, k]⟩ [⟨e, .cells (av 12 (ls [.pointer (some ⟨wd, 0, none⟩), .func (.func 67) #[] #[.pointer (some ⟨md, 0, none⟩)], .int .u64 (rc : Int), .int .u64 (ct : Int), .int .u64 (rk : Int), .int .u64 (lf : Int), .int .i64 (sz : Int), .string sd, .string rv, .bool (fi), .bool (su), .int .u64 (nx : Int)])) 78⟩, ⟨wd, .cells (av 3 (ls [.int .u64 (sz : Int), .int .u64 (h : Int), .slice (some ⟨k, 0, none⟩) (nW sz) (nW sz)])) 123⟩, ⟨k, .cells (av (nW sz) (w64 m)) 33⟩] w := Mem.startT hL hT
 refine sq <| wp_seq <| rg_held M [⟨e, .cells (av 12 (ls [.pointer (some ⟨wd, 0, none⟩), .func (.func 67) #[] #[.pointer (some ⟨md, 0, none⟩)], .int .u64 (rc : Int), .int .u64 (ct : Int), .int .u64 (rk : Int), .int .u64 (lf : Int), .int .i64 (sz : Int), .string sd, .string rv, .bool (fi), .bool (su), .int .u64 (nx : Int)])) 78⟩, ⟨wd, .cells (av 3 (ls [.int .u64 (sz : Int), .int .u64 (h : Int), .slice (some ⟨k, 0, none⟩) (nW sz) (nW sz)])) 123⟩, ⟨k, .cells (av (nW sz) (w64 m)) 33⟩] 12 rfl (by kernel_rfl) (by kernel_rfl) (fun _ _ d _ _ h => by cases d <;> exact h) fun u1 M => ?_
 replace M : Mem ⟨w, [e, wd, k]⟩ [⟨e, .cells (av 12 (ls [.pointer (some ⟨wd, 0, none⟩), .func (.func 67) #[] #[.pointer (some ⟨md, 0, none⟩)], .int .u64 (rc : Int), .int .u64 (ct : Int), .int .u64 (rk : Int), .int .u64 (lf : Int), .int .i64 (sz : Int), .string sd, .string rv, .bool (fi), .bool (su), .int .u64 (nx : Int)])) 78⟩, ⟨wd, .cells (av 3 (ls [.int .u64 (sz : Int), .int .u64 (h : Int), .slice (some ⟨k, 0, none⟩) (nW sz) (nW sz)])) 123⟩, ⟨k, .cells (av (nW sz) (w64 m)) 33⟩] u1 := M
 refine qV M 0 11 (.pointer (some ⟨e, 0, none⟩)) <| qV M 1 12 (.pointer (some ⟨e, 0, none⟩)) <| qV M 2 13 (.pointer (some ⟨e, 8, none⟩)) <| hl_cell M 3 rfl (by decide) (by kernel_rfl) (by kernel_rfl) (want_no rfl) (some 14) rfl 9 _ rfl e 8 (by kernel_rfl) (.string rv) (fun _ => by kernel_rfl) (fun w M => M.cell 0 rfl (by decide) rfl) <| qV M 4 15 (.int .u64 (i : Int)) <| qV M 6 17 (.string c) <| hl_one 5 (by decide) (by kernel_rfl) rfl <| ZC M 16 (fun w M => c_Nonce (i : Int) w M.laid) fun u2 M => nT ?_
 refine ⟨M, ?_⟩
 refine hl_one 7 (by decide) (by kernel_rfl) rfl <| ZC M 18 (fun w M => c_AOpen rv i c w M.laid) fun u3 M => nT ?_
 refine ⟨M, ?_⟩
 refine qV M 8 10 (.tuple #[.string (opC rv i c), .int .i64 (opZ rv i c)]) <| qV M 9 19 (.string (opC rv i c)) <| qV M 10 20 (.int .i64 (opZ rv i c)) <| qV M 11 8 (.string (opC rv i c)) <| hl_end (by kernel_rfl) (by kernel_rfl) rfl <| rV 1 <| nT <| au_then <| wp_seq <| sR <| rV 1 ?_
 by_cases c0 : (opZ rv i c) = 0
 ·refine pH 22 (.bool false) (jD ((opZ rv i c) = 0) (c0)) <| nT <| cF <| wp_skip <| au_then <| sR <| rV 3 <| ZE M 27 0 0 <| rV 1 <| pl_callM M (want_no rfl) (some 29) rfl 50 #[.pointer (some ⟨wd, 0, none⟩), .int .u64 (i : Int)] [⟨e, .cells (av 12 (ls [.pointer (some ⟨wd, 0, none⟩), .func (.func 67) #[] #[.pointer (some ⟨md, 0, none⟩)], .int .u64 (rc : Int), .int .u64 (ct : Int), .int .u64 (rk : Int), .int .u64 (lf : Int), .int .i64 (sz : Int), .string sd, .string rv, .bool (fi), .bool (su), .int .u64 (nx : Int)])) 78⟩] [⟨wd, .cells (av 3 (ls [.int .u64 (sz : Int), .int .u64 (h : Int), .slice (some ⟨k, 0, none⟩) (nW sz) (nW sz)])) 123⟩, ⟨k, .cells (av (nW sz) (w64 m)) 33⟩] [] (by simp only [List.append_assoc, List.cons_append, List.nil_append, List.append_nil]) (fun x : Nat × (Nat → Int) => .int .i64 (my sz q i)) (fun x : Nat × (Nat → Int) => [⟨wd, .cells (av 3 (ls [.int .u64 (sz : Int), .int .u64 ((x.1 : Nat) : Int), .slice (some ⟨k, 0, none⟩) (nW sz) (nW sz)])) 123⟩, ⟨k, .cells (av (nW sz) (w64 x.2)) 33⟩]) (fun x : Nat × (Nat → Int) => Inv sz x.1 x.2 (mk sz q i) ∧ x.1 < 18446744073709551616) (fun _ => by kernel_rfl) (fun w hL hT => a_Mark hs hh hi I w hL hT) ?_
  rintro ⟨h2, m2⟩ u4 ⟨I2, hh2⟩ M
  replace M : Mem ⟨w, [e, wd, k]⟩ [⟨e, .cells (av 12 (ls [.pointer (some ⟨wd, 0, none⟩), .func (.func 67) #[] #[.pointer (some ⟨md, 0, none⟩)], .int .u64 (rc : Int), .int .u64 (ct : Int), .int .u64 (rk : Int), .int .u64 (lf : Int), .int .i64 (sz : Int), .string sd, .string rv, .bool (fi), .bool (su), .int .u64 (nx : Int)])) 78⟩, ⟨wd, .cells (av 3 (ls [.int .u64 (sz : Int), .int .u64 (h2 : Int), .slice (some ⟨k, 0, none⟩) (nW sz) (nW sz)])) 123⟩, ⟨k, .cells (av (nW sz) (w64 m2)) 33⟩] u4 := by simpa only [List.append_assoc, List.cons_append, List.nil_append, List.append_nil] using M
  refine nT <| sR <| rV 3 <| pP M 0 rfl 10 (.bool true) (ls [.pointer (some ⟨wd, 0, none⟩), .func (.func 67) #[] #[.pointer (some ⟨md, 0, none⟩)], .int .u64 (rc : Int), .int .u64 (ct : Int), .int .u64 (rk : Int), .int .u64 (lf : Int), .int .i64 (sz : Int), .string sd, .string rv, .bool (fi), .bool true, .int .u64 (nx : Int)]) (by decide) (put_ls _ 10 _ _ rfl) fun u5 M => ?_
  replace M : Mem ⟨w, [e, wd, k]⟩ [⟨e, .cells (av 12 (ls [.pointer (some ⟨wd, 0, none⟩), .func (.func 67) #[] #[.pointer (some ⟨md, 0, none⟩)], .int .u64 (rc : Int), .int .u64 (ct : Int), .int .u64 (rk : Int), .int .u64 (lf : Int), .int .i64 (sz : Int), .string sd, .string rv, .bool (fi), .bool true, .int .u64 (nx : Int)])) 78⟩, ⟨wd, .cells (av 3 (ls [.int .u64 (sz : Int), .int .u64 (h2 : Int), .slice (some ⟨k, 0, none⟩) (nW sz) (nW sz)])) 123⟩, ⟨k, .cells (av (nW sz) (w64 m2)) 33⟩] u5 := M
  refine nT <| sq <| wp_ret ?_
  have e1 : opU su rv i c = true := by unfold opU; rw [if_pos c0]
  have e2 : opQ sz q rv i c = mk sz q i := by unfold opQ; rw [if_pos c0]
  exact bodyPost_ret (v := .tuple #[.string (opC rv i c), .int .i64 0]) (results_tmp2 Tryz.results25 _ _ _ _ (by kernel_rfl) (by kernel_rfl)) (by kernel_rfl) ⟨(h2, m2), by rw [c0], by rw [e2]; exact ⟨I2, hh2⟩, by rw [e1]; exact Mem.okT0 (T := [⟨e, _⟩, ⟨wd, _⟩, ⟨k, _⟩]) M⟩
 ·refine pH 22 (.bool true) (jU ((opZ rv i c) = 0) (c0)) <| nT <| cT <| sq <| wp_ret <| au_then_ret ?_
  have e1 : opU su rv i c = su := by unfold opU; rw [if_neg c0]
  have e2 : opQ sz q rv i c = q := by unfold opQ; rw [if_neg c0]
  have e3 : opC rv i c = ⟨#[]⟩ := by unfold opC; rw [if_neg c0]
  exact bodyPost_ret (v := .tuple #[.string ⟨#[]⟩, .int .i64 (opZ rv i c)]) (results_tmp2 Tryz.results25 _ _ _ _ (by kernel_rfl) (by kernel_rfl)) (by kernel_rfl) ⟨(h, m), by rw [e3], by rw [e2]; exact ⟨I, hh⟩, by rw [e1]; exact Mem.okT0 (T := [⟨e, _⟩, ⟨wd, _⟩, ⟨k, _⟩]) M⟩
theorem c_there {p e : Nat} (w : World) (hL : Laid w)  (hT : There w [⟨p, .cells (av 1 (ls [.pointer (some ⟨e, 0, none⟩)])) 72⟩]) : Cs 21 #[.pointer (some ⟨p, 0, none⟩)] w (.bool true) := by
 go_enter Tryz.func21, Tryz.ntmps21
 have M : Mem ⟨w, [p]⟩ [⟨p, .cells (av 1 (ls [.pointer (some ⟨e, 0, none⟩)])) 72⟩] w := Mem.startT hL hT
 refine sq <| sR <| rV 6 <| pl_cell M (want_on 2 true rfl 5 rfl (by kernel_rfl)) (some 9) rfl 70 _ rfl p 0 (by kernel_rfl) (.pointer (some ⟨e, 0, none⟩)) (fun _ => by kernel_rfl) (fun w M => M.cell 0 rfl (by decide) rfl) <| rV 3 <| nT <| wp_ret ?_
 exact bodyPost_ret (v := .bool true) (results_tmp1 Tryz.results21 _ _ _ (by kernel_rfl)) (by kernel_rfl) ⟨rfl, ro_T hT M⟩
open Go.RowKit
structure TS where
 rc : Nat
 ct : Nat
 rk : Nat
 lf : Nat
 sz : Nat
 nx : Nat
 mt : Nat
 sd : ByteArray
 rv : ByteArray
 fi : Bool
 su : Bool
 q : List Nat
def tB (x : TS) (p e wd k md h : Nat) (m : NI) : List Blk := [⟨p, .cells (av 1 (ls [.pointer (some ⟨e, 0, none⟩)])) 72⟩, ⟨e, .cells (av 12 (ls [.pointer (some ⟨wd, 0, none⟩), .func (.func 67) #[] #[.pointer (some ⟨md, 0, none⟩)], .int .u64 ((x.rc : Nat) : Int), .int .u64 ((x.ct : Nat) : Int), .int .u64 ((x.rk : Nat) : Int), .int .u64 ((x.lf : Nat) : Int), .int .i64 ((x.sz : Nat) : Int), .string x.sd, .string x.rv, .bool (x.fi), .bool (x.su), .int .u64 ((x.nx : Nat) : Int)])) 78⟩, ⟨wd, .cells (av 3 (ls [.int .u64 ((x.sz : Nat) : Int), .int .u64 (h : Int), .slice (some ⟨k, 0, none⟩) (nW x.sz) (nW x.sz)])) 123⟩, ⟨k, .cells (av (nW x.sz) (w64 m)) 33⟩, ⟨md, .cells (av 1 (ls [.int .u64 ((x.mt : Nat) : Int)])) 33⟩]
structure IsT (p : Nat) (x : TS) (T : List Blk) : Prop where
 out : ∃ e wd k md h m, T = tB x p e wd k md h m ∧ Inv x.sz h m x.q ∧ h < 18446744073709551616
structure TS.Ok (x : TS) : Prop where
 s1 : 1 ≤ x.sz
 s2 : x.sz ≤ 4096
 c : x.ct ≤ 1152921504606846976
 n : x.nx ≤ x.ct
def TS.ov (x : TS) (n : Nat) : Bool := ovB x.sd x.lf x.mt n
def TS.sF (x : TS) (n : Nat) : Int := slF x.sd x.su x.ct x.lf x.nx x.mt n
def TS.sE (x : TS) (n : Nat) (s : Yb) : Int := if x.sF n = 0 then slZ x.sd x.nx s else x.sF n
def TS.sN (x : TS) (n : Nat) (s : Yb) : Nat := if x.sF n = 0 then slN x.sd x.nx s else 0
def TS.sC (x : TS) (n : Nat) (s : Yb) : ByteArray := if x.sF n = 0 then slC x.sd x.nx s else ⟨#[]⟩
def TS.sX (x : TS) (n : Nat) (s : Yb) : TS := if x.sF n = 0 then { x with nx := slX x.sd x.nx s } else x
def TS.oF (x : TS) (n i : Nat) : Int := opF x.sd x.ct x.lf x.sz x.mt x.q n i
def TS.oE (x : TS) (n i : Nat) (c : Yb) : Int := if x.oF n i = 0 then opZ x.rv i c else x.oF n i
def TS.oC (x : TS) (n i : Nat) (c : Yb) : ByteArray := if x.oF n i = 0 then opC x.rv i c else ⟨#[]⟩
def TS.oX (x : TS) (n i : Nat) (c : Yb) : TS := if x.oF n i = 0 then { x with su := opU x.su x.rv i c, q := opQ x.sz x.q x.rv i c } else x
def mbB (rc ct rk lf : Nat) : Bool := decide (1 ≤ rc ∧ rc ≤ ct ∧ ct ≤ 1152921504606846976 ∧ 1 ≤ rk ∧ rk ≤ lf ∧ lf ≤ 1152921504606846976)
theorem c_mayBe {rc ct rk lf : Nat} {z : Int} (w : World) (hL : Laid w)  : Cs 41 #[.agg (av 5 (ls [.int .u64 (rc : Int), .int .u64 (ct : Int), .int .u64 (rk : Int), .int .u64 (lf : Int), .int .i64 z]))] w (.bool (mbB rc ct rk lf)) := by
 go_enter Tryz.func41, Tryz.ntmps41
 have M := Mem.start hL
 refine sR <| pN M 1 (.cells (av 5 (ls [.int .u64 (rc : Int), .int .u64 (ct : Int), .int .u64 (rk : Int), .int .u64 (lf : Int), .int .i64 z])) 35) fun g1 u1 M => ?_
 replace M : Mem ⟨w, []⟩ [⟨g1, .cells (av 5 (ls [.int .u64 (rc : Int), .int .u64 (ct : Int), .int .u64 (rk : Int), .int .u64 (lf : Int), .int .i64 z])) 35⟩] u1 := M
 refine rV 1 <| nT <| sR <| rV 1 <| ZE M 4 0 0 ?_
 by_cases c0 : (rc : Int) < 1
 ·refine ZF 5 (1 ≤ (rc : Int)) <| rV 30 <| nT <| wp_ret ?_
  have e0 : mbB rc ct rk lf = false := decide_eq_false (by omega)
  exact bodyPost_ret (v := .bool false) (results_tmp1 Tryz.results41 _ _ _ (by kernel_rfl)) (by kernel_rfl) ⟨by rw [e0], below_grown M.old⟩
 ·refine ZT 5 (1 ≤ (rc : Int)) <| rV 2 <| pl_cell M (want_on 3 true rfl 6 rfl (by kernel_rfl)) (some 8) rfl 33 _ rfl g1 0 (by kernel_rfl) (.int .u64 (rc : Int)) (fun _ => by kernel_rfl) (fun w M => M.cell 0 rfl (by decide) rfl) <| rV 1 <| pl_cell M (want_on 3 true rfl 6 rfl (by kernel_rfl)) (some 10) rfl 33 _ rfl g1 1 (by kernel_rfl) (.int .u64 (ct : Int)) (fun _ => by kernel_rfl) (fun w M => M.cell 0 rfl (by decide) rfl) ?_
  by_cases c1 : (ct : Int) < (rc : Int)
  ·refine pl_val (want_on 3 true rfl 6 rfl (by kernel_rfl)) (some 11) rfl (.bool false) (fun w => Eq.trans (b := .ok (.value (.bool (decide ((rc : Int) ≤ (ct : Int))))) w) (by kernel_rfl) (by rw [decide_eq_false (by omega)])) <| rV 24 <| nT <| wp_ret ?_
   have e0 : mbB rc ct rk lf = false := decide_eq_false (by omega)
   exact bodyPost_ret (v := .bool false) (results_tmp1 Tryz.results41 _ _ _ (by kernel_rfl)) (by kernel_rfl) ⟨by rw [e0], below_grown M.old⟩
  ·refine pl_val (want_on 3 true rfl 6 rfl (by kernel_rfl)) (some 11) rfl (.bool true) (fun w => Eq.trans (b := .ok (.value (.bool (decide ((rc : Int) ≤ (ct : Int))))) w) (by kernel_rfl) (by rw [decide_eq_true (by omega)])) <| rV 3 <| pl_cell M (want_on 10 true rfl 13 rfl (by kernel_rfl)) (some 15) rfl 33 _ rfl g1 1 (by kernel_rfl) (.int .u64 (ct : Int)) (fun _ => by kernel_rfl) (fun w M => M.cell 0 rfl (by decide) rfl) ?_
   by_cases c2 : 1152921504606846976 < (ct : Int)
   ·refine pl_val (want_on 10 true rfl 13 rfl (by kernel_rfl)) (some 16) rfl (.bool false) (fun w => Eq.trans (b := .ok (.value (.bool (decide ((ct : Int) ≤ 1152921504606846976)))) w) (by kernel_rfl) (by rw [decide_eq_false (by omega)])) <| rV 19 <| nT <| wp_ret ?_
    have e0 : mbB rc ct rk lf = false := decide_eq_false (by omega)
    exact bodyPost_ret (v := .bool false) (results_tmp1 Tryz.results41 _ _ _ (by kernel_rfl)) (by kernel_rfl) ⟨by rw [e0], below_grown M.old⟩
   ·refine pl_val (want_on 10 true rfl 13 rfl (by kernel_rfl)) (some 16) rfl (.bool true) (fun w => Eq.trans (b := .ok (.value (.bool (decide ((ct : Int) ≤ 1152921504606846976)))) w) (by kernel_rfl) (by rw [decide_eq_true (by omega)])) <| rV 3 <| pl_cell M (want_on 15 true rfl 18 rfl (by kernel_rfl)) (some 20) rfl 33 _ rfl g1 2 (by kernel_rfl) (.int .u64 (rk : Int)) (fun _ => by kernel_rfl) (fun w M => M.cell 0 rfl (by decide) rfl) ?_
    by_cases c3 : (rk : Int) < 1
    ·refine pl_val (want_on 15 true rfl 18 rfl (by kernel_rfl)) (some 21) rfl (.bool false) (fun w => Eq.trans (b := .ok (.value (.bool (decide (1 ≤ (rk : Int))))) w) (by kernel_rfl) (by rw [decide_eq_false (by omega)])) <| rV 14 <| nT <| wp_ret ?_
     have e0 : mbB rc ct rk lf = false := decide_eq_false (by omega)
     exact bodyPost_ret (v := .bool false) (results_tmp1 Tryz.results41 _ _ _ (by kernel_rfl)) (by kernel_rfl) ⟨by rw [e0], below_grown M.old⟩
    ·refine pl_val (want_on 15 true rfl 18 rfl (by kernel_rfl)) (some 21) rfl (.bool true) (fun w => Eq.trans (b := .ok (.value (.bool (decide (1 ≤ (rk : Int))))) w) (by kernel_rfl) (by rw [decide_eq_true (by omega)])) <| rV 3 <| pl_cell M (want_on 20 true rfl 23 rfl (by kernel_rfl)) (some 25) rfl 33 _ rfl g1 2 (by kernel_rfl) (.int .u64 (rk : Int)) (fun _ => by kernel_rfl) (fun w M => M.cell 0 rfl (by decide) rfl) <| rV 1 <| pl_cell M (want_on 20 true rfl 23 rfl (by kernel_rfl)) (some 27) rfl 33 _ rfl g1 3 (by kernel_rfl) (.int .u64 (lf : Int)) (fun _ => by kernel_rfl) (fun w M => M.cell 0 rfl (by decide) rfl) ?_
     by_cases c4 : (lf : Int) < (rk : Int)
     ·refine pl_val (want_on 20 true rfl 23 rfl (by kernel_rfl)) (some 28) rfl (.bool false) (fun w => Eq.trans (b := .ok (.value (.bool (decide ((rk : Int) ≤ (lf : Int))))) w) (by kernel_rfl) (by rw [decide_eq_false (by omega)])) <| rV 7 <| nT <| wp_ret ?_
      have e0 : mbB rc ct rk lf = false := decide_eq_false (by omega)
      exact bodyPost_ret (v := .bool false) (results_tmp1 Tryz.results41 _ _ _ (by kernel_rfl)) (by kernel_rfl) ⟨by rw [e0], below_grown M.old⟩
     ·refine pl_val (want_on 20 true rfl 23 rfl (by kernel_rfl)) (some 28) rfl (.bool true) (fun w => Eq.trans (b := .ok (.value (.bool (decide ((rk : Int) ≤ (lf : Int))))) w) (by kernel_rfl) (by rw [decide_eq_true (by omega)])) <| rV 3 <| pl_cell M (want_on 27 true rfl 30 rfl (by kernel_rfl)) (some 32) rfl 33 _ rfl g1 3 (by kernel_rfl) (.int .u64 (lf : Int)) (fun _ => by kernel_rfl) (fun w M => M.cell 0 rfl (by decide) rfl) ?_
      by_cases c5 : 1152921504606846976 < (lf : Int)
      ·refine pl_val (want_on 27 true rfl 30 rfl (by kernel_rfl)) (some 33) rfl (.bool false) (fun w => Eq.trans (b := .ok (.value (.bool (decide ((lf : Int) ≤ 1152921504606846976)))) w) (by kernel_rfl) (by rw [decide_eq_false (by omega)])) <| rV 2 <| nT <| wp_ret ?_
       have e0 : mbB rc ct rk lf = false := decide_eq_false (by omega)
       exact bodyPost_ret (v := .bool false) (results_tmp1 Tryz.results41 _ _ _ (by kernel_rfl)) (by kernel_rfl) ⟨by rw [e0], below_grown M.old⟩
      ·refine pl_val (want_on 27 true rfl 30 rfl (by kernel_rfl)) (some 33) rfl (.bool true) (fun w => Eq.trans (b := .ok (.value (.bool (decide ((lf : Int) ≤ 1152921504606846976)))) w) (by kernel_rfl) (by rw [decide_eq_true (by omega)])) <| rV 2 <| nT <| wp_ret ?_
       have e0 : mbB rc ct rk lf = true := decide_eq_true (by omega)
       exact bodyPost_ret (v := .bool true) (results_tmp1 Tryz.results41 _ _ _ (by kernel_rfl)) (by kernel_rfl) ⟨by rw [e0], below_grown M.old⟩
theorem c_ageSince {mt : Nat} (w : World) (hL : Laid w) : Calls Tryz.prog 43 #[.int .u64 (mt : Int)] w fun r w' => ∃ md, r = .returned (.func (.func 67) #[] #[.pointer (some ⟨md, 0, none⟩)]) ∧ w.heap.size ≤ md ∧ w'.heap[md]? = some (.cells (av 1 (ls [.int .u64 (mt : Int)])) 33) ∧ Below w.heap.size w w' := by
 go_enter Tryz.func43, Tryz.ntmps43
 have M := Mem.start hL
 refine sR <| pN M 1 (.cells (av 1 (ls [.int .u64 (mt : Int)])) 33) fun g1 u1 M => ?_
 replace M : Mem ⟨w, []⟩ [⟨g1, .cells (av 1 (ls [.int .u64 (mt : Int)])) 33⟩] u1 := M
 refine rV 1 <| nT <| sq <| wp_ret ?_
 exact bodyPost_ret (v := .func (.func 67) #[] #[.pointer (some ⟨g1, 0, none⟩)]) (results_tmp1 Tryz.results43 _ _ _ (by kernel_rfl)) (by kernel_rfl) ⟨_, rfl, ((M.ge _ (List.mem_singleton.2 rfl)).resolve_right (by simp)), M.get 0 rfl, below_grown M.old⟩
theorem a_New {y0 y1 sd rv y4 : Yb} {fi : Bool} {mt rc ct rk lf : Nat} {s : Nat} (h1 : sd.size = 32) (h2 : rv.size = 32) (h3 : mbB rc ct rk lf = true) (hs : 1 ≤ s) (hs4 : s ≤ 4096) (w : World) (hL : Laid w) : Calls Tryz.prog 20 #[.agg (av 5 (ls [.string y0, .string y1, .string sd, .string rv, .string y4])), .bool (fi), .int .u64 (mt : Int), .agg (av 5 (ls [.int .u64 (rc : Int), .int .u64 (ct : Int), .int .u64 (rk : Int), .int .u64 (lf : Int), .int .i64 (s : Int)]))] w fun r w' => ∃ x : Nat × List Blk, r = .returned (.tuple #[.pointer (some ⟨x.1, 0, none⟩), .int .i64 0]) ∧ IsT x.1 ⟨rc, ct, rk, lf, s, 0, mt, sd, rv, fi, fi, []⟩ x.2 ∧ OkT w w' [] x.2 := by
 go_enter Tryz.func20, Tryz.ntmps20
 have M := Mem.start hL
 refine sR <| pN M 4 (.cells (av 5 (ls [.string y0, .string y1, .string sd, .string rv, .string y4])) 61) fun g1 u1 M => ?_
 replace M : Mem ⟨w, []⟩ [⟨g1, .cells (av 5 (ls [.string y0, .string y1, .string sd, .string rv, .string y4])) 61⟩] u1 := M
 refine pN M 7 (.cells (av 5 (ls [.int .u64 (rc : Int), .int .u64 (ct : Int), .int .u64 (rk : Int), .int .u64 (lf : Int), .int .i64 (s : Int)])) 35) fun g2 u2 M => ?_
 replace M : Mem ⟨w, []⟩ [⟨g1, .cells (av 5 (ls [.string y0, .string y1, .string sd, .string rv, .string y4])) 61⟩, ⟨g2, .cells (av 5 (ls [.int .u64 (rc : Int), .int .u64 (ct : Int), .int .u64 (rk : Int), .int .u64 (lf : Int), .int .i64 (s : Int)])) 35⟩] u2 := M
 refine rV 2 <| nT <| wp_seq <| sR <| rV 1 <| ZE M 13 0 2 <| rV 1 ?_
 by_cases c0 : (sd.size : Int) = 32
 ·refine pH 15 (.bool false) (jD ((sd.size : Int) = 32) (c0)) <| rV 2 <| pl_cell M (want_on 4 false rfl 16 rfl (by kernel_rfl)) (some 18) rfl 9 _ rfl g1 3 (by kernel_rfl) (.string rv) (fun _ => by kernel_rfl) (fun w M => M.cell 0 rfl (by decide) rfl) <| rV 1 ?_
  by_cases c1 : (rv.size : Int) = 32
  ·refine pl_val (want_on 4 false rfl 16 rfl (by kernel_rfl)) (some 20) rfl (.bool false) (fun w => Eq.trans (b := .ok (.value (.bool (!(decide ((rv.size : Int) = 32))))) w) (by kernel_rfl) (by rw [decide_eq_true (c1)]; rfl)) ?_
   refine rV 2 <| pl_load M (want_on 10 false rfl 22 rfl (by kernel_rfl)) (some 23) rfl 35 _ rfl 1 g2 0 (by kernel_rfl) 5 35 (ls [.int .u64 (rc : Int), .int .u64 (ct : Int), .int .u64 (rk : Int), .int .u64 (lf : Int), .int .i64 (s : Int)]) rfl 5 (ls [.int .u64 (rc : Int), .int .u64 (ct : Int), .int .u64 (rk : Int), .int .u64 (lf : Int), .int .i64 (s : Int)]) (fun j _ => by rw [Nat.zero_add]) (by decide) _ Tryz.underlying35 rfl inz35 <| pl_call M (want_on 10 false rfl 22 rfl (by kernel_rfl)) (some 24) rfl 41 #[.agg (av 5 (ls [.int .u64 (rc : Int), .int .u64 (ct : Int), .int .u64 (rk : Int), .int .u64 (lf : Int), .int .i64 (s : Int)]))] (.bool true) (fun _ => by kernel_rfl) (fun w M => call_val (c_mayBe w M.laid) (congrArg Value.bool h3)) fun u3 M => rV 2 <| nT <| cF <| wp_skip <| au_then <| sR <| rV 1 <| ZE M 29 1 4 <| pl_callM M (want_no rfl) (some 30) rfl 42 #[.int .i64 (s : Int)] [⟨g1, .cells (av 5 (ls [.string y0, .string y1, .string sd, .string rv, .string y4])) 61⟩, ⟨g2, .cells (av 5 (ls [.int .u64 (rc : Int), .int .u64 (ct : Int), .int .u64 (rk : Int), .int .u64 (lf : Int), .int .i64 (s : Int)])) 35⟩] [] [] (by simp only [List.append_assoc, List.cons_append, List.nil_append, List.append_nil]) (fun x : Nat × Nat => .tuple #[.pointer (some ⟨x.1, 0, none⟩), .int .i64 0]) (fun x : Nat × Nat => [⟨x.1, .cells (av 3 (ls [.int .u64 (s : Int), .int .u64 0, .slice (some ⟨x.2, 0, none⟩) (nW s) (nW s)])) 123⟩, ⟨x.2, .cells (av (nW s) (w64 (fun _ => 0))) 33⟩]) (fun x : Nat × Nat => True) (fun _ => by kernel_rfl) (fun w hL hT => c_WNew s hs hs4 w hL) ?_
   rintro ⟨wd, k⟩ u4 - M
   replace M : Mem ⟨w, []⟩ [⟨g1, .cells (av 5 (ls [.string y0, .string y1, .string sd, .string rv, .string y4])) 61⟩, ⟨g2, .cells (av 5 (ls [.int .u64 (rc : Int), .int .u64 (ct : Int), .int .u64 (rk : Int), .int .u64 (lf : Int), .int .i64 (s : Int)])) 35⟩, ⟨wd, .cells (av 3 (ls [.int .u64 (s : Int), .int .u64 0, .slice (some ⟨k, 0, none⟩) (nW s) (nW s)])) 123⟩, ⟨k, .cells (av (nW s) (w64 (fun _ => 0))) 33⟩] u4 := by simpa only [List.append_assoc, List.cons_append, List.nil_append, List.append_nil] using M
   refine rV 5 <| nT <| wp_seq <| sq <| cF <| wp_skip <| au_then <| wp_seq <| rg_held M [⟨g1, .cells (av 5 (ls [.string y0, .string y1, .string sd, .string rv, .string y4])) 61⟩, ⟨g2, .cells (av 5 (ls [.int .u64 (rc : Int), .int .u64 (ct : Int), .int .u64 (rk : Int), .int .u64 (lf : Int), .int .i64 (s : Int)])) 35⟩, ⟨wd, .cells (av 3 (ls [.int .u64 (s : Int), .int .u64 0, .slice (some ⟨k, 0, none⟩) (nW s) (nW s)])) 123⟩, ⟨k, .cells (av (nW s) (w64 (fun _ => 0))) 33⟩] 15 rfl (by kernel_rfl) (by kernel_rfl) (fun _ _ d _ _ h => by cases d <;> exact h) fun u5 M => ?_
   replace M : Mem ⟨w, []⟩ [⟨g1, .cells (av 5 (ls [.string y0, .string y1, .string sd, .string rv, .string y4])) 61⟩, ⟨g2, .cells (av 5 (ls [.int .u64 (rc : Int), .int .u64 (ct : Int), .int .u64 (rk : Int), .int .u64 (lf : Int), .int .i64 (s : Int)])) 35⟩, ⟨wd, .cells (av 3 (ls [.int .u64 (s : Int), .int .u64 0, .slice (some ⟨k, 0, none⟩) (nW s) (nW s)])) 123⟩, ⟨k, .cells (av (nW s) (w64 (fun _ => 0))) 33⟩] u5 := M
   refine qV M 0 36 (.pointer (some ⟨wd, 0, none⟩)) <| qV M 1 37 (.int .u64 (mt : Int)) <| hl_load M 3 rfl (by decide) (by kernel_rfl) (by kernel_rfl) (want_no rfl) (some 39) rfl 35 _ rfl 1 g2 0 (by kernel_rfl) 5 35 (ls [.int .u64 (rc : Int), .int .u64 (ct : Int), .int .u64 (rk : Int), .int .u64 (lf : Int), .int .i64 (s : Int)]) rfl 5 (ls [.int .u64 (rc : Int), .int .u64 (ct : Int), .int .u64 (rk : Int), .int .u64 (lf : Int), .int .i64 (s : Int)]) (fun j _ => by rw [Nat.zero_add]) (by decide) _ Tryz.underlying35 rfl inz35 <| qV M 4 40 (.pointer (some ⟨g1, 2, none⟩)) <| hl_cell M 5 rfl (by decide) (by kernel_rfl) (by kernel_rfl) (want_no rfl) (some 41) rfl 9 _ rfl g1 2 (by kernel_rfl) (.string sd) (fun _ => by kernel_rfl) (fun w M => M.cell 0 rfl (by decide) rfl) <| qV M 6 42 (.pointer (some ⟨g1, 3, none⟩)) <| hl_cell M 7 rfl (by decide) (by kernel_rfl) (by kernel_rfl) (want_no rfl) (some 43) rfl 9 _ rfl g1 3 (by kernel_rfl) (.string rv) (fun _ => by kernel_rfl) (fun w M => M.cell 0 rfl (by decide) rfl) <| qV M 8 44 (.bool (fi)) <| qV M 9 45 (.bool (fi)) <| hl_one 2 (by decide) (by kernel_rfl) rfl <| pl_calln M (want_no rfl) (some 38) rfl 43 #[.int .u64 (mt : Int)] (fun g3 => .func (.func 67) #[] #[.pointer (some ⟨g3, 0, none⟩)]) (.cells (av 1 (ls [.int .u64 (mt : Int)])) 33) (fun _ => by kernel_rfl) (fun w M => c_ageSince w M.laid) fun g3 u6 M => ?_
   replace M : Mem ⟨w, []⟩ [⟨g1, .cells (av 5 (ls [.string y0, .string y1, .string sd, .string rv, .string y4])) 61⟩, ⟨g2, .cells (av 5 (ls [.int .u64 (rc : Int), .int .u64 (ct : Int), .int .u64 (rk : Int), .int .u64 (lf : Int), .int .i64 (s : Int)])) 35⟩, ⟨wd, .cells (av 3 (ls [.int .u64 (s : Int), .int .u64 0, .slice (some ⟨k, 0, none⟩) (nW s) (nW s)])) 123⟩, ⟨k, .cells (av (nW s) (w64 (fun _ => 0))) 33⟩, ⟨g3, .cells (av 1 (ls [.int .u64 (mt : Int)])) 33⟩] u6 := M
   refine nT ?_
   refine ⟨(M.drop (.cons_cons _ (.cons_cons _ (.cons_cons _ (.cons_cons _ (.cons _ (.slnil))))))), ?_⟩
   refine qV (M.drop (.cons_cons _ (.cons_cons _ (.cons_cons _ (.cons_cons _ (.cons _ (.slnil))))))) 10 46 (.agg (av 12 (ls [.pointer (some ⟨wd, 0, none⟩), .func (.func 67) #[] #[.pointer (some ⟨g3, 0, none⟩)], .int .u64 (rc : Int), .int .u64 (ct : Int), .int .u64 (rk : Int), .int .u64 (lf : Int), .int .i64 (s : Int), .string sd, .string rv, .bool (fi), .bool (fi), .int .u64 0]))) <| hl_one 11 (by decide) (by kernel_rfl) rfl <| pN M 47 (.cells (av 12 (ls [.pointer (some ⟨wd, 0, none⟩), .func (.func 67) #[] #[.pointer (some ⟨g3, 0, none⟩)], .int .u64 (rc : Int), .int .u64 (ct : Int), .int .u64 (rk : Int), .int .u64 (lf : Int), .int .i64 (s : Int), .string sd, .string rv, .bool (fi), .bool (fi), .int .u64 0])) 78) fun g4 u7 M => ?_
   replace M : Mem ⟨w, []⟩ [⟨g1, .cells (av 5 (ls [.string y0, .string y1, .string sd, .string rv, .string y4])) 61⟩, ⟨g2, .cells (av 5 (ls [.int .u64 (rc : Int), .int .u64 (ct : Int), .int .u64 (rk : Int), .int .u64 (lf : Int), .int .i64 (s : Int)])) 35⟩, ⟨wd, .cells (av 3 (ls [.int .u64 (s : Int), .int .u64 0, .slice (some ⟨k, 0, none⟩) (nW s) (nW s)])) 123⟩, ⟨k, .cells (av (nW s) (w64 (fun _ => 0))) 33⟩, ⟨g3, .cells (av 1 (ls [.int .u64 (mt : Int)])) 33⟩, ⟨g4, .cells (av 12 (ls [.pointer (some ⟨wd, 0, none⟩), .func (.func 67) #[] #[.pointer (some ⟨g3, 0, none⟩)], .int .u64 (rc : Int), .int .u64 (ct : Int), .int .u64 (rk : Int), .int .u64 (lf : Int), .int .i64 (s : Int), .string sd, .string rv, .bool (fi), .bool (fi), .int .u64 0])) 78⟩] u7 := M
   refine nT ?_
   refine ⟨(M.drop (.cons_cons _ (.cons_cons _ (.cons_cons _ (.cons_cons _ (.cons _ (.cons _ (.slnil)))))))), ?_⟩
   refine qV (M.drop (.cons_cons _ (.cons_cons _ (.cons_cons _ (.cons_cons _ (.cons _ (.cons _ (.slnil)))))))) 12 48 (.agg (av 1 (ls [.pointer (some ⟨g4, 0, none⟩)]))) <| hl_one 13 (by decide) (by kernel_rfl) rfl <| pN M 49 (.cells (av 1 (ls [.pointer (some ⟨g4, 0, none⟩)])) 72) fun g5 u8 M => ?_
   replace M : Mem ⟨w, []⟩ [⟨g1, .cells (av 5 (ls [.string y0, .string y1, .string sd, .string rv, .string y4])) 61⟩, ⟨g2, .cells (av 5 (ls [.int .u64 (rc : Int), .int .u64 (ct : Int), .int .u64 (rk : Int), .int .u64 (lf : Int), .int .i64 (s : Int)])) 35⟩, ⟨wd, .cells (av 3 (ls [.int .u64 (s : Int), .int .u64 0, .slice (some ⟨k, 0, none⟩) (nW s) (nW s)])) 123⟩, ⟨k, .cells (av (nW s) (w64 (fun _ => 0))) 33⟩, ⟨g3, .cells (av 1 (ls [.int .u64 (mt : Int)])) 33⟩, ⟨g4, .cells (av 12 (ls [.pointer (some ⟨wd, 0, none⟩), .func (.func 67) #[] #[.pointer (some ⟨g3, 0, none⟩)], .int .u64 (rc : Int), .int .u64 (ct : Int), .int .u64 (rk : Int), .int .u64 (lf : Int), .int .i64 (s : Int), .string sd, .string rv, .bool (fi), .bool (fi), .int .u64 0])) 78⟩, ⟨g5, .cells (av 1 (ls [.pointer (some ⟨g4, 0, none⟩)])) 72⟩] u8 := M
   refine nT ?_
   refine ⟨(M.drop (.cons_cons _ (.cons_cons _ (.cons_cons _ (.cons_cons _ (.cons _ (.cons _ (.cons _ (.slnil))))))))), ?_⟩
   refine qV (M.drop (.cons_cons _ (.cons_cons _ (.cons_cons _ (.cons_cons _ (.cons _ (.cons _ (.cons _ (.slnil))))))))) 14 8 (.pointer (some ⟨g5, 0, none⟩)) <| hl_end (by kernel_rfl) (by kernel_rfl) rfl <| rV 1 <| nT <| au_then <| wp_ret ?_
   exact bodyPost_ret (v := .tuple #[.pointer (some ⟨g5, 0, none⟩), .int .i64 0]) (results_tmp2 Tryz.results20 _ _ _ _ (by kernel_rfl) (by kernel_rfl)) (by kernel_rfl) ⟨(_, _), rfl, ⟨_, _, _, _, _, _, rfl, inv_new s, by decide⟩, Mem.okT0 (T := []) ((M.drop (.cons _ (.cons _ (List.Sublist.refl _)))).perm ((List.perm_append_comm (l₁ := [_, _, _]) (l₂ := [_, _])).trans (.swap _ _ _)))⟩
  ·exfalso; omega
 ·exfalso; omega
theorem c_TSeal {x : TS} {p e wd k md h : Nat} {m : NI} {s : Yb} {n : Nat} (hn : n < 18446744073709551616) (hx : x.nx + 1 < 18446744073709551616) (w : World) (hL : Laid w)  (hT : There w [⟨p, .cells (av 1 (ls [.pointer (some ⟨e, 0, none⟩)])) 72⟩, ⟨e, .cells (av 12 (ls [.pointer (some ⟨wd, 0, none⟩), .func (.func 67) #[] #[.pointer (some ⟨md, 0, none⟩)], .int .u64 ((x.rc : Nat) : Int), .int .u64 ((x.ct : Nat) : Int), .int .u64 ((x.rk : Nat) : Int), .int .u64 ((x.lf : Nat) : Int), .int .i64 ((x.sz : Nat) : Int), .string x.sd, .string x.rv, .bool (x.fi), .bool (x.su), .int .u64 ((x.nx : Nat) : Int)])) 78⟩, ⟨wd, .cells (av 3 (ls [.int .u64 ((x.sz : Nat) : Int), .int .u64 (h : Int), .slice (some ⟨k, 0, none⟩) (nW x.sz) (nW x.sz)])) 123⟩, ⟨k, .cells (av (nW x.sz) (w64 m)) 33⟩, ⟨md, .cells (av 1 (ls [.int .u64 ((x.mt : Nat) : Int)])) 33⟩]) : Calls Tryz.prog 8 #[.pointer (some ⟨p, 0, none⟩), .int .u64 (n : Int), .string s] w fun r w' => r = .returned (.tuple #[.int .u64 ((x.sN n s : Nat) : Int), .string (x.sC n s), .int .i64 (x.sE n s)]) ∧ OkT w w' (tB x p e wd k md h m) (tB (x.sX n s) p e wd k md h m) := by
 go_enter Tryz.func8, Tryz.ntmps8
 have M : Mem ⟨w, [p, e, wd, k, md]⟩ [⟨p, .cells (av 1 (ls [.pointer (some ⟨e, 0, none⟩)])) 72⟩, ⟨e, .cells (av 12 (ls [.pointer (some ⟨wd, 0, none⟩), .func (.func 67) #[] #[.pointer (some ⟨md, 0, none⟩)], .int .u64 ((x.rc : Nat) : Int), .int .u64 ((x.ct : Nat) : Int), .int .u64 ((x.rk : Nat) : Int), .int .u64 ((x.lf : Nat) : Int), .int .i64 ((x.sz : Nat) : Int), .string x.sd, .string x.rv, .bool (x.fi), .bool (x.su), .int .u64 ((x.nx : Nat) : Int)])) 78⟩, ⟨wd, .cells (av 3 (ls [.int .u64 ((x.sz : Nat) : Int), .int .u64 (h : Int), .slice (some ⟨k, 0, none⟩) (nW x.sz) (nW x.sz)])) 123⟩, ⟨k, .cells (av (nW x.sz) (w64 m)) 33⟩, ⟨md, .cells (av 1 (ls [.int .u64 ((x.mt : Nat) : Int)])) 33⟩] w := Mem.startT hL hT
 refine sq <| wp_seq <| sR <| rV 1 <| pC M 11 21 #[.pointer (some ⟨p, 0, none⟩)] (.bool true) (fun w M => c_there w M.laid (M.there (.cons_cons _ (List.nil_sublist _)))) fun u1 M => rV 1 <| nT <| cF <| wp_skip <| au_then <| wp_seq <| sR <| rV 3 <| ZE M 16 0 0 <| rV 1 <| pC M 18 22 #[.pointer (some ⟨e, 0, none⟩), .int .u64 (n : Int)] (.int .i64 (slF x.sd x.su x.ct x.lf x.nx x.mt n)) (fun w M => c_sealFault hn w M.laid (M.there (.cons _ (.cons_cons _ (.cons _ (.cons _ (.cons_cons _ (List.nil_sublist _)))))))) fun u2 M => ?_
 refine rV 1 <| nT <| sR <| rV 1 ?_
 by_cases c0 : (slF x.sd x.su x.ct x.lf x.nx x.mt n) = 0
 ·refine pH 20 (.bool false) (jD ((slF x.sd x.su x.ct x.lf x.nx x.mt n) = 0) (c0)) <| nT <| cF <| wp_skip <| au_then <| sR <| rV 3 <| ZE M 25 0 0 <| rV 1 <| pl_callp M (want_no rfl) (some 27) rfl 23 #[.pointer (some ⟨e, 0, none⟩), .string s] (.tuple #[.int .u64 ((slN x.sd x.nx s : Nat) : Int), .string (slC x.sd x.nx s), .int .i64 (slZ x.sd x.nx s)]) 1 e (.cells (av 12 (ls [.pointer (some ⟨wd, 0, none⟩), .func (.func 67) #[] #[.pointer (some ⟨md, 0, none⟩)], .int .u64 ((x.rc : Nat) : Int), .int .u64 ((x.ct : Nat) : Int), .int .u64 ((x.rk : Nat) : Int), .int .u64 ((x.lf : Nat) : Int), .int .i64 ((x.sz : Nat) : Int), .string x.sd, .string x.rv, .bool (x.fi), .bool (x.su), .int .u64 ((x.nx : Nat) : Int)])) 78) (.cells (av 12 (ls [.pointer (some ⟨wd, 0, none⟩), .func (.func 67) #[] #[.pointer (some ⟨md, 0, none⟩)], .int .u64 ((x.rc : Nat) : Int), .int .u64 ((x.ct : Nat) : Int), .int .u64 ((x.rk : Nat) : Int), .int .u64 ((x.lf : Nat) : Int), .int .i64 ((x.sz : Nat) : Int), .string x.sd, .string x.rv, .bool (x.fi), .bool (x.su), .int .u64 ((slX x.sd x.nx s : Nat) : Int)])) 78) rfl (fun _ => by kernel_rfl) (fun w M => c_tseal hx w M.laid (M.there (.cons _ (.cons_cons _ (List.nil_sublist _))))) fun u3 M => ?_
  replace M : Mem ⟨w, [p, e, wd, k, md]⟩ [⟨p, .cells (av 1 (ls [.pointer (some ⟨e, 0, none⟩)])) 72⟩, ⟨e, .cells (av 12 (ls [.pointer (some ⟨wd, 0, none⟩), .func (.func 67) #[] #[.pointer (some ⟨md, 0, none⟩)], .int .u64 ((x.rc : Nat) : Int), .int .u64 ((x.ct : Nat) : Int), .int .u64 ((x.rk : Nat) : Int), .int .u64 ((x.lf : Nat) : Int), .int .i64 ((x.sz : Nat) : Int), .string x.sd, .string x.rv, .bool (x.fi), .bool (x.su), .int .u64 ((slX x.sd x.nx s : Nat) : Int)])) 78⟩, ⟨wd, .cells (av 3 (ls [.int .u64 ((x.sz : Nat) : Int), .int .u64 (h : Int), .slice (some ⟨k, 0, none⟩) (nW x.sz) (nW x.sz)])) 123⟩, ⟨k, .cells (av (nW x.sz) (w64 m)) 33⟩, ⟨md, .cells (av 1 (ls [.int .u64 ((x.mt : Nat) : Int)])) 33⟩] u3 := M
  refine rV 6 <| nT <| wp_ret ?_
  have e0 : x.sF n = (slF x.sd x.su x.ct x.lf x.nx x.mt n) := rfl
  exact bodyPost_ret (v := .tuple #[.int .u64 ((slN x.sd x.nx s : Nat) : Int), .string (slC x.sd x.nx s), .int .i64 (slZ x.sd x.nx s)]) (results_t3 Tryz.results8 _ _ _ _ _ (by kernel_rfl) (by kernel_rfl) (by kernel_rfl)) (by kernel_rfl) ⟨by unfold TS.sN TS.sC TS.sE; rw [e0, if_pos c0, if_pos c0, if_pos c0], by unfold TS.sX; rw [e0, if_pos c0]; exact M.okT0⟩
 ·refine pH 20 (.bool true) (jU ((slF x.sd x.su x.ct x.lf x.nx x.mt n) = 0) (c0)) <| nT <| cT <| sq <| wp_ret <| au_then_ret ?_
  have e0 : x.sF n = (slF x.sd x.su x.ct x.lf x.nx x.mt n) := rfl
  exact bodyPost_ret (v := .tuple #[.int .u64 0, .string ⟨#[]⟩, .int .i64 (slF x.sd x.su x.ct x.lf x.nx x.mt n)]) (results_t3 Tryz.results8 _ _ _ _ _ (by kernel_rfl) (by kernel_rfl) (by kernel_rfl)) (by kernel_rfl) ⟨by unfold TS.sN TS.sC TS.sE; rw [e0, if_neg c0, if_neg c0, if_neg c0]; rfl, by unfold TS.sX; rw [e0, if_neg c0]; exact M.okT0⟩
theorem c_TOpen {x : TS} {p e wd k md h : Nat} {m : NI} {i : Nat} {c : Yb} {n : Nat} (hn : n < 18446744073709551616) (hi : i < 18446744073709551616) (hs : 1 ≤ x.sz) (hh : h < 18446744073709551616) (I : Inv x.sz h m x.q) (w : World) (hL : Laid w)  (hT : There w [⟨p, .cells (av 1 (ls [.pointer (some ⟨e, 0, none⟩)])) 72⟩, ⟨e, .cells (av 12 (ls [.pointer (some ⟨wd, 0, none⟩), .func (.func 67) #[] #[.pointer (some ⟨md, 0, none⟩)], .int .u64 ((x.rc : Nat) : Int), .int .u64 ((x.ct : Nat) : Int), .int .u64 ((x.rk : Nat) : Int), .int .u64 ((x.lf : Nat) : Int), .int .i64 ((x.sz : Nat) : Int), .string x.sd, .string x.rv, .bool (x.fi), .bool (x.su), .int .u64 ((x.nx : Nat) : Int)])) 78⟩, ⟨wd, .cells (av 3 (ls [.int .u64 ((x.sz : Nat) : Int), .int .u64 (h : Int), .slice (some ⟨k, 0, none⟩) (nW x.sz) (nW x.sz)])) 123⟩, ⟨k, .cells (av (nW x.sz) (w64 m)) 33⟩, ⟨md, .cells (av 1 (ls [.int .u64 ((x.mt : Nat) : Int)])) 33⟩]) : Calls Tryz.prog 10 #[.pointer (some ⟨p, 0, none⟩), .int .u64 (n : Int), .int .u64 (i : Int), .string c] w fun r w' => ∃ y : Nat × (Nat → Int), r = .returned (.tuple #[.string (x.oC n i c), .int .i64 (x.oE n i c)]) ∧ (Inv (x.oX n i c).sz y.1 y.2 (x.oX n i c).q ∧ y.1 < 18446744073709551616) ∧ OkT w w' (tB x p e wd k md h m) (tB (x.oX n i c) p e wd k md y.1 y.2) := by
 go_enter Tryz.func10, Tryz.ntmps10
 have M : Mem ⟨w, [p, e, wd, k, md]⟩ [⟨p, .cells (av 1 (ls [.pointer (some ⟨e, 0, none⟩)])) 72⟩, ⟨e, .cells (av 12 (ls [.pointer (some ⟨wd, 0, none⟩), .func (.func 67) #[] #[.pointer (some ⟨md, 0, none⟩)], .int .u64 ((x.rc : Nat) : Int), .int .u64 ((x.ct : Nat) : Int), .int .u64 ((x.rk : Nat) : Int), .int .u64 ((x.lf : Nat) : Int), .int .i64 ((x.sz : Nat) : Int), .string x.sd, .string x.rv, .bool (x.fi), .bool (x.su), .int .u64 ((x.nx : Nat) : Int)])) 78⟩, ⟨wd, .cells (av 3 (ls [.int .u64 ((x.sz : Nat) : Int), .int .u64 (h : Int), .slice (some ⟨k, 0, none⟩) (nW x.sz) (nW x.sz)])) 123⟩, ⟨k, .cells (av (nW x.sz) (w64 m)) 33⟩, ⟨md, .cells (av 1 (ls [.int .u64 ((x.mt : Nat) : Int)])) 33⟩] w := Mem.startT hL hT
 refine sq <| wp_seq <| sR <| rV 1 <| pC M 12 21 #[.pointer (some ⟨p, 0, none⟩)] (.bool true) (fun w M => c_there w M.laid (M.there (.cons_cons _ (List.nil_sublist _)))) fun u1 M => rV 1 <| nT <| cF <| wp_skip <| au_then <| wp_seq <| sR <| rV 3 <| ZE M 17 0 0 <| rV 2 <| pC M 20 24 #[.pointer (some ⟨e, 0, none⟩), .int .u64 (n : Int), .int .u64 (i : Int)] (.int .i64 (opF x.sd x.ct x.lf x.sz x.mt x.q n i)) (fun w M => c_openFault hs hh I hn hi w M.laid (M.there (.cons _ (.cons_cons _ (.cons_cons _ (.cons_cons _ (.cons_cons _ (List.nil_sublist _)))))))) fun u2 M => ?_
 refine rV 1 <| nT <| sR <| rV 1 ?_
 by_cases c0 : (opF x.sd x.ct x.lf x.sz x.mt x.q n i) = 0
 ·refine pH 22 (.bool false) (jD ((opF x.sd x.ct x.lf x.sz x.mt x.q n i) = 0) (c0)) <| nT <| cF <| wp_skip <| au_then <| sR <| rV 3 <| ZE M 27 0 0 <| rV 2 <| pl_callM M (want_no rfl) (some 30) rfl 25 #[.pointer (some ⟨e, 0, none⟩), .int .u64 (i : Int), .string c] [⟨p, .cells (av 1 (ls [.pointer (some ⟨e, 0, none⟩)])) 72⟩] [⟨e, .cells (av 12 (ls [.pointer (some ⟨wd, 0, none⟩), .func (.func 67) #[] #[.pointer (some ⟨md, 0, none⟩)], .int .u64 ((x.rc : Nat) : Int), .int .u64 ((x.ct : Nat) : Int), .int .u64 ((x.rk : Nat) : Int), .int .u64 ((x.lf : Nat) : Int), .int .i64 ((x.sz : Nat) : Int), .string x.sd, .string x.rv, .bool (x.fi), .bool (x.su), .int .u64 ((x.nx : Nat) : Int)])) 78⟩, ⟨wd, .cells (av 3 (ls [.int .u64 ((x.sz : Nat) : Int), .int .u64 (h : Int), .slice (some ⟨k, 0, none⟩) (nW x.sz) (nW x.sz)])) 123⟩, ⟨k, .cells (av (nW x.sz) (w64 m)) 33⟩] [⟨md, .cells (av 1 (ls [.int .u64 ((x.mt : Nat) : Int)])) 33⟩] (by simp only [List.append_assoc, List.cons_append, List.nil_append, List.append_nil]) (fun y : Nat × (Nat → Int) => .tuple #[.string (opC x.rv i c), .int .i64 (opZ x.rv i c)]) (fun y : Nat × (Nat → Int) => [⟨e, .cells (av 12 (ls [.pointer (some ⟨wd, 0, none⟩), .func (.func 67) #[] #[.pointer (some ⟨md, 0, none⟩)], .int .u64 ((x.rc : Nat) : Int), .int .u64 ((x.ct : Nat) : Int), .int .u64 ((x.rk : Nat) : Int), .int .u64 ((x.lf : Nat) : Int), .int .i64 ((x.sz : Nat) : Int), .string x.sd, .string x.rv, .bool (x.fi), .bool (opU x.su x.rv i c), .int .u64 ((x.nx : Nat) : Int)])) 78⟩, ⟨wd, .cells (av 3 (ls [.int .u64 ((x.sz : Nat) : Int), .int .u64 ((y.1 : Nat) : Int), .slice (some ⟨k, 0, none⟩) (nW x.sz) (nW x.sz)])) 123⟩, ⟨k, .cells (av (nW x.sz) (w64 y.2)) 33⟩]) (fun y : Nat × (Nat → Int) => Inv x.sz y.1 y.2 (opQ x.sz x.q x.rv i c) ∧ y.1 < 18446744073709551616) (fun _ => by kernel_rfl) (fun w hL hT => c_topen hs hh I hi w hL hT) ?_
  rintro ⟨h2, m2⟩ u3 ⟨I2, hh2⟩ M
  replace M : Mem ⟨w, [p, e, wd, k, md]⟩ [⟨p, .cells (av 1 (ls [.pointer (some ⟨e, 0, none⟩)])) 72⟩, ⟨e, .cells (av 12 (ls [.pointer (some ⟨wd, 0, none⟩), .func (.func 67) #[] #[.pointer (some ⟨md, 0, none⟩)], .int .u64 ((x.rc : Nat) : Int), .int .u64 ((x.ct : Nat) : Int), .int .u64 ((x.rk : Nat) : Int), .int .u64 ((x.lf : Nat) : Int), .int .i64 ((x.sz : Nat) : Int), .string x.sd, .string x.rv, .bool (x.fi), .bool (opU x.su x.rv i c), .int .u64 ((x.nx : Nat) : Int)])) 78⟩, ⟨wd, .cells (av 3 (ls [.int .u64 ((x.sz : Nat) : Int), .int .u64 (h2 : Int), .slice (some ⟨k, 0, none⟩) (nW x.sz) (nW x.sz)])) 123⟩, ⟨k, .cells (av (nW x.sz) (w64 m2)) 33⟩, ⟨md, .cells (av 1 (ls [.int .u64 ((x.mt : Nat) : Int)])) 33⟩] u3 := by simpa only [List.append_assoc, List.cons_append, List.nil_append, List.append_nil] using M
  refine rV 4 <| nT <| wp_ret ?_
  have e0 : x.oF n i = (opF x.sd x.ct x.lf x.sz x.mt x.q n i) := rfl
  exact bodyPost_ret (v := .tuple #[.string (opC x.rv i c), .int .i64 (opZ x.rv i c)]) (results_tmp2 Tryz.results10 _ _ _ _ (by kernel_rfl) (by kernel_rfl)) (by kernel_rfl) ⟨(h2, m2), by unfold TS.oC TS.oE; rw [e0, if_pos c0, if_pos c0], by unfold TS.oX; rw [e0, if_pos c0]; exact ⟨I2, hh2⟩, by unfold TS.oX; rw [e0, if_pos c0]; exact M.okT0⟩
 ·refine pH 22 (.bool true) (jU ((opF x.sd x.ct x.lf x.sz x.mt x.q n i) = 0) (c0)) <| nT <| cT <| sq <| wp_ret <| au_then_ret ?_
  have e0 : x.oF n i = (opF x.sd x.ct x.lf x.sz x.mt x.q n i) := rfl
  exact bodyPost_ret (v := .tuple #[.string ⟨#[]⟩, .int .i64 (opF x.sd x.ct x.lf x.sz x.mt x.q n i)]) (results_tmp2 Tryz.results10 _ _ _ _ (by kernel_rfl) (by kernel_rfl)) (by kernel_rfl) ⟨(h, m), by unfold TS.oC TS.oE; rw [e0, if_neg c0, if_neg c0], by unfold TS.oX; rw [e0, if_neg c0]; exact ⟨I, hh⟩, by unfold TS.oX; rw [e0, if_neg c0]; exact M.okT0⟩
open Go.RowKit
theorem sX_same (x : TS) (n : Nat) (s : Yb) : (x.sX n s).sz = x.sz ∧ (x.sX n s).q = x.q ∧ (x.sX n s).ct = x.ct := by
 unfold TS.sX
 split <;> exact ⟨rfl, rfl, rfl⟩
theorem a_Seal {p : Nat} {x : TS} {T : List Blk} {n : Nat} {s : Yb} (hI : IsT p x T) (ok : x.Ok) (hn : n < 18446744073709551616) (w : World) (hL : Laid w) (hT : There w T) : Calls Tryz.prog 8 #[.pointer (some ⟨p, 0, none⟩), .int .u64 (n : Int), .string s] w fun r w' => ∃ T', r = .returned (.tuple #[.int .u64 ((x.sN n s : Nat) : Int), .string (x.sC n s), .int .i64 (x.sE n s)]) ∧ IsT p (x.sX n s) T' ∧ OkT w w' T T' := by
 obtain ⟨e, wd, k, md, h, m, rfl, I, hh⟩ := hI.out
 have hx := ok.n
 have hc := ok.c
 obtain ⟨h1, h2, _⟩ := sX_same x n s
 exact (c_TSeal hn (by omega) w hL hT).mono fun _ _ ⟨he, hk⟩ => ⟨_, he, ⟨e, wd, k, md, h, m, rfl, by rw [h1, h2]; exact I, hh⟩, hk⟩
theorem a_Open {p : Nat} {x : TS} {T : List Blk} {n i : Nat} {c : Yb} (hI : IsT p x T) (ok : x.Ok) (hn : n < 18446744073709551616) (hi : i < 18446744073709551616) (w : World) (hL : Laid w) (hT : There w T) : Calls Tryz.prog 10 #[.pointer (some ⟨p, 0, none⟩), .int .u64 (n : Int), .int .u64 (i : Int), .string c] w fun r w' => ∃ T', r = .returned (.tuple #[.string (x.oC n i c), .int .i64 (x.oE n i c)]) ∧ IsT p (x.oX n i c) T' ∧ OkT w w' T T' := by
 obtain ⟨e, wd, k, md, h, m, rfl, I, hh⟩ := hI.out
 exact (c_TOpen hn hi ok.s1 hh I w hL hT).mono fun _ _ ⟨y, he, ⟨h1, h2⟩, hk⟩ => ⟨_, he, ⟨e, wd, k, md, y.1, y.2, rfl, h1, h2⟩, hk⟩
theorem ne_empty {s : Yb} {n : Nat} (h : s.size = n) (hn : n ≠ 0) : s ≠ ⟨#[]⟩ := fun e => hn (by rw [← h, e]; rfl)
theorem ov_no {x : TS} {n : Nat} (h1 : x.sd.size = 32) (h2 : n - x.mt < x.lf) : x.ov n = false := decide_eq_false (by
 rintro (h | h)
 ·exact ne_empty h1 (by decide) h
 ·omega)
theorem sF_ok {x : TS} {n : Nat} (h1 : x.ov n = false) (h3 : x.nx < x.ct) (h4 : x.su = true) : x.sF n = 0 := by
 unfold TS.sF slF
 unfold TS.ov at h1
 rw [h1, if_neg (by decide), if_neg (by omega), if_pos h4]
theorem slZ_ok {sd s : Yb} {nx : Nat} (h : sd.size = 32) (hs : s.size ≤ 65536) : slZ sd nx s = 0 := sf_ok ⟨h, nS_size _⟩ (Nat.zero_le _) (by omega) (Nat.zero_le _)
theorem s_ok {p : Nat} {x : TS} {T : List Blk} {n : Nat} {s : Yb} (hI : IsT p x T) (ok : x.Ok) (hn : n < 18446744073709551616) (h1 : x.sd.size = 32) (h2 : n - x.mt < x.lf) (h3 : x.nx < x.ct) (h4 : x.su = true) (h5 : s.size ≤ 65536) (w : World) (hL : Laid w) (hT : There w T) : Calls Tryz.prog 8 #[.pointer (some ⟨p, 0, none⟩), .int .u64 (n : Int), .string s] w fun r w' => ∃ T', r = .returned (.tuple #[.int .u64 ((x.nx : Nat) : Int), .string (sealS x.sd (nS (x.nx : Int)) ⟨#[]⟩ s), .int .i64 0]) ∧ IsT p { x with nx := x.nx + 1 } T' ∧ OkT w w' T T' := by
 have e0 := sF_ok (ov_no h1 h2) h3 h4
 have e1 := slZ_ok (nx := x.nx) h1 h5
 have h := a_Seal (s := s) hI ok hn w hL hT
 unfold TS.sN TS.sC TS.sE TS.sX slN slC slX at h
 rw [if_pos e0, if_pos e0, if_pos e0, if_pos e0, if_pos e1, if_pos e1, if_pos e1, e1] at h
 exact h
theorem oF_ok {x : TS} {n i : Nat} (h1 : x.ov n = false) (h3 : i < x.ct) : x.oF n i = my x.sz x.q i := by
 unfold TS.oF opF
 unfold TS.ov at h1
 rw [h1, if_neg (by decide), if_neg (by omega)]
theorem opZ_seal {rv s : Yb} {i : Nat} (h : rv.size = 32) (hs : s.size ≤ 65536) : opZ rv i (sealS rv (nS (i : Int)) ⟨#[]⟩ s) = 0 := by
 unfold opZ
 rw [if_pos (seal_ok (slZ_ok (nx := i) h hs)), if_pos (seal_tg _ _ _ _)]
theorem mk_yes' {s n : Nat} {l : List Nat} (h : my s l n = 0) : mk s l n = l ++ [n] := by
 unfold mk
 rw [if_pos h]
theorem o_ok {p : Nat} {x : TS} {T : List Blk} {n i : Nat} {s : Yb} (hI : IsT p x T) (ok : x.Ok) (hn : n < 18446744073709551616) (hi : i < 18446744073709551616) (h1 : x.sd.size = 32) (hr : x.rv.size = 32) (h2 : n - x.mt < x.lf) (h3 : i < x.ct) (h4 : my x.sz x.q i = 0) (h5 : s.size ≤ 65536) (w : World) (hL : Laid w) (hT : There w T) : Calls Tryz.prog 10 #[.pointer (some ⟨p, 0, none⟩), .int .u64 (n : Int), .int .u64 (i : Int), .string (sealS x.rv (nS (i : Int)) ⟨#[]⟩ s)] w fun r w' => ∃ T', r = .returned (.tuple #[.string s, .int .i64 0]) ∧ IsT p { x with su := true, q := x.q ++ [i] } T' ∧ OkT w w' T T' := by
 have e0 : x.oF n i = 0 := by rw [oF_ok (ov_no h1 h2) h3, h4]
 have e1 := opZ_seal (i := i) hr h5
 have h := a_Open (i := i) (c := sealS x.rv (nS (i : Int)) ⟨#[]⟩ s) hI ok hn hi w hL hT
 unfold TS.oC TS.oE TS.oX opC opU opQ at h
 rw [if_pos e0, if_pos e0, if_pos e0, if_pos e1, if_pos e1, if_pos e1, e1, seal_op, mk_yes' h4] at h
 exact h
open Go.RowKit
theorem c_BeginG (a b e pr pl : Yb) (ha : a.size = 32) (he : e.size = 32) (hp : pr.size ≤ 4096) (hl : pl.size ≤ 4096) (w : World) (hL : Laid w) : Calls Tryz.prog 16 #[.string a, .string (puV b), .string e, .string pr, .string pl] w fun r w' => ∃ g, r = .returned (.tuple #[.pointer (some ⟨g, 0, none⟩), .string (tMs a (puV b) e pr pl), .int .i64 0]) ∧ w.heap.size ≤ g ∧ w'.heap[g]? = some (.cells (av 7 (stL (endF (tS5 a (puV b) e pr pl)) [.string a, .string e, .string (puV b)])) 89) ∧ Below w.heap.size w w' := by
 refine (c_Begin a (puV b) e pr pl w hL).mono fun r w' h => ?_
 obtain ⟨hb, ⟨h1, _⟩ | ⟨_, g, h2, h3, h4⟩⟩ := h
 ·exact absurd (begin_0 a b e pr pl ha he hp hl) h1
 ·rw [begin_m] at h2
  rw [begin_s] at h4
  exact ⟨g, h2, h3, h4, hb⟩
theorem c_ReadO (b pr m : Yb) (h : rdE b pr m = 0) (w : World) (hL : Laid w) : Calls Tryz.prog 17 #[.string b, .string pr, .string m] w fun r w' => ∃ g, r = .returned (.tuple #[.pointer (some ⟨g, 0, none⟩), .agg (av 5 (sQ [rF b pr m, rP b pr m, zb, zb, zb])), .int .i64 0]) ∧ w.heap.size ≤ g ∧ w'.heap[g]? = some (.cells (av 6 (stL (endF (rS5 b pr m)) [.string (rF b pr m), .string (rE m)])) 94) ∧ Below w.heap.size w w' := by
 refine (c_Read b pr m w hL).mono fun r w' k => ?_
 obtain ⟨hb, ⟨h1, _⟩ | ⟨_, g, h2, h3, h4⟩⟩ := k
 ·exact absurd h h1
 ·exact ⟨g, h2, h3, h4, hb⟩
theorem c_ReadG (a b e pr pl : Yb) (hb : b.size = 32) (hp : pr.size ≤ 4096) (hl : pl.size ≤ 4096) (w : World) (hL : Laid w) : Calls Tryz.prog 17 #[.string b, .string pr, .string (tMs a (puV b) e pr pl)] w fun r w' => ∃ g, r = .returned (.tuple #[.pointer (some ⟨g, 0, none⟩), .agg (av 5 (sQ [puV a, pl, zb, zb, zb])), .int .i64 0]) ∧ w.heap.size ≤ g ∧ w'.heap[g]? = some (.cells (av 6 (stL (endF (tS5 a (puV b) e pr pl)) [.string (puV a), .string (puV e)])) 94) ∧ Below w.heap.size w w' := by
 have h := c_ReadO b pr (tMs a (puV b) e pr pl) (read_0 a b e pr pl hb hp hl) w hL
 rwa [read_f, read_p, read_s, tMs_E] at h
theorem c_AnswerG (g : Nat) (s : St) (a e f pl : Yb) (hs : s.h.size = 32) (h0 : s.e = 0) (hf : f.size = 32) (hl : pl.size ≤ 4096) (w : World) (hL : Laid w) (hg : w.heap[g]? = some (.cells (av 6 (stL s [.string (puV a), .string (puV e)])) 94)) (hn : 2 < g) : Cs 18 #[.pointer (some ⟨g, 0, none⟩), .string f, .string pl] w (.tuple #[.string (vRp s (puV a) (puV e) f pl), .agg (av 5 (sQ [puV a, zb, nxB (vS4 s (puV a) (puV e) f pl).c ⟨#[]⟩, nxA (vS4 s (puV a) (puV e) f pl).c ⟨#[]⟩, (vS4 s (puV a) (puV e) f pl).h])), .int .i64 0]) := by
 refine (c_Answer g s (puV a) (puV e) f pl hs (puV_size a) (puV_size e) w hL hg hn).mono fun r w' k => ?_
 obtain ⟨hb, ⟨h1, _⟩ | ⟨_, h2⟩⟩ := k
 ·exact absurd (answer_0 a e f pl h0 hf hl) h1
 ·rw [answer_r _ _ _ _ h0, answer_s _ _ _ _ h0] at h2
  exact ⟨h2, hb⟩
theorem c_FinishG (g : Nat) (s : St) (a e b f pl : Yb) (hs : s.h.size = 32) (h0 : s.e = 0) (ha : a.size = 32) (he : e.size = 32) (hl : pl.size ≤ 4096) (w : World) (hL : Laid w) (hg : w.heap[g]? = some (.cells (av 7 (stL s [.string a, .string e, .string b])) 89)) (hn : 2 < g) : Cs 19 #[.pointer (some ⟨g, 0, none⟩), .string (vRp s (puV a) (puV e) f pl)] w (.tuple #[.agg (av 5 (sQ [b, pl, nxA (vS4 s (puV a) (puV e) f pl).c ⟨#[]⟩, nxB (vS4 s (puV a) (puV e) f pl).c ⟨#[]⟩, (vS4 s (puV a) (puV e) f pl).h])), .int .i64 0]) := by
 refine (c_Finish g s a e b (vRp s (puV a) (puV e) f pl) hs ha he w hL hg hn).mono fun r w' k => ?_
 obtain ⟨hb, ⟨h1, _⟩ | ⟨_, h2⟩⟩ := k
 ·exact absurd (finish_0 a e f pl h0 hl) h1
 ·rw [finish_s _ _ _ _ h0, finish_p _ _ _ _ h0] at h2
  exact ⟨h2, hb⟩
def keS (c : Int) : ByteArray := bs (List.replicate 31 0 ++ [c])
theorem bs_app (l m : List Int) : bs l ++ bs m = bs (l ++ m) := by
 unfold bs
 apply ByteArray.ext
 rw [ByteArray.data_append, List.map_append, List.append_toArray]
theorem keS_size (c : Int) : (keS c).size = 32 := by
 unfold keS
 rw [bs_size]
 simp
theorem ker (c : Int) (h0 : 0 ≤ c) (h1 : c < 256) : ∀ x ∈ [c], 0 ≤ x ∧ x < 256 := fun x hx => by
 rw [List.mem_singleton.1 hx]
 exact ⟨h0, h1⟩
theorem tS5_h (a b e pr pl : Yb) : (endF (tS5 a b e pr pl)).h.size = 32 := mixF_h (tS4 a b e pr) (tX2 a b e pr pl)
open Go.RowKit
def hsS (a b e : Yb) : St := endF (tS5 a (puV b) e ⟨#[105, 115, 116, 104, 109, 117, 115]⟩ ⟨#[]⟩)
def hkA (a b e f : Yb) : ByteArray := nxA (vS4 (hsS a b e) (puV a) (puV e) f ⟨#[]⟩).c ⟨#[]⟩
def hkB (a b e f : Yb) : ByteArray := nxB (vS4 (hsS a b e) (puV a) (puV e) f ⟨#[]⟩).c ⟨#[]⟩
theorem hkA_size (a b e f : Yb) : (hkA a b e f).size = 32 := nxA_size _ _
theorem hkB_size (a b e f : Yb) : (hkB a b e f).size = 32 := nxB_size _ _
theorem z31 : ∀ x ∈ List.replicate 31 (0 : Int), 0 ≤ x ∧ x < 256 := fun x hx => by
 rw [List.eq_of_mem_replicate hx]
 decide
theorem sb_z : SB (.cells (av 31 (w8 fun _ => 0)) 5) 31 (vs8 (List.replicate 31 0)) := by
 refine ⟨_, 5, (0, 0), rfl, by simp [vs8], by rw [av_size]; exact Nat.le_refl _, fun i hi => ?_, fun i _ => by simp⟩
 rw [vs8_length, List.length_replicate] at hi
 rw [av_get _ _ _ hi]
 unfold vs8 w8
 rw [List.getElem?_map, List.getElem?_replicate, if_pos hi]
 rfl
theorem sb_one (c : Int) : SB (.cells (av 1 (fun _ => .int .u8 c)) 5) 1 (vs8 [c]) := by
 refine ⟨_, 5, (0, 0), rfl, by simp [vs8], by rw [av_size]; exact Nat.le_refl _, fun i hi => ?_, fun i _ => by simp⟩
 obtain rfl : i = 0 := by rw [vs8_length] at hi; exact Nat.lt_one_iff.1 hi
 rw [av_get _ _ _ (by decide)]
 rfl
theorem c_secret (c_ : Int) (h0 : 0 ≤ c_) (h1 : c_ < 256) (w : World) (hL : Laid w)  : Cs 14 #[.int .u8 c_] w (.string (keS c_)) := by
 go_enter Tryz.func14, Tryz.ntmps14
 have M := Mem.start hL
 refine sq <| wp_seq <| rg_held M [] 6 rfl (by kernel_rfl) (by kernel_rfl) (fun _ _ d _ _ h => by cases d <;> exact h) fun u1 M => ?_
 replace M : Mem ⟨w, []⟩ [] u1 := M
 refine qV M 2 5 (.int .u8 c_) <| hl_name ?_
 intro H hA hB
 have s9 : ∀ (a : Act) (l : Array Bool) (x_3 x_6 : Value) (w0 : World), a = (fm ([.int .u8 c_, undef, .string ⟨#[]⟩, x_3, .string (bs (List.replicate 31 0)), .int .u8 c_, x_6, .string (bs [c_]), .string ((bs (List.replicate 31 0)) ++ (bs [c_]))])) → l = #[true, true, true, true, true, true, false] → Mem ⟨w, []⟩ [] w0 → H 1 l a w0 := by
  intro a l  x_3 x_6 u0 ha hl M
  subst ha hl
  refine hB _ _ _ _ <| hl_end (by kernel_rfl) (by kernel_rfl) rfl <| rV 1 <| nT <| au_then <| wp_ret ?_
  exact bodyPost_ret (v := .string ((bs (List.replicate 31 0)) ++ (bs [c_]))) (results_tmp1 Tryz.results14 _ _ _ (by kernel_rfl)) (by kernel_rfl) ⟨by rw [bs_app]; rfl, below_grown M.old⟩
 have s7 : ∀ (a : Act) (l : Array Bool) (g2 : Nat) (x_3 : Value) (w0 : World), a = (fm ([.int .u8 c_, undef, .string ⟨#[]⟩, x_3, .string (bs (List.replicate 31 0)), .int .u8 c_, .slice (some ⟨g2, 0, none⟩) 1 1, undef, undef])) → l = #[true, true, true, true, false, false, false] → Mem ⟨w, []⟩ [⟨g2, .cells (av 1 (ls [.int .u8 c_])) 5⟩] w0 → H 3 l a w0 := by
  intro a l g2 x_3 u0 ha hl M
  subst ha hl
  refine hB _ _ _ _ <| hl_one 4 (by decide) (by kernel_rfl) rfl <| pl_back M (want_no rfl) (some 7) rfl _ rfl 0 g2 1 1 (by kernel_rfl) _ rfl [c_] 1 (sb_one _) (by simp) (ker c_ h0 h1) <| nT ?_
  refine ⟨(M.drop (.cons _ (.slnil))), ?_⟩
  refine hl_val (M.drop (.cons _ (.slnil))) 5 rfl (by decide) (by kernel_rfl) (by kernel_rfl) (want_no rfl) (some 8) rfl (.string ((bs (List.replicate 31 0)) ++ (bs [c_]))) (fun w _ => (run_cat 9 9 _ _ rfl (bs (List.replicate 31 0)) (bs [c_]) (by kernel_rfl) (by kernel_rfl) (by rw [bs_size, bs_size, List.length_replicate]; exact (by decide : 31 + 1 ≤ 9223372036854775807))) w) ?_
  exact hA _ _ _ _ (s9 _ _ (x_3) (.slice (some ⟨g2, 0, none⟩) 1 1) _ (by kernel_rfl) (by kernel_rfl) (M.drop (.cons _ (.slnil))))
 have s8 : ∀ (a : Act) (l : Array Bool) (g1 : Nat) (x_6 : Value) (w0 : World), a = (fm ([.int .u8 c_, undef, .string ⟨#[]⟩, .slice (some ⟨g1, 0, none⟩) 31 31, undef, .int .u8 c_, x_6, .string (bs [c_]), undef])) → l = #[true, false, true, true, true, false, false] → Mem ⟨w, []⟩ [⟨g1, .cells (av 31 (w8 fun _ => 0)) 5⟩] w0 → H 3 l a w0 := by
  intro a l g1 x_6 u0 ha hl M
  subst ha hl
  refine hB _ _ _ _ <| hl_one 1 (by decide) (by kernel_rfl) rfl <| pl_back M (want_no rfl) (some 4) rfl _ rfl 0 g1 31 31 (by kernel_rfl) _ rfl (List.replicate 31 0) 31 sb_z (by simp) z31 <| nT ?_
  refine ⟨(M.drop (.cons _ (.slnil))), ?_⟩
  refine hl_val (M.drop (.cons _ (.slnil))) 5 rfl (by decide) (by kernel_rfl) (by kernel_rfl) (want_no rfl) (some 8) rfl (.string ((bs (List.replicate 31 0)) ++ (bs [c_]))) (fun w _ => (run_cat 9 9 _ _ rfl (bs (List.replicate 31 0)) (bs [c_]) (by kernel_rfl) (by kernel_rfl) (by rw [bs_size, bs_size, List.length_replicate]; exact (by decide : 31 + 1 ≤ 9223372036854775807))) w) ?_
  exact hA _ _ _ _ (s9 _ _ (.slice (some ⟨g1, 0, none⟩) 31 31) (x_6) _ (by kernel_rfl) (by kernel_rfl) (M.drop (.cons _ (.slnil))))
 have s3 : ∀ (a : Act) (l : Array Bool) (x_3 : Value) (w0 : World), a = (fm ([.int .u8 c_, undef, .string ⟨#[]⟩, x_3, .string (bs (List.replicate 31 0)), .int .u8 c_] ++ und 3)) → l = #[true, true, true, false, false, false, false] → Mem ⟨w, []⟩ [] w0 → H 4 l a w0 := by
  intro a l  x_3 u0 ha hl M
  subst ha hl
  refine hB _ _ _ _ <| hl_one 3 (by decide) (by kernel_rfl) rfl <| ZM M 6 (fun g2 => .slice (some ⟨g2, 0, none⟩) 1 1) (.cells (av 1 (ls [.int .u8 c_])) 5) fun g2 u3 M => ?_
  replace M : Mem ⟨w, []⟩ [⟨g2, .cells (av 1 (ls [.int .u8 c_])) 5⟩] u3 := M
  refine nT ?_
  refine ⟨(M.drop (.cons _ (.slnil))), ?_⟩
  exact hA _ _ _ _ (s7 _ _ g2 (x_3) _ (by kernel_rfl) (by kernel_rfl) M)
 have s4 : ∀ (a : Act) (l : Array Bool) (g1 g2 : Nat) (w0 : World), a = (fm ([.int .u8 c_, undef, .string ⟨#[]⟩, .slice (some ⟨g1, 0, none⟩) 31 31, undef, .int .u8 c_, .slice (some ⟨g2, 0, none⟩) 1 1, undef, undef])) → l = #[true, false, true, true, false, false, false] → Mem ⟨w, []⟩ [⟨g1, .cells (av 31 (w8 fun _ => 0)) 5⟩, ⟨g2, .cells (av 1 (ls [.int .u8 c_])) 5⟩] w0 → H 4 l a w0 := by
  intro a l g1 g2  u0 ha hl M
  subst ha hl
  refine hB _ _ _ _ ?_
  refine hl_two 1 4 (by decide) (by decide) (by kernel_rfl) rfl rfl ?_ ?_
  ·refine pl_back M (want_no rfl) (some 4) rfl _ rfl 0 g1 31 31 (by kernel_rfl) _ rfl (List.replicate 31 0) 31 sb_z (by simp) z31 <| nT ?_
   refine ⟨(M.drop (.cons _ (.cons _ (.slnil)))), ?_⟩
   exact hA _ _ _ _ (s7 _ _ g2 (.slice (some ⟨g1, 0, none⟩) 31 31) _ (by kernel_rfl) (by kernel_rfl) (M.drop (.cons _ (.cons_cons _ (.slnil)))))
  ·refine pl_back M (want_no rfl) (some 7) rfl _ rfl 1 g2 1 1 (by kernel_rfl) _ rfl [c_] 1 (sb_one _) (by simp) (ker c_ h0 h1) <| nT ?_
   refine ⟨(M.drop (.cons _ (.cons _ (.slnil)))), ?_⟩
   exact hA _ _ _ _ (s8 _ _ g1 (.slice (some ⟨g2, 0, none⟩) 1 1) _ (by kernel_rfl) (by kernel_rfl) (M.drop (.cons_cons _ (.cons _ (.slnil)))))
 have s5 : ∀ (a : Act) (l : Array Bool) (g1 g2 : Nat) (w0 : World), a = (fm ([.int .u8 c_, undef, .string ⟨#[]⟩, .slice (some ⟨g2, 0, none⟩) 31 31, undef, .int .u8 c_, .slice (some ⟨g1, 0, none⟩) 1 1, undef, undef])) → l = #[true, false, true, true, false, false, false] → Mem ⟨w, []⟩ [⟨g1, .cells (av 1 (ls [.int .u8 c_])) 5⟩, ⟨g2, .cells (av 31 (w8 fun _ => 0)) 5⟩] w0 → H 4 l a w0 := by
  intro a l g1 g2  u0 ha hl M
  subst ha hl
  refine hB _ _ _ _ ?_
  refine hl_two 1 4 (by decide) (by decide) (by kernel_rfl) rfl rfl ?_ ?_
  ·refine pl_back M (want_no rfl) (some 4) rfl _ rfl 1 g2 31 31 (by kernel_rfl) _ rfl (List.replicate 31 0) 31 sb_z (by simp) z31 <| nT ?_
   refine ⟨(M.drop (.cons _ (.cons _ (.slnil)))), ?_⟩
   exact hA _ _ _ _ (s7 _ _ g1 (.slice (some ⟨g2, 0, none⟩) 31 31) _ (by kernel_rfl) (by kernel_rfl) (M.drop (.cons_cons _ (.cons _ (.slnil)))))
  ·refine pl_back M (want_no rfl) (some 7) rfl _ rfl 0 g1 1 1 (by kernel_rfl) _ rfl [c_] 1 (sb_one _) (by simp) (ker c_ h0 h1) <| nT ?_
   refine ⟨(M.drop (.cons _ (.cons _ (.slnil)))), ?_⟩
   exact hA _ _ _ _ (s8 _ _ g2 (.slice (some ⟨g1, 0, none⟩) 1 1) _ (by kernel_rfl) (by kernel_rfl) (M.drop (.cons _ (.cons_cons _ (.slnil)))))
 have s6 : ∀ (a : Act) (l : Array Bool) (x_6 : Value) (w0 : World), a = (fm ([.int .u8 c_, undef, .string ⟨#[]⟩, undef, undef, .int .u8 c_, x_6, .string (bs [c_]), undef])) → l = #[false, false, true, true, true, false, false] → Mem ⟨w, []⟩ [] w0 → H 4 l a w0 := by
  intro a l  x_6 u0 ha hl M
  subst ha hl
  refine hB _ _ _ _ <| hl_one 0 (by decide) (by kernel_rfl) rfl <| ZM M 3 (fun g2 => .slice (some ⟨g2, 0, none⟩) 31 31) (.cells (av 31 (w8 fun _ => 0)) 5) fun g2 u3 M => ?_
  replace M : Mem ⟨w, []⟩ [⟨g2, .cells (av 31 (w8 fun _ => 0)) 5⟩] u3 := M
  refine nT ?_
  refine ⟨(M.drop (.cons _ (.slnil))), ?_⟩
  exact hA _ _ _ _ (s8 _ _ g2 (x_6) _ (by kernel_rfl) (by kernel_rfl) M)
 have s1 : ∀ (a : Act) (l : Array Bool) (g1 : Nat) (w0 : World), a = (fm ([.int .u8 c_, undef, .string ⟨#[]⟩, .slice (some ⟨g1, 0, none⟩) 31 31, undef, .int .u8 c_] ++ und 3)) → l = #[true, false, true, false, false, false, false] → Mem ⟨w, []⟩ [⟨g1, .cells (av 31 (w8 fun _ => 0)) 5⟩] w0 → H 5 l a w0 := by
  intro a l g1  u0 ha hl M
  subst ha hl
  refine hB _ _ _ _ ?_
  refine hl_two 1 3 (by decide) (by decide) (by kernel_rfl) rfl rfl ?_ ?_
  ·refine pl_back M (want_no rfl) (some 4) rfl _ rfl 0 g1 31 31 (by kernel_rfl) _ rfl (List.replicate 31 0) 31 sb_z (by simp) z31 <| nT ?_
   refine ⟨(M.drop (.cons _ (.slnil))), ?_⟩
   exact hA _ _ _ _ (s3 _ _ (.slice (some ⟨g1, 0, none⟩) 31 31) _ (by kernel_rfl) (by kernel_rfl) (M.drop (.cons _ (.slnil))))
  ·refine ZM M 6 (fun g2 => .slice (some ⟨g2, 0, none⟩) 1 1) (.cells (av 1 (ls [.int .u8 c_])) 5) fun g2 u3 M => ?_
   replace M : Mem ⟨w, []⟩ [⟨g1, .cells (av 31 (w8 fun _ => 0)) 5⟩, ⟨g2, .cells (av 1 (ls [.int .u8 c_])) 5⟩] u3 := M
   refine nT ?_
   refine ⟨(M.drop (.cons _ (.cons _ (.slnil)))), ?_⟩
   exact hA _ _ _ _ (s4 _ _ g1 g2 _ (by kernel_rfl) (by kernel_rfl) M)
 have s2 : ∀ (a : Act) (l : Array Bool) (g1 : Nat) (w0 : World), a = (fm ([.int .u8 c_, undef, .string ⟨#[]⟩, undef, undef, .int .u8 c_, .slice (some ⟨g1, 0, none⟩) 1 1, undef, undef])) → l = #[false, false, true, true, false, false, false] → Mem ⟨w, []⟩ [⟨g1, .cells (av 1 (ls [.int .u8 c_])) 5⟩] w0 → H 5 l a w0 := by
  intro a l g1  u0 ha hl M
  subst ha hl
  refine hB _ _ _ _ ?_
  refine hl_two 0 4 (by decide) (by decide) (by kernel_rfl) rfl rfl ?_ ?_
  ·refine ZM M 3 (fun g2 => .slice (some ⟨g2, 0, none⟩) 31 31) (.cells (av 31 (w8 fun _ => 0)) 5) fun g2 u3 M => ?_
   replace M : Mem ⟨w, []⟩ [⟨g1, .cells (av 1 (ls [.int .u8 c_])) 5⟩, ⟨g2, .cells (av 31 (w8 fun _ => 0)) 5⟩] u3 := M
   refine nT ?_
   refine ⟨(M.drop (.cons _ (.cons _ (.slnil)))), ?_⟩
   exact hA _ _ _ _ (s5 _ _ g1 g2 _ (by kernel_rfl) (by kernel_rfl) M)
  ·refine pl_back M (want_no rfl) (some 7) rfl _ rfl 0 g1 1 1 (by kernel_rfl) _ rfl [c_] 1 (sb_one _) (by simp) (ker c_ h0 h1) <| nT ?_
   refine ⟨(M.drop (.cons _ (.slnil))), ?_⟩
   exact hA _ _ _ _ (s6 _ _ (.slice (some ⟨g1, 0, none⟩) 1 1) _ (by kernel_rfl) (by kernel_rfl) (M.drop (.cons _ (.slnil))))
 have s0 : ∀ (a : Act) (l : Array Bool) (w0 : World), a = (fm ([.int .u8 c_, undef, .string ⟨#[]⟩, undef, undef, .int .u8 c_] ++ und 3)) → l = #[false, false, true, false, false, false, false] → Mem ⟨w, []⟩ [] w0 → H 6 l a w0 := by
  intro a l   u0 ha hl M
  subst ha hl
  refine hB _ _ _ _ ?_
  refine hl_two 0 3 (by decide) (by decide) (by kernel_rfl) rfl rfl ?_ ?_
  ·refine ZM M 3 (fun g1 => .slice (some ⟨g1, 0, none⟩) 31 31) (.cells (av 31 (w8 fun _ => 0)) 5) fun g1 u2 M => ?_
   replace M : Mem ⟨w, []⟩ [⟨g1, .cells (av 31 (w8 fun _ => 0)) 5⟩] u2 := M
   refine nT ?_
   refine ⟨(M.drop (.cons _ (.slnil))), ?_⟩
   exact hA _ _ _ _ (s1 _ _ g1 _ (by kernel_rfl) (by kernel_rfl) M)
  ·refine ZM M 6 (fun g1 => .slice (some ⟨g1, 0, none⟩) 1 1) (.cells (av 1 (ls [.int .u8 c_])) 5) fun g1 u2 M => ?_
   replace M : Mem ⟨w, []⟩ [⟨g1, .cells (av 1 (ls [.int .u8 c_])) 5⟩] u2 := M
   refine nT ?_
   refine ⟨(M.drop (.cons _ (.slnil))), ?_⟩
   exact hA _ _ _ _ (s2 _ _ g1 _ (by kernel_rfl) (by kernel_rfl) M)
 exact s0 _ _  _ (by kernel_rfl) (by kernel_rfl) M
theorem c_limits  (w : World) (hL : Laid w)  : Cs 7 #[] w (.agg (av 5 (ls [.int .u64 40, .int .u64 50, .int .u64 10, .int .u64 20, .int .i64 64]))) := by
 go_enter Tryz.func7, Tryz.ntmps7
 have M := Mem.start hL
 refine sR <| pN M 0 (.cells (av 5 (ls [.int .u64 0, .int .u64 0, .int .u64 0, .int .u64 0, .int .i64 0])) 35) fun g1 u1 M => ?_
 replace M : Mem ⟨w, []⟩ [⟨g1, .cells (av 5 (ls [.int .u64 0, .int .u64 0, .int .u64 0, .int .u64 0, .int .i64 0])) 35⟩] u1 := M
 refine nT <| sR <| rV 1 <| pl_put M (want_no rfl) rfl 35 _ _ rfl 0 g1 0 (by kernel_rfl) 5 35 (ls [.int .u64 0, .int .u64 0, .int .u64 0, .int .u64 0, .int .i64 0]) rfl 5 (ls [.int .u64 40, .int .u64 50, .int .u64 10, .int .u64 20, .int .i64 64]) (ls [.int .u64 40, .int .u64 50, .int .u64 10, .int .u64 20, .int .i64 64]) (by kernel_rfl) inz35 (by decide) (one_ls _ rfl) (fun j hj => by rw [if_pos (by omega), Nat.sub_zero]) fun u2 M => ?_
 replace M : Mem ⟨w, []⟩ [⟨g1, .cells (av 5 (ls [.int .u64 40, .int .u64 50, .int .u64 10, .int .u64 20, .int .i64 64])) 35⟩] u2 := M
 refine nT <| wp_ret ?_
 exact bodyPost_ret (v := .agg (av 5 (ls [.int .u64 40, .int .u64 50, .int .u64 10, .int .u64 20, .int .i64 64]))) (results_cell_row Tryz.results7 _ _ g1 35 (av 5 (ls [.int .u64 40, .int .u64 50, .int .u64 10, .int .u64 20, .int .i64 64])) (0, 0) _ (by kernel_rfl) (M.get 0 rfl) Tryz.underlying35 rfl (by rw [av_size]; exact inz35)) (by kernel_rfl) ⟨rfl, below_grown M.old⟩
theorem c_shaken {a b e f : Yb} (ha : a.size = 32) (hb : b.size = 32) (he : e.size = 32) (hf : f.size = 32) (w : World) (hL : Laid w) : Calls Tryz.prog 6 #[.agg (av 4 (ls [.string a, .string b, .string e, .string f])), .agg (av 5 (ls [.int .u64 40, .int .u64 50, .int .u64 10, .int .u64 20, .int .i64 64]))] w fun r w' => ∃ x : (Nat × List Blk) × Nat × List Blk, r = .returned (.tuple #[.pointer (some ⟨x.1.1, 0, none⟩), .pointer (some ⟨x.2.1, 0, none⟩)]) ∧ (IsT x.1.1 ⟨40, 50, 10, 20, 64, 0, 0, (hkA a b e f), (hkB a b e f), true, true, []⟩ x.1.2 ∧ IsT x.2.1 ⟨40, 50, 10, 20, 64, 0, 0, (hkB a b e f), (hkA a b e f), false, false, []⟩ x.2.2) ∧ OkT w w' [] (x.2.2 ++ x.1.2) := by
 go_enter Tryz.func6, Tryz.ntmps6
 have M := Mem.start hL
 refine sR <| pN M 2 (.cells (av 4 (ls [.string a, .string b, .string e, .string f])) 23) fun g1 u1 M => ?_
 replace M : Mem ⟨w, []⟩ [⟨g1, .cells (av 4 (ls [.string a, .string b, .string e, .string f])) 23⟩] u1 := M
 refine pN M 3 (.cells (av 5 (ls [.int .u64 40, .int .u64 50, .int .u64 10, .int .u64 20, .int .i64 64])) 35) fun g2 u2 M => ?_
 replace M : Mem ⟨w, []⟩ [⟨g1, .cells (av 4 (ls [.string a, .string b, .string e, .string f])) 23⟩, ⟨g2, .cells (av 5 (ls [.int .u64 40, .int .u64 50, .int .u64 10, .int .u64 20, .int .i64 64])) 35⟩] u2 := M
 refine rV 2 <| nT <| sR <| rV 1 <| ZE M 22 0 1 <| pC M 23 15 #[.string b] (.tuple #[.string (puV b), .int .i64 0]) (fun w M => Mon.rpubL b w M.laid hb) fun u3 M => rV 5 <| nT <| wp_seq <| sq <| cF <| wp_skip <| au_then <| sR <| rV 1 <| ZE M 30 0 0 ?_
 refine rV 2 <| ZE M 33 0 2 <| pl_calln M (want_no rfl) (some 34) rfl 16 #[.string a, .string (puV b), .string e, .string ⟨#[105, 115, 116, 104, 109, 117, 115]⟩, .string ⟨#[]⟩] (fun g3 => .tuple #[.pointer (some ⟨g3, 0, none⟩), .string (tMs a (puV b) e ⟨#[105, 115, 116, 104, 109, 117, 115]⟩ ⟨#[]⟩), .int .i64 0]) (.cells (av 7 (stL (hsS a b e) [.string a, .string e, .string (puV b)])) 89) (fun _ => by kernel_rfl) (fun w M => c_BeginG a b e ⟨#[105, 115, 116, 104, 109, 117, 115]⟩ ⟨#[]⟩ ha he (by decide) (by decide) w M.laid) fun g3 u4 M => ?_
 replace M : Mem ⟨w, []⟩ [⟨g1, .cells (av 4 (ls [.string a, .string b, .string e, .string f])) 23⟩, ⟨g2, .cells (av 5 (ls [.int .u64 40, .int .u64 50, .int .u64 10, .int .u64 20, .int .i64 64])) 35⟩, ⟨g3, .cells (av 7 (stL (hsS a b e) [.string a, .string e, .string (puV b)])) 89⟩] u4 := M
 refine rV 7 <| nT <| wp_seq <| sq <| cF <| wp_skip <| au_then <| sR <| rV 1 <| ZE M 42 0 1 <| rV 1 <| pl_calln M (want_no rfl) (some 44) rfl 17 #[.string b, .string ⟨#[105, 115, 116, 104, 109, 117, 115]⟩, .string (tMs a (puV b) e ⟨#[105, 115, 116, 104, 109, 117, 115]⟩ ⟨#[]⟩)] (fun g4 => .tuple #[.pointer (some ⟨g4, 0, none⟩), .agg (av 5 (ls [.string (puV a), .string ⟨#[]⟩, .string ⟨#[]⟩, .string ⟨#[]⟩, .string ⟨#[]⟩])), .int .i64 0]) (.cells (av 6 (stL (hsS a b e) [.string (puV a), .string (puV e)])) 94) (fun _ => by kernel_rfl) (fun w M => c_ReadG a b e ⟨#[105, 115, 116, 104, 109, 117, 115]⟩ ⟨#[]⟩ hb (by decide) (by decide) w M.laid) fun g4 u5 M => ?_
 replace M : Mem ⟨w, []⟩ [⟨g1, .cells (av 4 (ls [.string a, .string b, .string e, .string f])) 23⟩, ⟨g2, .cells (av 5 (ls [.int .u64 40, .int .u64 50, .int .u64 10, .int .u64 20, .int .i64 64])) 35⟩, ⟨g3, .cells (av 7 (stL (hsS a b e) [.string a, .string e, .string (puV b)])) 89⟩, ⟨g4, .cells (av 6 (stL (hsS a b e) [.string (puV a), .string (puV e)])) 94⟩] u5 := M
 refine rV 4 <| pN M 12 (.cells (av 5 (ls [.string ⟨#[]⟩, .string ⟨#[]⟩, .string ⟨#[]⟩, .string ⟨#[]⟩, .string ⟨#[]⟩])) 61) fun g5 u6 M => ?_
 replace M : Mem ⟨w, []⟩ [⟨g1, .cells (av 4 (ls [.string a, .string b, .string e, .string f])) 23⟩, ⟨g2, .cells (av 5 (ls [.int .u64 40, .int .u64 50, .int .u64 10, .int .u64 20, .int .i64 64])) 35⟩, ⟨g3, .cells (av 7 (stL (hsS a b e) [.string a, .string e, .string (puV b)])) 89⟩, ⟨g4, .cells (av 6 (stL (hsS a b e) [.string (puV a), .string (puV e)])) 94⟩, ⟨g5, .cells (av 5 (ls [.string ⟨#[]⟩, .string ⟨#[]⟩, .string ⟨#[]⟩, .string ⟨#[]⟩, .string ⟨#[]⟩])) 61⟩] u6 := M
 refine rV 1 <| pl_put M (want_no rfl) rfl 61 _ _ rfl 4 g5 0 (by kernel_rfl) 5 61 (ls [.string ⟨#[]⟩, .string ⟨#[]⟩, .string ⟨#[]⟩, .string ⟨#[]⟩, .string ⟨#[]⟩]) rfl 5 (ls [.string (puV a), .string ⟨#[]⟩, .string ⟨#[]⟩, .string ⟨#[]⟩, .string ⟨#[]⟩]) (ls [.string (puV a), .string ⟨#[]⟩, .string ⟨#[]⟩, .string ⟨#[]⟩, .string ⟨#[]⟩]) (by kernel_rfl) inz61 (by decide) (one_ls _ rfl) (fun j hj => by rw [if_pos (by omega), Nat.sub_zero]) fun u7 M => ?_
 replace M : Mem ⟨w, []⟩ [⟨g1, .cells (av 4 (ls [.string a, .string b, .string e, .string f])) 23⟩, ⟨g2, .cells (av 5 (ls [.int .u64 40, .int .u64 50, .int .u64 10, .int .u64 20, .int .i64 64])) 35⟩, ⟨g3, .cells (av 7 (stL (hsS a b e) [.string a, .string e, .string (puV b)])) 89⟩, ⟨g4, .cells (av 6 (stL (hsS a b e) [.string (puV a), .string (puV e)])) 94⟩, ⟨g5, .cells (av 5 (ls [.string (puV a), .string ⟨#[]⟩, .string ⟨#[]⟩, .string ⟨#[]⟩, .string ⟨#[]⟩])) 61⟩] u7 := M
 refine rV 1 <| nT <| wp_seq <| sq <| cF <| wp_skip <| au_then <| sR <| rV 2 <| ZE M 53 0 3 <| pC M 54 18 #[.pointer (some ⟨g4, 0, none⟩), .string f, .string ⟨#[]⟩] (.tuple #[.string (vRp (hsS a b e) (puV a) (puV e) f ⟨#[]⟩), .agg (av 5 (ls [.string (puV a), .string ⟨#[]⟩, .string (hkB a b e f), .string (hkA a b e f), .string (vS4 (hsS a b e) (puV a) (puV e) f ⟨#[]⟩).h])), .int .i64 0]) (fun w M => c_AnswerG g4 (hsS a b e) a e f ⟨#[]⟩ (tS5_h _ _ _ _ _) rfl hf (by decide) w M.laid (M.get 3 rfl) (M.ne0 3 rfl)) fun u8 M => rV 4 <| pN M 14 (.cells (av 5 (ls [.string ⟨#[]⟩, .string ⟨#[]⟩, .string ⟨#[]⟩, .string ⟨#[]⟩, .string ⟨#[]⟩])) 61) fun g6 u9 M => ?_
 replace M : Mem ⟨w, []⟩ [⟨g1, .cells (av 4 (ls [.string a, .string b, .string e, .string f])) 23⟩, ⟨g2, .cells (av 5 (ls [.int .u64 40, .int .u64 50, .int .u64 10, .int .u64 20, .int .i64 64])) 35⟩, ⟨g3, .cells (av 7 (stL (hsS a b e) [.string a, .string e, .string (puV b)])) 89⟩, ⟨g4, .cells (av 6 (stL (hsS a b e) [.string (puV a), .string (puV e)])) 94⟩, ⟨g5, .cells (av 5 (ls [.string (puV a), .string ⟨#[]⟩, .string ⟨#[]⟩, .string ⟨#[]⟩, .string ⟨#[]⟩])) 61⟩, ⟨g6, .cells (av 5 (ls [.string ⟨#[]⟩, .string ⟨#[]⟩, .string ⟨#[]⟩, .string ⟨#[]⟩, .string ⟨#[]⟩])) 61⟩] u9 := M
 refine rV 1 <| pl_put M (want_no rfl) rfl 61 _ _ rfl 5 g6 0 (by kernel_rfl) 5 61 (ls [.string ⟨#[]⟩, .string ⟨#[]⟩, .string ⟨#[]⟩, .string ⟨#[]⟩, .string ⟨#[]⟩]) rfl 5 (ls [.string (puV a), .string ⟨#[]⟩, .string (hkB a b e f), .string (hkA a b e f), .string (vS4 (hsS a b e) (puV a) (puV e) f ⟨#[]⟩).h]) (ls [.string (puV a), .string ⟨#[]⟩, .string (hkB a b e f), .string (hkA a b e f), .string (vS4 (hsS a b e) (puV a) (puV e) f ⟨#[]⟩).h]) (by kernel_rfl) inz61 (by decide) (one_ls _ rfl) (fun j hj => by rw [if_pos (by omega), Nat.sub_zero]) fun u10 M => ?_
 replace M : Mem ⟨w, []⟩ [⟨g1, .cells (av 4 (ls [.string a, .string b, .string e, .string f])) 23⟩, ⟨g2, .cells (av 5 (ls [.int .u64 40, .int .u64 50, .int .u64 10, .int .u64 20, .int .i64 64])) 35⟩, ⟨g3, .cells (av 7 (stL (hsS a b e) [.string a, .string e, .string (puV b)])) 89⟩, ⟨g4, .cells (av 6 (stL (hsS a b e) [.string (puV a), .string (puV e)])) 94⟩, ⟨g5, .cells (av 5 (ls [.string (puV a), .string ⟨#[]⟩, .string ⟨#[]⟩, .string ⟨#[]⟩, .string ⟨#[]⟩])) 61⟩, ⟨g6, .cells (av 5 (ls [.string (puV a), .string ⟨#[]⟩, .string (hkB a b e f), .string (hkA a b e f), .string (vS4 (hsS a b e) (puV a) (puV e) f ⟨#[]⟩).h])) 61⟩] u10 := M
 refine rV 1 <| nT <| wp_seq <| sq <| cF <| wp_skip <| au_then <| sR <| rV 2 <| pC M 63 19 #[.pointer (some ⟨g3, 0, none⟩), .string (vRp (hsS a b e) (puV a) (puV e) f ⟨#[]⟩)] (.tuple #[.agg (av 5 (ls [.string (puV b), .string ⟨#[]⟩, .string (hkA a b e f), .string (hkB a b e f), .string (vS4 (hsS a b e) (puV a) (puV e) f ⟨#[]⟩).h])), .int .i64 0]) (fun w M => c_FinishG g3 (hsS a b e) a e (puV b) f ⟨#[]⟩ (tS5_h _ _ _ _ _) rfl ha he (by decide) w M.laid (M.get 2 rfl) (M.ne0 2 rfl)) fun u11 M => rV 3 <| pN M 15 (.cells (av 5 (ls [.string ⟨#[]⟩, .string ⟨#[]⟩, .string ⟨#[]⟩, .string ⟨#[]⟩, .string ⟨#[]⟩])) 61) fun g7 u12 M => ?_
 replace M : Mem ⟨w, []⟩ [⟨g1, .cells (av 4 (ls [.string a, .string b, .string e, .string f])) 23⟩, ⟨g2, .cells (av 5 (ls [.int .u64 40, .int .u64 50, .int .u64 10, .int .u64 20, .int .i64 64])) 35⟩, ⟨g3, .cells (av 7 (stL (hsS a b e) [.string a, .string e, .string (puV b)])) 89⟩, ⟨g4, .cells (av 6 (stL (hsS a b e) [.string (puV a), .string (puV e)])) 94⟩, ⟨g5, .cells (av 5 (ls [.string (puV a), .string ⟨#[]⟩, .string ⟨#[]⟩, .string ⟨#[]⟩, .string ⟨#[]⟩])) 61⟩, ⟨g6, .cells (av 5 (ls [.string (puV a), .string ⟨#[]⟩, .string (hkB a b e f), .string (hkA a b e f), .string (vS4 (hsS a b e) (puV a) (puV e) f ⟨#[]⟩).h])) 61⟩, ⟨g7, .cells (av 5 (ls [.string ⟨#[]⟩, .string ⟨#[]⟩, .string ⟨#[]⟩, .string ⟨#[]⟩, .string ⟨#[]⟩])) 61⟩] u12 := M
 refine pl_put M (want_no rfl) rfl 61 _ _ rfl 6 g7 0 (by kernel_rfl) 5 61 (ls [.string ⟨#[]⟩, .string ⟨#[]⟩, .string ⟨#[]⟩, .string ⟨#[]⟩, .string ⟨#[]⟩]) rfl 5 (ls [.string (puV b), .string ⟨#[]⟩, .string (hkA a b e f), .string (hkB a b e f), .string (vS4 (hsS a b e) (puV a) (puV e) f ⟨#[]⟩).h]) (ls [.string (puV b), .string ⟨#[]⟩, .string (hkA a b e f), .string (hkB a b e f), .string (vS4 (hsS a b e) (puV a) (puV e) f ⟨#[]⟩).h]) (by kernel_rfl) inz61 (by decide) (one_ls _ rfl) (fun j hj => by rw [if_pos (by omega), Nat.sub_zero]) fun u13 M => ?_
 replace M : Mem ⟨w, []⟩ [⟨g1, .cells (av 4 (ls [.string a, .string b, .string e, .string f])) 23⟩, ⟨g2, .cells (av 5 (ls [.int .u64 40, .int .u64 50, .int .u64 10, .int .u64 20, .int .i64 64])) 35⟩, ⟨g3, .cells (av 7 (stL (hsS a b e) [.string a, .string e, .string (puV b)])) 89⟩, ⟨g4, .cells (av 6 (stL (hsS a b e) [.string (puV a), .string (puV e)])) 94⟩, ⟨g5, .cells (av 5 (ls [.string (puV a), .string ⟨#[]⟩, .string ⟨#[]⟩, .string ⟨#[]⟩, .string ⟨#[]⟩])) 61⟩, ⟨g6, .cells (av 5 (ls [.string (puV a), .string ⟨#[]⟩, .string (hkB a b e f), .string (hkA a b e f), .string (vS4 (hsS a b e) (puV a) (puV e) f ⟨#[]⟩).h])) 61⟩, ⟨g7, .cells (av 5 (ls [.string (puV b), .string ⟨#[]⟩, .string (hkA a b e f), .string (hkB a b e f), .string (vS4 (hsS a b e) (puV a) (puV e) f ⟨#[]⟩).h])) 61⟩] u13 := M
 refine rV 1 <| nT <| wp_seq <| sq <| cF <| wp_skip <| au_then <| sR <| pA M 69 6 5 (ls [.string (puV b), .string ⟨#[]⟩, .string (hkA a b e f), .string (hkB a b e f), .string (vS4 (hsS a b e) (puV a) (puV e) f ⟨#[]⟩).h]) <| pA M 70 1 5 (ls [.int .u64 40, .int .u64 50, .int .u64 10, .int .u64 20, .int .i64 64]) <| pl_callM M (want_no rfl) (some 71) rfl 20 #[.agg (av 5 (ls [.string (puV b), .string ⟨#[]⟩, .string (hkA a b e f), .string (hkB a b e f), .string (vS4 (hsS a b e) (puV a) (puV e) f ⟨#[]⟩).h])), .bool true, .int .u64 0, .agg (av 5 (ls [.int .u64 40, .int .u64 50, .int .u64 10, .int .u64 20, .int .i64 64]))] [⟨g1, .cells (av 4 (ls [.string a, .string b, .string e, .string f])) 23⟩, ⟨g2, .cells (av 5 (ls [.int .u64 40, .int .u64 50, .int .u64 10, .int .u64 20, .int .i64 64])) 35⟩, ⟨g3, .cells (av 7 (stL (hsS a b e) [.string a, .string e, .string (puV b)])) 89⟩, ⟨g4, .cells (av 6 (stL (hsS a b e) [.string (puV a), .string (puV e)])) 94⟩, ⟨g5, .cells (av 5 (ls [.string (puV a), .string ⟨#[]⟩, .string ⟨#[]⟩, .string ⟨#[]⟩, .string ⟨#[]⟩])) 61⟩, ⟨g6, .cells (av 5 (ls [.string (puV a), .string ⟨#[]⟩, .string (hkB a b e f), .string (hkA a b e f), .string (vS4 (hsS a b e) (puV a) (puV e) f ⟨#[]⟩).h])) 61⟩, ⟨g7, .cells (av 5 (ls [.string (puV b), .string ⟨#[]⟩, .string (hkA a b e f), .string (hkB a b e f), .string (vS4 (hsS a b e) (puV a) (puV e) f ⟨#[]⟩).h])) 61⟩] [] [] (by simp only [List.append_assoc, List.cons_append, List.nil_append, List.append_nil]) (fun x : Nat × List Blk => .tuple #[.pointer (some ⟨x.1, 0, none⟩), .int .i64 0]) (fun x : Nat × List Blk => x.2) (fun x : Nat × List Blk => IsT x.1 ⟨40, 50, 10, 20, 64, 0, 0, (hkA a b e f), (hkB a b e f), true, true, []⟩ x.2) (fun _ => by kernel_rfl) (fun w hL hT => a_New (hkA_size a b e f) (hkB_size a b e f) (by decide) (by decide) (by decide) w hL) ?_
 rintro ⟨pa, Tpa⟩ u14 Hpa M
 replace M : Mem ⟨w, []⟩ (⟨g1, .cells (av 4 (ls [.string a, .string b, .string e, .string f])) 23⟩ :: ⟨g2, .cells (av 5 (ls [.int .u64 40, .int .u64 50, .int .u64 10, .int .u64 20, .int .i64 64])) 35⟩ :: ⟨g3, .cells (av 7 (stL (hsS a b e) [.string a, .string e, .string (puV b)])) 89⟩ :: ⟨g4, .cells (av 6 (stL (hsS a b e) [.string (puV a), .string (puV e)])) 94⟩ :: ⟨g5, .cells (av 5 (ls [.string (puV a), .string ⟨#[]⟩, .string ⟨#[]⟩, .string ⟨#[]⟩, .string ⟨#[]⟩])) 61⟩ :: ⟨g6, .cells (av 5 (ls [.string (puV a), .string ⟨#[]⟩, .string (hkB a b e f), .string (hkA a b e f), .string (vS4 (hsS a b e) (puV a) (puV e) f ⟨#[]⟩).h])) 61⟩ :: ⟨g7, .cells (av 5 (ls [.string (puV b), .string ⟨#[]⟩, .string (hkA a b e f), .string (hkB a b e f), .string (vS4 (hsS a b e) (puV a) (puV e) f ⟨#[]⟩).h])) 61⟩ :: Tpa) u14 := by simpa only [List.append_assoc, List.cons_append, List.nil_append, List.append_nil] using M
 refine rV 5 <| nT <| sR <| pA M 75 5 5 (ls [.string (puV a), .string ⟨#[]⟩, .string (hkB a b e f), .string (hkA a b e f), .string (vS4 (hsS a b e) (puV a) (puV e) f ⟨#[]⟩).h]) <| pA M 76 1 5 (ls [.int .u64 40, .int .u64 50, .int .u64 10, .int .u64 20, .int .i64 64]) <| pl_callM M (want_no rfl) (some 77) rfl 20 #[.agg (av 5 (ls [.string (puV a), .string ⟨#[]⟩, .string (hkB a b e f), .string (hkA a b e f), .string (vS4 (hsS a b e) (puV a) (puV e) f ⟨#[]⟩).h])), .bool false, .int .u64 0, .agg (av 5 (ls [.int .u64 40, .int .u64 50, .int .u64 10, .int .u64 20, .int .i64 64]))] [⟨g1, .cells (av 4 (ls [.string a, .string b, .string e, .string f])) 23⟩, ⟨g2, .cells (av 5 (ls [.int .u64 40, .int .u64 50, .int .u64 10, .int .u64 20, .int .i64 64])) 35⟩, ⟨g3, .cells (av 7 (stL (hsS a b e) [.string a, .string e, .string (puV b)])) 89⟩, ⟨g4, .cells (av 6 (stL (hsS a b e) [.string (puV a), .string (puV e)])) 94⟩, ⟨g5, .cells (av 5 (ls [.string (puV a), .string ⟨#[]⟩, .string ⟨#[]⟩, .string ⟨#[]⟩, .string ⟨#[]⟩])) 61⟩, ⟨g6, .cells (av 5 (ls [.string (puV a), .string ⟨#[]⟩, .string (hkB a b e f), .string (hkA a b e f), .string (vS4 (hsS a b e) (puV a) (puV e) f ⟨#[]⟩).h])) 61⟩, ⟨g7, .cells (av 5 (ls [.string (puV b), .string ⟨#[]⟩, .string (hkA a b e f), .string (hkB a b e f), .string (vS4 (hsS a b e) (puV a) (puV e) f ⟨#[]⟩).h])) 61⟩] [] (Tpa) (by simp only [List.append_assoc, List.cons_append, List.nil_append, List.append_nil]) (fun x : Nat × List Blk => .tuple #[.pointer (some ⟨x.1, 0, none⟩), .int .i64 0]) (fun x : Nat × List Blk => x.2) (fun x : Nat × List Blk => IsT x.1 ⟨40, 50, 10, 20, 64, 0, 0, (hkB a b e f), (hkA a b e f), false, false, []⟩ x.2) (fun _ => by kernel_rfl) (fun w hL hT => a_New (hkB_size a b e f) (hkA_size a b e f) (by decide) (by decide) (by decide) w hL) ?_
 rintro ⟨pb, Tpb⟩ u15 Hpb M
 replace M : Mem ⟨w, []⟩ (⟨g1, .cells (av 4 (ls [.string a, .string b, .string e, .string f])) 23⟩ :: ⟨g2, .cells (av 5 (ls [.int .u64 40, .int .u64 50, .int .u64 10, .int .u64 20, .int .i64 64])) 35⟩ :: ⟨g3, .cells (av 7 (stL (hsS a b e) [.string a, .string e, .string (puV b)])) 89⟩ :: ⟨g4, .cells (av 6 (stL (hsS a b e) [.string (puV a), .string (puV e)])) 94⟩ :: ⟨g5, .cells (av 5 (ls [.string (puV a), .string ⟨#[]⟩, .string ⟨#[]⟩, .string ⟨#[]⟩, .string ⟨#[]⟩])) 61⟩ :: ⟨g6, .cells (av 5 (ls [.string (puV a), .string ⟨#[]⟩, .string (hkB a b e f), .string (hkA a b e f), .string (vS4 (hsS a b e) (puV a) (puV e) f ⟨#[]⟩).h])) 61⟩ :: ⟨g7, .cells (av 5 (ls [.string (puV b), .string ⟨#[]⟩, .string (hkA a b e f), .string (hkB a b e f), .string (vS4 (hsS a b e) (puV a) (puV e) f ⟨#[]⟩).h])) 61⟩ :: (Tpb ++ Tpa)) u15 := by simpa only [List.append_assoc, List.cons_append, List.nil_append, List.append_nil] using M
 refine rV 5 <| nT <| sq <| wp_ret ?_
 exact bodyPost_ret (v := .tuple #[.pointer (some ⟨pa, 0, none⟩), .pointer (some ⟨pb, 0, none⟩)]) (results_tmp2 Tryz.results6 _ _ _ _ (by kernel_rfl) (by kernel_rfl)) (by kernel_rfl) ⟨((pa, Tpa), (pb, Tpb)), rfl, ⟨Hpa, Hpb⟩, Mem.okT0 (T := []) (M.drop (.cons _ (.cons _ (.cons _ (.cons _ (.cons _ (.cons _ (.cons _ (List.Sublist.refl _)))))))))⟩
theorem c_speaks  (w : World) (hL : Laid w)  : Cs 5 #[] w (.bool true) := by
 go_enter Tryz.func5, Tryz.ntmps5
 have M := Mem.start hL
 refine sq <| sR <| ZC M 9 (fun w M => c_secret 97 (by decide) (by decide) w M.laid) fun u1 M => ZC M 10 (fun w M => c_secret 98 (by decide) (by decide) w M.laid) fun u2 M => ZC M 11 (fun w M => c_secret 101 (by decide) (by decide) w M.laid) fun u3 M => ZC M 12 (fun w M => c_secret 102 (by decide) (by decide) w M.laid) fun u4 M => rV 1 <| ZC M 14 (fun w M => c_limits w M.laid) fun u5 M => pl_callM M (want_no rfl) (some 15) rfl 6 #[.agg (av 4 (ls [.string (keS 97), .string (keS 98), .string (keS 101), .string (keS 102)])), .agg (av 5 (ls [.int .u64 40, .int .u64 50, .int .u64 10, .int .u64 20, .int .i64 64]))] [] [] [] (by simp only [List.append_assoc, List.cons_append, List.nil_append, List.append_nil]) (fun x : (Nat × List Blk) × Nat × List Blk => .tuple #[.pointer (some ⟨x.1.1, 0, none⟩), .pointer (some ⟨x.2.1, 0, none⟩)]) (fun x : (Nat × List Blk) × Nat × List Blk => x.2.2 ++ x.1.2) (fun x : (Nat × List Blk) × Nat × List Blk => IsT x.1.1 ⟨40, 50, 10, 20, 64, 0, 0, (hkA (keS 97) (keS 98) (keS 101) (keS 102)), (hkB (keS 97) (keS 98) (keS 101) (keS 102)), true, true, []⟩ x.1.2 ∧ IsT x.2.1 ⟨40, 50, 10, 20, 64, 0, 0, (hkB (keS 97) (keS 98) (keS 101) (keS 102)), (hkA (keS 97) (keS 98) (keS 101) (keS 102)), false, false, []⟩ x.2.2) (fun _ => by kernel_rfl) (fun w hL hT => c_shaken (keS_size _) (keS_size _) (keS_size _) (keS_size _) w hL) ?_
 rintro ⟨⟨pa, Tpa⟩, pb, Tpb⟩ u6 ⟨Hpa, Hpb⟩ M
 replace M : Mem ⟨w, []⟩ ((Tpb ++ Tpa)) u6 := by simpa only [List.append_assoc, List.cons_append, List.nil_append, List.append_nil] using M
 refine rV 5 <| nT <| wp_seq <| sq <| cF <| wp_skip <| au_then <| sR <| rV 1 <| pl_callM M (want_no rfl) (some 26) rfl 8 #[.pointer (some ⟨pa, 0, none⟩), .int .u64 0, .string ⟨#[120]⟩] (Tpb) (Tpa) [] (by simp only [List.append_assoc, List.cons_append, List.nil_append, List.append_nil]) (fun T0 => .tuple #[.int .u64 0, .string (sealS (hkA (keS 97) (keS 98) (keS 101) (keS 102)) (nS 0) ⟨#[]⟩ ⟨#[120]⟩), .int .i64 0]) (fun T0 => T0) (fun T0 => IsT pa ⟨40, 50, 10, 20, 64, 1, 0, (hkA (keS 97) (keS 98) (keS 101) (keS 102)), (hkB (keS 97) (keS 98) (keS 101) (keS 102)), true, true, []⟩ T0) (fun _ => by kernel_rfl) (fun w hL hT => s_ok Hpa ⟨by decide, by decide, by decide, by decide⟩ (by decide) (hkA_size _ _ _ _) (by decide) (by decide) rfl (by decide) w hL hT) ?_
 rintro Y1 u7 J1 M
 replace M : Mem ⟨w, []⟩ ((Tpb ++ Y1)) u7 := by simpa only [List.append_assoc, List.cons_append, List.nil_append, List.append_nil] using M
 refine rV 7 <| nT <| sR <| rV 3 <| pl_callM M (want_no rfl) (some 34) rfl 10 #[.pointer (some ⟨pb, 0, none⟩), .int .u64 0, .int .u64 0, .string (sealS (hkA (keS 97) (keS 98) (keS 101) (keS 102)) (nS 0) ⟨#[]⟩ ⟨#[120]⟩)] [] (Tpb) (Y1) (by simp only [List.append_assoc, List.cons_append, List.nil_append, List.append_nil]) (fun T0 => .tuple #[.string ⟨#[120]⟩, .int .i64 0]) (fun T0 => T0) (fun T0 => IsT pb ⟨40, 50, 10, 20, 64, 0, 0, (hkB (keS 97) (keS 98) (keS 101) (keS 102)), (hkA (keS 97) (keS 98) (keS 101) (keS 102)), false, true, [0]⟩ T0) (fun _ => by kernel_rfl) (fun w hL hT => o_ok (s := ⟨#[120]⟩) Hpb ⟨by decide, by decide, by decide, by decide⟩ (by decide) (by decide) (hkB_size _ _ _ _) (hkA_size _ _ _ _) (by decide) (by decide) (by decide) (by decide) w hL hT) ?_
 rintro Y2 u8 J2 M
 replace M : Mem ⟨w, []⟩ ((Y2 ++ Y1)) u8 := by simpa only [List.append_assoc, List.cons_append, List.nil_append, List.append_nil] using M
 refine rV 5 <| nT <| sq <| wp_ret ?_
 exact b1 M
open Go.RowKit
def tot (Y : Nat → ByteArray) : Nat → Nat
 | 0 => 0
 | j + 1 => tot Y j + 8 + (Y j).size
theorem tot_succ (Y : Nat → ByteArray) (j : Nat) : ((tot Y j : Nat) : Int) + 8 + ((Y j).size : Int) = ((tot Y (j + 1) : Nat) : Int) := by
 show _ = ((tot Y j + 8 + (Y j).size : Nat) : Int)
 omega
theorem tot_ge (Y : Nat → ByteArray) : ∀ n j, j < n → (Y j).size + 8 ≤ tot Y n
 | 0, j, h => absurd h (by omega)
 | n + 1, j, h => by
  show _ ≤ tot Y n + 8 + (Y n).size
  by_cases e : j = n
  ·subst e
   omega
  ·have := tot_ge Y n j (by omega)
   omega
theorem run_ixK {P : Program} {a : Act} {o : Oper} (t elem K : TypeId) (hu : P.underlying t = some (.slice elem)) (hs : (P.info? elem).map (·.size) = some K) (x ix : Operand) (ho : o.op = .indexAddr t x ix) (l : Option Addr) (g off len cap : Nat) (hx : a.eval x = .slice l len cap) (hl : l = some ⟨g, off, none⟩) (k : IntKind) (i : Nat) (hi : a.eval ix = .int k (i : Int)) (hlt : i < len) (w : World) :
  (execOp a.eval o).run P w = .ok (.value (.pointer (some ⟨g, off + i * K, none⟩))) w := by
 subst hl
 cases hq : P.info? elem with
 | none => simp [hq] at hs
 | some info =>
  have hsz : info.size = K := by simpa [hq] using hs
  unfold execOp
  simp [ho, hx, hi, Instr.indexAt, asIntOf, run_underlying hu, sizeOf, typeInfo, hq, hsz, add_at, hlt]
theorem oX_no {x : TS} {n i : Nat} {c : Yb} (h : ¬ x.oE n i c = 0) : x.oX n i c = x := by
 unfold TS.oE at h
 unfold TS.oX
 by_cases e : x.oF n i = 0
 ·rw [if_pos e] at h
  rw [if_pos e]
  unfold opU opQ
  rw [if_neg h, if_neg h]
 ·rw [if_neg e]
open Go.RowKit
abbrev tsA (KA KB : Yb) (n : Nat) (q : List Nat) : TS := ⟨40, 50, 10, 20, 64, n, 0, KA, KB, true, true, q⟩
abbrev tsB (KA KB : Yb) (n : Nat) (su : Bool) (q : List Nat) : TS := ⟨40, 50, 10, 20, 64, n, 0, KB, KA, false, su, q⟩
theorem okS {k1 k2 : Yb} {n : Nat} {fi su : Bool} {q : List Nat} (h : n ≤ 50) : TS.Ok ⟨40, 50, 10, 20, 64, n, 0, k1, k2, fi, su, q⟩ := ⟨show 1 ≤ 64 by decide, show 64 ≤ 4096 by decide, show 50 ≤ 1152921504606846976 by decide, h⟩
theorem c_shakenO {a b e f : Yb} (ha : a.size = 32) (hb : b.size = 32) (he : e.size = 32) (hf : f.size = 32) (w : World) (hL : Laid w) : Calls Tryz.prog 6 #[.agg (av 4 (ls [.string a, .string b, .string e, .string f])), .agg (av 5 (ls [.int .u64 40, .int .u64 50, .int .u64 10, .int .u64 20, .int .i64 64]))] w fun r w' => ∃ x : ((Nat × List Blk) × Nat × List Blk) × ByteArray × ByteArray, r = .returned (.tuple #[.pointer (some ⟨x.1.1.1, 0, none⟩), .pointer (some ⟨x.1.2.1, 0, none⟩)]) ∧ ((x.2.1.size = 32 ∧ x.2.2.size = 32) ∧ IsT x.1.1.1 (tsA x.2.1 x.2.2 0 []) x.1.1.2 ∧ IsT x.1.2.1 (tsB x.2.1 x.2.2 0 false []) x.1.2.2) ∧ OkT w w' [] (x.1.2.2 ++ x.1.1.2) :=
 (c_shaken ha hb he hf w hL).mono fun _ _ ⟨x, h1, h2, h3⟩ => ⟨(x, (hkA a b e f, hkB a b e f)), h1, ⟨⟨hkA_size _ _ _ _, hkB_size _ _ _ _⟩, h2⟩, h3⟩
theorem c_shakenD {a b e f : Yb} (ha : a.size = 32) (hb : b.size = 32) (he : e.size = 32) (hf : f.size = 32) (w : World) (hL : Laid w) : Calls Tryz.prog 6 #[.agg (av 4 (ls [.string a, .string b, .string e, .string f])), .agg (av 5 (ls [.int .u64 40, .int .u64 50, .int .u64 10, .int .u64 20, .int .i64 64]))] w fun r w' => ∃ x : ((Nat × List Blk) × Nat × List Blk) × ByteArray × ByteArray, r = .returned (.tuple #[.pointer (some ⟨x.1.1.1, 0, none⟩), .pointer (some ⟨x.1.2.1, 0, none⟩)]) ∧ (((x.2.1 = hkA a b e f ∧ x.2.1.size = 32) ∧ x.2.2.size = 32) ∧ IsT x.1.2.1 (tsB x.2.1 x.2.2 0 false []) x.1.2.2) ∧ OkT w w' [] (x.1.2.2 ++ x.1.1.2) :=
 (c_shaken ha hb he hf w hL).mono fun _ _ ⟨x, h1, h2, h3⟩ => ⟨(x, (hkA a b e f, hkB a b e f)), h1, ⟨⟨⟨rfl, hkA_size _ _ _ _⟩, hkB_size _ _ _ _⟩, h2.2⟩, h3⟩
theorem d_AOpen (rv : Yb) (i : Nat) (c : Yb) (hr : rv.size = 32) (hc : c.size ≤ 5000) (w : World) (hL : Laid w) : Cs 12 #[.string rv, .string (nS (i : Int)), .string ⟨#[]⟩, .string c] w (.tuple #[.string (opC rv i c), .int .i64 (opZ rv i c)]) := by
 have hm : rv.size = 32 ∧ (nS (i : Int)).size = 12 := ⟨hr, nS_size _⟩
 have hz : (⟨#[]⟩ : Yb).size + c.size ≤ 5000 := by show 0 + c.size ≤ 5000; omega
 unfold opC
 by_cases h : c.size < 16
 ·have e0 : sf rv (nS (i : Int)) ⟨#[]⟩ c 16 = 100 := by
   unfold sf
   rw [if_neg (by simp [hr, nS_size]), if_neg (by simp; omega), if_pos h]
  have e : opZ rv i c = 100 := by unfold opZ; rw [e0, if_neg (by decide)]
  rw [if_neg (by rw [e]; decide), e]
  exact d_OpenC _ _ _ _ hm hz h w hL
 ·have e0 : sf rv (nS (i : Int)) ⟨#[]⟩ c 16 = 0 := sf_ok hm (Nat.zero_le _) (by omega) (by omega)
  by_cases h2 : tgX rv (nS (i : Int)) ⟨#[]⟩ c = c.extract (c.size - 16) c.size
  ·have e : opZ rv i c = 0 := by unfold opZ; rw [if_pos e0, if_pos h2]
   rw [if_pos e, e]
   exact d_OpenA _ _ _ _ hm hz h h2 w hL
  ·have e : opZ rv i c = 100 := by unfold opZ; rw [if_pos e0, if_neg h2]
   rw [if_neg (by rw [e]; decide), e]
   exact d_OpenB _ _ _ _ hm hz h h2 w hL
theorem o_bad {p : Nat} {x : TS} {T : List Blk} {n i : Nat} {c : Yb} (hI : IsT p x T) (ok : x.Ok) (hn : n < 18446744073709551616) (hi : i < 18446744073709551616) (h1 : x.sd.size = 32) (hr : x.rv.size = 32) (h2 : n - x.mt < x.lf) (h3 : i < x.ct) (h4 : my x.sz x.q i = 0) (h5 : ¬ opZ x.rv i c = 0) (h6 : 16 ≤ c.size) (h7 : c.size ≤ 5000) (w : World) (hL : Laid w) (hT : There w T) : Calls Tryz.prog 10 #[.pointer (some ⟨p, 0, none⟩), .int .u64 (n : Int), .int .u64 (i : Int), .string c] w fun r w' => ∃ T', r = .returned (.tuple #[.string ⟨#[]⟩, .int .i64 100]) ∧ IsT p x T' ∧ OkT w w' T T' := by
 have e0 : x.oF n i = 0 := (oF_ok (ov_no h1 h2) h3).trans h4
 have e1 : opZ x.rv i c = 100 := by
  unfold opZ at h5 ⊢
  rw [if_pos (sf_ok ⟨hr, nS_size _⟩ (Nat.zero_le _) (by omega) h6)] at h5 ⊢
  by_cases h : tgX x.rv (nS (i : Int)) ⟨#[]⟩ c = c.extract (c.size - 16) c.size
  ·exact absurd (if_pos h) h5
  ·exact if_neg h
 have e2 : x.oE n i c = 100 := by unfold TS.oE; rw [if_pos e0, e1]
 have e3 : x.oC n i c = ⟨#[]⟩ := by unfold TS.oC opC; rw [if_pos e0, if_neg h5]
 have h := a_Open (c := c) hI ok hn hi w hL hT
 rw [e2, e3, oX_no (by rw [e2]; decide)] at h
 exact h
theorem c_received {a b e f : Yb} (ha : a.size = 32) (hb : b.size = 32) (he : e.size = 32) (hf : f.size = 32) (w : World) (hL : Laid w)  : Cs 11 #[.agg (av 4 (ls [.string a, .string b, .string e, .string f]))] w (.string (hkA a b e f)) := by
 go_enter Tryz.func11, Tryz.ntmps11
 have M := Mem.start hL
 refine sR ?_
 refine pN M 1 (.cells (av 4 (ls [.string a, .string b, .string e, .string f])) 23) fun g1 u1 M => ?_
 replace M : Mem ⟨w, []⟩ [⟨g1, .cells (av 4 (ls [.string a, .string b, .string e, .string f])) 23⟩] u1 := M
 refine rV 1 <| nT <| sR <| rV 1 <| ZE M 14 0 1 ?_
 refine pC M 15 15 #[.string b] (.tuple #[.string (puV b), .int .i64 0]) (fun w M => Mon.rpubL b w M.laid hb) fun u2 M => ?_
 refine rV 5 <| nT <| sR <| rV 1 <| ZE M 20 0 0 ?_
 refine rV 2 <| ZE M 23 0 2 ?_
 refine pl_calln M (want_no rfl) (some 24) rfl 16 #[.string a, .string (puV b), .string e, .string ⟨#[105, 115, 116, 104, 109, 117, 115]⟩, .string ⟨#[]⟩] (fun g2 => .tuple #[.pointer (some ⟨g2, 0, none⟩), .string (tMs a (puV b) e ⟨#[105, 115, 116, 104, 109, 117, 115]⟩ ⟨#[]⟩), .int .i64 0]) (.cells (av 7 (stL (hsS a b e) [.string a, .string e, .string (puV b)])) 89) (fun _ => by kernel_rfl) (fun w M => c_BeginG a b e ⟨#[105, 115, 116, 104, 109, 117, 115]⟩ ⟨#[]⟩ ha he (by decide) (by decide) w M.laid) fun g2 u3 M => ?_
 replace M : Mem ⟨w, []⟩ [⟨g1, .cells (av 4 (ls [.string a, .string b, .string e, .string f])) 23⟩, ⟨g2, .cells (av 7 (stL (hsS a b e) [.string a, .string e, .string (puV b)])) 89⟩] u3 := M
 refine rV 7 <| nT <| wp_seq <| sq <| cF ?_
 refine wp_skip <| au_then <| sR <| rV 1 <| ZE M 33 0 1 ?_
 refine rV 1 ?_
 refine pl_calln M (want_no rfl) (some 35) rfl 17 #[.string b, .string ⟨#[105, 115, 116, 104, 109, 117, 115]⟩, .string (tMs a (puV b) e ⟨#[105, 115, 116, 104, 109, 117, 115]⟩ ⟨#[]⟩)] (fun g3 => .tuple #[.pointer (some ⟨g3, 0, none⟩), .agg (av 5 (ls [.string (puV a), .string ⟨#[]⟩, .string ⟨#[]⟩, .string ⟨#[]⟩, .string ⟨#[]⟩])), .int .i64 0]) (.cells (av 6 (stL (hsS a b e) [.string (puV a), .string (puV e)])) 94) (fun _ => by kernel_rfl) (fun w M => c_ReadG a b e ⟨#[105, 115, 116, 104, 109, 117, 115]⟩ ⟨#[]⟩ hb (by decide) (by decide) w M.laid) fun g3 u4 M => ?_
 replace M : Mem ⟨w, []⟩ [⟨g1, .cells (av 4 (ls [.string a, .string b, .string e, .string f])) 23⟩, ⟨g2, .cells (av 7 (stL (hsS a b e) [.string a, .string e, .string (puV b)])) 89⟩, ⟨g3, .cells (av 6 (stL (hsS a b e) [.string (puV a), .string (puV e)])) 94⟩] u4 := M
 refine rV 4 ?_
 refine pN M 9 (.cells (av 5 (ls [.string ⟨#[]⟩, .string ⟨#[]⟩, .string ⟨#[]⟩, .string ⟨#[]⟩, .string ⟨#[]⟩])) 61) fun g4 u5 M => ?_
 replace M : Mem ⟨w, []⟩ [⟨g1, .cells (av 4 (ls [.string a, .string b, .string e, .string f])) 23⟩, ⟨g2, .cells (av 7 (stL (hsS a b e) [.string a, .string e, .string (puV b)])) 89⟩, ⟨g3, .cells (av 6 (stL (hsS a b e) [.string (puV a), .string (puV e)])) 94⟩, ⟨g4, .cells (av 5 (ls [.string ⟨#[]⟩, .string ⟨#[]⟩, .string ⟨#[]⟩, .string ⟨#[]⟩, .string ⟨#[]⟩])) 61⟩] u5 := M
 refine rV 1 ?_
 refine pl_put M (want_no rfl) rfl 61 _ _ rfl 3 g4 0 (by kernel_rfl) 5 61 (ls [.string ⟨#[]⟩, .string ⟨#[]⟩, .string ⟨#[]⟩, .string ⟨#[]⟩, .string ⟨#[]⟩]) rfl 5 (ls [.string (puV a), .string ⟨#[]⟩, .string ⟨#[]⟩, .string ⟨#[]⟩, .string ⟨#[]⟩]) (ls [.string (puV a), .string ⟨#[]⟩, .string ⟨#[]⟩, .string ⟨#[]⟩, .string ⟨#[]⟩]) (by kernel_rfl) inz61 (by decide) (one_ls _ rfl) (fun j hj => by rw [if_pos (by omega), Nat.sub_zero]) fun u6 M => ?_
 replace M : Mem ⟨w, []⟩ [⟨g1, .cells (av 4 (ls [.string a, .string b, .string e, .string f])) 23⟩, ⟨g2, .cells (av 7 (stL (hsS a b e) [.string a, .string e, .string (puV b)])) 89⟩, ⟨g3, .cells (av 6 (stL (hsS a b e) [.string (puV a), .string (puV e)])) 94⟩, ⟨g4, .cells (av 5 (ls [.string (puV a), .string ⟨#[]⟩, .string ⟨#[]⟩, .string ⟨#[]⟩, .string ⟨#[]⟩])) 61⟩] u6 := M
 refine rV 1 <| nT <| wp_seq <| sq <| cF ?_
 refine wp_skip <| au_then <| sR <| rV 2 <| ZE M 45 0 3 ?_
 refine pC M 46 18 #[.pointer (some ⟨g3, 0, none⟩), .string f, .string ⟨#[]⟩] (.tuple #[.string (vRp (hsS a b e) (puV a) (puV e) f ⟨#[]⟩), .agg (av 5 (ls [.string (puV a), .string ⟨#[]⟩, .string (hkB a b e f), .string (hkA a b e f), .string (vS4 (hsS a b e) (puV a) (puV e) f ⟨#[]⟩).h])), .int .i64 0]) (fun w M => c_AnswerG g3 (hsS a b e) a e f ⟨#[]⟩ (tS5_h _ _ _ _ _) rfl hf (by decide) w M.laid (M.get 2 rfl) (M.ne0 2 rfl)) fun u7 M => ?_
 refine rV 4 ?_
 refine pN M 11 (.cells (av 5 (ls [.string ⟨#[]⟩, .string ⟨#[]⟩, .string ⟨#[]⟩, .string ⟨#[]⟩, .string ⟨#[]⟩])) 61) fun g5 u8 M => ?_
 replace M : Mem ⟨w, []⟩ [⟨g1, .cells (av 4 (ls [.string a, .string b, .string e, .string f])) 23⟩, ⟨g2, .cells (av 7 (stL (hsS a b e) [.string a, .string e, .string (puV b)])) 89⟩, ⟨g3, .cells (av 6 (stL (hsS a b e) [.string (puV a), .string (puV e)])) 94⟩, ⟨g4, .cells (av 5 (ls [.string (puV a), .string ⟨#[]⟩, .string ⟨#[]⟩, .string ⟨#[]⟩, .string ⟨#[]⟩])) 61⟩, ⟨g5, .cells (av 5 (ls [.string ⟨#[]⟩, .string ⟨#[]⟩, .string ⟨#[]⟩, .string ⟨#[]⟩, .string ⟨#[]⟩])) 61⟩] u8 := M
 refine rV 1 ?_
 refine pl_put M (want_no rfl) rfl 61 _ _ rfl 4 g5 0 (by kernel_rfl) 5 61 (ls [.string ⟨#[]⟩, .string ⟨#[]⟩, .string ⟨#[]⟩, .string ⟨#[]⟩, .string ⟨#[]⟩]) rfl 5 (ls [.string (puV a), .string ⟨#[]⟩, .string (hkB a b e f), .string (hkA a b e f), .string (vS4 (hsS a b e) (puV a) (puV e) f ⟨#[]⟩).h]) (ls [.string (puV a), .string ⟨#[]⟩, .string (hkB a b e f), .string (hkA a b e f), .string (vS4 (hsS a b e) (puV a) (puV e) f ⟨#[]⟩).h]) (by kernel_rfl) inz61 (by decide) (one_ls _ rfl) (fun j hj => by rw [if_pos (by omega), Nat.sub_zero]) fun u9 M => ?_
 replace M : Mem ⟨w, []⟩ [⟨g1, .cells (av 4 (ls [.string a, .string b, .string e, .string f])) 23⟩, ⟨g2, .cells (av 7 (stL (hsS a b e) [.string a, .string e, .string (puV b)])) 89⟩, ⟨g3, .cells (av 6 (stL (hsS a b e) [.string (puV a), .string (puV e)])) 94⟩, ⟨g4, .cells (av 5 (ls [.string (puV a), .string ⟨#[]⟩, .string ⟨#[]⟩, .string ⟨#[]⟩, .string ⟨#[]⟩])) 61⟩, ⟨g5, .cells (av 5 (ls [.string (puV a), .string ⟨#[]⟩, .string (hkB a b e f), .string (hkA a b e f), .string (vS4 (hsS a b e) (puV a) (puV e) f ⟨#[]⟩).h])) 61⟩] u9 := M
 refine rV 1 <| nT <| wp_seq <| sq <| cF ?_
 refine wp_skip <| au_then <| sR <| rV 1 <| ZE M 54 4 3 ?_
 refine rV 1 <| nT <| wp_ret ?_
 exact b1 M
theorem c_apart {ya yb ye yf wa wb we wf : Yb} (l4 : Option Addr) (b4 o4 n4 k4 : Nat) (Y : Nat → ByteArray) (hl4 : 0 < n4 → l4 = some ⟨b4, o4, none⟩) (hm4 : n4 ≤ 9223372036854775807) (hB : ∀ j, j < n4 → (Y j).size ≤ 140737488351232) (w : World) (hL : Laid w) (hY : ∀ j, j < n4 → w.cell? ⟨b4, o4 + j * 1, none⟩ = some (.string (Y j))) : Cs 4 #[.agg (av 4 (ls [.string ya, .string yb, .string ye, .string yf])), .agg (av 4 (ls [.string wa, .string wb, .string we, .string wf])), .slice l4 n4 k4] w (.bool true) := by
 go_enter Tryz.func4, Tryz.ntmps4
 have M := Mem.start hL
 refine sR ?_
 refine pN M 3 (.cells (av 4 (ls [.string ya, .string yb, .string ye, .string yf])) 23) fun g1 u1 M => ?_
 replace M : Mem ⟨w, []⟩ [⟨g1, .cells (av 4 (ls [.string ya, .string yb, .string ye, .string yf])) 23⟩] u1 := M
 refine pN M 4 (.cells (av 4 (ls [.string wa, .string wb, .string we, .string wf])) 23) fun g2 u2 M => ?_
 replace M : Mem ⟨w, []⟩ [⟨g1, .cells (av 4 (ls [.string ya, .string yb, .string ye, .string yf])) 23⟩, ⟨g2, .cells (av 4 (ls [.string wa, .string wb, .string we, .string wf])) 23⟩] u2 := M
 refine rV 1 <| nT <| sq <| wp_seq <| sq ?_
 refine wp_block ?_
 refine au_loop (fun j a w' => ∃ v1 : NV, a = (fm ([.agg (av 4 (ls [.string ya, .string yb, .string ye, .string yf])), .agg (av 4 (ls [.string wa, .string wb, .string we, .string wf])), .slice l4 n4 k4, .pointer (some ⟨g1, 0, none⟩), .pointer (some ⟨g2, 0, none⟩), undef, .bool false, .int .i64 ((tot Y j : Nat) : Int), .int .i64 (j : Int)] ++ und 13 ++ vr v1 22 18 ++ und 119)) ∧ Mem ⟨w, []⟩ [⟨g1, .cells (av 4 (ls [.string ya, .string yb, .string ye, .string yf])) 23⟩, ⟨g2, .cells (av 4 (ls [.string wa, .string wb, .string we, .string wf])) 23⟩] w') n4 (exS M) ?_ ?_
 ·intro j a u0 hj hI
  obtain ⟨v1, rfl, M⟩ := hI
  have hBj := hB j hj
  refine wp_seq <| sR <| rV 3 ?_
  refine ZT 25 ((j : Int) < (n4 : Int)) ?_
  refine rV 2 ?_
  by_cases c0 : 4096 < ((tot Y j : Nat) : Int)
  ·refine pl_val (want_on 4 true rfl 26 rfl (by kernel_rfl)) (some 28) rfl (.bool false) (fun w => Eq.trans (b := .ok (.value (.bool (decide (((tot Y j : Nat) : Int) ≤ 4096)))) w) (by kernel_rfl) (by rw [decide_eq_false (by omega)])) ?_
   refine rV 1 <| nT <| cF ?_
   refine wp_exit ?_
   refine au_then_exit ?_
   refine au_then_exit ?_
   refine au_block_exit ?_
   refine au_then <| wp_seq <| sR <| rV 1 ?_
   refine pH 41 (.bool true) (jT (4096 < ((tot Y j : Nat) : Int)) (c0)) ?_
   refine rV 53 <| nT <| cT <| sR ?_
   refine ZC M 95 (fun w M => c_speaks w M.laid) fun u3 M => ?_
   refine rV 1 <| nT <| wp_ret <| au_then_ret ?_
   exact b1 M
  ·refine pl_val (want_on 4 true rfl 26 rfl (by kernel_rfl)) (some 28) rfl (.bool true) (fun w => Eq.trans (b := .ok (.value (.bool (decide (((tot Y j : Nat) : Int) ≤ 4096)))) w) (by kernel_rfl) (by rw [decide_eq_true (by omega)])) ?_
   refine rV 1 <| nT <| cT <| wp_skip <| au_then ?_
   refine wp_seq ?_
   refine wp_block ?_
   refine rg_lit ?_
   refine rV 1 ?_
   refine pH 33 (.int .i64 (((tot Y j : Nat) : Int) + 8)) (fun w => Eq.trans (b := .ok (.value (.int .i64 (IntKind.wrap .i64 (((tot Y j : Nat) : Int) + 8)))) w) (by kernel_rfl) (by rw [wrap64 (by omega) (by omega)])) ?_
   refine rV 2 ?_
   refine pH 36 (.pointer (some ⟨b4, (o4 + j * 1), none⟩)) (run_ixK 48 9 1 Tryz.underlying48 inz9 _ _ rfl l4 b4 o4 n4 k4 (by kernel_rfl) (hl4 (by omega)) .i64 j (by kernel_rfl) (by omega)) ?_
   refine pE M 37 b4 (o4 + j * 1) (.string (Y j)) (fun w M => M.oldc (hY j (by omega)) (by simp)) ?_
   refine rV 1 ?_
   refine pH 39 (.int .i64 ((tot Y (j + 1) : Nat) : Int)) (fun w => Eq.trans (b := .ok (.value (.int .i64 (IntKind.wrap .i64 ((((tot Y j : Nat) : Int) + 8) + ((Y j).size : Int))))) w) (by kernel_rfl) (by rw [wrap64 (by omega) (by omega), tot_succ])) ?_
   refine rV 1 ?_
   refine pl_nil ?_
   refine au_block ?_
   refine au_then ?_
   refine rg_lit ?_
   refine rV 1 ?_
   refine pH 31 (.int .i64 ((j + 1 : Nat) : Int)) (fun w => Eq.trans (b := .ok (.value (.int .i64 (IntKind.wrap .i64 ((j : Int) + 1)))) w) (by kernel_rfl) (by rw [wrap64 (by omega) (by omega)]; rfl)) ?_
   refine rV 1 <| nT ?_
   exact exS M
 ·intro a u0 hI
  obtain ⟨v1, rfl, M⟩ := hI
  refine wp_seq <| sR <| rV 3 ?_
  refine ZF 25 ((n4 : Int) < (n4 : Int)) ?_
  refine rV 4 <| nT <| cF ?_
  refine wp_exit ?_
  refine au_then_exit ?_
  refine au_then_exit ?_
  refine au_block_exit ?_
  refine au_then <| wp_seq <| sR <| rV 1 ?_
  by_cases c0 : 4096 < ((tot Y n4 : Nat) : Int)
  ·refine pH 41 (.bool true) (jT (4096 < ((tot Y n4 : Nat) : Int)) (c0)) ?_
   refine rV 53 <| nT <| cT <| sR ?_
   refine ZC M 95 (fun w M => c_speaks w M.laid) fun u3 M => ?_
   refine rV 1 <| nT <| wp_ret <| au_then_ret ?_
   exact b1 M
  ·refine pH 41 (.bool false) (jF (4096 < ((tot Y n4 : Nat) : Int)) (c0)) ?_
   refine rV 3 ?_
   by_cases c1 : 20 < (n4 : Int)
   ·refine pl_val (want_on 2 false rfl 42 rfl (by kernel_rfl)) (some 45) rfl (.bool true) (fun w => Eq.trans (b := .ok (.value (.bool (decide (20 < (n4 : Int))))) w) (by kernel_rfl) (by rw [decide_eq_true (c1)])) ?_
    refine rV 49 <| nT <| cT <| sR ?_
    refine ZC M 95 (fun w M => c_speaks w M.laid) fun u3 M => ?_
    refine rV 1 <| nT <| wp_ret <| au_then_ret ?_
    exact b1 M
   ·refine pl_val (want_on 2 false rfl 42 rfl (by kernel_rfl)) (some 45) rfl (.bool false) (fun w => Eq.trans (b := .ok (.value (.bool (decide (20 < (n4 : Int))))) w) (by kernel_rfl) (by rw [decide_eq_false (c1)])) ?_
    refine rV 3 ?_
    refine pl_cell M (want_on 7 false rfl 47 rfl (by kernel_rfl)) (some 49) rfl 9 _ rfl g1 0 (by kernel_rfl) (.string ya) (fun _ => by kernel_rfl) (fun w M => M.cell 0 rfl (by decide) rfl) ?_
    refine rV 1 ?_
    by_cases c2 : (ya.size : Int) = 32
    ·refine pl_val (want_on 7 false rfl 47 rfl (by kernel_rfl)) (some 51) rfl (.bool false) (fun w => Eq.trans (b := .ok (.value (.bool (!(decide ((ya.size : Int) = 32))))) w) (by kernel_rfl) (by rw [decide_eq_true (c2)]; rfl)) ?_
     refine rV 3 ?_
     refine pl_cell M (want_on 13 false rfl 53 rfl (by kernel_rfl)) (some 55) rfl 9 _ rfl g1 1 (by kernel_rfl) (.string yb) (fun _ => by kernel_rfl) (fun w M => M.cell 0 rfl (by decide) rfl) ?_
     refine rV 1 ?_
     by_cases c3 : (yb.size : Int) = 32
     ·refine pl_val (want_on 13 false rfl 53 rfl (by kernel_rfl)) (some 57) rfl (.bool false) (fun w => Eq.trans (b := .ok (.value (.bool (!(decide ((yb.size : Int) = 32))))) w) (by kernel_rfl) (by rw [decide_eq_true (c3)]; rfl)) ?_
      refine rV 3 ?_
      refine pl_cell M (want_on 19 false rfl 59 rfl (by kernel_rfl)) (some 61) rfl 9 _ rfl g1 2 (by kernel_rfl) (.string ye) (fun _ => by kernel_rfl) (fun w M => M.cell 0 rfl (by decide) rfl) ?_
      refine rV 1 ?_
      by_cases c4 : (ye.size : Int) = 32
      ·refine pl_val (want_on 19 false rfl 59 rfl (by kernel_rfl)) (some 63) rfl (.bool false) (fun w => Eq.trans (b := .ok (.value (.bool (!(decide ((ye.size : Int) = 32))))) w) (by kernel_rfl) (by rw [decide_eq_true (c4)]; rfl)) ?_
       refine rV 3 ?_
       refine pl_cell M (want_on 25 false rfl 65 rfl (by kernel_rfl)) (some 67) rfl 9 _ rfl g1 3 (by kernel_rfl) (.string yf) (fun _ => by kernel_rfl) (fun w M => M.cell 0 rfl (by decide) rfl) ?_
       refine rV 1 ?_
       by_cases c5 : (yf.size : Int) = 32
       ·refine pl_val (want_on 25 false rfl 65 rfl (by kernel_rfl)) (some 69) rfl (.bool false) (fun w => Eq.trans (b := .ok (.value (.bool (!(decide ((yf.size : Int) = 32))))) w) (by kernel_rfl) (by rw [decide_eq_true (c5)]; rfl)) ?_
        refine rV 3 ?_
        refine pl_cell M (want_on 31 false rfl 71 rfl (by kernel_rfl)) (some 73) rfl 9 _ rfl g2 0 (by kernel_rfl) (.string wa) (fun _ => by kernel_rfl) (fun w M => M.cell 1 rfl (by decide) rfl) ?_
        refine rV 1 ?_
        by_cases c6 : (wa.size : Int) = 32
        ·refine pl_val (want_on 31 false rfl 71 rfl (by kernel_rfl)) (some 75) rfl (.bool false) (fun w => Eq.trans (b := .ok (.value (.bool (!(decide ((wa.size : Int) = 32))))) w) (by kernel_rfl) (by rw [decide_eq_true (c6)]; rfl)) ?_
         refine rV 3 ?_
         refine pl_cell M (want_on 37 false rfl 77 rfl (by kernel_rfl)) (some 79) rfl 9 _ rfl g2 1 (by kernel_rfl) (.string wb) (fun _ => by kernel_rfl) (fun w M => M.cell 1 rfl (by decide) rfl) ?_
         refine rV 1 ?_
         by_cases c7 : (wb.size : Int) = 32
         ·refine pl_val (want_on 37 false rfl 77 rfl (by kernel_rfl)) (some 81) rfl (.bool false) (fun w => Eq.trans (b := .ok (.value (.bool (!(decide ((wb.size : Int) = 32))))) w) (by kernel_rfl) (by rw [decide_eq_true (c7)]; rfl)) ?_
          refine rV 3 ?_
          refine pl_cell M (want_on 43 false rfl 83 rfl (by kernel_rfl)) (some 85) rfl 9 _ rfl g2 2 (by kernel_rfl) (.string we) (fun _ => by kernel_rfl) (fun w M => M.cell 1 rfl (by decide) rfl) ?_
          refine rV 1 ?_
          by_cases c8 : (we.size : Int) = 32
          ·refine pl_val (want_on 43 false rfl 83 rfl (by kernel_rfl)) (some 87) rfl (.bool false) (fun w => Eq.trans (b := .ok (.value (.bool (!(decide ((we.size : Int) = 32))))) w) (by kernel_rfl) (by rw [decide_eq_true (c8)]; rfl)) ?_
           refine rV 3 ?_
           refine pl_cell M (want_on 49 false rfl 89 rfl (by kernel_rfl)) (some 91) rfl 9 _ rfl g2 3 (by kernel_rfl) (.string wf) (fun _ => by kernel_rfl) (fun w M => M.cell 1 rfl (by decide) rfl) ?_
           refine rV 1 ?_
           by_cases c9 : (wf.size : Int) = 32
           ·refine pl_val (want_on 49 false rfl 89 rfl (by kernel_rfl)) (some 93) rfl (.bool false) (fun w => Eq.trans (b := .ok (.value (.bool (!(decide ((wf.size : Int) = 32))))) w) (by kernel_rfl) (by rw [decide_eq_true (c9)]; rfl)) ?_
            refine rV 1 <| nT <| cF <| wp_skip <| au_then ?_
            refine wp_seq ?_
            refine rg_held M [⟨g1, .cells (av 4 (ls [.string ya, .string yb, .string ye, .string yf])) 23⟩, ⟨g2, .cells (av 4 (ls [.string wa, .string wb, .string we, .string wf])) 23⟩] 7 rfl (by kernel_rfl) (by kernel_rfl) (fun _ _ d _ _ h => by cases d <;> exact h) fun u3 M => ?_
            replace M : Mem ⟨w, []⟩ [⟨g1, .cells (av 4 (ls [.string ya, .string yb, .string ye, .string yf])) 23⟩, ⟨g2, .cells (av 4 (ls [.string wa, .string wb, .string we, .string wf])) 23⟩] u3 := M
            refine hl_load M 0 rfl (by decide) (by kernel_rfl) (by kernel_rfl) (want_no rfl) (some 97) rfl 23 _ rfl 0 g1 0 (by kernel_rfl) 4 23 (ls [.string ya, .string yb, .string ye, .string yf]) rfl 4 (ls [.string ya, .string yb, .string ye, .string yf]) (fun j _ => by rw [Nat.zero_add]) (by decide) _ Tryz.underlying23 rfl inz23 ?_
            refine hl_one 1 (by decide) (by kernel_rfl) rfl ?_
            refine ZC M 98 (fun w M => c_limits w M.laid) fun u4 M => ?_
            refine nT ?_
            refine ⟨M, ?_⟩
            refine hl_one 2 (by decide) (by kernel_rfl) rfl ?_
            refine pl_callM M (want_no rfl) (some 99) rfl 6 #[.agg (av 4 (ls [.string ya, .string yb, .string ye, .string yf])), .agg (av 5 (ls [.int .u64 40, .int .u64 50, .int .u64 10, .int .u64 20, .int .i64 64]))] [⟨g1, .cells (av 4 (ls [.string ya, .string yb, .string ye, .string yf])) 23⟩, ⟨g2, .cells (av 4 (ls [.string wa, .string wb, .string we, .string wf])) 23⟩] [] [] (by simp only [List.append_assoc, List.cons_append, List.nil_append, List.append_nil]) (fun x : ((Nat × List Blk) × Nat × List Blk) × ByteArray × ByteArray => .tuple #[.pointer (some ⟨x.1.1.1, 0, none⟩), .pointer (some ⟨x.1.2.1, 0, none⟩)]) (fun x : ((Nat × List Blk) × Nat × List Blk) × ByteArray × ByteArray => x.1.2.2 ++ x.1.1.2) (fun x : ((Nat × List Blk) × Nat × List Blk) × ByteArray × ByteArray => (x.2.1.size = 32 ∧ x.2.2.size = 32) ∧ IsT x.1.1.1 (tsA x.2.1 x.2.2 0 []) x.1.1.2 ∧ IsT x.1.2.1 (tsB x.2.1 x.2.2 0 false []) x.1.2.2) (fun _ => by kernel_rfl) (fun w hL hT => c_shakenO (by omega) (by omega) (by omega) (by omega) w hL) ?_
            rintro ⟨⟨⟨pa, Tpa⟩, pb, Tpb⟩, KA, KB⟩ u5 ⟨⟨hKA, hKB⟩, Hpa, -⟩ M
            replace M : Mem ⟨w, []⟩ (⟨g1, .cells (av 4 (ls [.string ya, .string yb, .string ye, .string yf])) 23⟩ :: ⟨g2, .cells (av 4 (ls [.string wa, .string wb, .string we, .string wf])) 23⟩ :: (Tpb ++ Tpa)) u5 := by simpa only [List.append_assoc, List.cons_append, List.nil_append, List.append_nil] using M
            refine nT ?_
            refine ⟨(M.drop (.cons_cons _ (.cons_cons _ (List.nil_sublist _)))), ?_⟩
            refine qV (M.drop (.cons_cons _ (.cons_cons _ (List.nil_sublist _)))) 3 96 (.tuple #[.pointer (some ⟨pa, 0, none⟩), .pointer (some ⟨pb, 0, none⟩)]) ?_
            refine qV (M.drop (.cons_cons _ (.cons_cons _ (List.nil_sublist _)))) 4 100 (.pointer (some ⟨pa, 0, none⟩)) ?_
            refine qV (M.drop (.cons_cons _ (.cons_cons _ (List.nil_sublist _)))) 5 101 (.pointer (some ⟨pb, 0, none⟩)) ?_
            refine qV (M.drop (.cons_cons _ (.cons_cons _ (List.nil_sublist _)))) 6 9 (.pointer (some ⟨pa, 0, none⟩)) ?_
            refine hl_end (by kernel_rfl) (by kernel_rfl) rfl ?_
            refine rV 1 <| nT <| au_then <| wp_seq ?_
            refine rg_held M [⟨g1, .cells (av 4 (ls [.string ya, .string yb, .string ye, .string yf])) 23⟩, ⟨g2, .cells (av 4 (ls [.string wa, .string wb, .string we, .string wf])) 23⟩] 7 rfl (by kernel_rfl) (by kernel_rfl) (fun _ _ d _ _ h => by cases d <;> exact h) fun u6 M => ?_
            replace M : Mem ⟨w, []⟩ (⟨g1, .cells (av 4 (ls [.string ya, .string yb, .string ye, .string yf])) 23⟩ :: ⟨g2, .cells (av 4 (ls [.string wa, .string wb, .string we, .string wf])) 23⟩ :: (Tpb ++ Tpa)) u6 := M
            refine hl_load (M.drop (.cons_cons _ (.cons_cons _ (List.nil_sublist _)))) 0 rfl (by decide) (by kernel_rfl) (by kernel_rfl) (want_no rfl) (some 103) rfl 23 _ rfl 1 g2 0 (by kernel_rfl) 4 23 (ls [.string wa, .string wb, .string we, .string wf]) rfl 4 (ls [.string wa, .string wb, .string we, .string wf]) (fun j _ => by rw [Nat.zero_add]) (by decide) _ Tryz.underlying23 rfl inz23 ?_
            refine hl_one 1 (by decide) (by kernel_rfl) rfl ?_
            refine ZC M 104 (fun w M => c_limits w M.laid) fun u7 M => ?_
            refine nT ?_
            refine ⟨(M.drop (.cons_cons _ (.cons_cons _ (List.nil_sublist _)))), ?_⟩
            refine hl_one 2 (by decide) (by kernel_rfl) rfl ?_
            refine pl_callM M (want_no rfl) (some 105) rfl 6 #[.agg (av 4 (ls [.string wa, .string wb, .string we, .string wf])), .agg (av 5 (ls [.int .u64 40, .int .u64 50, .int .u64 10, .int .u64 20, .int .i64 64]))] [⟨g1, .cells (av 4 (ls [.string ya, .string yb, .string ye, .string yf])) 23⟩, ⟨g2, .cells (av 4 (ls [.string wa, .string wb, .string we, .string wf])) 23⟩] [] ((Tpb ++ Tpa)) (by simp only [List.append_assoc, List.cons_append, List.nil_append, List.append_nil]) (fun x : ((Nat × List Blk) × Nat × List Blk) × ByteArray × ByteArray => .tuple #[.pointer (some ⟨x.1.1.1, 0, none⟩), .pointer (some ⟨x.1.2.1, 0, none⟩)]) (fun x : ((Nat × List Blk) × Nat × List Blk) × ByteArray × ByteArray => x.1.2.2 ++ x.1.1.2) (fun x : ((Nat × List Blk) × Nat × List Blk) × ByteArray × ByteArray => ((x.2.1 = hkA wa wb we wf ∧ x.2.1.size = 32) ∧ x.2.2.size = 32) ∧ IsT x.1.2.1 (tsB x.2.1 x.2.2 0 false []) x.1.2.2) (fun _ => by kernel_rfl) (fun w hL hT => c_shakenD (by omega) (by omega) (by omega) (by omega) w hL) ?_
            rintro ⟨⟨⟨pc, Tpc⟩, pd, Tpd⟩, RV, SV⟩ u8 ⟨⟨⟨hRVe, hRV⟩, hSV⟩, Hpd⟩ M
            replace M : Mem ⟨w, []⟩ (⟨g1, .cells (av 4 (ls [.string ya, .string yb, .string ye, .string yf])) 23⟩ :: ⟨g2, .cells (av 4 (ls [.string wa, .string wb, .string we, .string wf])) 23⟩ :: (Tpd ++ (Tpc ++ (Tpb ++ Tpa)))) u8 := by simpa only [List.append_assoc, List.cons_append, List.nil_append, List.append_nil] using M
            refine nT ?_
            refine ⟨(M.drop (.cons_cons _ (.cons_cons _ (List.nil_sublist _)))), ?_⟩
            refine qV (M.drop (.cons_cons _ (.cons_cons _ (List.nil_sublist _)))) 3 102 (.tuple #[.pointer (some ⟨pc, 0, none⟩), .pointer (some ⟨pd, 0, none⟩)]) ?_
            refine qV (M.drop (.cons_cons _ (.cons_cons _ (List.nil_sublist _)))) 4 106 (.pointer (some ⟨pc, 0, none⟩)) ?_
            refine qV (M.drop (.cons_cons _ (.cons_cons _ (List.nil_sublist _)))) 5 107 (.pointer (some ⟨pd, 0, none⟩)) ?_
            refine qV (M.drop (.cons_cons _ (.cons_cons _ (List.nil_sublist _)))) 6 11 (.pointer (some ⟨pc, 0, none⟩)) ?_
            refine hl_end (by kernel_rfl) (by kernel_rfl) rfl ?_
            refine rV 1 <| nT <| au_then <| wp_seq <| sq ?_
            refine cF <| wp_skip <| au_then <| sR ?_
            refine pA M 114 1 4 (ls [.string wa, .string wb, .string we, .string wf]) ?_
            refine pC M 115 11 #[.agg (av 4 (ls [.string wa, .string wb, .string we, .string wf]))] (.string RV) (fun w M => by rw [show RV = hkA wa wb we wf from hRVe]; exact c_received (by omega) (by omega) (by omega) (by omega) w M.laid) fun u9 M => ?_
            refine rV 1 <| nT <| wp_seq <| sq ?_
            refine wp_block ?_
            refine au_loop (fun j a w' => ∃ (v2 : NV) (Ta Td : List Blk), a = (fm ([.agg (av 4 (ls [.string ya, .string yb, .string ye, .string yf])), .agg (av 4 (ls [.string wa, .string wb, .string we, .string wf])), .slice l4 n4 k4, .pointer (some ⟨g1, 0, none⟩), .pointer (some ⟨g2, 0, none⟩), undef, v2 6, .int .i64 ((tot Y n4 : Nat) : Int), .int .i64 (n4 : Int), .pointer (some ⟨pa, 0, none⟩), .pointer (some ⟨pb, 0, none⟩), .pointer (some ⟨pc, 0, none⟩), .pointer (some ⟨pd, 0, none⟩), .string RV, .int .i64 (j : Int)] ++ vr v2 15 7 ++ [.int .i64 (n4 : Int), .slice l4 n4 k4, .int .i64 (n4 : Int), .bool false, .bool false, undef, undef, .bool false] ++ vr v1 30 10 ++ [.int .i64 ((tot Y n4 : Nat) : Int), .bool false, .bool false, .slice l4 n4 k4, .int .i64 (n4 : Int), .bool false, .bool false, .bool false, .pointer (some ⟨g1, 0, none⟩), .string ya, .int .i64 (ya.size : Int), .bool false, .bool false, .bool false, .pointer (some ⟨g1, 1, none⟩), .string yb, .int .i64 (yb.size : Int), .bool false, .bool false, .bool false, .pointer (some ⟨g1, 2, none⟩), .string ye, .int .i64 (ye.size : Int), .bool false, .bool false, .bool false, .pointer (some ⟨g1, 3, none⟩), .string yf, .int .i64 (yf.size : Int), .bool false, .bool false, .bool false, .pointer (some ⟨g2, 0, none⟩), .string wa, .int .i64 (wa.size : Int), .bool false, .bool false, .bool false, .pointer (some ⟨g2, 1, none⟩), .string wb, .int .i64 (wb.size : Int), .bool false, .bool false, .bool false, .pointer (some ⟨g2, 2, none⟩), .string we, .int .i64 (we.size : Int), .bool false, .bool false, .bool false, .pointer (some ⟨g2, 3, none⟩), .string wf, .int .i64 (wf.size : Int), .bool false, .bool false, undef, .tuple #[.pointer (some ⟨pa, 0, none⟩), .pointer (some ⟨pb, 0, none⟩)], .agg (av 4 (ls [.string ya, .string yb, .string ye, .string yf])), .agg (av 5 (ls [.int .u64 40, .int .u64 50, .int .u64 10, .int .u64 20, .int .i64 64])), .tuple #[.pointer (some ⟨pa, 0, none⟩), .pointer (some ⟨pb, 0, none⟩)], .pointer (some ⟨pa, 0, none⟩), .pointer (some ⟨pb, 0, none⟩), .tuple #[.pointer (some ⟨pc, 0, none⟩), .pointer (some ⟨pd, 0, none⟩)], .agg (av 4 (ls [.string wa, .string wb, .string we, .string wf])), .agg (av 5 (ls [.int .u64 40, .int .u64 50, .int .u64 10, .int .u64 20, .int .i64 64])), .tuple #[.pointer (some ⟨pc, 0, none⟩), .pointer (some ⟨pd, 0, none⟩)], .pointer (some ⟨pc, 0, none⟩), .pointer (some ⟨pd, 0, none⟩), .pointer (some ⟨pa, 0, none⟩), .bool false, .bool false, .pointer (some ⟨pd, 0, none⟩), .bool false, .bool false, .agg (av 4 (ls [.string wa, .string wb, .string we, .string wf])), .string RV] ++ vr v2 116 42 ++ [undef])) ∧ Mem ⟨w, []⟩ ((Td ++ (Tpc ++ (Tpb ++ Ta)))) w' ∧ (IsT pa (tsA KA KB j []) Ta) ∧ (IsT pd (tsB RV SV 0 false []) Td)) n4 ⟨fun k_ => ([.bool false, undef, undef, undef, undef, undef, undef, undef, undef, undef, undef, undef, undef, undef, undef, undef, undef, undef, undef, undef, undef, undef, undef, undef, undef, undef, undef, undef, undef, undef, undef, undef, undef, undef, undef, undef, undef, undef, undef, undef, undef, undef, undef, undef, undef, undef, undef, undef, undef, undef, undef, undef, undef, undef, undef, undef, undef, undef, undef, undef, undef, undef, undef, undef, undef, undef, undef, undef, undef, undef, undef, undef, undef, undef, undef, undef, undef, undef, undef, undef, undef, undef, undef, undef, undef, undef, undef, undef, undef, undef, undef, undef, undef, undef, undef, undef, undef, undef, undef, undef, undef, undef, undef, undef, undef, undef, undef, undef, undef, undef, undef, undef, undef, undef, undef, undef, undef, undef, undef, undef, undef, undef, undef, undef, undef, undef, undef, undef, undef, undef, undef, undef, undef, undef, undef, undef, undef, undef, undef, undef, undef, undef, undef, undef, undef, undef, undef, undef, undef, undef, undef, undef] : List Value).getD (k_ - 6) undef, Tpa, Tpd, by kernel_rfl, (M.drop (.cons _ (.cons _ (List.Sublist.refl _)))), Hpa, Hpd⟩ ?_ ?_
            ·intro j a u0 hj hI
             obtain ⟨v2, Ta, Td, rfl, M, Ha, Hd⟩ := hI
             have hsz := tot_ge Y n4 j hj
             refine wp_seq <| sR <| rV 3 ?_
             refine ZT 119 ((j : Int) < (n4 : Int)) ?_
             refine nT <| cT <| wp_skip <| au_then <| wp_seq ?_
             refine wp_block ?_
             refine sR <| rV 3 ?_
             refine pH 126 (.pointer (some ⟨b4, (o4 + j * 1), none⟩)) (run_ixK 48 9 1 Tryz.underlying48 inz9 _ _ rfl l4 b4 o4 n4 k4 (by kernel_rfl) (hl4 (by omega)) .i64 j (by kernel_rfl) (by omega)) ?_
             refine pE M 127 b4 (o4 + j * 1) (.string (Y j)) (fun w M => M.oldc (hY j (by omega)) (by simp)) ?_
             refine pl_callM M (want_no rfl) (some 128) rfl 8 #[.pointer (some ⟨pa, 0, none⟩), .int .u64 0, .string (Y j)] ((Td ++ (Tpc ++ Tpb))) (Ta) [] (by simp only [List.append_assoc, List.cons_append, List.nil_append, List.append_nil]) (fun T0 => .tuple #[.int .u64 (j : Int), .string (sealS KA (nS (j : Int)) ⟨#[]⟩ (Y j)), .int .i64 0]) (fun T0 => T0) (fun T0 => IsT pa (tsA KA KB (j + 1) []) T0) (fun _ => by kernel_rfl) (fun w hL hT => s_ok Ha (okS (by omega)) (by decide) hKA (show (0 : Nat) - 0 < 20 by decide) (show j < 50 by omega) rfl (by omega) w hL hT) ?_
             rintro Y1 u10 J1 M
             replace M : Mem ⟨w, []⟩ ((Td ++ (Tpc ++ (Tpb ++ Y1)))) u10 := by simpa only [List.append_assoc, List.cons_append, List.nil_append, List.append_nil] using M
             refine rV 7 ?_
             refine pl_nil ?_
             have hcs := sealS_size KA (nS (j : Int)) ⟨#[]⟩ (Y j)
             generalize sealS KA (nS (j : Int)) ⟨#[]⟩ (Y j) = cc at hcs ⊢
             refine au_then <| wp_seq <| sq <| cF <| wp_skip ?_
             refine au_then <| sR <| rV 2 ?_
             refine ZC M 137 (fun w M => d_Nonce (j : Int) w M.laid) fun u11 M => ?_
             refine rV 1 ?_
             refine ZC M 139 (fun w M => d_AOpen RV j cc hRV (by omega) w M.laid) fun u12 M => ?_
             refine rV 5 <| nT <| wp_seq <| sR <| rV 1 ?_
             by_cases c10 : (opZ RV j cc) = 0
             ·refine pH 143 (.bool true) (jT ((opZ RV j cc) = 0) (c10)) ?_
              refine nT <| cT <| sR ?_
              refine ZC M 144 (fun w M => c_speaks w M.laid) fun u13 M => ?_
              refine rV 1 <| nT <| wp_ret <| au_then_ret ?_
              refine au_block_ret ?_
              refine au_then_ret <| au_then_ret ?_
              refine au_block_ret ?_
              refine au_then_ret ?_
              exact b1 M
             ·refine pH 143 (.bool false) (jF ((opZ RV j cc) = 0) (c10)) ?_
              refine nT <| cF <| wp_skip <| au_then <| sR ?_
              refine rV 3 ?_
              refine pl_callM M (want_no rfl) (some 149) rfl 10 #[.pointer (some ⟨pd, 0, none⟩), .int .u64 0, .int .u64 (j : Int), .string cc] [] (Td) ((Tpc ++ (Tpb ++ Y1))) (by simp only [List.append_assoc, List.cons_append, List.nil_append, List.append_nil]) (fun T0 => .tuple #[.string ⟨#[]⟩, .int .i64 100]) (fun T0 => T0) (fun T0 => IsT pd (tsB RV SV 0 false []) T0) (fun _ => by kernel_rfl) (fun w hL hT => o_bad Hd (okS (by omega)) (by decide) (by omega) hSV hRV (show (0 : Nat) - 0 < 20 by decide) (show j < 50 by omega) rfl c10 (by omega) (by omega) w hL hT) ?_
              rintro Y2 u13 J2 M
              replace M : Mem ⟨w, []⟩ ((Y2 ++ (Tpc ++ (Tpb ++ Y1)))) u13 := by simpa only [List.append_assoc, List.cons_append, List.nil_append, List.append_nil] using M
              refine rV 5 <| nT <| sq <| cF <| wp_skip ?_
              refine au_block ?_
              refine au_then ?_
              refine rg_lit ?_
              refine rV 1 ?_
              refine pH 121 (.int .i64 ((j + 1 : Nat) : Int)) (fun w => Eq.trans (b := .ok (.value (.int .i64 (IntKind.wrap .i64 ((j : Int) + 1)))) w) (by kernel_rfl) (by rw [wrap64 (by omega) (by omega)]; rfl)) ?_
              refine rV 1 <| nT ?_
              exact ⟨fun k_ => ([v2 6, undef, undef, undef, undef, undef, undef, undef, undef, .int .u64 (j : Int), .string cc, .int .i64 0, .string (opC RV j cc), .int .i64 (opZ RV j cc), .string ⟨#[]⟩, .int .i64 100, undef, undef, undef, undef, undef, undef, undef, undef, undef, undef, undef, undef, undef, undef, undef, undef, undef, undef, undef, undef, undef, undef, undef, undef, undef, undef, undef, undef, undef, undef, undef, undef, undef, undef, undef, undef, undef, undef, undef, undef, undef, undef, undef, undef, undef, undef, undef, undef, undef, undef, undef, undef, undef, undef, undef, undef, undef, undef, undef, undef, undef, undef, undef, undef, undef, undef, undef, undef, undef, undef, undef, undef, undef, undef, undef, undef, undef, undef, undef, undef, undef, undef, undef, undef, undef, undef, undef, undef, undef, undef, undef, undef, undef, undef, .int .i64 (j : Int), .slice l4 n4 k4, .int .i64 (n4 : Int), .bool true, .int .i64 (j : Int), .int .i64 ((j + 1 : Nat) : Int), .tuple #[.int .u64 (j : Int), .string cc, .int .i64 0], .pointer (some ⟨pa, 0, none⟩), .slice l4 n4 k4, .int .i64 (j : Int), .pointer (some ⟨b4, (o4 + j * 1), none⟩), .string (Y j), .tuple #[.int .u64 (j : Int), .string cc, .int .i64 0], .int .u64 (j : Int), .string cc, .int .i64 0, .int .i64 0, .bool false, .tuple #[.string (opC RV j cc), .int .i64 (opZ RV j cc)], .string RV, .int .u64 (j : Int), .string (nS (j : Int)), .string cc, .tuple #[.string (opC RV j cc), .int .i64 (opZ RV j cc)], .string (opC RV j cc), .int .i64 (opZ RV j cc), .int .i64 (opZ RV j cc), .bool false, v2 144, .tuple #[.string ⟨#[]⟩, .int .i64 100], .pointer (some ⟨pd, 0, none⟩), .int .u64 (j : Int), .string cc, .tuple #[.string ⟨#[]⟩, .int .i64 100], .string ⟨#[]⟩, .int .i64 100, .int .i64 100, .bool false, .bool false, .string ⟨#[]⟩, .bool false, .bool false] : List Value).getD (k_ - 6) undef, Y1, Y2, by kernel_rfl, M, J1, J2⟩
            ·intro a u0 hI
             obtain ⟨v2, Ta, Td, rfl, M, Ha, Hd⟩ := hI
             refine wp_seq <| sR <| rV 3 ?_
             refine ZF 119 ((n4 : Int) < (n4 : Int)) ?_
             refine nT <| cF ?_
             refine wp_exit ?_
             refine au_then_exit ?_
             refine au_then_exit ?_
             refine au_block_exit ?_
             refine au_then <| sR ?_
             refine ZC M 158 (fun w M => c_speaks w M.laid) fun u10 M => ?_
             refine rV 1 <| nT <| wp_ret ?_
             exact b1 M
           ·refine pl_val (want_on 49 false rfl 89 rfl (by kernel_rfl)) (some 93) rfl (.bool true) (fun w => Eq.trans (b := .ok (.value (.bool (!(decide ((wf.size : Int) = 32))))) w) (by kernel_rfl) (by rw [decide_eq_false (c9)]; rfl)) ?_
            refine rV 1 <| nT <| cT <| sR ?_
            refine ZC M 95 (fun w M => c_speaks w M.laid) fun u3 M => ?_
            refine rV 1 <| nT <| wp_ret <| au_then_ret ?_
            exact b1 M
          ·refine pl_val (want_on 43 false rfl 83 rfl (by kernel_rfl)) (some 87) rfl (.bool true) (fun w => Eq.trans (b := .ok (.value (.bool (!(decide ((we.size : Int) = 32))))) w) (by kernel_rfl) (by rw [decide_eq_false (c8)]; rfl)) ?_
           refine rV 7 <| nT <| cT <| sR ?_
           refine ZC M 95 (fun w M => c_speaks w M.laid) fun u3 M => ?_
           refine rV 1 <| nT <| wp_ret <| au_then_ret ?_
           exact b1 M
         ·refine pl_val (want_on 37 false rfl 77 rfl (by kernel_rfl)) (some 81) rfl (.bool true) (fun w => Eq.trans (b := .ok (.value (.bool (!(decide ((wb.size : Int) = 32))))) w) (by kernel_rfl) (by rw [decide_eq_false (c7)]; rfl)) ?_
          refine rV 13 <| nT <| cT <| sR ?_
          refine ZC M 95 (fun w M => c_speaks w M.laid) fun u3 M => ?_
          refine rV 1 <| nT <| wp_ret <| au_then_ret ?_
          exact b1 M
        ·refine pl_val (want_on 31 false rfl 71 rfl (by kernel_rfl)) (some 75) rfl (.bool true) (fun w => Eq.trans (b := .ok (.value (.bool (!(decide ((wa.size : Int) = 32))))) w) (by kernel_rfl) (by rw [decide_eq_false (c6)]; rfl)) ?_
         refine rV 19 <| nT <| cT <| sR ?_
         refine ZC M 95 (fun w M => c_speaks w M.laid) fun u3 M => ?_
         refine rV 1 <| nT <| wp_ret <| au_then_ret ?_
         exact b1 M
       ·refine pl_val (want_on 25 false rfl 65 rfl (by kernel_rfl)) (some 69) rfl (.bool true) (fun w => Eq.trans (b := .ok (.value (.bool (!(decide ((yf.size : Int) = 32))))) w) (by kernel_rfl) (by rw [decide_eq_false (c5)]; rfl)) ?_
        refine rV 25 <| nT <| cT <| sR ?_
        refine ZC M 95 (fun w M => c_speaks w M.laid) fun u3 M => ?_
        refine rV 1 <| nT <| wp_ret <| au_then_ret ?_
        exact b1 M
      ·refine pl_val (want_on 19 false rfl 59 rfl (by kernel_rfl)) (some 63) rfl (.bool true) (fun w => Eq.trans (b := .ok (.value (.bool (!(decide ((ye.size : Int) = 32))))) w) (by kernel_rfl) (by rw [decide_eq_false (c4)]; rfl)) ?_
       refine rV 31 <| nT <| cT <| sR ?_
       refine ZC M 95 (fun w M => c_speaks w M.laid) fun u3 M => ?_
       refine rV 1 <| nT <| wp_ret <| au_then_ret ?_
       exact b1 M
     ·refine pl_val (want_on 13 false rfl 53 rfl (by kernel_rfl)) (some 57) rfl (.bool true) (fun w => Eq.trans (b := .ok (.value (.bool (!(decide ((yb.size : Int) = 32))))) w) (by kernel_rfl) (by rw [decide_eq_false (c3)]; rfl)) ?_
      refine rV 37 <| nT <| cT <| sR ?_
      refine ZC M 95 (fun w M => c_speaks w M.laid) fun u3 M => ?_
      refine rV 1 <| nT <| wp_ret <| au_then_ret ?_
      exact b1 M
    ·refine pl_val (want_on 7 false rfl 47 rfl (by kernel_rfl)) (some 51) rfl (.bool true) (fun w => Eq.trans (b := .ok (.value (.bool (!(decide ((ya.size : Int) = 32))))) w) (by kernel_rfl) (by rw [decide_eq_false (c2)]; rfl)) ?_
     refine rV 43 <| nT <| cT <| sR ?_
     refine ZC M 95 (fun w M => c_speaks w M.laid) fun u3 M => ?_
     refine rV 1 <| nT <| wp_ret <| au_then_ret ?_
     exact b1 M
open Go.ChangeShapes Go.WideShapes Go.ChangeAt Go.RowKit Go.Deep
theorem laidOut : laidOutB Tryz.prog = true := by kernel_rfl
theorem ownNone : ownKnob Tryz.prog.godebug = none := by kernel_rfl
section
variable {W : World} {b0 : Nat} {v : Value}
theorem cell_str (h : Cell.okWide Tryz.prog W .any b0 9 v) : ∃ s, v = .string s := by
 simp only [Cell.okWide, Tryz.underlying9] at h
 cases v <;> simp_all [Cell.ok, Tryz.underlying9]
theorem row_av (cs : Array Value) (l : List Value) (hs : cs.size = l.length) (h : ∀ i, i < l.length → cs[i]? = l[i]?) : cs = av l.length (ls l) := by
 apply Array.ext_getElem?
 intro i
 by_cases hi : i < l.length
 ·rw [h i hi, av_get _ _ _ hi]
  unfold ls
  rw [getD_app, List.getElem?_eq_getElem hi]
  rfl
 ·rw [Array.getElem?_eq_none (by omega), Array.getElem?_eq_none (by rw [av_size]; omega)]
end
theorem row_cells {W : World} {b0 : Nat} {t : TypeId} {v : Value} {fs : Array Field} {ts : List TypeId} (ht : Tryz.prog.underlying t = some (.struct fs)) (hc : Tryz.prog.cellTypes Tryz.prog.depth t = some ts) (hn : Tryz.prog.cellsOf t = ts.length) (h : Value.okWide Tryz.prog W .any b0 t v) : ∃ cs, v = .agg cs ∧ cs.size = ts.length ∧ ∀ (i : Nat) (u : TypeId), ts[i]? = some u → ∃ x, cs[i]? = some x ∧ Cell.okWide Tryz.prog W .any b0 u x := by
 simp only [Value.okWide, ht] at h
 obtain ⟨cs, rfl, h2, ts2, h3, _, h4⟩ := h
 rw [hc] at h3
 cases h3
 refine ⟨cs, rfl, by omega, fun i u hu => ?_⟩
 have hi := (List.getElem?_eq_some_iff.1 hu).1
 obtain ⟨u2, hu2, hx⟩ := h4 i cs[i] (Array.getElem?_eq_getElem (by omega))
 rw [Nat.mod_eq_of_lt hi, hu] at hu2
 cases hu2
 exact ⟨cs[i], Array.getElem?_eq_getElem (by omega), hx⟩
theorem wt_cons {H : Type} (P : Program) (t : TypeId) (ts : List TypeId) (d : DataW H) (r : List (DataW H)) (h : (DataW.weightsEach P (t :: ts) (d :: r)).all (· ≤ reachBytes) = true) : (d.weights P t).all (· ≤ reachBytes) = true ∧ (DataW.weightsEach P ts r).all (· ≤ reachBytes) = true := by
 simp only [DataW.weightsEach, List.all_append, Bool.and_eq_true] at h
 exact h
theorem wt_all {H : Type} (P : Program) (e : TypeId) : ∀ (l : List (DataW H)), (DataW.weightsAll P e l).all (· ≤ reachBytes) = true → ∀ d ∈ l, (d.weights P e).all (· ≤ reachBytes) = true
 | [], _, d, hd => by cases hd
 | x :: l, h, d, hd => by
  simp only [DataW.weightsAll, List.all_append, Bool.and_eq_true] at h
  rcases List.mem_cons.1 hd with rfl | hd
  ·exact h.1
  ·exact wt_all P e l h.2 d hd
theorem wt_text {H : Type} (P : Program) (t : TypeId) (s : Yb) (h : ((DataW.lit (.string s.data.toList) : DataW H).weights P t).all (· ≤ reachBytes) = true) : s.size ≤ 140737488351232 := by
 simp only [DataW.weights, List.all_cons, List.all_nil, Bool.and_true, reachBytes] at h
 have h1 := of_decide_eq_true h
 have e : s.data.toList.length = s.size := rfl
 omega
section
variable {H : Type} {enc : TypeId × Value → H}
theorem open_rows {T e : TypeId} {K : Nat} {W : World} {b0 : Nat} {v : Value} {d : DataW H} {p : List MemPlace} (ht : Tryz.prog.underlying T = some (.slice e)) (hK : Tryz.prog.cellsOf e = K) (h0 : 0 < K) (hval : Value.okWide Tryz.prog W .any b0 T v) (h : DataW.Trod enc Tryz.prog W 0 (fun _ => true) true T v d p) (hw : (d.weights Tryz.prog T).all (· ≤ reachBytes) = true) :
  ∃ (l : Option Addr) (b o len cap n : Nat) (C : Nat → List Value) (D : Nat → DataW H), v = .slice l len cap ∧ len ≤ 9223372036854775807 ∧ (0 < len → l = some ⟨b, o, none⟩) ∧ ∀ j, j < len → (C j).length = K ∧ (∀ i x, (C j)[i]? = some x → W.cell? ⟨b, o + j * K + i, none⟩ = some x) ∧ (∃ q, DataW.trod enc Tryz.prog W 0 (fun _ => true) true n e (C j) = some (D j, q)) ∧ ((D j).weights Tryz.prog e).all (· ≤ reachBytes) = true := by
 obtain ⟨l, len, cap, rfl⟩ := okWide_slice ht hval
 obtain ⟨n, h⟩ := h
 rcases open_slice ht h with ⟨hc, hx⟩ | ⟨a, len', cap', m, k, D, Pl, hc, _, hl, hm, hmm, hx, hall⟩
 ·simp [Value.cells] at hc
  obtain ⟨rfl, rfl, rfl⟩ := hc
  exact ⟨none, 0, 0, 0, 0, 0, fun _ => [], fun _ => .nil, rfl, by omega, fun h => by omega, fun j h => by omega⟩
 ·simp [Value.cells] at hc
  obtain ⟨rfl, rfl, rfl⟩ := hc
  simp only [if_true] at hmm
  subst hmm
  rw [hK] at hall
  obtain ⟨C, hC⟩ := choose_lt (p := fun i cs' => W.cells? 0 (a.add (i * K)) K = some cs' ∧ DataW.trod enc Tryz.prog W 0 (fun _ => true) true k e cs' = some (D i, Pl i)) hall
  obtain ⟨b, o, spot⟩ := a
  have hspot : 0 < len → spot = none := fun h1 => by
   obtain ⟨_, h3, h4⟩ := World.cells?_some (hC 0 (by omega)).1
   have h5 := h4 0 h0
   rw [List.getElem?_eq_getElem (by omega)] at h5
   simpa [Addr.add] using World.cell?_spot h5
  have hml : maxLen = 9223372036854775807 := rfl
  have hd : d = .slice ((List.range len).map D) ((List.range (m - len)).map fun j => D (len + j)) := congrArg Prod.fst hx
  subst hd
  unfold DataW.weights at hw
  rw [ht] at hw
  simp only [List.all_cons, List.all_append, Bool.and_eq_true] at hw
  refine ⟨_, b, o, len, m, k, C, D, rfl, by omega, fun h1 => by rw [hspot h1], fun j hj => ?_⟩
  obtain ⟨h1, h2⟩ := hC j (by omega)
  obtain ⟨_, h3, h4⟩ := World.cells?_some h1
  refine ⟨h3, fun i x hi => ?_, ⟨_, h2⟩, wt_all _ _ _ hw.2.1 _ (List.mem_map.2 ⟨j, List.mem_range.2 hj, rfl⟩)⟩
  have h5 := h4 i (by have := (List.getElem?_eq_some_iff.1 hi).1; omega)
  rw [hspot (by omega), add_plain, add_plain, hi] at h5
  exact h5
theorem open_texts {T : TypeId} {W : World} {b0 : Nat} {v : Value} {d : DataW H} {p : List MemPlace} (ht : Tryz.prog.underlying T = some (.slice 9)) (hval : Value.okWide Tryz.prog W .any b0 T v) (h : DataW.Trod enc Tryz.prog W 0 (fun _ => true) true T v d p) (hw : (d.weights Tryz.prog T).all (· ≤ reachBytes) = true) :
  ∃ (l : Option Addr) (b o len cap : Nat) (Y : Nat → ByteArray), v = .slice l len cap ∧ len ≤ 9223372036854775807 ∧ (0 < len → l = some ⟨b, o, none⟩) ∧ (∀ j, j < len → W.cell? ⟨b, o + j * 1, none⟩ = some (.string (Y j))) ∧ ∀ j, j < len → (Y j).size ≤ 140737488351232 := by
 obtain ⟨l, b, o, len, cap, n, C, D, rfl, hm, hl, hC⟩ := open_rows ht (K := 1) (by kernel_rfl) (by decide) hval h hw
 have hs : ∀ i, i < len → ∃ s, C i = [.string s] ∧ s.size ≤ 140737488351232 := fun i hi => by
  obtain ⟨h1, h2, ⟨q, h3⟩, h4⟩ := hC i hi
  obtain ⟨s, e1, e2, _⟩ := DataW.trod_string Tryz.underlying9 h3
  have e3 : D i = .lit (.string s.data.toList) := congrArg Prod.fst e2
  rw [e3] at h4
  exact ⟨s, e1, wt_text _ _ s h4⟩
 obtain ⟨Y, hY⟩ := choose_lt hs
 exact ⟨l, b, o, len, cap, Y, rfl, hm, hl, fun j hj => (hC j hj).2.1 0 _ (by rw [(hY j hj).1]; rfl), fun j hj => (hY j hj).2⟩
end
open Go.ChangeShapes Go.WideShapes Go.ChangeAt Go.RowKit Go.Deep
theorem op_shake {W : World} {b0 : Nat} {v : Value} (h : Value.okWide Tryz.prog W .any b0 23 v) : ∃ (a b c d : Yb), v = .agg (av 4 (ls [.string a, .string b, .string c, .string d])) := by
 obtain ⟨cs, rfl, hs, hc⟩ := row_cells (ts := [9, 9, 9, 9]) Tryz.underlying23 (by kernel_rfl) (by kernel_rfl) h
 obtain ⟨x0, e0, o0⟩ := hc 0 9 rfl
 obtain ⟨y0, rfl⟩ := cell_str o0
 obtain ⟨x1, e1, o1⟩ := hc 1 9 rfl
 obtain ⟨y1, rfl⟩ := cell_str o1
 obtain ⟨x2, e2, o2⟩ := hc 2 9 rfl
 obtain ⟨y2, rfl⟩ := cell_str o2
 obtain ⟨x3, e3, o3⟩ := hc 3 9 rfl
 obtain ⟨y3, rfl⟩ := cell_str o3
 refine ⟨y0, y1, y2, y3, congrArg Value.agg (row_av cs [.string y0, .string y1, .string y2, .string y3] hs fun i hi => ?_)⟩
 rcases i with _ | _ | _ | _ | i
 ·exact e0
 ·exact e1
 ·exact e2
 ·exact e3
 ·exact absurd hi (by simp)
section
variable {H : Type} {enc : TypeId × Value → H}
end
end Go.Proofs.YtiahdbibeleakaaGreatDoor
