/- Part 13 of the walks and facts. -/
import Derived.Test.YtffimigpbcilbaaGreatDoorCrDef
import Derived.Test.YtffimigpbcilbaaGreatDoorCr12
set_option maxHeartbeats 16000000
set_option maxRecDepth 100000
namespace Go.Proofs.YtffimigpbcilbaaGreatDoor.Bla
open Go.RowKit
theorem d_ofb (s : Yb) (hs : s.size < 100000) (w : World) (hL : Laid w) : Cs 50 #[.string s] w (.string (blV 32 strE s)) := by
 rw [← doc_eq 32 (by decide) strE s hs (by decide)]
 exact d_of s hs w hL
def inF (K : Yb) (m : Int) : Nat → (Nat → Int)
 | 0 => fun _ => 0
 | j + 1 => upd (inF K m j) j (xb (bt K j) m)
theorem inF_eq (K : Yb) (m : Int) : ∀ j i, i < j → inF K m j i = xb (bt K i) m
 | 0, i, h => by omega
 | j + 1, i, h => by
  unfold inF upd
  by_cases e : i = j
  ·subst e
   rw [if_pos rfl]
  ·rw [if_neg e, inF_eq K m j i (by omega)]
theorem in_back (K : Yb) (m : Int) : bs ((List.range 64).map (inF K m 64)) = mk (bt K) m := by
 unfold mk
 refine congrArg bs <| List.map_congr_left fun i hi => ?_
 rw [inF_eq K m 64 i (List.mem_range.1 hi)]
theorem in_nn (K : Yb) (m : Int) : ∀ x ∈ (List.range 64).map (inF K m 64), 0 ≤ x ∧ x < 256 := fun x hx => by
 obtain ⟨i, hi, rfl⟩ := List.mem_map.1 hx
 rw [inF_eq K m 64 i (List.mem_range.1 hi)]
 exact xb_nn _ _
section
variable {ops : Array Oper} {rest : List Oper} {o : Oper} {a : Act} {w : World} {c : Ctx} {L : List Blk}
theorem run_back (M : Mem c L w) (x : Operand) (ho : o.op = .convert 61 9 x) (i g n cap : Nat) (hx : a.eval x = .slice (some ⟨g, 0, none⟩) n cap) (Z : Obj) (hi : L[i]? = some ⟨g, Z⟩) (l : List Int) (cp : Nat) (hs : SB Z cp (vs8 l)) (hn : l.length = n) (hf : ∀ x ∈ l, 0 ≤ x ∧ x < 256) : (execOp a.eval o).run Tryz.prog w = .ok (.value (.string (bs l))) w := by
 subst hn
 have hl : (l.map fun n => UInt8.ofNat n.toNat).length = l.length := by simp
 have h2 := run_convert_bytes_back (P := Tryz.prog) w 61 9 5 ⟨g, 0, none⟩ cap (l.map fun n => UInt8.ofNat n.toNat) Tryz.underlying61 Tryz.underlying5 Tryz.underlying9 (fun j hj => by
  rw [hl] at hj
  have hv : (vs8 l)[j]? = some (.int .u8 (l[j]'hj)) := by
   unfold vs8
   rw [List.getElem?_map, List.getElem?_eq_getElem hj]
   rfl
  rw [add_at, Nat.zero_add, hs.cell (M.get i hi) hv]
  have := hf _ (List.getElem_mem hj)
  simp
  omega)
 rw [hl] at h2
 unfold execOp
 simp only [ho, hx, Sem.run_bind, h2, Result.andThen_ok, Sem.run_pure]
 rfl
theorem k_back {W : World} {Q : Act → Prop} (M : Mem c L W) (hw : Region.wanted o (yielded ops a.tmps) = true) (d : Option Tmp) (hd : o.dst = d) (x : Operand) (ho : o.op = .convert 61 9 x) (i g n cap : Nat) (hx : a.eval x = .slice (some ⟨g, 0, none⟩) n cap) (Z : Obj) (hi : L[i]? = some ⟨g, Z⟩) (l : List Int) (cp : Nat) (hs : SB Z cp (vs8 l)) (hn : l.length = n) (hf : ∀ x ∈ l, 0 ≤ x ∧ x < 256) (t : Yb) (he : bs l = t)
  (h : KL Tryz.prog ops W Q rest (a.put d (.string t))) : KL Tryz.prog ops W Q (o :: rest) a :=
 k_any hw d hd _ (fun s => he ▸ run_back (M.keep s.keep) x ho i g n cap hx Z hi l cp hs hn hf) h
end
theorem cv8_id (j : Nat) (h : j < 256) : cv .u8 (j : Int) = (j : Int) := by
 show (j : Int) % 256 = _
 omega
def vtx (f : Nat → ByteArray) (n : Nat) : List Value := (List.range n).map fun i => .string (f i)
theorem vtx_length (f : Nat → ByteArray) (n : Nat) : (vtx f n).length = n := by simp [vtx]
theorem vtx_app (f : Nat → ByteArray) (n : Nat) : vtx f n ++ [.string (f n)] = vtx f (n + 1) := by simp [vtx, List.range_succ]
theorem vtx_get (f : Nat → ByteArray) (n i : Nat) (h : i < n) : (vtx f n)[i]? = some (.string (f i)) := by simp [vtx, h]
theorem d_hmacA (key s : Yb) (hs : s.size < 90000) (hkk : key.size < 100000) (hk : 64 < key.size) (w : World) (hL : Laid w)  : Cs 58 #[.string key, .string s] w (.string (hmV key s)) := by
 go_enter Tryz.func58, Tryz.ntmps58
 have M := Mem.start hL
 obtain ⟨K, hK⟩ : ∃ K, blV 32 strE key = K := ⟨_, rfl⟩
 refine sq <| wp_seq <| sR <| rV 2 <| ZT 11 ((64 : Int) < (key.size : Int)) <| nT <| cT <| rg_lit <| rV 1 <| pC M 13 50 #[.string key] (.string K) (fun w M => (by rw [← hK]; exact d_ofb key hkk w M.laid)) fun u1 M => rV 1 <| nT <| sR <| ZM M 14 (fun g1 => .slice (some ⟨g1, 0, none⟩) 64 64) (.cells (av 64 (w8 (fun _ => 0))) 5) fun g1 u2 M => rV 1 <| nT ?_
 refine sR <| ZM M 15 (fun g2 => .slice (some ⟨g2, 0, none⟩) 64 64) (.cells (av 64 (w8 (fun _ => 0))) 5) fun g2 u3 M => rV 1 <| nT <| wp_seq <| sq <| wp_block ?_
 refine au_loop (fun j a w' => ∃ v1 : NV, a = (fm ([.string K, .string s] ++ vr v1 2 2 ++ [.string ⟨#[]⟩, .slice (some ⟨g1, 0, none⟩) 64 64, .slice (some ⟨g2, 0, none⟩) 64 64, .int .i64 (j : Int)] ++ vr v1 8 38)) ∧ Mem ⟨w, []⟩ [⟨g1, .cells (av 64 (w8 (inF K 54 j))) 5⟩, ⟨g2, .cells (av 64 (w8 (inF K 92 j))) 5⟩] w') 64 (exS M) ?_ ?_
 ·intro j a u0 hj hI
  obtain ⟨v1, rfl, M⟩ := hI
  refine wp_seq <| sR <| rV 1 <| ZT 17 ((j : Int) < 64) <| nT <| cT <| wp_skip <| au_then <| wp_seq <| wp_block <| sq <| wp_seq <| wp_seq ?_
  by_cases hk2 : j < K.size
  ·refine rg_lit <| rV 3 <| ZT 23 ((j : Int) < (K.size : Int)) <| nT <| cT <| rg_lit <| rV 2 <| pH 26 (.int .u8 (bt K j)) (run_ixS 9 Tryz.underlying9 _ _ rfl K (by kernel_rfl) .i64 j (by kernel_rfl) hk2) <| rV 1 <| nT <| sR <| rV 4 <| pH 31 (.pointer (some ⟨g1, j, none⟩)) (run_ix0 61 5 Tryz.underlying61 inz5 _ _ rfl g1 64 64 (by kernel_rfl) .i64 j (by kernel_rfl) (by omega)) <| ZP8 M 0 j (xb (bt K j) 54) fun u4 M => nT <| rg_lit ?_
   refine rV 4 <| pH 36 (.pointer (some ⟨g2, j, none⟩)) (run_ix0 61 5 Tryz.underlying61 inz5 _ _ rfl g2 64 64 (by kernel_rfl) .i64 j (by kernel_rfl) (by omega)) <| ZP8 M 1 j (xb (bt K j) 92) fun u5 M => pl_nil <| au_block <| au_then <| rg_lit <| rV 1 <| ZI 19 ((j : Int) + 1) ((j + 1 : Nat) : Int) <| rV 1 <| nT ?_
   exact exS M
  ·refine rg_lit <| rV 3 <| ZF 23 ((j : Int) < (K.size : Int)) <| nT <| cF <| wp_skip <| au_then <| sR <| rV 3 <| zJ 30 (.int .u8 (xb (bt K j) 54)) (.int .u8 (xb 0 54)) (by rw [bt_out K j (by omega)]) <| pH 31 (.pointer (some ⟨g1, j, none⟩)) (run_ix0 61 5 Tryz.underlying61 inz5 _ _ rfl g1 64 64 (by kernel_rfl) .i64 j (by kernel_rfl) (by omega)) <| ZP8 M 0 j (xb (bt K j) 54) fun u6 M => nT <| rg_lit <| rV 3 <| zJ 35 (.int .u8 (xb (bt K j) 92)) (.int .u8 (xb 0 92)) (by rw [bt_out K j (by omega)]) ?_
   refine pH 36 (.pointer (some ⟨g2, j, none⟩)) (run_ix0 61 5 Tryz.underlying61 inz5 _ _ rfl g2 64 64 (by kernel_rfl) .i64 j (by kernel_rfl) (by omega)) <| ZP8 M 1 j (xb (bt K j) 92) fun u7 M => pl_nil <| au_block <| au_then <| rg_lit <| rV 1 <| ZI 19 ((j : Int) + 1) ((j + 1 : Nat) : Int) <| rV 1 <| nT ?_
   exact exS M
 ·intro a u0 hI
  obtain ⟨v1, rfl, M⟩ := hI
  refine wp_seq <| sR <| rV 1 <| ZF 17 ((64 : Int) < 64) <| nT <| cF <| wp_exit <| au_then_exit <| au_then_exit <| au_block_exit <| au_then <| wp_seq <| rg_tail M 9 (by kernel_rfl) (by kernel_rfl) ?_
  simp only [List.take_succ_cons, List.take_zero]
  refine kR 1 <| k_back M (want_no rfl) (some 38) rfl _ rfl 1 g2 64 64 (by kernel_rfl) _ rfl ((List.range 64).map (inF K 92 64)) 64 (sb_av 64 _ _) (by simp) (in_nn K 92) (mk (bt K) 92) (in_back K 92) <| kR 1 <| k_back M (want_no rfl) (some 40) rfl _ rfl 0 g1 64 64 (by kernel_rfl) _ rfl ((List.range 64).map (inF K 54 64)) 64 (sb_av 64 _ _) (by simp) (in_nn K 54) (mk (bt K) 54) (in_back K 54) <| kR 1 <| kH 42 (.string ((mk (bt K) 54) ++ s)) (run_cat 9 9 _ _ rfl (mk (bt K) 54) s (by kernel_rfl) (by kernel_rfl) (by rw [mk_size]; omega)) <| kC M 43 50 #[.string ((mk (bt K) 54) ++ s)] (.string (blV 32 strE ((mk (bt K) 54) ++ s))) (fun w M => d_ofb _ (by simp only [ByteArray.size_append, mk_size]; omega) w M.laid) <| kH 44 (.string ((mk (bt K) 92) ++ (blV 32 strE (mk (bt K) 54 ++ s)))) (run_cat 9 9 _ _ rfl (mk (bt K) 92) (blV 32 strE (mk (bt K) 54 ++ s)) (by kernel_rfl) (by kernel_rfl) (by rw [mk_size, bl_size]; omega)) <| kC M 45 50 #[.string ((mk (bt K) 92) ++ (blV 32 strE (mk (bt K) 54 ++ s)))] (.string (blV 32 strE ((mk (bt K) 92) ++ (blV 32 strE (mk (bt K) 54 ++ s))))) (fun w M => d_ofb _ (by simp only [ByteArray.size_append, mk_size, bl_size]; omega) w M.laid) <| kl_nil fun u8 M => rV 1 <| nT <| wp_ret ?_
  have e : hmV key s = (blV 32 strE ((mk (bt K) 92) ++ (blV 32 strE (mk (bt K) 54 ++ s)))) := by
   unfold hmV keyV
   rw [if_pos hk, hK]
   rfl
  rw [e]
  exact b1 M
theorem d_hmacB (key s : Yb) (hs : s.size < 90000) (_hkk : key.size < 100000) (hk : ¬ 64 < key.size) (w : World) (hL : Laid w)  : Cs 58 #[.string key, .string s] w (.string (hmV key s)) := by
 go_enter Tryz.func58, Tryz.ntmps58
 have M := Mem.start hL
 refine sq <| wp_seq <| sR <| rV 2 <| ZF 11 ((64 : Int) < (key.size : Int)) <| nT <| cF <| wp_skip <| au_then <| sR <| ZM M 14 (fun g1 => .slice (some ⟨g1, 0, none⟩) 64 64) (.cells (av 64 (w8 (fun _ => 0))) 5) fun g1 u1 M => rV 1 <| nT <| sR <| ZM M 15 (fun g2 => .slice (some ⟨g2, 0, none⟩) 64 64) (.cells (av 64 (w8 (fun _ => 0))) 5) fun g2 u2 M => rV 1 ?_
 refine nT <| wp_seq <| sq <| wp_block ?_
 refine au_loop (fun j a w' => ∃ v1 : NV, a = (fm ([.string key, .string s] ++ vr v1 2 2 ++ [.string ⟨#[]⟩, .slice (some ⟨g1, 0, none⟩) 64 64, .slice (some ⟨g2, 0, none⟩) 64 64, .int .i64 (j : Int)] ++ vr v1 8 38)) ∧ Mem ⟨w, []⟩ [⟨g1, .cells (av 64 (w8 (inF key 54 j))) 5⟩, ⟨g2, .cells (av 64 (w8 (inF key 92 j))) 5⟩] w') 64 (exS M) ?_ ?_
 ·intro j a u0 hj hI
  obtain ⟨v1, rfl, M⟩ := hI
  refine wp_seq <| sR <| rV 1 <| ZT 17 ((j : Int) < 64) <| nT <| cT <| wp_skip <| au_then <| wp_seq <| wp_block <| sq <| wp_seq <| wp_seq ?_
  by_cases hk2 : j < key.size
  ·refine rg_lit <| rV 3 <| ZT 23 ((j : Int) < (key.size : Int)) <| nT <| cT <| rg_lit <| rV 2 <| pH 26 (.int .u8 (bt key j)) (run_ixS 9 Tryz.underlying9 _ _ rfl key (by kernel_rfl) .i64 j (by kernel_rfl) hk2) <| rV 1 <| nT <| sR <| rV 4 <| pH 31 (.pointer (some ⟨g1, j, none⟩)) (run_ix0 61 5 Tryz.underlying61 inz5 _ _ rfl g1 64 64 (by kernel_rfl) .i64 j (by kernel_rfl) (by omega)) <| ZP8 M 0 j (xb (bt key j) 54) fun u3 M => nT <| rg_lit ?_
   refine rV 4 <| pH 36 (.pointer (some ⟨g2, j, none⟩)) (run_ix0 61 5 Tryz.underlying61 inz5 _ _ rfl g2 64 64 (by kernel_rfl) .i64 j (by kernel_rfl) (by omega)) <| ZP8 M 1 j (xb (bt key j) 92) fun u4 M => pl_nil <| au_block <| au_then <| rg_lit <| rV 1 <| ZI 19 ((j : Int) + 1) ((j + 1 : Nat) : Int) <| rV 1 <| nT ?_
   exact exS M
  ·refine rg_lit <| rV 3 <| ZF 23 ((j : Int) < (key.size : Int)) <| nT <| cF <| wp_skip <| au_then <| sR <| rV 3 <| zJ 30 (.int .u8 (xb (bt key j) 54)) (.int .u8 (xb 0 54)) (by rw [bt_out key j (by omega)]) <| pH 31 (.pointer (some ⟨g1, j, none⟩)) (run_ix0 61 5 Tryz.underlying61 inz5 _ _ rfl g1 64 64 (by kernel_rfl) .i64 j (by kernel_rfl) (by omega)) <| ZP8 M 0 j (xb (bt key j) 54) fun u5 M => nT <| rg_lit <| rV 3 <| zJ 35 (.int .u8 (xb (bt key j) 92)) (.int .u8 (xb 0 92)) (by rw [bt_out key j (by omega)]) ?_
   refine pH 36 (.pointer (some ⟨g2, j, none⟩)) (run_ix0 61 5 Tryz.underlying61 inz5 _ _ rfl g2 64 64 (by kernel_rfl) .i64 j (by kernel_rfl) (by omega)) <| ZP8 M 1 j (xb (bt key j) 92) fun u6 M => pl_nil <| au_block <| au_then <| rg_lit <| rV 1 <| ZI 19 ((j : Int) + 1) ((j + 1 : Nat) : Int) <| rV 1 <| nT ?_
   exact exS M
 ·intro a u0 hI
  obtain ⟨v1, rfl, M⟩ := hI
  refine wp_seq <| sR <| rV 1 <| ZF 17 ((64 : Int) < 64) <| nT <| cF <| wp_exit <| au_then_exit <| au_then_exit <| au_block_exit <| au_then <| wp_seq <| rg_tail M 9 (by kernel_rfl) (by kernel_rfl) ?_
  simp only [List.take_succ_cons, List.take_zero]
  refine kR 1 <| k_back M (want_no rfl) (some 38) rfl _ rfl 1 g2 64 64 (by kernel_rfl) _ rfl ((List.range 64).map (inF key 92 64)) 64 (sb_av 64 _ _) (by simp) (in_nn key 92) (mk (bt key) 92) (in_back key 92) <| kR 1 <| k_back M (want_no rfl) (some 40) rfl _ rfl 0 g1 64 64 (by kernel_rfl) _ rfl ((List.range 64).map (inF key 54 64)) 64 (sb_av 64 _ _) (by simp) (in_nn key 54) (mk (bt key) 54) (in_back key 54) <| kR 1 <| kH 42 (.string ((mk (bt key) 54) ++ s)) (run_cat 9 9 _ _ rfl (mk (bt key) 54) s (by kernel_rfl) (by kernel_rfl) (by rw [mk_size]; omega)) <| kC M 43 50 #[.string ((mk (bt key) 54) ++ s)] (.string (blV 32 strE ((mk (bt key) 54) ++ s))) (fun w M => d_ofb _ (by simp only [ByteArray.size_append, mk_size]; omega) w M.laid) <| kH 44 (.string ((mk (bt key) 92) ++ (blV 32 strE (mk (bt key) 54 ++ s)))) (run_cat 9 9 _ _ rfl (mk (bt key) 92) (blV 32 strE (mk (bt key) 54 ++ s)) (by kernel_rfl) (by kernel_rfl) (by rw [mk_size, bl_size]; omega)) <| kC M 45 50 #[.string ((mk (bt key) 92) ++ (blV 32 strE (mk (bt key) 54 ++ s)))] (.string (blV 32 strE ((mk (bt key) 92) ++ (blV 32 strE (mk (bt key) 54 ++ s))))) (fun w M => d_ofb _ (by simp only [ByteArray.size_append, mk_size, bl_size]; omega) w M.laid) <| kl_nil fun u7 M => rV 1 <| nT <| wp_ret ?_
  have e : hmV key s = (blV 32 strE ((mk (bt key) 92) ++ (blV 32 strE (mk (bt key) 54 ++ s)))) := by
   unfold hmV keyV
   rw [if_neg hk]
   rfl
  rw [e]
  exact b1 M
theorem d_hmac (key s : Yb) (hs : s.size < 90000) (hk : key.size < 100000) (w : World) (hL : Laid w) : Cs 58 #[.string key, .string s] w (.string (hmV key s)) := by
 by_cases h : 64 < key.size
 ·exact d_hmacA key s hs hk h w hL
 ·exact d_hmacB key s hs hk h w hL
theorem d_exp (key info : Yb) (hi : info.size < 10000) (hk : key.size < 100000) (n : Nat) (hn : n ≤ 8160) (w : World) (hL : Laid w)  : Cs 57 #[.string key, .string info, .int .i64 (n : Int)] w (.tuple #[.string (exV key info n), .int .i64 0]) := by
 go_enter Tryz.func57, Tryz.ntmps57
 have M := Mem.start hL
 obtain ⟨N, hN⟩ : ∃ N, N = (n + 31) / 32 := ⟨_, rfl⟩
 refine sq <| wp_seq <| sR <| rV 1 <| ZF 12 ((n : Int) < 0) <| rV 2 <| ZF 15 ((8160 : Int) < (n : Int)) <| rV 1 <| nT <| cF <| wp_skip <| au_then <| sq <| sq <| wp_seq <| sq ?_
 refine wp_block ?_
 refine au_loop (fun j a w' => ∃ v1 : NV, a = (fm ([.string key, .string info, .int .i64 (n : Int)] ++ vr v1 3 3 ++ [.string ⟨#[]⟩, .int .i64 0, .string (al (bt (keyV key)) info j), .string (tg (bt (keyV key)) info j), .int .i64 ((j + 1 : Nat) : Int)] ++ vr v1 11 28)) ∧ Mem ⟨w, []⟩ [] w') N (exS M) ?_ ?_
 ·intro j a u0 hj hI
  obtain ⟨v1, rfl, M⟩ := hI
  refine wp_seq <| sR <| rV 3 <| pH 20 (.bool true) (jT (((al (bt (keyV key)) info j).size : Int) < (n : Int)) (by rw [al_size]; omega)) <| nT <| cT <| wp_skip <| au_then <| wp_seq <| wp_block <| sR <| rV 3 ?_
  refine pH 26 (.string ((tg (bt (keyV key)) info j) ++ info)) (run_cat 9 9 _ _ rfl (tg (bt (keyV key)) info j) info (by kernel_rfl) (by kernel_rfl) (by have := tg_le (bt (keyV key)) info j; omega)) ?_
  refine rV 1 <| ZQ 28 .u8 (cv .u8 ((j + 1 : Nat) : Int)) (cv8_id _ (by omega)) <| ZM M 29 (fun g1 => .slice (some ⟨g1, 0, none⟩) 1 1) (.cells (av 1 (fun _ => .int .u8 ((j + 1 : Nat) : Int))) 5) fun g1 u1 M => pl_back M (want_no rfl) (some 30) rfl _ rfl 0 g1 1 1 (by kernel_rfl) _ rfl [((j + 1 : Nat) : Int)] 1 (sb_one _ _) rfl (by intro x hx; rw [List.mem_singleton.1 hx]; omega) ?_
  refine pH 31 (.string (((tg (bt (keyV key)) info j) ++ info) ++ (bs [((j + 1 : Nat) : Int)]))) (run_cat 9 9 _ _ rfl ((tg (bt (keyV key)) info j) ++ info) (bs [((j + 1 : Nat) : Int)]) (by kernel_rfl) (by kernel_rfl) (by rw [ByteArray.size_append, bs_size]; have := tg_le (bt (keyV key)) info j; simp; omega)) ?_
  refine pC M 32 58 #[.string key, .string (((tg (bt (keyV key)) info j) ++ info) ++ (bs [((j + 1 : Nat) : Int)]))] (.string (tg (bt (keyV key)) info (j + 1))) (fun w M => d_hmac key _ (by simp only [ByteArray.size_append, bs_size]; have := tg_le (bt (keyV key)) info j; simp; omega) hk w M.laid) fun u2 M => ?_
  refine rV 1 <| nT <| rg_lit <| rV 2 <| pH 35 (.string (al (bt (keyV key)) info (j + 1))) (run_cat 9 9 _ _ rfl (al (bt (keyV key)) info j) (tg (bt (keyV key)) info (j + 1)) (by kernel_rfl) (by kernel_rfl) (by rw [al_size, tg_size]; omega)) <| rV 1 <| pl_nil <| au_block <| au_then <| rg_lit <| rV 1 <| ZI 22 (((j + 1 : Nat) : Int) + 1) ((j + 1 + 1 : Nat) : Int) <| rV 1 <| nT ?_
  exact exS (M.drop (.cons _ (.slnil)))
 ·intro a u0 hI
  obtain ⟨v1, rfl, M⟩ := hI
  refine wp_seq <| sR <| rV 3 <| pH 20 (.bool false) (jF (((al (bt (keyV key)) info N).size : Int) < (n : Int)) (by rw [al_size]; omega)) <| nT <| cF <| wp_exit <| au_then_exit <| au_then_exit <| au_block_exit <| au_then <| sR <| rV 2 <| pH 38 (.string (exV key info n)) (run_strh 9 Tryz.underlying9 _ _ rfl (al (bt (keyV key)) info N) (by kernel_rfl) .i64 n (by kernel_rfl) (by rw [al_size]; omega) _ (by unfold exV; rw [hN])) <| rV 2 <| nT ?_
  refine wp_ret ?_
  exact b1 M
theorem d_ch (key s : Yb) (hs : s.size < 10000) (hk : key.size < 100000) (n : Nat) (h1 : 1 ≤ n) (h3 : n ≤ 3) (w : World) (hL : Laid w) : Calls Tryz.prog 36 #[.string key, .string s, .int .i64 (n : Int)] w fun r w' => ∃ g cap Y, r = .returned (.tuple #[.slice (some ⟨g, 0, none⟩) n cap, .int .i64 0]) ∧ w.heap.size ≤ g ∧ w'.heap[g]? = some Y ∧ SB Y cap (vtx (txt key s) n) ∧ Below w.heap.size w w' := by
 go_enter Tryz.func36, Tryz.ntmps36
 have M := Mem.start hL
 refine sq <| wp_seq <| sR <| rV 1 <| ZF 13 ((n : Int) < 1) <| rV 2 <| ZF 16 ((3 : Int) < (n : Int)) <| rV 1 <| nT <| cF <| wp_skip <| au_then <| sR <| rV 2 <| ZC M 21 (fun w M => d_hmac key s (by omega) hk w M.laid) fun u1 M => rV 1 ?_
 refine ZI 23 (32 * (n : Int)) ((n * 32 : Nat) : Int) <| ZC M 24 (fun w M => d_exp (hmV key s) strE (by decide) (by rw [hmV_size]; decide) (n * 32) (by omega) w M.laid) fun u2 M => rV 5 <| nT <| sq <| wp_seq <| sq <| wp_block ?_
 refine au_loop (fun j a w' => ∃ (v9 : NV) (sl : Value), a = (fm ([.string key, .string s, .int .i64 (n : Int)] ++ und 3 ++ [.slice none 0 0, .int .i64 0, .string (exV (hmV key s) strE (n * 32)), .int .i64 0, sl, .int .i64 (j : Int), .int .i64 (n : Int), .bool false, .bool false, .int .i64 (n : Int), .bool false, .bool false, .tuple #[.string (exV (hmV key s) strE (n * 32)), .int .i64 0], .string key, .string s, .string (hmV key s), .int .i64 (n : Int), .int .i64 ((n * 32 : Nat) : Int), .tuple #[.string (exV (hmV key s) strE (n * 32)), .int .i64 0], .string (exV (hmV key s) strE (n * 32)), .int .i64 0] ++ vr v9 27 15 ++ [undef])) ∧ ((j = 0 ∧ sl = .slice none 0 0 ∧ Mem ⟨w, []⟩ [] w') ∨ (∃ (gq capq : Nat) (Zq : Obj), sl = .slice (some ⟨gq, 0, none⟩) j capq ∧ SB Zq capq (vtx (txt key s) j) ∧ Mem ⟨w, []⟩ [⟨gq, Zq⟩] w'))) n (exS2 (.slice none 0 0) (.inl ⟨rfl, rfl, M⟩)) ?_ ?_
 ·intro j a u0 hj hI
  obtain ⟨v9, sl, rfl, hI⟩ := hI
  rcases hI with ⟨rfl, rfl, M⟩ | ⟨gq, capq, Zq, rfl, hZq, M⟩
  ·refine wp_seq <| sR <| rV 2 <| ZT 29 ((0 : Int) < (n : Int)) <| nT <| cT <| wp_skip <| au_then <| wp_seq <| wp_block <| rg_lit <| rV 7 <| pH 39 (.string (txt key s 0)) (fun w => Eq.trans (run_strlh 9 Tryz.underlying9 _ _ _ rfl (exV (hmV key s) strE (n * 32)) (by kernel_rfl) .i64 .i64 0 32 (by kernel_rfl) (by kernel_rfl) (by omega) (by rw [exV_size]; omega) w) (congrArg (fun z => Result.ok (Next.value (Value.string z)) w) (ex_cut key s n 0 (by omega)))) <| ZM M 40 (fun g1 => .slice (some ⟨g1, 0, none⟩) 1 1) (.cells (av 1 (fun _ => .string (txt key s 0))) 9) fun g1 u3 M => pl_app0 M (want_no rfl) (some 41) rfl 83 83 9 _ (.string ⟨#[]⟩) Tryz.underlying83 info9_eq info9_z (by kernel_rfl) (by decide +kernel) rfl 0 g1 9 (.string (txt key s 0)) rfl (fun _ => by kernel_rfl) ?_
   intro e1 c1 Y1 u4 hY1 M
   replace hY1 : SB Y1 c1 (vtx (txt key s) (0 + 1)) := hY1
   refine rV 1 <| pl_nil <| au_block <| au_then <| rg_lit <| rV 3 <| nT ?_
   exact exS2 _ (.inr ⟨e1, c1, Y1, rfl, hY1, M.drop (.cons _ (.cons_cons _ (.slnil)))⟩)
  ·refine wp_seq <| sR <| rV 2 <| ZT 29 ((j : Int) < (n : Int)) <| nT <| cT <| wp_skip <| au_then <| wp_seq <| wp_block <| rg_lit <| rV 3 <| ZI 35 (32 * (j : Int)) ((j * 32 : Nat) : Int) <| rV 1 <| ZI 37 (32 * (j : Int)) ((j * 32 : Nat) : Int) <| ZI 38 (((j * 32 : Nat) : Int) + 32) (((j + 1) * 32 : Nat) : Int) ?_
   refine pH 39 (.string (txt key s j)) (fun w => Eq.trans (run_strlh 9 Tryz.underlying9 _ _ _ rfl (exV (hmV key s) strE (n * 32)) (by kernel_rfl) .i64 .i64 (j * 32) ((j + 1) * 32) (by kernel_rfl) (by kernel_rfl) (by omega) (by rw [exV_size]; omega) w) (congrArg (fun z => Result.ok (Next.value (Value.string z)) w) (ex_cut key s n j (by omega)))) <| ZM M 40 (fun g2 => .slice (some ⟨g2, 0, none⟩) 1 1) (.cells (av 1 (fun _ => .string (txt key s j))) 9) fun g2 u5 M => pl_app M (want_no rfl) (some 41) rfl 83 83 9 _ (.string ⟨#[]⟩) Tryz.underlying83 info9_eq info9_z (by kernel_rfl) (by decide +kernel) rfl 0 gq (j) capq Zq (vtx (txt key s) j) rfl hZq (vtx_length _ _) (by omega) 1 g2 9 (.string (txt key s j)) rfl rfl (fun _ => by kernel_rfl) ?_
   intro e2 c2 Y2 u6 hY2 M
   rw [vtx_app] at hY2
   refine rV 1 <| pl_nil <| au_block <| au_then <| rg_lit <| rV 1 <| ZI 31 ((j : Int) + 1) ((j + 1 : Nat) : Int) <| rV 1 <| nT ?_
   exact exS2 _ (.inr ⟨e2, c2, Y2, rfl, hY2, M.drop (.cons _ (.cons_cons _ (.slnil)))⟩)
 ·intro a u0 hI
  obtain ⟨v9, sl, rfl, hI⟩ := hI
  rcases hI with ⟨h, _⟩ | ⟨gq, capq, Zq, rfl, hZq, M⟩
  ·omega
  ·refine wp_seq <| sR <| rV 2 <| ZF 29 ((n : Int) < (n : Int)) <| nT <| cF <| wp_exit <| au_then_exit <| au_then_exit <| au_block_exit <| au_then <| sq <| wp_ret ?_
   exact bX (.tuple #[.slice (some ⟨gq, 0, none⟩) n capq, .int .i64 0]) ⟨gq, capq, Zq, rfl, (M.ge _ (List.mem_of_getElem? (i := 0) rfl)).elim id (fun h => by cases h), M.get 0 rfl, hZq, below_grown M.old⟩
end Go.Proofs.YtffimigpbcilbaaGreatDoor.Bla
