/- The document: Hmac, Expand and Chain. -/
import Derived.Test.YtpfneekmbednoaaDoorK3
namespace Go.Proofs.YtpfneekmbednoaaDoor
open Go.RowKit

theorem d_ofb (s : ByteArray) (hs : s.size < 100000) (w : World) (hL : Laid w) : Calls Tryd.prog 17 #[.string s] w fun r w' => r = .returned (.string (blV 32 strE s)) ∧ Below w.heap.size w w' := by
  rw [← doc_eq 32 (by decide) strE s hs (by decide)]
  exact d_of s hs w hL
/-- The document's rows, up to a place. -/
def inF (K : ByteArray) (m : Int) : Nat → (Nat → Int)
  | 0 => fun _ => 0
  | j + 1 => upd (inF K m j) j (xb (bt K j) m)
theorem inF_eq (K : ByteArray) (m : Int) : ∀ j i, i < j → inF K m j i = xb (bt K i) m
  | 0, i, h => by omega
  | j + 1, i, h => by
    unfold inF upd
    by_cases e : i = j
    · subst e
      rw [if_pos rfl]
    · rw [if_neg e, inF_eq K m j i (by omega)]
theorem in_back (K : ByteArray) (m : Int) : bs ((List.range 64).map (inF K m 64)) = mk (bt K) m := by
  unfold mk
  refine congrArg bs ?_
  refine List.map_congr_left fun i hi => ?_
  rw [inF_eq K m 64 i (List.mem_range.1 hi)]
theorem in_nn (K : ByteArray) (m : Int) : ∀ x ∈ (List.range 64).map (inF K m 64), 0 ≤ x ∧ x < 256 := fun x hx => by
  obtain ⟨i, hi, rfl⟩ := List.mem_map.1 hx
  rw [inF_eq K m 64 i (List.mem_range.1 hi)]
  exact xb_nn _ _
section
variable {ops : Array Oper} {rest : List Oper} {o : Oper} {a : Act} {w : World} {c : Ctx} {L : List Blk}
set_option maxRecDepth 100000 in
theorem run_back (M : Mem c L w) (x : Operand) (ho : o.op = .convert 42 9 x) (i g n cap : Nat) (hx : a.eval x = .slice (some ⟨g, 0, none⟩) n cap) (Z : Obj) (hi : L[i]? = some ⟨g, Z⟩) (l : List Int) (cp : Nat) (hs : SB Z cp (vs8 l)) (hn : l.length = n) (hf : ∀ x ∈ l, 0 ≤ x ∧ x < 256) : (execOp a.eval o).run Tryd.prog w = .ok (.value (.string (bs l))) w := by
  subst hn
  have hl : (l.map fun n => UInt8.ofNat n.toNat).length = l.length := by simp
  have h2 := run_convert_bytes_back (P := Tryd.prog) w 42 9 5 ⟨g, 0, none⟩ cap (l.map fun n => UInt8.ofNat n.toNat) Tryd.underlying42 Tryd.underlying5 Tryd.underlying9 (fun j hj => by
    rw [hl] at hj
    have hv : (vs8 l)[j]? = some (.int .u8 (l[j]'hj)) := by
      unfold vs8
      rw [List.getElem?_map, List.getElem?_eq_getElem hj]
      rfl
    rw [add_at, Nat.zero_add, hs.cell (M.get i hi) hv]
    have := hf _ (List.getElem_mem hj)
    simp
    omega)
  rw [hl] at h2
  unfold execOp
  simp only [ho, hx, Sem.run_bind, h2, Result.andThen_ok, Sem.run_pure]
  rfl
theorem k_back {W : World} {Q : Act → Prop} (M : Mem c L W) (hw : Region.wanted o (yielded ops a.tmps) = true) (d : Option Tmp) (hd : o.dst = d) (x : Operand) (ho : o.op = .convert 42 9 x) (i g n cap : Nat) (hx : a.eval x = .slice (some ⟨g, 0, none⟩) n cap) (Z : Obj) (hi : L[i]? = some ⟨g, Z⟩) (l : List Int) (cp : Nat) (hs : SB Z cp (vs8 l)) (hn : l.length = n) (hf : ∀ x ∈ l, 0 ≤ x ∧ x < 256) (t : ByteArray) (he : bs l = t)
    (h : KL Tryd.prog ops W Q rest (a.put d (.string t))) : KL Tryd.prog ops W Q (o :: rest) a :=
  k_any hw d hd _ (fun s => he ▸ run_back (M.keep s.keep) x ho i g n cap hx Z hi l cp hs hn hf) h
end
theorem cv8_id (j : Nat) (h : j < 256) : cv .u8 (j : Int) = (j : Int) := by
  show (j : Int) % 256 = _
  omega
/-- Texts as cells. -/
def vtx (f : Nat → ByteArray) (n : Nat) : List Value := (List.range n).map fun i => .string (f i)
theorem vtx_length (f : Nat → ByteArray) (n : Nat) : (vtx f n).length = n := by simp [vtx]
theorem vtx_app (f : Nat → ByteArray) (n : Nat) : vtx f n ++ [.string (f n)] = vtx f (n + 1) := by simp [vtx, List.range_succ]
theorem vtx_get (f : Nat → ByteArray) (n i : Nat) (h : i < n) : (vtx f n)[i]? = some (.string (f i)) := by simp [vtx, h]

set_option maxRecDepth 100000 in
set_option maxHeartbeats 4000000 in
theorem d_hmacA (key s : ByteArray) (hs : s.size < 90000) (hkk : key.size < 100000) (hk : 64 < key.size) (w : World) (hL : Laid w)  :
    Calls Tryd.prog 9 #[.string key, .string s] w fun r w' => r = .returned (.string (hmV key s)) ∧ Below w.heap.size w w' := by
  go_enter Tryd.func9, Tryd.ntmps9
  have M := Mem.start hL
  obtain ⟨K, hK⟩ : ∃ K, blV 32 strE key = K := ⟨_, rfl⟩
  refine wp_seq ?_
  refine rg_lit ?_
  refine pl_val (want_no rfl) (some 4) rfl (.string ⟨#[]⟩) (fun _ => by kernel_rfl) ?_
  refine pl_nil ?_
  refine au_then ?_
  refine wp_seq ?_
  refine wp_seq ?_
  refine rg_lit ?_
  refine pl_val (want_no rfl) (some 9) rfl (.string key) (fun _ => by kernel_rfl) ?_
  refine pl_val (want_no rfl) (some 10) rfl (.int .i64 (key.size : Int)) (fun _ => by kernel_rfl) ?_
  refine pl_val (want_no rfl) (some 11) rfl (.bool true) (fun w => Eq.trans (b := .ok (.value (.bool (decide ((64 : Int) < (key.size : Int))))) w) (by kernel_rfl) (by rw [decide_eq_true (by omega)])) ?_
  refine pl_nil ?_
  refine au_then ?_
  refine wp_cond_true (by kernel_rfl) ?_
  refine rg_lit ?_
  refine pl_val (want_no rfl) (some 12) rfl (.string key) (fun _ => by kernel_rfl) ?_
  refine pl_call M (want_no rfl) (some 13) rfl 17 #[.string key] (.string K) (fun _ => by kernel_rfl) (fun w M => (by rw [← hK]; exact d_ofb key hkk w M.laid)) ?_
  intro u1 M
  refine pl_val (want_no rfl) (some 0) rfl (.string K) (fun _ => by kernel_rfl) ?_
  refine pl_nil ?_
  refine au_then ?_
  refine wp_seq ?_
  refine rg_lit ?_
  refine pl_mk M (want_no rfl) (some 14) rfl (fun g1 => .slice (some ⟨g1, 0, none⟩) 64 64) (.cells (av 64 (w8 (fun _ => 0))) 5) (fun _ => by kernel_rfl) ?_
  intro g1 u2 M
  replace M : Mem ⟨w, []⟩ [⟨g1, .cells (av 64 (w8 (fun _ => 0))) 5⟩] u2 := M
  refine pl_val (want_no rfl) (some 5) rfl (.slice (some ⟨g1, 0, none⟩) 64 64) (fun _ => by kernel_rfl) ?_
  refine pl_nil ?_
  refine au_then ?_
  refine wp_seq ?_
  refine rg_lit ?_
  refine pl_mk M (want_no rfl) (some 15) rfl (fun g2 => .slice (some ⟨g2, 0, none⟩) 64 64) (.cells (av 64 (w8 (fun _ => 0))) 5) (fun _ => by kernel_rfl) ?_
  intro g2 u3 M
  replace M : Mem ⟨w, []⟩ [⟨g1, .cells (av 64 (w8 (fun _ => 0))) 5⟩, ⟨g2, .cells (av 64 (w8 (fun _ => 0))) 5⟩] u3 := M
  refine pl_val (want_no rfl) (some 6) rfl (.slice (some ⟨g2, 0, none⟩) 64 64) (fun _ => by kernel_rfl) ?_
  refine pl_nil ?_
  refine au_then ?_
  refine wp_seq ?_
  refine wp_seq ?_
  refine rg_lit ?_
  refine pl_val (want_no rfl) (some 7) rfl (.int .i64 0) (fun _ => by kernel_rfl) ?_
  refine pl_nil ?_
  refine au_then ?_
  refine wp_block ?_
  refine au_loop (fun j a w' => ∃ v1 : Nat → Value, a = ⟨#[.string K, .string s, undef, undef, .string ⟨#[]⟩, .slice (some ⟨g1, 0, none⟩) 64 64, .slice (some ⟨g2, 0, none⟩) 64 64, .int .i64 (j : Int), v1 8, .string key, .int .i64 (key.size : Int), .bool true, .string key, .string K, .slice (some ⟨g1, 0, none⟩) 64 64, .slice (some ⟨g2, 0, none⟩) 64 64, v1 16, v1 17, v1 18, v1 19, v1 20, v1 21, v1 22, v1 23, v1 24, v1 25, v1 26, v1 27, v1 28, v1 29, v1 30, v1 31, v1 32, v1 33, v1 34, v1 35, v1 36, undef, undef, undef, undef, undef, undef, undef, undef, undef], []⟩ ∧ Mem ⟨w, []⟩ [⟨g1, .cells (av 64 (w8 (inF K 54 j))) 5⟩, ⟨g2, .cells (av 64 (w8 (inF K 92 j))) 5⟩] w') 64 ⟨fun k_ => ([undef, undef, undef, undef, undef, undef, undef, undef, undef, undef, undef, undef, undef, undef, undef, undef, undef, undef, undef, undef, undef, undef, undef, undef, undef, undef, undef, undef, undef] : List Value).getD (k_ - 8) undef, by kernel_rfl, M⟩ ?_ ?_
  · intro j a u0 hj hI
    obtain ⟨v1, rfl, M⟩ := hI
    refine wp_seq ?_
    refine wp_seq ?_
    refine rg_lit ?_
    refine pl_val (want_no rfl) (some 16) rfl (.int .i64 (j : Int)) (fun _ => by kernel_rfl) ?_
    refine pl_val (want_no rfl) (some 17) rfl (.bool true) (fun w => Eq.trans (b := .ok (.value (.bool (decide ((j : Int) < 64)))) w) (by kernel_rfl) (by rw [decide_eq_true (by omega)])) ?_
    refine pl_nil ?_
    refine au_then ?_
    refine wp_cond_true (by kernel_rfl) ?_
    refine wp_skip ?_
    refine au_then ?_
    refine wp_seq ?_
    refine wp_block ?_
    refine wp_seq ?_
    refine rg_lit ?_
    refine pl_val (want_no rfl) (some 8) rfl (.int .u8 0) (fun _ => by kernel_rfl) ?_
    refine pl_nil ?_
    refine au_then ?_
    refine wp_seq ?_
    refine wp_seq ?_
    by_cases hk2 : j < K.size
    · skip
      refine rg_lit ?_
      refine pl_val (want_no rfl) (some 20) rfl (.int .i64 (j : Int)) (fun _ => by kernel_rfl) ?_
      refine pl_val (want_no rfl) (some 21) rfl (.string K) (fun _ => by kernel_rfl) ?_
      refine pl_val (want_no rfl) (some 22) rfl (.int .i64 (K.size : Int)) (fun _ => by kernel_rfl) ?_
      refine pl_val (want_no rfl) (some 23) rfl (.bool true) (fun w => Eq.trans (b := .ok (.value (.bool (decide ((j : Int) < (K.size : Int))))) w) (by kernel_rfl) (by rw [decide_eq_true (by omega)])) ?_
      refine pl_nil ?_
      refine au_then ?_
      refine wp_cond_true (by kernel_rfl) ?_
      refine rg_lit ?_
      refine pl_val (want_no rfl) (some 24) rfl (.string K) (fun _ => by kernel_rfl) ?_
      refine pl_val (want_no rfl) (some 25) rfl (.int .i64 (j : Int)) (fun _ => by kernel_rfl) ?_
      refine pl_val (want_no rfl) (some 26) rfl (.int .u8 (bt K j)) (run_ixS 9 Tryd.underlying9 _ _ rfl K (by kernel_rfl) .i64 j (by kernel_rfl) hk2) ?_
      refine pl_val (want_no rfl) (some 8) rfl (.int .u8 (bt K j)) (fun _ => by kernel_rfl) ?_
      refine pl_nil ?_
      refine au_then ?_
      refine wp_seq ?_
      refine rg_lit ?_
      refine pl_val (want_no rfl) (some 27) rfl (.slice (some ⟨g1, 0, none⟩) 64 64) (fun _ => by kernel_rfl) ?_
      refine pl_val (want_no rfl) (some 28) rfl (.int .i64 (j : Int)) (fun _ => by kernel_rfl) ?_
      refine pl_val (want_no rfl) (some 29) rfl (.int .u8 (bt K j)) (fun _ => by kernel_rfl) ?_
      refine pl_val (want_no rfl) (some 30) rfl (.int .u8 (xb (bt K j) 54)) (fun _ => by kernel_rfl) ?_
      refine pl_val (want_no rfl) (some 31) rfl (.pointer (some ⟨g1, j, none⟩)) (run_ix0 42 5 Tryd.underlying42 inz5 _ _ rfl g1 64 64 (by kernel_rfl) .i64 j (by kernel_rfl) (by omega)) ?_
      refine pl_put1 M (want_no rfl) rfl 5 _ _ rfl 0 g1 j (by kernel_rfl) 64 5 (w8 (inF K 54 j)) rfl (.int .u8 (xb (bt K j) 54)) (w8 (upd (inF K 54 j) j (xb (bt K j) 54))) (by kernel_rfl) inz5 (by omega) rfl rfl (fun j _ => put_w8 _ _ _ j) ?_
      intro u4 M
      replace M : Mem ⟨w, []⟩ [⟨g1, .cells (av 64 (w8 (upd (inF K 54 j) j (xb (bt K j) 54)))) 5⟩, ⟨g2, .cells (av 64 (w8 (inF K 92 j))) 5⟩] u4 := M
      refine pl_nil ?_
      refine au_then ?_
      refine rg_lit ?_
      refine pl_val (want_no rfl) (some 32) rfl (.slice (some ⟨g2, 0, none⟩) 64 64) (fun _ => by kernel_rfl) ?_
      refine pl_val (want_no rfl) (some 33) rfl (.int .i64 (j : Int)) (fun _ => by kernel_rfl) ?_
      refine pl_val (want_no rfl) (some 34) rfl (.int .u8 (bt K j)) (fun _ => by kernel_rfl) ?_
      refine pl_val (want_no rfl) (some 35) rfl (.int .u8 (xb (bt K j) 92)) (fun _ => by kernel_rfl) ?_
      refine pl_val (want_no rfl) (some 36) rfl (.pointer (some ⟨g2, j, none⟩)) (run_ix0 42 5 Tryd.underlying42 inz5 _ _ rfl g2 64 64 (by kernel_rfl) .i64 j (by kernel_rfl) (by omega)) ?_
      refine pl_put1 M (want_no rfl) rfl 5 _ _ rfl 1 g2 j (by kernel_rfl) 64 5 (w8 (inF K 92 j)) rfl (.int .u8 (xb (bt K j) 92)) (w8 (upd (inF K 92 j) j (xb (bt K j) 92))) (by kernel_rfl) inz5 (by omega) rfl rfl (fun j _ => put_w8 _ _ _ j) ?_
      intro u5 M
      replace M : Mem ⟨w, []⟩ [⟨g1, .cells (av 64 (w8 (upd (inF K 54 j) j (xb (bt K j) 54)))) 5⟩, ⟨g2, .cells (av 64 (w8 (upd (inF K 92 j) j (xb (bt K j) 92)))) 5⟩] u5 := M
      refine pl_nil ?_
      refine au_block ?_
      refine au_then ?_
      refine rg_lit ?_
      refine pl_val (want_no rfl) (some 18) rfl (.int .i64 (j : Int)) (fun _ => by kernel_rfl) ?_
      refine pl_val (want_no rfl) (some 19) rfl (.int .i64 ((j + 1 : Nat) : Int)) (fun w => Eq.trans (b := .ok (.value (.int .i64 (IntKind.wrap .i64 ((j : Int) + 1)))) w) (by kernel_rfl) (by rw [wrap64 (by omega) (by omega)]; congr 3)) ?_
      refine pl_val (want_no rfl) (some 7) rfl (.int .i64 ((j + 1 : Nat) : Int)) (fun _ => by kernel_rfl) ?_
      refine pl_nil ?_
      refine au_then ?_
      exact ⟨fun k_ => ([.int .u8 (bt K j), undef, undef, undef, undef, undef, undef, undef, .int .i64 (j : Int), .bool true, .int .i64 (j : Int), .int .i64 ((j + 1 : Nat) : Int), .int .i64 (j : Int), .string K, .int .i64 (K.size : Int), .bool true, .string K, .int .i64 (j : Int), .int .u8 (bt K j), .slice (some ⟨g1, 0, none⟩) 64 64, .int .i64 (j : Int), .int .u8 (bt K j), .int .u8 (xb (bt K j) 54), .pointer (some ⟨g1, j, none⟩), .slice (some ⟨g2, 0, none⟩) 64 64, .int .i64 (j : Int), .int .u8 (bt K j), .int .u8 (xb (bt K j) 92), .pointer (some ⟨g2, j, none⟩)] : List Value).getD (k_ - 8) undef, by kernel_rfl, M⟩
    · skip
      refine rg_lit ?_
      refine pl_val (want_no rfl) (some 20) rfl (.int .i64 (j : Int)) (fun _ => by kernel_rfl) ?_
      refine pl_val (want_no rfl) (some 21) rfl (.string K) (fun _ => by kernel_rfl) ?_
      refine pl_val (want_no rfl) (some 22) rfl (.int .i64 (K.size : Int)) (fun _ => by kernel_rfl) ?_
      refine pl_val (want_no rfl) (some 23) rfl (.bool false) (fun w => Eq.trans (b := .ok (.value (.bool (decide ((j : Int) < (K.size : Int))))) w) (by kernel_rfl) (by rw [decide_eq_false (by omega)])) ?_
      refine pl_nil ?_
      refine au_then ?_
      refine wp_cond_false (by kernel_rfl) ?_
      refine wp_skip ?_
      refine au_then ?_
      refine wp_seq ?_
      refine rg_lit ?_
      refine pl_val (want_no rfl) (some 27) rfl (.slice (some ⟨g1, 0, none⟩) 64 64) (fun _ => by kernel_rfl) ?_
      refine pl_val (want_no rfl) (some 28) rfl (.int .i64 (j : Int)) (fun _ => by kernel_rfl) ?_
      refine pl_val (want_no rfl) (some 29) rfl (.int .u8 0) (fun _ => by kernel_rfl) ?_
      refine pl_val (want_no rfl) (some 30) rfl (.int .u8 (xb (bt K j) 54)) (fun w => Eq.trans (b := .ok (.value (.int .u8 (xb 0 54))) w) (by kernel_rfl) (by rw [bt_out K j (by omega)])) ?_
      refine pl_val (want_no rfl) (some 31) rfl (.pointer (some ⟨g1, j, none⟩)) (run_ix0 42 5 Tryd.underlying42 inz5 _ _ rfl g1 64 64 (by kernel_rfl) .i64 j (by kernel_rfl) (by omega)) ?_
      refine pl_put1 M (want_no rfl) rfl 5 _ _ rfl 0 g1 j (by kernel_rfl) 64 5 (w8 (inF K 54 j)) rfl (.int .u8 (xb (bt K j) 54)) (w8 (upd (inF K 54 j) j (xb (bt K j) 54))) (by kernel_rfl) inz5 (by omega) rfl rfl (fun j _ => put_w8 _ _ _ j) ?_
      intro u6 M
      replace M : Mem ⟨w, []⟩ [⟨g1, .cells (av 64 (w8 (upd (inF K 54 j) j (xb (bt K j) 54)))) 5⟩, ⟨g2, .cells (av 64 (w8 (inF K 92 j))) 5⟩] u6 := M
      refine pl_nil ?_
      refine au_then ?_
      refine rg_lit ?_
      refine pl_val (want_no rfl) (some 32) rfl (.slice (some ⟨g2, 0, none⟩) 64 64) (fun _ => by kernel_rfl) ?_
      refine pl_val (want_no rfl) (some 33) rfl (.int .i64 (j : Int)) (fun _ => by kernel_rfl) ?_
      refine pl_val (want_no rfl) (some 34) rfl (.int .u8 0) (fun _ => by kernel_rfl) ?_
      refine pl_val (want_no rfl) (some 35) rfl (.int .u8 (xb (bt K j) 92)) (fun w => Eq.trans (b := .ok (.value (.int .u8 (xb 0 92))) w) (by kernel_rfl) (by rw [bt_out K j (by omega)])) ?_
      refine pl_val (want_no rfl) (some 36) rfl (.pointer (some ⟨g2, j, none⟩)) (run_ix0 42 5 Tryd.underlying42 inz5 _ _ rfl g2 64 64 (by kernel_rfl) .i64 j (by kernel_rfl) (by omega)) ?_
      refine pl_put1 M (want_no rfl) rfl 5 _ _ rfl 1 g2 j (by kernel_rfl) 64 5 (w8 (inF K 92 j)) rfl (.int .u8 (xb (bt K j) 92)) (w8 (upd (inF K 92 j) j (xb (bt K j) 92))) (by kernel_rfl) inz5 (by omega) rfl rfl (fun j _ => put_w8 _ _ _ j) ?_
      intro u7 M
      replace M : Mem ⟨w, []⟩ [⟨g1, .cells (av 64 (w8 (upd (inF K 54 j) j (xb (bt K j) 54)))) 5⟩, ⟨g2, .cells (av 64 (w8 (upd (inF K 92 j) j (xb (bt K j) 92)))) 5⟩] u7 := M
      refine pl_nil ?_
      refine au_block ?_
      refine au_then ?_
      refine rg_lit ?_
      refine pl_val (want_no rfl) (some 18) rfl (.int .i64 (j : Int)) (fun _ => by kernel_rfl) ?_
      refine pl_val (want_no rfl) (some 19) rfl (.int .i64 ((j + 1 : Nat) : Int)) (fun w => Eq.trans (b := .ok (.value (.int .i64 (IntKind.wrap .i64 ((j : Int) + 1)))) w) (by kernel_rfl) (by rw [wrap64 (by omega) (by omega)]; congr 3)) ?_
      refine pl_val (want_no rfl) (some 7) rfl (.int .i64 ((j + 1 : Nat) : Int)) (fun _ => by kernel_rfl) ?_
      refine pl_nil ?_
      refine au_then ?_
      exact ⟨fun k_ => ([.int .u8 0, undef, undef, undef, undef, undef, undef, undef, .int .i64 (j : Int), .bool true, .int .i64 (j : Int), .int .i64 ((j + 1 : Nat) : Int), .int .i64 (j : Int), .string K, .int .i64 (K.size : Int), .bool false, v1 24, v1 25, v1 26, .slice (some ⟨g1, 0, none⟩) 64 64, .int .i64 (j : Int), .int .u8 0, .int .u8 (xb (bt K j) 54), .pointer (some ⟨g1, j, none⟩), .slice (some ⟨g2, 0, none⟩) 64 64, .int .i64 (j : Int), .int .u8 0, .int .u8 (xb (bt K j) 92), .pointer (some ⟨g2, j, none⟩)] : List Value).getD (k_ - 8) undef, by kernel_rfl, M⟩
  · intro a u0 hI
    obtain ⟨v1, rfl, M⟩ := hI
    refine wp_seq ?_
    refine wp_seq ?_
    refine rg_lit ?_
    refine pl_val (want_no rfl) (some 16) rfl (.int .i64 (64 : Int)) (fun _ => by kernel_rfl) ?_
    refine pl_val (want_no rfl) (some 17) rfl (.bool false) (fun w => Eq.trans (b := .ok (.value (.bool (decide ((64 : Int) < 64)))) w) (by kernel_rfl) (by rw [decide_eq_false (by omega)])) ?_
    refine pl_nil ?_
    refine au_then ?_
    refine wp_cond_false (by kernel_rfl) ?_
    refine wp_exit ?_
    refine au_then_exit ?_
    refine au_then_exit ?_
    refine au_block_exit ?_
    refine au_then ?_
    refine wp_seq ?_
    refine rg_tail M 9 (by kernel_rfl) (by kernel_rfl) ?_
    simp only [List.take_succ_cons, List.take_zero]
    refine k_val (want_no rfl) (some 37) rfl (.slice (some ⟨g2, 0, none⟩) 64 64) (fun _ => by kernel_rfl) ?_
    refine k_back M (want_no rfl) (some 38) rfl _ rfl 1 g2 64 64 (by kernel_rfl) _ rfl ((List.range 64).map (inF K 92 64)) 64 (sb_av 64 _ _) (by simp) (in_nn K 92) (mk (bt K) 92) (in_back K 92) ?_
    refine k_val (want_no rfl) (some 39) rfl (.slice (some ⟨g1, 0, none⟩) 64 64) (fun _ => by kernel_rfl) ?_
    refine k_back M (want_no rfl) (some 40) rfl _ rfl 0 g1 64 64 (by kernel_rfl) _ rfl ((List.range 64).map (inF K 54 64)) 64 (sb_av 64 _ _) (by simp) (in_nn K 54) (mk (bt K) 54) (in_back K 54) ?_
    refine k_val (want_no rfl) (some 41) rfl (.string s) (fun _ => by kernel_rfl) ?_
    refine k_val (want_no rfl) (some 42) rfl (.string ((mk (bt K) 54) ++ s)) (run_cat 9 9 _ _ rfl (mk (bt K) 54) s (by kernel_rfl) (by kernel_rfl) (by rw [mk_size]; omega)) ?_
    refine k_call M (want_no rfl) (some 43) rfl 17 #[.string ((mk (bt K) 54) ++ s)] (.string (blV 32 strE ((mk (bt K) 54) ++ s))) (fun _ => by kernel_rfl) (fun w M => d_ofb _ (by simp only [ByteArray.size_append, mk_size]; omega) w M.laid) ?_
    refine k_val (want_no rfl) (some 44) rfl (.string ((mk (bt K) 92) ++ (blV 32 strE (mk (bt K) 54 ++ s)))) (run_cat 9 9 _ _ rfl (mk (bt K) 92) (blV 32 strE (mk (bt K) 54 ++ s)) (by kernel_rfl) (by kernel_rfl) (by rw [mk_size, bl_size]; omega)) ?_
    refine k_call M (want_no rfl) (some 45) rfl 17 #[.string ((mk (bt K) 92) ++ (blV 32 strE (mk (bt K) 54 ++ s)))] (.string (blV 32 strE ((mk (bt K) 92) ++ (blV 32 strE (mk (bt K) 54 ++ s))))) (fun _ => by kernel_rfl) (fun w M => d_ofb _ (by simp only [ByteArray.size_append, mk_size, bl_size]; omega) w M.laid) ?_
    refine kl_nil ?_
    intro u8 M
    replace M : Mem ⟨w, []⟩ [⟨g1, .cells (av 64 (w8 (inF K 54 64))) 5⟩, ⟨g2, .cells (av 64 (w8 (inF K 92 64))) 5⟩] u8 := M
    refine pl_val (want_no rfl) (some 4) rfl (.string (blV 32 strE ((mk (bt K) 92) ++ (blV 32 strE (mk (bt K) 54 ++ s))))) (fun _ => by kernel_rfl) ?_
    refine pl_nil ?_
    refine au_then ?_
    refine wp_ret ?_
    have e : hmV key s = (blV 32 strE ((mk (bt K) 92) ++ (blV 32 strE (mk (bt K) 54 ++ s)))) := by
      unfold hmV keyV
      rw [if_pos hk, hK]
      rfl
    rw [e]
    exact bodyPost_ret (v := .string (blV 32 strE ((mk (bt K) 92) ++ (blV 32 strE (mk (bt K) 54 ++ s))))) (results_tmp1 Tryd.results9 _ _ _ (by kernel_rfl)) (by kernel_rfl) ⟨rfl, below_grown M.old⟩

set_option maxRecDepth 100000 in
set_option maxHeartbeats 4000000 in
theorem d_hmacB (key s : ByteArray) (hs : s.size < 90000) (_hkk : key.size < 100000) (hk : ¬ 64 < key.size) (w : World) (hL : Laid w)  :
    Calls Tryd.prog 9 #[.string key, .string s] w fun r w' => r = .returned (.string (hmV key s)) ∧ Below w.heap.size w w' := by
  go_enter Tryd.func9, Tryd.ntmps9
  have M := Mem.start hL
  refine wp_seq ?_
  refine rg_lit ?_
  refine pl_val (want_no rfl) (some 4) rfl (.string ⟨#[]⟩) (fun _ => by kernel_rfl) ?_
  refine pl_nil ?_
  refine au_then ?_
  refine wp_seq ?_
  refine wp_seq ?_
  refine rg_lit ?_
  refine pl_val (want_no rfl) (some 9) rfl (.string key) (fun _ => by kernel_rfl) ?_
  refine pl_val (want_no rfl) (some 10) rfl (.int .i64 (key.size : Int)) (fun _ => by kernel_rfl) ?_
  refine pl_val (want_no rfl) (some 11) rfl (.bool false) (fun w => Eq.trans (b := .ok (.value (.bool (decide ((64 : Int) < (key.size : Int))))) w) (by kernel_rfl) (by rw [decide_eq_false (by omega)])) ?_
  refine pl_nil ?_
  refine au_then ?_
  refine wp_cond_false (by kernel_rfl) ?_
  refine wp_skip ?_
  refine au_then ?_
  refine wp_seq ?_
  refine rg_lit ?_
  refine pl_mk M (want_no rfl) (some 14) rfl (fun g1 => .slice (some ⟨g1, 0, none⟩) 64 64) (.cells (av 64 (w8 (fun _ => 0))) 5) (fun _ => by kernel_rfl) ?_
  intro g1 u1 M
  replace M : Mem ⟨w, []⟩ [⟨g1, .cells (av 64 (w8 (fun _ => 0))) 5⟩] u1 := M
  refine pl_val (want_no rfl) (some 5) rfl (.slice (some ⟨g1, 0, none⟩) 64 64) (fun _ => by kernel_rfl) ?_
  refine pl_nil ?_
  refine au_then ?_
  refine wp_seq ?_
  refine rg_lit ?_
  refine pl_mk M (want_no rfl) (some 15) rfl (fun g2 => .slice (some ⟨g2, 0, none⟩) 64 64) (.cells (av 64 (w8 (fun _ => 0))) 5) (fun _ => by kernel_rfl) ?_
  intro g2 u2 M
  replace M : Mem ⟨w, []⟩ [⟨g1, .cells (av 64 (w8 (fun _ => 0))) 5⟩, ⟨g2, .cells (av 64 (w8 (fun _ => 0))) 5⟩] u2 := M
  refine pl_val (want_no rfl) (some 6) rfl (.slice (some ⟨g2, 0, none⟩) 64 64) (fun _ => by kernel_rfl) ?_
  refine pl_nil ?_
  refine au_then ?_
  refine wp_seq ?_
  refine wp_seq ?_
  refine rg_lit ?_
  refine pl_val (want_no rfl) (some 7) rfl (.int .i64 0) (fun _ => by kernel_rfl) ?_
  refine pl_nil ?_
  refine au_then ?_
  refine wp_block ?_
  refine au_loop (fun j a w' => ∃ v1 : Nat → Value, a = ⟨#[.string key, .string s, undef, undef, .string ⟨#[]⟩, .slice (some ⟨g1, 0, none⟩) 64 64, .slice (some ⟨g2, 0, none⟩) 64 64, .int .i64 (j : Int), v1 8, .string key, .int .i64 (key.size : Int), .bool false, undef, undef, .slice (some ⟨g1, 0, none⟩) 64 64, .slice (some ⟨g2, 0, none⟩) 64 64, v1 16, v1 17, v1 18, v1 19, v1 20, v1 21, v1 22, v1 23, v1 24, v1 25, v1 26, v1 27, v1 28, v1 29, v1 30, v1 31, v1 32, v1 33, v1 34, v1 35, v1 36, undef, undef, undef, undef, undef, undef, undef, undef, undef], []⟩ ∧ Mem ⟨w, []⟩ [⟨g1, .cells (av 64 (w8 (inF key 54 j))) 5⟩, ⟨g2, .cells (av 64 (w8 (inF key 92 j))) 5⟩] w') 64 ⟨fun k_ => ([undef, undef, undef, undef, undef, undef, undef, undef, undef, undef, undef, undef, undef, undef, undef, undef, undef, undef, undef, undef, undef, undef, undef, undef, undef, undef, undef, undef, undef] : List Value).getD (k_ - 8) undef, by kernel_rfl, M⟩ ?_ ?_
  · intro j a u0 hj hI
    obtain ⟨v1, rfl, M⟩ := hI
    refine wp_seq ?_
    refine wp_seq ?_
    refine rg_lit ?_
    refine pl_val (want_no rfl) (some 16) rfl (.int .i64 (j : Int)) (fun _ => by kernel_rfl) ?_
    refine pl_val (want_no rfl) (some 17) rfl (.bool true) (fun w => Eq.trans (b := .ok (.value (.bool (decide ((j : Int) < 64)))) w) (by kernel_rfl) (by rw [decide_eq_true (by omega)])) ?_
    refine pl_nil ?_
    refine au_then ?_
    refine wp_cond_true (by kernel_rfl) ?_
    refine wp_skip ?_
    refine au_then ?_
    refine wp_seq ?_
    refine wp_block ?_
    refine wp_seq ?_
    refine rg_lit ?_
    refine pl_val (want_no rfl) (some 8) rfl (.int .u8 0) (fun _ => by kernel_rfl) ?_
    refine pl_nil ?_
    refine au_then ?_
    refine wp_seq ?_
    refine wp_seq ?_
    by_cases hk2 : j < key.size
    · skip
      refine rg_lit ?_
      refine pl_val (want_no rfl) (some 20) rfl (.int .i64 (j : Int)) (fun _ => by kernel_rfl) ?_
      refine pl_val (want_no rfl) (some 21) rfl (.string key) (fun _ => by kernel_rfl) ?_
      refine pl_val (want_no rfl) (some 22) rfl (.int .i64 (key.size : Int)) (fun _ => by kernel_rfl) ?_
      refine pl_val (want_no rfl) (some 23) rfl (.bool true) (fun w => Eq.trans (b := .ok (.value (.bool (decide ((j : Int) < (key.size : Int))))) w) (by kernel_rfl) (by rw [decide_eq_true (by omega)])) ?_
      refine pl_nil ?_
      refine au_then ?_
      refine wp_cond_true (by kernel_rfl) ?_
      refine rg_lit ?_
      refine pl_val (want_no rfl) (some 24) rfl (.string key) (fun _ => by kernel_rfl) ?_
      refine pl_val (want_no rfl) (some 25) rfl (.int .i64 (j : Int)) (fun _ => by kernel_rfl) ?_
      refine pl_val (want_no rfl) (some 26) rfl (.int .u8 (bt key j)) (run_ixS 9 Tryd.underlying9 _ _ rfl key (by kernel_rfl) .i64 j (by kernel_rfl) hk2) ?_
      refine pl_val (want_no rfl) (some 8) rfl (.int .u8 (bt key j)) (fun _ => by kernel_rfl) ?_
      refine pl_nil ?_
      refine au_then ?_
      refine wp_seq ?_
      refine rg_lit ?_
      refine pl_val (want_no rfl) (some 27) rfl (.slice (some ⟨g1, 0, none⟩) 64 64) (fun _ => by kernel_rfl) ?_
      refine pl_val (want_no rfl) (some 28) rfl (.int .i64 (j : Int)) (fun _ => by kernel_rfl) ?_
      refine pl_val (want_no rfl) (some 29) rfl (.int .u8 (bt key j)) (fun _ => by kernel_rfl) ?_
      refine pl_val (want_no rfl) (some 30) rfl (.int .u8 (xb (bt key j) 54)) (fun _ => by kernel_rfl) ?_
      refine pl_val (want_no rfl) (some 31) rfl (.pointer (some ⟨g1, j, none⟩)) (run_ix0 42 5 Tryd.underlying42 inz5 _ _ rfl g1 64 64 (by kernel_rfl) .i64 j (by kernel_rfl) (by omega)) ?_
      refine pl_put1 M (want_no rfl) rfl 5 _ _ rfl 0 g1 j (by kernel_rfl) 64 5 (w8 (inF key 54 j)) rfl (.int .u8 (xb (bt key j) 54)) (w8 (upd (inF key 54 j) j (xb (bt key j) 54))) (by kernel_rfl) inz5 (by omega) rfl rfl (fun j _ => put_w8 _ _ _ j) ?_
      intro u3 M
      replace M : Mem ⟨w, []⟩ [⟨g1, .cells (av 64 (w8 (upd (inF key 54 j) j (xb (bt key j) 54)))) 5⟩, ⟨g2, .cells (av 64 (w8 (inF key 92 j))) 5⟩] u3 := M
      refine pl_nil ?_
      refine au_then ?_
      refine rg_lit ?_
      refine pl_val (want_no rfl) (some 32) rfl (.slice (some ⟨g2, 0, none⟩) 64 64) (fun _ => by kernel_rfl) ?_
      refine pl_val (want_no rfl) (some 33) rfl (.int .i64 (j : Int)) (fun _ => by kernel_rfl) ?_
      refine pl_val (want_no rfl) (some 34) rfl (.int .u8 (bt key j)) (fun _ => by kernel_rfl) ?_
      refine pl_val (want_no rfl) (some 35) rfl (.int .u8 (xb (bt key j) 92)) (fun _ => by kernel_rfl) ?_
      refine pl_val (want_no rfl) (some 36) rfl (.pointer (some ⟨g2, j, none⟩)) (run_ix0 42 5 Tryd.underlying42 inz5 _ _ rfl g2 64 64 (by kernel_rfl) .i64 j (by kernel_rfl) (by omega)) ?_
      refine pl_put1 M (want_no rfl) rfl 5 _ _ rfl 1 g2 j (by kernel_rfl) 64 5 (w8 (inF key 92 j)) rfl (.int .u8 (xb (bt key j) 92)) (w8 (upd (inF key 92 j) j (xb (bt key j) 92))) (by kernel_rfl) inz5 (by omega) rfl rfl (fun j _ => put_w8 _ _ _ j) ?_
      intro u4 M
      replace M : Mem ⟨w, []⟩ [⟨g1, .cells (av 64 (w8 (upd (inF key 54 j) j (xb (bt key j) 54)))) 5⟩, ⟨g2, .cells (av 64 (w8 (upd (inF key 92 j) j (xb (bt key j) 92)))) 5⟩] u4 := M
      refine pl_nil ?_
      refine au_block ?_
      refine au_then ?_
      refine rg_lit ?_
      refine pl_val (want_no rfl) (some 18) rfl (.int .i64 (j : Int)) (fun _ => by kernel_rfl) ?_
      refine pl_val (want_no rfl) (some 19) rfl (.int .i64 ((j + 1 : Nat) : Int)) (fun w => Eq.trans (b := .ok (.value (.int .i64 (IntKind.wrap .i64 ((j : Int) + 1)))) w) (by kernel_rfl) (by rw [wrap64 (by omega) (by omega)]; congr 3)) ?_
      refine pl_val (want_no rfl) (some 7) rfl (.int .i64 ((j + 1 : Nat) : Int)) (fun _ => by kernel_rfl) ?_
      refine pl_nil ?_
      refine au_then ?_
      exact ⟨fun k_ => ([.int .u8 (bt key j), undef, undef, undef, undef, undef, undef, undef, .int .i64 (j : Int), .bool true, .int .i64 (j : Int), .int .i64 ((j + 1 : Nat) : Int), .int .i64 (j : Int), .string key, .int .i64 (key.size : Int), .bool true, .string key, .int .i64 (j : Int), .int .u8 (bt key j), .slice (some ⟨g1, 0, none⟩) 64 64, .int .i64 (j : Int), .int .u8 (bt key j), .int .u8 (xb (bt key j) 54), .pointer (some ⟨g1, j, none⟩), .slice (some ⟨g2, 0, none⟩) 64 64, .int .i64 (j : Int), .int .u8 (bt key j), .int .u8 (xb (bt key j) 92), .pointer (some ⟨g2, j, none⟩)] : List Value).getD (k_ - 8) undef, by kernel_rfl, M⟩
    · skip
      refine rg_lit ?_
      refine pl_val (want_no rfl) (some 20) rfl (.int .i64 (j : Int)) (fun _ => by kernel_rfl) ?_
      refine pl_val (want_no rfl) (some 21) rfl (.string key) (fun _ => by kernel_rfl) ?_
      refine pl_val (want_no rfl) (some 22) rfl (.int .i64 (key.size : Int)) (fun _ => by kernel_rfl) ?_
      refine pl_val (want_no rfl) (some 23) rfl (.bool false) (fun w => Eq.trans (b := .ok (.value (.bool (decide ((j : Int) < (key.size : Int))))) w) (by kernel_rfl) (by rw [decide_eq_false (by omega)])) ?_
      refine pl_nil ?_
      refine au_then ?_
      refine wp_cond_false (by kernel_rfl) ?_
      refine wp_skip ?_
      refine au_then ?_
      refine wp_seq ?_
      refine rg_lit ?_
      refine pl_val (want_no rfl) (some 27) rfl (.slice (some ⟨g1, 0, none⟩) 64 64) (fun _ => by kernel_rfl) ?_
      refine pl_val (want_no rfl) (some 28) rfl (.int .i64 (j : Int)) (fun _ => by kernel_rfl) ?_
      refine pl_val (want_no rfl) (some 29) rfl (.int .u8 0) (fun _ => by kernel_rfl) ?_
      refine pl_val (want_no rfl) (some 30) rfl (.int .u8 (xb (bt key j) 54)) (fun w => Eq.trans (b := .ok (.value (.int .u8 (xb 0 54))) w) (by kernel_rfl) (by rw [bt_out key j (by omega)])) ?_
      refine pl_val (want_no rfl) (some 31) rfl (.pointer (some ⟨g1, j, none⟩)) (run_ix0 42 5 Tryd.underlying42 inz5 _ _ rfl g1 64 64 (by kernel_rfl) .i64 j (by kernel_rfl) (by omega)) ?_
      refine pl_put1 M (want_no rfl) rfl 5 _ _ rfl 0 g1 j (by kernel_rfl) 64 5 (w8 (inF key 54 j)) rfl (.int .u8 (xb (bt key j) 54)) (w8 (upd (inF key 54 j) j (xb (bt key j) 54))) (by kernel_rfl) inz5 (by omega) rfl rfl (fun j _ => put_w8 _ _ _ j) ?_
      intro u5 M
      replace M : Mem ⟨w, []⟩ [⟨g1, .cells (av 64 (w8 (upd (inF key 54 j) j (xb (bt key j) 54)))) 5⟩, ⟨g2, .cells (av 64 (w8 (inF key 92 j))) 5⟩] u5 := M
      refine pl_nil ?_
      refine au_then ?_
      refine rg_lit ?_
      refine pl_val (want_no rfl) (some 32) rfl (.slice (some ⟨g2, 0, none⟩) 64 64) (fun _ => by kernel_rfl) ?_
      refine pl_val (want_no rfl) (some 33) rfl (.int .i64 (j : Int)) (fun _ => by kernel_rfl) ?_
      refine pl_val (want_no rfl) (some 34) rfl (.int .u8 0) (fun _ => by kernel_rfl) ?_
      refine pl_val (want_no rfl) (some 35) rfl (.int .u8 (xb (bt key j) 92)) (fun w => Eq.trans (b := .ok (.value (.int .u8 (xb 0 92))) w) (by kernel_rfl) (by rw [bt_out key j (by omega)])) ?_
      refine pl_val (want_no rfl) (some 36) rfl (.pointer (some ⟨g2, j, none⟩)) (run_ix0 42 5 Tryd.underlying42 inz5 _ _ rfl g2 64 64 (by kernel_rfl) .i64 j (by kernel_rfl) (by omega)) ?_
      refine pl_put1 M (want_no rfl) rfl 5 _ _ rfl 1 g2 j (by kernel_rfl) 64 5 (w8 (inF key 92 j)) rfl (.int .u8 (xb (bt key j) 92)) (w8 (upd (inF key 92 j) j (xb (bt key j) 92))) (by kernel_rfl) inz5 (by omega) rfl rfl (fun j _ => put_w8 _ _ _ j) ?_
      intro u6 M
      replace M : Mem ⟨w, []⟩ [⟨g1, .cells (av 64 (w8 (upd (inF key 54 j) j (xb (bt key j) 54)))) 5⟩, ⟨g2, .cells (av 64 (w8 (upd (inF key 92 j) j (xb (bt key j) 92)))) 5⟩] u6 := M
      refine pl_nil ?_
      refine au_block ?_
      refine au_then ?_
      refine rg_lit ?_
      refine pl_val (want_no rfl) (some 18) rfl (.int .i64 (j : Int)) (fun _ => by kernel_rfl) ?_
      refine pl_val (want_no rfl) (some 19) rfl (.int .i64 ((j + 1 : Nat) : Int)) (fun w => Eq.trans (b := .ok (.value (.int .i64 (IntKind.wrap .i64 ((j : Int) + 1)))) w) (by kernel_rfl) (by rw [wrap64 (by omega) (by omega)]; congr 3)) ?_
      refine pl_val (want_no rfl) (some 7) rfl (.int .i64 ((j + 1 : Nat) : Int)) (fun _ => by kernel_rfl) ?_
      refine pl_nil ?_
      refine au_then ?_
      exact ⟨fun k_ => ([.int .u8 0, undef, undef, undef, undef, undef, undef, undef, .int .i64 (j : Int), .bool true, .int .i64 (j : Int), .int .i64 ((j + 1 : Nat) : Int), .int .i64 (j : Int), .string key, .int .i64 (key.size : Int), .bool false, v1 24, v1 25, v1 26, .slice (some ⟨g1, 0, none⟩) 64 64, .int .i64 (j : Int), .int .u8 0, .int .u8 (xb (bt key j) 54), .pointer (some ⟨g1, j, none⟩), .slice (some ⟨g2, 0, none⟩) 64 64, .int .i64 (j : Int), .int .u8 0, .int .u8 (xb (bt key j) 92), .pointer (some ⟨g2, j, none⟩)] : List Value).getD (k_ - 8) undef, by kernel_rfl, M⟩
  · intro a u0 hI
    obtain ⟨v1, rfl, M⟩ := hI
    refine wp_seq ?_
    refine wp_seq ?_
    refine rg_lit ?_
    refine pl_val (want_no rfl) (some 16) rfl (.int .i64 (64 : Int)) (fun _ => by kernel_rfl) ?_
    refine pl_val (want_no rfl) (some 17) rfl (.bool false) (fun w => Eq.trans (b := .ok (.value (.bool (decide ((64 : Int) < 64)))) w) (by kernel_rfl) (by rw [decide_eq_false (by omega)])) ?_
    refine pl_nil ?_
    refine au_then ?_
    refine wp_cond_false (by kernel_rfl) ?_
    refine wp_exit ?_
    refine au_then_exit ?_
    refine au_then_exit ?_
    refine au_block_exit ?_
    refine au_then ?_
    refine wp_seq ?_
    refine rg_tail M 9 (by kernel_rfl) (by kernel_rfl) ?_
    simp only [List.take_succ_cons, List.take_zero]
    refine k_val (want_no rfl) (some 37) rfl (.slice (some ⟨g2, 0, none⟩) 64 64) (fun _ => by kernel_rfl) ?_
    refine k_back M (want_no rfl) (some 38) rfl _ rfl 1 g2 64 64 (by kernel_rfl) _ rfl ((List.range 64).map (inF key 92 64)) 64 (sb_av 64 _ _) (by simp) (in_nn key 92) (mk (bt key) 92) (in_back key 92) ?_
    refine k_val (want_no rfl) (some 39) rfl (.slice (some ⟨g1, 0, none⟩) 64 64) (fun _ => by kernel_rfl) ?_
    refine k_back M (want_no rfl) (some 40) rfl _ rfl 0 g1 64 64 (by kernel_rfl) _ rfl ((List.range 64).map (inF key 54 64)) 64 (sb_av 64 _ _) (by simp) (in_nn key 54) (mk (bt key) 54) (in_back key 54) ?_
    refine k_val (want_no rfl) (some 41) rfl (.string s) (fun _ => by kernel_rfl) ?_
    refine k_val (want_no rfl) (some 42) rfl (.string ((mk (bt key) 54) ++ s)) (run_cat 9 9 _ _ rfl (mk (bt key) 54) s (by kernel_rfl) (by kernel_rfl) (by rw [mk_size]; omega)) ?_
    refine k_call M (want_no rfl) (some 43) rfl 17 #[.string ((mk (bt key) 54) ++ s)] (.string (blV 32 strE ((mk (bt key) 54) ++ s))) (fun _ => by kernel_rfl) (fun w M => d_ofb _ (by simp only [ByteArray.size_append, mk_size]; omega) w M.laid) ?_
    refine k_val (want_no rfl) (some 44) rfl (.string ((mk (bt key) 92) ++ (blV 32 strE (mk (bt key) 54 ++ s)))) (run_cat 9 9 _ _ rfl (mk (bt key) 92) (blV 32 strE (mk (bt key) 54 ++ s)) (by kernel_rfl) (by kernel_rfl) (by rw [mk_size, bl_size]; omega)) ?_
    refine k_call M (want_no rfl) (some 45) rfl 17 #[.string ((mk (bt key) 92) ++ (blV 32 strE (mk (bt key) 54 ++ s)))] (.string (blV 32 strE ((mk (bt key) 92) ++ (blV 32 strE (mk (bt key) 54 ++ s))))) (fun _ => by kernel_rfl) (fun w M => d_ofb _ (by simp only [ByteArray.size_append, mk_size, bl_size]; omega) w M.laid) ?_
    refine kl_nil ?_
    intro u7 M
    replace M : Mem ⟨w, []⟩ [⟨g1, .cells (av 64 (w8 (inF key 54 64))) 5⟩, ⟨g2, .cells (av 64 (w8 (inF key 92 64))) 5⟩] u7 := M
    refine pl_val (want_no rfl) (some 4) rfl (.string (blV 32 strE ((mk (bt key) 92) ++ (blV 32 strE (mk (bt key) 54 ++ s))))) (fun _ => by kernel_rfl) ?_
    refine pl_nil ?_
    refine au_then ?_
    refine wp_ret ?_
    have e : hmV key s = (blV 32 strE ((mk (bt key) 92) ++ (blV 32 strE (mk (bt key) 54 ++ s)))) := by
      unfold hmV keyV
      rw [if_neg hk]
      rfl
    rw [e]
    exact bodyPost_ret (v := .string (blV 32 strE ((mk (bt key) 92) ++ (blV 32 strE (mk (bt key) 54 ++ s))))) (results_tmp1 Tryd.results9 _ _ _ (by kernel_rfl)) (by kernel_rfl) ⟨rfl, below_grown M.old⟩

theorem d_hmac (key s : ByteArray) (hs : s.size < 90000) (hk : key.size < 100000) (w : World) (hL : Laid w) : Calls Tryd.prog 9 #[.string key, .string s] w fun r w' => r = .returned (.string (hmV key s)) ∧ Below w.heap.size w w' := by
  by_cases h : 64 < key.size
  · exact d_hmacA key s hs hk h w hL
  · exact d_hmacB key s hs hk h w hL

set_option maxRecDepth 100000 in
set_option maxHeartbeats 4000000 in
theorem d_expeA (key info : ByteArray) (n : Int) (h : n < 0) (w : World) (hL : Laid w)  :
    Calls Tryd.prog 12 #[.string key, .string info, .int .i64 n] w fun r w' => r = .returned (.tuple #[.string ⟨#[]⟩, .int .i64 2]) ∧ Below w.heap.size w w' := by
  go_enter Tryd.func12, Tryd.ntmps12
  have M := Mem.start hL
  refine wp_seq ?_
  refine rg_lit ?_
  refine pl_val (want_no rfl) (some 6) rfl (.string ⟨#[]⟩) (fun _ => by kernel_rfl) ?_
  refine pl_val (want_no rfl) (some 7) rfl (.int .i64 0) (fun _ => by kernel_rfl) ?_
  refine pl_nil ?_
  refine au_then ?_
  refine wp_seq ?_
  refine wp_seq ?_
  refine rg_lit ?_
  refine pl_val (want_no rfl) (some 11) rfl (.int .i64 n) (fun _ => by kernel_rfl) ?_
  refine pl_val (want_no rfl) (some 12) rfl (.bool true) (fun w => Eq.trans (b := .ok (.value (.bool (decide (n < 0)))) w) (by kernel_rfl) (by rw [decide_eq_true (by omega)])) ?_
  refine pl_val (want_no rfl) (some 13) rfl (.bool true) (fun _ => by kernel_rfl) ?_
  refine pl_skip (want_off 2 false rfl 13 rfl (by kernel_rfl)) (some 14) rfl ?_
  refine pl_skip (want_off 2 false rfl 13 rfl (by kernel_rfl)) (some 15) rfl ?_
  refine pl_val (want_no rfl) (some 16) rfl (.bool true) (fun _ => by kernel_rfl) ?_
  refine pl_nil ?_
  refine au_then ?_
  refine wp_cond_true (by kernel_rfl) ?_
  refine wp_seq ?_
  refine rg_lit ?_
  refine pl_val (want_no rfl) (some 6) rfl (.string ⟨#[]⟩) (fun _ => by kernel_rfl) ?_
  refine pl_val (want_no rfl) (some 7) rfl (.int .i64 2) (fun _ => by kernel_rfl) ?_
  refine pl_nil ?_
  refine au_then ?_
  refine wp_ret ?_
  refine au_then_ret ?_
  exact bodyPost_ret (v := .tuple #[.string ⟨#[]⟩, .int .i64 2]) (results_tmp2 Tryd.results12 _ _ _ _ (by kernel_rfl) (by kernel_rfl)) (by kernel_rfl) ⟨rfl, below_grown M.old⟩

set_option maxRecDepth 100000 in
set_option maxHeartbeats 4000000 in
theorem d_expeB (key info : ByteArray) (n : Int) (h1 : ¬ n < 0) (h : 8160 < n) (w : World) (hL : Laid w)  :
    Calls Tryd.prog 12 #[.string key, .string info, .int .i64 n] w fun r w' => r = .returned (.tuple #[.string ⟨#[]⟩, .int .i64 2]) ∧ Below w.heap.size w w' := by
  go_enter Tryd.func12, Tryd.ntmps12
  have M := Mem.start hL
  refine wp_seq ?_
  refine rg_lit ?_
  refine pl_val (want_no rfl) (some 6) rfl (.string ⟨#[]⟩) (fun _ => by kernel_rfl) ?_
  refine pl_val (want_no rfl) (some 7) rfl (.int .i64 0) (fun _ => by kernel_rfl) ?_
  refine pl_nil ?_
  refine au_then ?_
  refine wp_seq ?_
  refine wp_seq ?_
  refine rg_lit ?_
  refine pl_val (want_no rfl) (some 11) rfl (.int .i64 n) (fun _ => by kernel_rfl) ?_
  refine pl_val (want_no rfl) (some 12) rfl (.bool false) (fun w => Eq.trans (b := .ok (.value (.bool (decide (n < 0)))) w) (by kernel_rfl) (by rw [decide_eq_false (by omega)])) ?_
  refine pl_val (want_no rfl) (some 13) rfl (.bool false) (fun _ => by kernel_rfl) ?_
  refine pl_val (want_on 2 false rfl 13 rfl (by kernel_rfl)) (some 14) rfl (.int .i64 n) (fun _ => by kernel_rfl) ?_
  refine pl_val (want_on 2 false rfl 13 rfl (by kernel_rfl)) (some 15) rfl (.bool true) (fun w => Eq.trans (b := .ok (.value (.bool (decide ((8160 : Int) < n)))) w) (by kernel_rfl) (by rw [decide_eq_true (by omega)])) ?_
  refine pl_val (want_no rfl) (some 16) rfl (.bool true) (fun _ => by kernel_rfl) ?_
  refine pl_nil ?_
  refine au_then ?_
  refine wp_cond_true (by kernel_rfl) ?_
  refine wp_seq ?_
  refine rg_lit ?_
  refine pl_val (want_no rfl) (some 6) rfl (.string ⟨#[]⟩) (fun _ => by kernel_rfl) ?_
  refine pl_val (want_no rfl) (some 7) rfl (.int .i64 2) (fun _ => by kernel_rfl) ?_
  refine pl_nil ?_
  refine au_then ?_
  refine wp_ret ?_
  refine au_then_ret ?_
  exact bodyPost_ret (v := .tuple #[.string ⟨#[]⟩, .int .i64 2]) (results_tmp2 Tryd.results12 _ _ _ _ (by kernel_rfl) (by kernel_rfl)) (by kernel_rfl) ⟨rfl, below_grown M.old⟩

theorem d_expe (key info : ByteArray) (n : Int) (h : ¬ (0 ≤ n ∧ n ≤ 8160)) (w : World) (hL : Laid w) : Calls Tryd.prog 12 #[.string key, .string info, .int .i64 n] w fun r w' => r = .returned (.tuple #[.string ⟨#[]⟩, .int .i64 2]) ∧ Below w.heap.size w w' := by
  by_cases h1 : n < 0
  · exact d_expeA key info n h1 w hL
  · exact d_expeB key info n h1 (by omega) w hL

set_option maxRecDepth 100000 in
set_option maxHeartbeats 4000000 in
theorem d_exp (key info : ByteArray) (hi : info.size < 10000) (hk : key.size < 100000) (n : Nat) (hn : n ≤ 8160) (w : World) (hL : Laid w)  :
    Calls Tryd.prog 12 #[.string key, .string info, .int .i64 (n : Int)] w fun r w' => r = .returned (.tuple #[.string (exV key info n), .int .i64 0]) ∧ Below w.heap.size w w' := by
  go_enter Tryd.func12, Tryd.ntmps12
  have M := Mem.start hL
  obtain ⟨N, hN⟩ : ∃ N, N = (n + 31) / 32 := ⟨_, rfl⟩
  refine wp_seq ?_
  refine rg_lit ?_
  refine pl_val (want_no rfl) (some 6) rfl (.string ⟨#[]⟩) (fun _ => by kernel_rfl) ?_
  refine pl_val (want_no rfl) (some 7) rfl (.int .i64 0) (fun _ => by kernel_rfl) ?_
  refine pl_nil ?_
  refine au_then ?_
  refine wp_seq ?_
  refine wp_seq ?_
  refine rg_lit ?_
  refine pl_val (want_no rfl) (some 11) rfl (.int .i64 (n : Int)) (fun _ => by kernel_rfl) ?_
  refine pl_val (want_no rfl) (some 12) rfl (.bool false) (fun w => Eq.trans (b := .ok (.value (.bool (decide ((n : Int) < 0)))) w) (by kernel_rfl) (by rw [decide_eq_false (by omega)])) ?_
  refine pl_val (want_no rfl) (some 13) rfl (.bool false) (fun _ => by kernel_rfl) ?_
  refine pl_val (want_on 2 false rfl 13 rfl (by kernel_rfl)) (some 14) rfl (.int .i64 (n : Int)) (fun _ => by kernel_rfl) ?_
  refine pl_val (want_on 2 false rfl 13 rfl (by kernel_rfl)) (some 15) rfl (.bool false) (fun w => Eq.trans (b := .ok (.value (.bool (decide ((8160 : Int) < (n : Int))))) w) (by kernel_rfl) (by rw [decide_eq_false (by omega)])) ?_
  refine pl_val (want_no rfl) (some 16) rfl (.bool false) (fun _ => by kernel_rfl) ?_
  refine pl_nil ?_
  refine au_then ?_
  refine wp_cond_false (by kernel_rfl) ?_
  refine wp_skip ?_
  refine au_then ?_
  refine wp_seq ?_
  refine rg_lit ?_
  refine pl_val (want_no rfl) (some 8) rfl (.string ⟨#[]⟩) (fun _ => by kernel_rfl) ?_
  refine pl_nil ?_
  refine au_then ?_
  refine wp_seq ?_
  refine rg_lit ?_
  refine pl_val (want_no rfl) (some 9) rfl (.string ⟨#[]⟩) (fun _ => by kernel_rfl) ?_
  refine pl_nil ?_
  refine au_then ?_
  refine wp_seq ?_
  refine wp_seq ?_
  refine rg_lit ?_
  refine pl_val (want_no rfl) (some 10) rfl (.int .i64 1) (fun _ => by kernel_rfl) ?_
  refine pl_nil ?_
  refine au_then ?_
  refine wp_block ?_
  refine au_loop (fun j a w' => ∃ v1 : Nat → Value, a = ⟨#[.string key, .string info, .int .i64 (n : Int), undef, undef, undef, .string ⟨#[]⟩, .int .i64 0, .string (al (bt (keyV key)) info j), .string (tg (bt (keyV key)) info j), .int .i64 ((j + 1 : Nat) : Int), .int .i64 (n : Int), .bool false, .bool false, .int .i64 (n : Int), .bool false, .bool false, v1 17, v1 18, v1 19, v1 20, v1 21, v1 22, v1 23, v1 24, v1 25, v1 26, v1 27, v1 28, v1 29, v1 30, v1 31, v1 32, v1 33, v1 34, v1 35, undef, undef, undef], []⟩ ∧ Mem ⟨w, []⟩ [] w') N ⟨fun k_ => ([undef, undef, undef, undef, undef, undef, undef, undef, undef, undef, undef, undef, undef, undef, undef, undef, undef, undef, undef] : List Value).getD (k_ - 17) undef, by kernel_rfl, M⟩ ?_ ?_
  · intro j a u0 hj hI
    obtain ⟨v1, rfl, M⟩ := hI
    refine wp_seq ?_
    refine wp_seq ?_
    refine rg_lit ?_
    refine pl_val (want_no rfl) (some 17) rfl (.string (al (bt (keyV key)) info j)) (fun _ => by kernel_rfl) ?_
    refine pl_val (want_no rfl) (some 18) rfl (.int .i64 ((al (bt (keyV key)) info j).size : Int)) (fun _ => by kernel_rfl) ?_
    refine pl_val (want_no rfl) (some 19) rfl (.int .i64 (n : Int)) (fun _ => by kernel_rfl) ?_
    refine pl_val (want_no rfl) (some 20) rfl (.bool true) (fun w => Eq.trans (b := .ok (.value (.bool (decide (((al (bt (keyV key)) info j).size : Int) < (n : Int))))) w) (by kernel_rfl) (by rw [decide_eq_true (by rw [al_size]; omega)])) ?_
    refine pl_nil ?_
    refine au_then ?_
    refine wp_cond_true (by kernel_rfl) ?_
    refine wp_skip ?_
    refine au_then ?_
    refine wp_seq ?_
    refine wp_block ?_
    refine wp_seq ?_
    refine rg_lit ?_
    refine pl_val (want_no rfl) (some 23) rfl (.string key) (fun _ => by kernel_rfl) ?_
    refine pl_val (want_no rfl) (some 24) rfl (.string (tg (bt (keyV key)) info j)) (fun _ => by kernel_rfl) ?_
    refine pl_val (want_no rfl) (some 25) rfl (.string info) (fun _ => by kernel_rfl) ?_
    refine pl_val (want_no rfl) (some 26) rfl (.string ((tg (bt (keyV key)) info j) ++ info)) (run_cat 9 9 _ _ rfl (tg (bt (keyV key)) info j) info (by kernel_rfl) (by kernel_rfl) (by have := tg_le (bt (keyV key)) info j; omega)) ?_
    refine pl_val (want_no rfl) (some 27) rfl (.int .i64 ((j + 1 : Nat) : Int)) (fun _ => by kernel_rfl) ?_
    refine pl_val (want_no rfl) (some 28) rfl (.int .u8 ((j + 1 : Nat) : Int)) (fun w => Eq.trans (b := .ok (.value (.int .u8 (cv .u8 ((j + 1 : Nat) : Int)))) w) (by kernel_rfl) (by rw [cv8_id _ (by omega)])) ?_
    refine pl_mk M (want_no rfl) (some 29) rfl (fun g1 => .slice (some ⟨g1, 0, none⟩) 1 1) (.cells (av 1 (fun _ => .int .u8 ((j + 1 : Nat) : Int))) 5) (fun _ => by kernel_rfl) ?_
    intro g1 u1 M
    replace M : Mem ⟨w, []⟩ [⟨g1, .cells (av 1 (fun _ => .int .u8 ((j + 1 : Nat) : Int))) 5⟩] u1 := M
    refine pl_back M (want_no rfl) (some 30) rfl _ rfl 0 g1 1 1 (by kernel_rfl) _ rfl [((j + 1 : Nat) : Int)] 1 (sb_one _ _) rfl (by intro x hx; rw [List.mem_singleton.1 hx]; omega) ?_
    refine pl_val (want_no rfl) (some 31) rfl (.string (((tg (bt (keyV key)) info j) ++ info) ++ (bs [((j + 1 : Nat) : Int)]))) (run_cat 9 9 _ _ rfl ((tg (bt (keyV key)) info j) ++ info) (bs [((j + 1 : Nat) : Int)]) (by kernel_rfl) (by kernel_rfl) (by rw [ByteArray.size_append, bs_size]; have := tg_le (bt (keyV key)) info j; simp; omega)) ?_
    refine pl_call M (want_no rfl) (some 32) rfl 9 #[.string key, .string (((tg (bt (keyV key)) info j) ++ info) ++ (bs [((j + 1 : Nat) : Int)]))] (.string (tg (bt (keyV key)) info (j + 1))) (fun _ => by kernel_rfl) (fun w M => d_hmac key _ (by simp only [ByteArray.size_append, bs_size]; have := tg_le (bt (keyV key)) info j; simp; omega) hk w M.laid) ?_
    intro u2 M
    refine pl_val (want_no rfl) (some 9) rfl (.string (tg (bt (keyV key)) info (j + 1))) (fun _ => by kernel_rfl) ?_
    refine pl_nil ?_
    refine au_then ?_
    refine rg_lit ?_
    refine pl_val (want_no rfl) (some 33) rfl (.string (al (bt (keyV key)) info j)) (fun _ => by kernel_rfl) ?_
    refine pl_val (want_no rfl) (some 34) rfl (.string (tg (bt (keyV key)) info (j + 1))) (fun _ => by kernel_rfl) ?_
    refine pl_val (want_no rfl) (some 35) rfl (.string (al (bt (keyV key)) info (j + 1))) (run_cat 9 9 _ _ rfl (al (bt (keyV key)) info j) (tg (bt (keyV key)) info (j + 1)) (by kernel_rfl) (by kernel_rfl) (by rw [al_size, tg_size]; omega)) ?_
    refine pl_val (want_no rfl) (some 8) rfl (.string (al (bt (keyV key)) info (j + 1))) (fun _ => by kernel_rfl) ?_
    refine pl_nil ?_
    refine au_block ?_
    refine au_then ?_
    refine rg_lit ?_
    refine pl_val (want_no rfl) (some 21) rfl (.int .i64 ((j + 1 : Nat) : Int)) (fun _ => by kernel_rfl) ?_
    refine pl_val (want_no rfl) (some 22) rfl (.int .i64 ((j + 1 + 1 : Nat) : Int)) (fun w => Eq.trans (b := .ok (.value (.int .i64 (IntKind.wrap .i64 (((j + 1 : Nat) : Int) + 1)))) w) (by kernel_rfl) (by rw [wrap64 (by omega) (by omega)]; congr 3 <;> omega)) ?_
    refine pl_val (want_no rfl) (some 10) rfl (.int .i64 ((j + 1 + 1 : Nat) : Int)) (fun _ => by kernel_rfl) ?_
    refine pl_nil ?_
    refine au_then ?_
    exact ⟨fun k_ => ([.string (al (bt (keyV key)) info j), .int .i64 ((al (bt (keyV key)) info j).size : Int), .int .i64 (n : Int), .bool true, .int .i64 ((j + 1 : Nat) : Int), .int .i64 ((j + 1 + 1 : Nat) : Int), .string key, .string (tg (bt (keyV key)) info j), .string info, .string ((tg (bt (keyV key)) info j) ++ info), .int .i64 ((j + 1 : Nat) : Int), .int .u8 ((j + 1 : Nat) : Int), .slice (some ⟨g1, 0, none⟩) 1 1, .string (bs [((j + 1 : Nat) : Int)]), .string (((tg (bt (keyV key)) info j) ++ info) ++ (bs [((j + 1 : Nat) : Int)])), .string (tg (bt (keyV key)) info (j + 1)), .string (al (bt (keyV key)) info j), .string (tg (bt (keyV key)) info (j + 1)), .string (al (bt (keyV key)) info (j + 1))] : List Value).getD (k_ - 17) undef, by kernel_rfl, M.drop (.cons _ (.slnil))⟩
  · intro a u0 hI
    obtain ⟨v1, rfl, M⟩ := hI
    refine wp_seq ?_
    refine wp_seq ?_
    refine rg_lit ?_
    refine pl_val (want_no rfl) (some 17) rfl (.string (al (bt (keyV key)) info N)) (fun _ => by kernel_rfl) ?_
    refine pl_val (want_no rfl) (some 18) rfl (.int .i64 ((al (bt (keyV key)) info N).size : Int)) (fun _ => by kernel_rfl) ?_
    refine pl_val (want_no rfl) (some 19) rfl (.int .i64 (n : Int)) (fun _ => by kernel_rfl) ?_
    refine pl_val (want_no rfl) (some 20) rfl (.bool false) (fun w => Eq.trans (b := .ok (.value (.bool (decide (((al (bt (keyV key)) info N).size : Int) < (n : Int))))) w) (by kernel_rfl) (by rw [decide_eq_false (by rw [al_size]; omega)])) ?_
    refine pl_nil ?_
    refine au_then ?_
    refine wp_cond_false (by kernel_rfl) ?_
    refine wp_exit ?_
    refine au_then_exit ?_
    refine au_then_exit ?_
    refine au_block_exit ?_
    refine au_then ?_
    refine wp_seq ?_
    refine rg_lit ?_
    refine pl_val (want_no rfl) (some 36) rfl (.string (al (bt (keyV key)) info N)) (fun _ => by kernel_rfl) ?_
    refine pl_val (want_no rfl) (some 37) rfl (.int .i64 (n : Int)) (fun _ => by kernel_rfl) ?_
    refine pl_val (want_no rfl) (some 38) rfl (.string (exV key info n)) (run_strh 9 Tryd.underlying9 _ _ rfl (al (bt (keyV key)) info N) (by kernel_rfl) .i64 n (by kernel_rfl) (by rw [al_size]; omega) _ (by unfold exV; rw [hN])) ?_
    refine pl_val (want_no rfl) (some 6) rfl (.string (exV key info n)) (fun _ => by kernel_rfl) ?_
    refine pl_val (want_no rfl) (some 7) rfl (.int .i64 0) (fun _ => by kernel_rfl) ?_
    refine pl_nil ?_
    refine au_then ?_
    refine wp_ret ?_
    exact bodyPost_ret (v := .tuple #[.string (exV key info n), .int .i64 0]) (results_tmp2 Tryd.results12 _ _ _ _ (by kernel_rfl) (by kernel_rfl)) (by kernel_rfl) ⟨rfl, below_grown M.old⟩

set_option maxRecDepth 100000 in
set_option maxHeartbeats 4000000 in
theorem d_cheA (key s : ByteArray) (n : Int) (h : n < 1) (w : World) (hL : Laid w)  :
    Calls Tryd.prog 14 #[.string key, .string s, .int .i64 n] w fun r w' => r = .returned (.tuple #[.slice none 0 0, .int .i64 2]) ∧ Below w.heap.size w w' := by
  go_enter Tryd.func14, Tryd.ntmps14
  have M := Mem.start hL
  refine wp_seq ?_
  refine rg_lit ?_
  refine pl_val (want_no rfl) (some 6) rfl (.slice none 0 0) (fun _ => by kernel_rfl) ?_
  refine pl_val (want_no rfl) (some 7) rfl (.int .i64 0) (fun _ => by kernel_rfl) ?_
  refine pl_nil ?_
  refine au_then ?_
  refine wp_seq ?_
  refine wp_seq ?_
  refine rg_lit ?_
  refine pl_val (want_no rfl) (some 12) rfl (.int .i64 n) (fun _ => by kernel_rfl) ?_
  refine pl_val (want_no rfl) (some 13) rfl (.bool true) (fun w => Eq.trans (b := .ok (.value (.bool (decide (n < 1)))) w) (by kernel_rfl) (by rw [decide_eq_true (by omega)])) ?_
  refine pl_val (want_no rfl) (some 14) rfl (.bool true) (fun _ => by kernel_rfl) ?_
  refine pl_skip (want_off 2 false rfl 14 rfl (by kernel_rfl)) (some 15) rfl ?_
  refine pl_skip (want_off 2 false rfl 14 rfl (by kernel_rfl)) (some 16) rfl ?_
  refine pl_val (want_no rfl) (some 17) rfl (.bool true) (fun _ => by kernel_rfl) ?_
  refine pl_nil ?_
  refine au_then ?_
  refine wp_cond_true (by kernel_rfl) ?_
  refine wp_seq ?_
  refine rg_lit ?_
  refine pl_val (want_no rfl) (some 6) rfl (.slice none 0 0) (fun _ => by kernel_rfl) ?_
  refine pl_val (want_no rfl) (some 7) rfl (.int .i64 2) (fun _ => by kernel_rfl) ?_
  refine pl_nil ?_
  refine au_then ?_
  refine wp_ret ?_
  refine au_then_ret ?_
  exact bodyPost_ret (v := .tuple #[.slice none 0 0, .int .i64 2]) (results_tmp2 Tryd.results14 _ _ _ _ (by kernel_rfl) (by kernel_rfl)) (by kernel_rfl) ⟨rfl, below_grown M.old⟩

set_option maxRecDepth 100000 in
set_option maxHeartbeats 4000000 in
theorem d_cheB (key s : ByteArray) (n : Int) (h1 : ¬ n < 1) (h : 3 < n) (w : World) (hL : Laid w)  :
    Calls Tryd.prog 14 #[.string key, .string s, .int .i64 n] w fun r w' => r = .returned (.tuple #[.slice none 0 0, .int .i64 2]) ∧ Below w.heap.size w w' := by
  go_enter Tryd.func14, Tryd.ntmps14
  have M := Mem.start hL
  refine wp_seq ?_
  refine rg_lit ?_
  refine pl_val (want_no rfl) (some 6) rfl (.slice none 0 0) (fun _ => by kernel_rfl) ?_
  refine pl_val (want_no rfl) (some 7) rfl (.int .i64 0) (fun _ => by kernel_rfl) ?_
  refine pl_nil ?_
  refine au_then ?_
  refine wp_seq ?_
  refine wp_seq ?_
  refine rg_lit ?_
  refine pl_val (want_no rfl) (some 12) rfl (.int .i64 n) (fun _ => by kernel_rfl) ?_
  refine pl_val (want_no rfl) (some 13) rfl (.bool false) (fun w => Eq.trans (b := .ok (.value (.bool (decide (n < 1)))) w) (by kernel_rfl) (by rw [decide_eq_false (by omega)])) ?_
  refine pl_val (want_no rfl) (some 14) rfl (.bool false) (fun _ => by kernel_rfl) ?_
  refine pl_val (want_on 2 false rfl 14 rfl (by kernel_rfl)) (some 15) rfl (.int .i64 n) (fun _ => by kernel_rfl) ?_
  refine pl_val (want_on 2 false rfl 14 rfl (by kernel_rfl)) (some 16) rfl (.bool true) (fun w => Eq.trans (b := .ok (.value (.bool (decide ((3 : Int) < n)))) w) (by kernel_rfl) (by rw [decide_eq_true (by omega)])) ?_
  refine pl_val (want_no rfl) (some 17) rfl (.bool true) (fun _ => by kernel_rfl) ?_
  refine pl_nil ?_
  refine au_then ?_
  refine wp_cond_true (by kernel_rfl) ?_
  refine wp_seq ?_
  refine rg_lit ?_
  refine pl_val (want_no rfl) (some 6) rfl (.slice none 0 0) (fun _ => by kernel_rfl) ?_
  refine pl_val (want_no rfl) (some 7) rfl (.int .i64 2) (fun _ => by kernel_rfl) ?_
  refine pl_nil ?_
  refine au_then ?_
  refine wp_ret ?_
  refine au_then_ret ?_
  exact bodyPost_ret (v := .tuple #[.slice none 0 0, .int .i64 2]) (results_tmp2 Tryd.results14 _ _ _ _ (by kernel_rfl) (by kernel_rfl)) (by kernel_rfl) ⟨rfl, below_grown M.old⟩

theorem d_che (key s : ByteArray) (n : Int) (h : ¬ (1 ≤ n ∧ n ≤ 3)) (w : World) (hL : Laid w) : Calls Tryd.prog 14 #[.string key, .string s, .int .i64 n] w fun r w' => r = .returned (.tuple #[.slice none 0 0, .int .i64 2]) ∧ Below w.heap.size w w' := by
  by_cases h1 : n < 1
  · exact d_cheA key s n h1 w hL
  · exact d_cheB key s n h1 (by omega) w hL

set_option maxRecDepth 100000 in
set_option maxHeartbeats 4000000 in
theorem d_ch (key s : ByteArray) (hs : s.size < 10000) (hk : key.size < 100000) (n : Nat) (h1 : 1 ≤ n) (h3 : n ≤ 3) (w : World) (hL : Laid w)  :
    Calls Tryd.prog 14 #[.string key, .string s, .int .i64 (n : Int)] w fun r w' => ∃ g cap Y, r = .returned (.tuple #[.slice (some ⟨g, 0, none⟩) n cap, .int .i64 0]) ∧ w.heap.size ≤ g ∧ w'.heap[g]? = some Y ∧ SB Y cap (vtx (txt key s) n) ∧ Below w.heap.size w w' := by
  go_enter Tryd.func14, Tryd.ntmps14
  have M := Mem.start hL
  refine wp_seq ?_
  refine rg_lit ?_
  refine pl_val (want_no rfl) (some 6) rfl (.slice none 0 0) (fun _ => by kernel_rfl) ?_
  refine pl_val (want_no rfl) (some 7) rfl (.int .i64 0) (fun _ => by kernel_rfl) ?_
  refine pl_nil ?_
  refine au_then ?_
  refine wp_seq ?_
  refine wp_seq ?_
  refine rg_lit ?_
  refine pl_val (want_no rfl) (some 12) rfl (.int .i64 (n : Int)) (fun _ => by kernel_rfl) ?_
  refine pl_val (want_no rfl) (some 13) rfl (.bool false) (fun w => Eq.trans (b := .ok (.value (.bool (decide ((n : Int) < 1)))) w) (by kernel_rfl) (by rw [decide_eq_false (by omega)])) ?_
  refine pl_val (want_no rfl) (some 14) rfl (.bool false) (fun _ => by kernel_rfl) ?_
  refine pl_val (want_on 2 false rfl 14 rfl (by kernel_rfl)) (some 15) rfl (.int .i64 (n : Int)) (fun _ => by kernel_rfl) ?_
  refine pl_val (want_on 2 false rfl 14 rfl (by kernel_rfl)) (some 16) rfl (.bool false) (fun w => Eq.trans (b := .ok (.value (.bool (decide ((3 : Int) < (n : Int))))) w) (by kernel_rfl) (by rw [decide_eq_false (by omega)])) ?_
  refine pl_val (want_no rfl) (some 17) rfl (.bool false) (fun _ => by kernel_rfl) ?_
  refine pl_nil ?_
  refine au_then ?_
  refine wp_cond_false (by kernel_rfl) ?_
  refine wp_skip ?_
  refine au_then ?_
  refine wp_seq ?_
  refine rg_lit ?_
  refine pl_val (want_no rfl) (some 19) rfl (.string key) (fun _ => by kernel_rfl) ?_
  refine pl_val (want_no rfl) (some 20) rfl (.string s) (fun _ => by kernel_rfl) ?_
  refine pl_call M (want_no rfl) (some 21) rfl 9 #[.string key, .string s] (.string (hmV key s)) (fun _ => by kernel_rfl) (fun w M => d_hmac key s (by omega) hk w M.laid) ?_
  intro u1 M
  refine pl_val (want_no rfl) (some 22) rfl (.int .i64 (n : Int)) (fun _ => by kernel_rfl) ?_
  refine pl_val (want_no rfl) (some 23) rfl (.int .i64 ((n * 32 : Nat) : Int)) (fun w => Eq.trans (b := .ok (.value (.int .i64 (IntKind.wrap .i64 (32 * (n : Int))))) w) (by kernel_rfl) (by rw [wrap64 (by omega) (by omega)]; congr 3 <;> omega)) ?_
  refine pl_call M (want_no rfl) (some 24) rfl 12 #[.string (hmV key s), .string ⟨#[]⟩, .int .i64 ((n * 32 : Nat) : Int)] (.tuple #[.string (exV (hmV key s) strE (n * 32)), .int .i64 0]) (fun _ => by kernel_rfl) (fun w M => d_exp (hmV key s) strE (by decide) (by rw [hmV_size]; decide) (n * 32) (by omega) w M.laid) ?_
  intro u2 M
  refine pl_val (want_no rfl) (some 18) rfl (.tuple #[.string (exV (hmV key s) strE (n * 32)), .int .i64 0]) (fun _ => by kernel_rfl) ?_
  refine pl_val (want_no rfl) (some 25) rfl (.string (exV (hmV key s) strE (n * 32))) (fun _ => by kernel_rfl) ?_
  refine pl_val (want_no rfl) (some 26) rfl (.int .i64 0) (fun _ => by kernel_rfl) ?_
  refine pl_val (want_no rfl) (some 8) rfl (.string (exV (hmV key s) strE (n * 32))) (fun _ => by kernel_rfl) ?_
  refine pl_val (want_no rfl) (some 9) rfl (.int .i64 0) (fun _ => by kernel_rfl) ?_
  refine pl_nil ?_
  refine au_then ?_
  refine wp_seq ?_
  refine rg_lit ?_
  refine pl_val (want_no rfl) (some 10) rfl (.slice none 0 0) (fun _ => by kernel_rfl) ?_
  refine pl_nil ?_
  refine au_then ?_
  refine wp_seq ?_
  refine wp_seq ?_
  refine rg_lit ?_
  refine pl_val (want_no rfl) (some 11) rfl (.int .i64 0) (fun _ => by kernel_rfl) ?_
  refine pl_nil ?_
  refine au_then ?_
  refine wp_block ?_
  refine au_loop (fun j a w' => ∃ (v9 : Nat → Value) (sl : Value), a = ⟨#[.string key, .string s, .int .i64 (n : Int), undef, undef, undef, .slice none 0 0, .int .i64 0, .string (exV (hmV key s) strE (n * 32)), .int .i64 0, sl, .int .i64 (j : Int), .int .i64 (n : Int), .bool false, .bool false, .int .i64 (n : Int), .bool false, .bool false, .tuple #[.string (exV (hmV key s) strE (n * 32)), .int .i64 0], .string key, .string s, .string (hmV key s), .int .i64 (n : Int), .int .i64 ((n * 32 : Nat) : Int), .tuple #[.string (exV (hmV key s) strE (n * 32)), .int .i64 0], .string (exV (hmV key s) strE (n * 32)), .int .i64 0, v9 27, v9 28, v9 29, v9 30, v9 31, v9 32, v9 33, v9 34, v9 35, v9 36, v9 37, v9 38, v9 39, v9 40, v9 41, undef], []⟩ ∧ ((j = 0 ∧ sl = .slice none 0 0 ∧ Mem ⟨w, []⟩ [] w') ∨ (∃ (gq capq : Nat) (Zq : Obj), sl = .slice (some ⟨gq, 0, none⟩) j capq ∧ SB Zq capq (vtx (txt key s) j) ∧ Mem ⟨w, []⟩ [⟨gq, Zq⟩] w'))) n ⟨fun k_ => ([undef, undef, undef, undef, undef, undef, undef, undef, undef, undef, undef, undef, undef, undef, undef] : List Value).getD (k_ - 27) undef, .slice none 0 0, by kernel_rfl, .inl ⟨rfl, rfl, M⟩⟩ ?_ ?_
  · intro j a u0 hj hI
    obtain ⟨v9, sl, rfl, hI⟩ := hI
    rcases hI with ⟨rfl, rfl, M⟩ | ⟨gq, capq, Zq, rfl, hZq, M⟩
    · skip
      refine wp_seq ?_
      refine wp_seq ?_
      refine rg_lit ?_
      refine pl_val (want_no rfl) (some 27) rfl (.int .i64 0) (fun _ => by kernel_rfl) ?_
      refine pl_val (want_no rfl) (some 28) rfl (.int .i64 (n : Int)) (fun _ => by kernel_rfl) ?_
      refine pl_val (want_no rfl) (some 29) rfl (.bool true) (fun w => Eq.trans (b := .ok (.value (.bool (decide ((0 : Int) < (n : Int))))) w) (by kernel_rfl) (by rw [decide_eq_true (by omega)])) ?_
      refine pl_nil ?_
      refine au_then ?_
      refine wp_cond_true (by kernel_rfl) ?_
      refine wp_skip ?_
      refine au_then ?_
      refine wp_seq ?_
      refine wp_block ?_
      refine rg_lit ?_
      refine pl_val (want_no rfl) (some 32) rfl (.slice none 0 0) (fun _ => by kernel_rfl) ?_
      refine pl_val (want_no rfl) (some 33) rfl (.string (exV (hmV key s) strE (n * 32))) (fun _ => by kernel_rfl) ?_
      refine pl_val (want_no rfl) (some 34) rfl (.int .i64 0) (fun _ => by kernel_rfl) ?_
      refine pl_val (want_no rfl) (some 35) rfl (.int .i64 0) (fun _ => by kernel_rfl) ?_
      refine pl_val (want_no rfl) (some 36) rfl (.int .i64 0) (fun _ => by kernel_rfl) ?_
      refine pl_val (want_no rfl) (some 37) rfl (.int .i64 0) (fun _ => by kernel_rfl) ?_
      refine pl_val (want_no rfl) (some 38) rfl (.int .i64 32) (fun _ => by kernel_rfl) ?_
      refine pl_val (want_no rfl) (some 39) rfl (.string (txt key s 0)) (fun w => Eq.trans (run_strlh 9 Tryd.underlying9 _ _ _ rfl (exV (hmV key s) strE (n * 32)) (by kernel_rfl) .i64 .i64 0 32 (by kernel_rfl) (by kernel_rfl) (by omega) (by rw [exV_size]; omega) w) (congrArg (fun z => Result.ok (Next.value (Value.string z)) w) (ex_cut key s n 0 (by omega)))) ?_
      refine pl_mk M (want_no rfl) (some 40) rfl (fun g1 => .slice (some ⟨g1, 0, none⟩) 1 1) (.cells (av 1 (fun _ => .string (txt key s 0))) 9) (fun _ => by kernel_rfl) ?_
      intro g1 u3 M
      replace M : Mem ⟨w, []⟩ [⟨g1, .cells (av 1 (fun _ => .string (txt key s 0))) 9⟩] u3 := M
      refine pl_app0 M (want_no rfl) (some 41) rfl 31 31 9 _ (.string ⟨#[]⟩) Tryd.underlying31 info9_eq info9_z (by kernel_rfl) (by decide +kernel) rfl 0 g1 9 (.string (txt key s 0)) rfl (fun _ => by kernel_rfl) ?_
      intro e1 c1 Y1 u4 hY1 M
      replace hY1 : SB Y1 c1 (vtx (txt key s) (0 + 1)) := hY1
      replace M : Mem ⟨w, []⟩ [⟨g1, .cells (av 1 (fun _ => .string (txt key s 0))) 9⟩, ⟨e1, Y1⟩] u4 := M
      refine pl_val (want_no rfl) (some 10) rfl (.slice (some ⟨e1, 0, none⟩) 1 c1) (fun _ => by kernel_rfl) ?_
      refine pl_nil ?_
      refine au_block ?_
      refine au_then ?_
      refine rg_lit ?_
      refine pl_val (want_no rfl) (some 30) rfl (.int .i64 0) (fun _ => by kernel_rfl) ?_
      refine pl_val (want_no rfl) (some 31) rfl (.int .i64 1) (fun _ => by kernel_rfl) ?_
      refine pl_val (want_no rfl) (some 11) rfl (.int .i64 1) (fun _ => by kernel_rfl) ?_
      refine pl_nil ?_
      refine au_then ?_
      exact ⟨fun k_ => ([.int .i64 0, .int .i64 (n : Int), .bool true, .int .i64 0, .int .i64 1, .slice none 0 0, .string (exV (hmV key s) strE (n * 32)), .int .i64 0, .int .i64 0, .int .i64 0, .int .i64 0, .int .i64 32, .string (txt key s 0), .slice (some ⟨g1, 0, none⟩) 1 1, .slice (some ⟨e1, 0, none⟩) 1 c1] : List Value).getD (k_ - 27) undef, _, by kernel_rfl, .inr ⟨e1, c1, Y1, rfl, hY1, M.drop (.cons _ (.cons_cons _ (.slnil)))⟩⟩
    · skip
      refine wp_seq ?_
      refine wp_seq ?_
      refine rg_lit ?_
      refine pl_val (want_no rfl) (some 27) rfl (.int .i64 (j : Int)) (fun _ => by kernel_rfl) ?_
      refine pl_val (want_no rfl) (some 28) rfl (.int .i64 (n : Int)) (fun _ => by kernel_rfl) ?_
      refine pl_val (want_no rfl) (some 29) rfl (.bool true) (fun w => Eq.trans (b := .ok (.value (.bool (decide ((j : Int) < (n : Int))))) w) (by kernel_rfl) (by rw [decide_eq_true (by omega)])) ?_
      refine pl_nil ?_
      refine au_then ?_
      refine wp_cond_true (by kernel_rfl) ?_
      refine wp_skip ?_
      refine au_then ?_
      refine wp_seq ?_
      refine wp_block ?_
      refine rg_lit ?_
      refine pl_val (want_no rfl) (some 32) rfl (.slice (some ⟨gq, 0, none⟩) j capq) (fun _ => by kernel_rfl) ?_
      refine pl_val (want_no rfl) (some 33) rfl (.string (exV (hmV key s) strE (n * 32))) (fun _ => by kernel_rfl) ?_
      refine pl_val (want_no rfl) (some 34) rfl (.int .i64 (j : Int)) (fun _ => by kernel_rfl) ?_
      refine pl_val (want_no rfl) (some 35) rfl (.int .i64 ((j * 32 : Nat) : Int)) (fun w => Eq.trans (b := .ok (.value (.int .i64 (IntKind.wrap .i64 (32 * (j : Int))))) w) (by kernel_rfl) (by rw [wrap64 (by omega) (by omega)]; congr 3 <;> omega)) ?_
      refine pl_val (want_no rfl) (some 36) rfl (.int .i64 (j : Int)) (fun _ => by kernel_rfl) ?_
      refine pl_val (want_no rfl) (some 37) rfl (.int .i64 ((j * 32 : Nat) : Int)) (fun w => Eq.trans (b := .ok (.value (.int .i64 (IntKind.wrap .i64 (32 * (j : Int))))) w) (by kernel_rfl) (by rw [wrap64 (by omega) (by omega)]; congr 3 <;> omega)) ?_
      refine pl_val (want_no rfl) (some 38) rfl (.int .i64 (((j + 1) * 32 : Nat) : Int)) (fun w => Eq.trans (b := .ok (.value (.int .i64 (IntKind.wrap .i64 (((j * 32 : Nat) : Int) + 32)))) w) (by kernel_rfl) (by rw [wrap64 (by omega) (by omega)]; congr 3 <;> omega)) ?_
      refine pl_val (want_no rfl) (some 39) rfl (.string (txt key s j)) (fun w => Eq.trans (run_strlh 9 Tryd.underlying9 _ _ _ rfl (exV (hmV key s) strE (n * 32)) (by kernel_rfl) .i64 .i64 (j * 32) ((j + 1) * 32) (by kernel_rfl) (by kernel_rfl) (by omega) (by rw [exV_size]; omega) w) (congrArg (fun z => Result.ok (Next.value (Value.string z)) w) (ex_cut key s n j (by omega)))) ?_
      refine pl_mk M (want_no rfl) (some 40) rfl (fun g2 => .slice (some ⟨g2, 0, none⟩) 1 1) (.cells (av 1 (fun _ => .string (txt key s j))) 9) (fun _ => by kernel_rfl) ?_
      intro g2 u5 M
      replace M : Mem ⟨w, []⟩ [⟨gq, Zq⟩, ⟨g2, .cells (av 1 (fun _ => .string (txt key s j))) 9⟩] u5 := M
      refine pl_app M (want_no rfl) (some 41) rfl 31 31 9 _ (.string ⟨#[]⟩) Tryd.underlying31 info9_eq info9_z (by kernel_rfl) (by decide +kernel) rfl 0 gq (j) capq Zq (vtx (txt key s) j) rfl hZq (vtx_length _ _) (by omega) 1 g2 9 (.string (txt key s j)) rfl rfl (fun _ => by kernel_rfl) ?_
      intro e2 c2 Y2 u6 hY2 M
      rw [vtx_app] at hY2
      replace M : Mem ⟨w, []⟩ [⟨g2, .cells (av 1 (fun _ => .string (txt key s j))) 9⟩, ⟨e2, Y2⟩] u6 := M
      refine pl_val (want_no rfl) (some 10) rfl (.slice (some ⟨e2, 0, none⟩) (j + 1) c2) (fun _ => by kernel_rfl) ?_
      refine pl_nil ?_
      refine au_block ?_
      refine au_then ?_
      refine rg_lit ?_
      refine pl_val (want_no rfl) (some 30) rfl (.int .i64 (j : Int)) (fun _ => by kernel_rfl) ?_
      refine pl_val (want_no rfl) (some 31) rfl (.int .i64 ((j + 1 : Nat) : Int)) (fun w => Eq.trans (b := .ok (.value (.int .i64 (IntKind.wrap .i64 ((j : Int) + 1)))) w) (by kernel_rfl) (by rw [wrap64 (by omega) (by omega)]; congr 3)) ?_
      refine pl_val (want_no rfl) (some 11) rfl (.int .i64 ((j + 1 : Nat) : Int)) (fun _ => by kernel_rfl) ?_
      refine pl_nil ?_
      refine au_then ?_
      exact ⟨fun k_ => ([.int .i64 (j : Int), .int .i64 (n : Int), .bool true, .int .i64 (j : Int), .int .i64 ((j + 1 : Nat) : Int), .slice (some ⟨gq, 0, none⟩) j capq, .string (exV (hmV key s) strE (n * 32)), .int .i64 (j : Int), .int .i64 ((j * 32 : Nat) : Int), .int .i64 (j : Int), .int .i64 ((j * 32 : Nat) : Int), .int .i64 (((j + 1) * 32 : Nat) : Int), .string (txt key s j), .slice (some ⟨g2, 0, none⟩) 1 1, .slice (some ⟨e2, 0, none⟩) (j + 1) c2] : List Value).getD (k_ - 27) undef, _, by kernel_rfl, .inr ⟨e2, c2, Y2, rfl, hY2, M.drop (.cons _ (.cons_cons _ (.slnil)))⟩⟩
  · intro a u0 hI
    obtain ⟨v9, sl, rfl, hI⟩ := hI
    rcases hI with ⟨h, _⟩ | ⟨gq, capq, Zq, rfl, hZq, M⟩
    · omega
    · skip
      refine wp_seq ?_
      refine wp_seq ?_
      refine rg_lit ?_
      refine pl_val (want_no rfl) (some 27) rfl (.int .i64 (n : Int)) (fun _ => by kernel_rfl) ?_
      refine pl_val (want_no rfl) (some 28) rfl (.int .i64 (n : Int)) (fun _ => by kernel_rfl) ?_
      refine pl_val (want_no rfl) (some 29) rfl (.bool false) (fun w => Eq.trans (b := .ok (.value (.bool (decide ((n : Int) < (n : Int))))) w) (by kernel_rfl) (by rw [decide_eq_false (by omega)])) ?_
      refine pl_nil ?_
      refine au_then ?_
      refine wp_cond_false (by kernel_rfl) ?_
      refine wp_exit ?_
      refine au_then_exit ?_
      refine au_then_exit ?_
      refine au_block_exit ?_
      refine au_then ?_
      refine wp_seq ?_
      refine rg_lit ?_
      refine pl_val (want_no rfl) (some 42) rfl (.slice (some ⟨gq, 0, none⟩) n capq) (fun _ => by kernel_rfl) ?_
      refine pl_val (want_no rfl) (some 6) rfl (.slice (some ⟨gq, 0, none⟩) n capq) (fun _ => by kernel_rfl) ?_
      refine pl_val (want_no rfl) (some 7) rfl (.int .i64 0) (fun _ => by kernel_rfl) ?_
      refine pl_nil ?_
      refine au_then ?_
      refine wp_ret ?_
      exact bodyPost_ret (v := .tuple #[.slice (some ⟨gq, 0, none⟩) n capq, .int .i64 0]) (results_tmp2 Tryd.results14 _ _ _ _ (by kernel_rfl) (by kernel_rfl)) (by kernel_rfl) ⟨gq, capq, Zq, rfl, (M.ge _ (List.mem_of_getElem? (i := 0) rfl)).elim id (fun h => by cases h), M.get 0 rfl, hZq, below_grown M.old⟩


end Go.Proofs.YtpfneekmbednoaaDoor
