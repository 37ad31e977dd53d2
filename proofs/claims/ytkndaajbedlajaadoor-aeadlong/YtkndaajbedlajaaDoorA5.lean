/- Texts are tagged, sealed and opened: the walks of tagOf, Seal and Open. -/
import Derived.Test.YtkndaajbedlajaaDoorA4
namespace Go.Proofs.YtkndaajbedlajaaDoor
open Go.RowKit

def strE0 : ByteArray := ⟨#[]⟩
def tx2 (ad c : ByteArray) : Nat → Value := fun i => if i = 0 then .string ad else .string c
/-- The key of a tag. -/
def otk (key nonce : ByteArray) : ByteArray := (blk (fw key nonce 0)).extract 0 32
theorem otk_size (key nonce : ByteArray) : (otk key nonce).size = 32 := by
  unfold otk
  rw [ByteArray.size_extract, blk_size]
  rfl
theorem jn_size (ad c : ByteArray) : (jn ad c).size ≤ ad.size + c.size + 48 := by
  have h : (jn ad c).size = (j2 ad c ++ m2 ad c).length := rfl
  rw [h, List.length_append, j2_len, m2_len]
  have := pn_lt ad.size
  have := pn_lt (ad.size + pn ad.size + c.size)
  omega
/-- The tag of what was enciphered, and what stands beside it. -/
def tgO (key nonce ad c : ByteArray) : ByteArray := Pol.tagS (otk key nonce) (jn ad c)
theorem tgO_size (key nonce ad c : ByteArray) : (tgO key nonce ad c).size = 16 := Pol.tagS_size _ _
/-- The text, turned from block 1 on. -/
def tn (key nonce s : ByteArray) : ByteArray := oS (fw key nonce 1) s
theorem tn_size (key nonce s : ByteArray) : (tn key nonce s).size = s.size := oS_size _ _
/-- What a text is when it is sealed. -/
def sealS (key nonce ad s : ByteArray) : ByteArray := tn key nonce s ++ tgO key nonce ad (tn key nonce s)
theorem sealS_size (key nonce ad s : ByteArray) : (sealS key nonce ad s).size = s.size + 16 := by
  unfold sealS
  rw [ByteArray.size_append, tn_size, tgO_size]
theorem sf_zero {key nonce ad s : ByteArray} {m : Nat} (h : sf key nonce ad s m = 0) : (key.size = 32 ∧ nonce.size = 12) ∧ ad.size ≤ 65536 ∧ s.size ≤ 65536 + m ∧ m ≤ s.size := by
  unfold sf at h
  split at h
  · cases h
  · split at h
    · cases h
    · split at h
      · cases h
      · omega
theorem sf_ok {key nonce ad s : ByteArray} {m : Nat} (hk : key.size = 32 ∧ nonce.size = 12) (ha : ad.size ≤ 65536) (hs : s.size ≤ 65536 + m) (hm : m ≤ s.size) : sf key nonce ad s m = 0 := by
  unfold sf
  rw [if_neg (by omega), if_neg (by omega), if_neg (by omega)]
theorem c_Turn1 (key nonce s : ByteArray) (hm : key.size = 32 ∧ nonce.size = 12) (hz : s.size ≤ 65536) (w : World) (hL : Laid w) : Calls Tryd.prog 14 #[.string key, .string nonce, .int .u32 1, .string s] w fun r w' => r = .returned (.tuple #[.string (tn key nonce s), .int .i64 0]) ∧ Below w.heap.size w w' := c_TurnA key nonce 1 (by decide) s (by omega) hm (by omega) w hL

set_option maxRecDepth 100000 in
set_option maxHeartbeats 4000000 in
theorem c_tagOf (key nonce ad c : ByteArray) (hm : key.size = 32 ∧ nonce.size = 12) (hz : ad.size + c.size ≤ 150000) (w : World) (hL : Laid w)  :
    Calls Tryd.prog 15 #[.string key, .string nonce, .string ad, .string c] w fun r w' => r = .returned (.string (tgO key nonce ad c)) ∧ Below w.heap.size w w' := by
  go_enter Tryd.func15, Tryd.ntmps15
  have M := Mem.start hL
  refine wp_seq ?_
  refine rg_lit ?_
  refine pl_val (want_no rfl) (some 8) rfl (.string ⟨#[]⟩) (fun _ => by kernel_rfl) ?_
  refine pl_nil ?_
  refine au_then ?_
  refine wp_seq ?_
  refine rg_lit ?_
  refine pl_val (want_no rfl) (some 14) rfl (.string key) (fun _ => by kernel_rfl) ?_
  refine pl_val (want_no rfl) (some 15) rfl (.string nonce) (fun _ => by kernel_rfl) ?_
  refine pl_call M (want_no rfl) (some 16) rfl 26 #[.string key, .string nonce, .int .u32 0] (.tuple #[.string (blk (fw key nonce 0)), .int .i64 0]) (fun _ => by kernel_rfl) (fun w M => c_BlockA key nonce 0 hm w M.laid) ?_
  intro u1 M
  refine pl_val (want_no rfl) (some 13) rfl (.tuple #[.string (blk (fw key nonce 0)), .int .i64 0]) (fun _ => by kernel_rfl) ?_
  refine pl_val (want_no rfl) (some 17) rfl (.string (blk (fw key nonce 0))) (fun _ => by kernel_rfl) ?_
  refine pl_val (want_no rfl) (some 18) rfl (.int .i64 0) (fun _ => by kernel_rfl) ?_
  refine pl_val (want_no rfl) (some 9) rfl (.string (blk (fw key nonce 0))) (fun _ => by kernel_rfl) ?_
  refine pl_val (want_no rfl) (some 10) rfl (.int .i64 0) (fun _ => by kernel_rfl) ?_
  refine pl_nil ?_
  refine au_then ?_
  refine wp_seq ?_
  refine rg_held M [] 11 rfl (by kernel_rfl) (by kernel_rfl) (fun _ _ d _ _ h => by cases d <;> exact h) ?_
  intro u2 M
  replace M : Mem ⟨w, []⟩ [] u2 := M
  refine hl_val M 0 rfl (by decide) (by kernel_rfl) (by kernel_rfl) (want_no rfl) (some 20) rfl (.string (blk (fw key nonce 0))) (fun _ _ => by kernel_rfl) ?_
  refine hl_val M 1 rfl (by decide) (by kernel_rfl) (by kernel_rfl) (want_no rfl) (some 21) rfl (.string (otk key nonce)) (fun w _ => (run_strh 9 Tryd.underlying9 _ _ rfl (blk (fw key nonce 0)) (by kernel_rfl) .i64 32 (by kernel_rfl) (by rw [blk_size]; decide) _ rfl) w) ?_
  refine hl_val M 2 rfl (by decide) (by kernel_rfl) (by kernel_rfl) (want_no rfl) (some 22) rfl (.string ad) (fun _ _ => by kernel_rfl) ?_
  refine hl_val M 3 rfl (by decide) (by kernel_rfl) (by kernel_rfl) (want_no rfl) (some 23) rfl (.string c) (fun _ _ => by kernel_rfl) ?_
  refine hl_one 4 (by decide) (by kernel_rfl) rfl ?_
  refine pl_mk M (want_no rfl) (some 24) rfl (fun g1 => .slice (some ⟨g1, 0, none⟩) 2 2) (.cells (av 2 (tx2 ad c)) 9) (fun _ => by kernel_rfl) ?_
  intro g1 u3 M
  replace M : Mem ⟨w, []⟩ [⟨g1, .cells (av 2 (tx2 ad c)) 9⟩] u3 := M
  refine pl_nil ?_
  refine au_then ?_
  refine ⟨(M.drop (.cons _ (.slnil))), ?_⟩
  refine hl_one 5 (by decide) (by kernel_rfl) rfl ?_
  refine pl_call M (want_no rfl) (some 25) rfl 28 #[.slice (some ⟨g1, 0, none⟩) 2 2] (.string (jn ad c)) (fun _ => by kernel_rfl) (fun w M => c_joined ad c g1 w M.laid hz (Array.getElem?_eq_some_iff.1 (M.get 0 rfl)).1 (cell_av (M.get 0 rfl) (by decide)) (cell_av (M.get 0 rfl) (by decide))) ?_
  intro u4 M
  refine pl_nil ?_
  refine au_then ?_
  refine ⟨(M.drop (.cons _ (.slnil))), ?_⟩
  refine hl_one 6 (by decide) (by kernel_rfl) rfl ?_
  refine pl_call M (want_no rfl) (some 26) rfl 27 #[.string (otk key nonce), .string (jn ad c)] (.tuple #[.string (tgO key nonce ad c), .int .i64 0]) (fun _ => by kernel_rfl) (fun w M => Pol.c_Tag _ _ (otk_size key nonce) (by have := jn_size ad c; omega) w M.laid) ?_
  intro u5 M
  refine pl_nil ?_
  refine au_then ?_
  refine ⟨(M.drop (.cons _ (.slnil))), ?_⟩
  refine hl_val (M.drop (.cons _ (.slnil))) 7 rfl (by decide) (by kernel_rfl) (by kernel_rfl) (want_no rfl) (some 19) rfl (.tuple #[.string (tgO key nonce ad c), .int .i64 0]) (fun _ _ => by kernel_rfl) ?_
  refine hl_val (M.drop (.cons _ (.slnil))) 8 rfl (by decide) (by kernel_rfl) (by kernel_rfl) (want_no rfl) (some 27) rfl (.string (tgO key nonce ad c)) (fun _ _ => by kernel_rfl) ?_
  refine hl_val (M.drop (.cons _ (.slnil))) 9 rfl (by decide) (by kernel_rfl) (by kernel_rfl) (want_no rfl) (some 28) rfl (.int .i64 0) (fun _ _ => by kernel_rfl) ?_
  refine hl_val (M.drop (.cons _ (.slnil))) 10 rfl (by decide) (by kernel_rfl) (by kernel_rfl) (want_no rfl) (some 11) rfl (.string (tgO key nonce ad c)) (fun _ _ => by kernel_rfl) ?_
  refine hl_end (by kernel_rfl) (by kernel_rfl) rfl ?_
  refine pl_val (want_no rfl) (some 12) rfl (.int .i64 0) (fun _ => by kernel_rfl) ?_
  refine pl_nil ?_
  refine au_then ?_
  refine au_then ?_
  refine wp_seq ?_
  refine rg_lit ?_
  refine pl_val (want_no rfl) (some 29) rfl (.string (tgO key nonce ad c)) (fun _ => by kernel_rfl) ?_
  refine pl_val (want_no rfl) (some 8) rfl (.string (tgO key nonce ad c)) (fun _ => by kernel_rfl) ?_
  refine pl_nil ?_
  refine au_then ?_
  refine wp_ret ?_
  exact bodyPost_ret (v := .string (tgO key nonce ad c)) (results_tmp1 Tryd.results15 _ _ _ (by kernel_rfl)) (by kernel_rfl) ⟨rfl, below_grown M.old⟩

set_option maxRecDepth 100000 in
set_option maxHeartbeats 4000000 in
theorem c_SealA (key nonce ad s : ByteArray) (h : sf key nonce ad s 0 = 0) (w : World) (hL : Laid w)  :
    Calls Tryd.prog 7 #[.string key, .string nonce, .string ad, .string s] w fun r w' => r = .returned (.tuple #[.string (sealS key nonce ad s), .int .i64 0]) ∧ Below w.heap.size w w' := by
  go_enter Tryd.func7, Tryd.ntmps7
  have M := Mem.start hL
  refine wp_seq ?_
  refine rg_lit ?_
  refine pl_val (want_no rfl) (some 8) rfl (.string ⟨#[]⟩) (fun _ => by kernel_rfl) ?_
  refine pl_val (want_no rfl) (some 9) rfl (.int .i64 0) (fun _ => by kernel_rfl) ?_
  refine pl_nil ?_
  refine au_then ?_
  refine wp_seq ?_
  refine wp_seq ?_
  refine rg_lit ?_
  refine pl_val (want_no rfl) (some 13) rfl (.string key) (fun _ => by kernel_rfl) ?_
  refine pl_val (want_no rfl) (some 14) rfl (.string nonce) (fun _ => by kernel_rfl) ?_
  refine pl_val (want_no rfl) (some 15) rfl (.string ad) (fun _ => by kernel_rfl) ?_
  refine pl_val (want_no rfl) (some 16) rfl (.string s) (fun _ => by kernel_rfl) ?_
  refine pl_call M (want_no rfl) (some 17) rfl 13 #[.string key, .string nonce, .string ad, .string s, .int .i64 0] (.int .i64 (sf key nonce ad s 0)) (fun _ => by kernel_rfl) (fun w M => c_fault key nonce ad s 0 (by decide) w M.laid) ?_
  intro u1 M
  refine pl_val (want_no rfl) (some 10) rfl (.int .i64 (sf key nonce ad s 0)) (fun _ => by kernel_rfl) ?_
  refine pl_nil ?_
  refine au_then ?_
  refine wp_seq ?_
  refine rg_lit ?_
  refine pl_val (want_no rfl) (some 18) rfl (.int .i64 (sf key nonce ad s 0)) (fun _ => by kernel_rfl) ?_
  refine pl_val (want_no rfl) (some 19) rfl (.bool false) (fun w => Eq.trans (b := .ok (.value (.bool (!(decide (sf key nonce ad s 0 = 0))))) w) (by kernel_rfl) (by rw [decide_eq_true (h)]; rfl)) ?_
  refine pl_nil ?_
  refine au_then ?_
  refine wp_cond_false (by kernel_rfl) ?_
  refine wp_skip ?_
  refine au_then ?_
  refine wp_seq ?_
  refine rg_lit ?_
  refine pl_val (want_no rfl) (some 22) rfl (.string key) (fun _ => by kernel_rfl) ?_
  refine pl_val (want_no rfl) (some 23) rfl (.string nonce) (fun _ => by kernel_rfl) ?_
  refine pl_val (want_no rfl) (some 24) rfl (.string s) (fun _ => by kernel_rfl) ?_
  refine pl_call M (want_no rfl) (some 25) rfl 14 #[.string key, .string nonce, .int .u32 1, .string s] (.tuple #[.string (tn key nonce s), .int .i64 0]) (fun _ => by kernel_rfl) (fun w M => c_Turn1 key nonce s (sf_zero h).1 (by have := sf_zero h; omega) w M.laid) ?_
  intro u2 M
  refine pl_val (want_no rfl) (some 21) rfl (.tuple #[.string (tn key nonce s), .int .i64 0]) (fun _ => by kernel_rfl) ?_
  refine pl_val (want_no rfl) (some 26) rfl (.string (tn key nonce s)) (fun _ => by kernel_rfl) ?_
  refine pl_val (want_no rfl) (some 27) rfl (.int .i64 0) (fun _ => by kernel_rfl) ?_
  refine pl_val (want_no rfl) (some 11) rfl (.string (tn key nonce s)) (fun _ => by kernel_rfl) ?_
  refine pl_val (want_no rfl) (some 12) rfl (.int .i64 0) (fun _ => by kernel_rfl) ?_
  refine pl_nil ?_
  refine au_then ?_
  refine wp_seq ?_
  refine rg_lit ?_
  refine pl_val (want_no rfl) (some 28) rfl (.string (tn key nonce s)) (fun _ => by kernel_rfl) ?_
  refine pl_val (want_no rfl) (some 29) rfl (.string key) (fun _ => by kernel_rfl) ?_
  refine pl_val (want_no rfl) (some 30) rfl (.string nonce) (fun _ => by kernel_rfl) ?_
  refine pl_val (want_no rfl) (some 31) rfl (.string ad) (fun _ => by kernel_rfl) ?_
  refine pl_val (want_no rfl) (some 32) rfl (.string (tn key nonce s)) (fun _ => by kernel_rfl) ?_
  refine pl_call M (want_no rfl) (some 33) rfl 15 #[.string key, .string nonce, .string ad, .string (tn key nonce s)] (.string (tgO key nonce ad (tn key nonce s))) (fun _ => by kernel_rfl) (fun w M => c_tagOf key nonce ad (tn key nonce s) (sf_zero h).1 (by have := sf_zero h; rw [tn_size]; omega) w M.laid) ?_
  intro u3 M
  refine pl_val (want_no rfl) (some 34) rfl (.string (sealS key nonce ad s)) (run_cat 9 9 _ _ rfl (tn key nonce s) (tgO key nonce ad (tn key nonce s)) (by kernel_rfl) (by kernel_rfl) (by rw [tn_size, tgO_size]; have := sf_zero h; omega)) ?_
  refine pl_val (want_no rfl) (some 8) rfl (.string (sealS key nonce ad s)) (fun _ => by kernel_rfl) ?_
  refine pl_val (want_no rfl) (some 9) rfl (.int .i64 0) (fun _ => by kernel_rfl) ?_
  refine pl_nil ?_
  refine au_then ?_
  refine wp_ret ?_
  exact bodyPost_ret (v := .tuple #[.string (sealS key nonce ad s), .int .i64 0]) (results_tmp2 Tryd.results7 _ _ _ _ (by kernel_rfl) (by kernel_rfl)) (by kernel_rfl) ⟨rfl, below_grown M.old⟩

set_option maxRecDepth 100000 in
set_option maxHeartbeats 4000000 in
theorem c_SealB (key nonce ad s : ByteArray) (h : sf key nonce ad s 0 ≠ 0) (w : World) (hL : Laid w)  :
    Calls Tryd.prog 7 #[.string key, .string nonce, .string ad, .string s] w fun r w' => r = .returned (.tuple #[.string ⟨#[]⟩, .int .i64 (sf key nonce ad s 0)]) ∧ Below w.heap.size w w' := by
  go_enter Tryd.func7, Tryd.ntmps7
  have M := Mem.start hL
  refine wp_seq ?_
  refine rg_lit ?_
  refine pl_val (want_no rfl) (some 8) rfl (.string ⟨#[]⟩) (fun _ => by kernel_rfl) ?_
  refine pl_val (want_no rfl) (some 9) rfl (.int .i64 0) (fun _ => by kernel_rfl) ?_
  refine pl_nil ?_
  refine au_then ?_
  refine wp_seq ?_
  refine wp_seq ?_
  refine rg_lit ?_
  refine pl_val (want_no rfl) (some 13) rfl (.string key) (fun _ => by kernel_rfl) ?_
  refine pl_val (want_no rfl) (some 14) rfl (.string nonce) (fun _ => by kernel_rfl) ?_
  refine pl_val (want_no rfl) (some 15) rfl (.string ad) (fun _ => by kernel_rfl) ?_
  refine pl_val (want_no rfl) (some 16) rfl (.string s) (fun _ => by kernel_rfl) ?_
  refine pl_call M (want_no rfl) (some 17) rfl 13 #[.string key, .string nonce, .string ad, .string s, .int .i64 0] (.int .i64 (sf key nonce ad s 0)) (fun _ => by kernel_rfl) (fun w M => c_fault key nonce ad s 0 (by decide) w M.laid) ?_
  intro u1 M
  refine pl_val (want_no rfl) (some 10) rfl (.int .i64 (sf key nonce ad s 0)) (fun _ => by kernel_rfl) ?_
  refine pl_nil ?_
  refine au_then ?_
  refine wp_seq ?_
  refine rg_lit ?_
  refine pl_val (want_no rfl) (some 18) rfl (.int .i64 (sf key nonce ad s 0)) (fun _ => by kernel_rfl) ?_
  refine pl_val (want_no rfl) (some 19) rfl (.bool true) (fun w => Eq.trans (b := .ok (.value (.bool (!(decide (sf key nonce ad s 0 = 0))))) w) (by kernel_rfl) (by rw [decide_eq_false (h)]; rfl)) ?_
  refine pl_nil ?_
  refine au_then ?_
  refine wp_cond_true (by kernel_rfl) ?_
  refine wp_seq ?_
  refine rg_lit ?_
  refine pl_val (want_no rfl) (some 20) rfl (.int .i64 (sf key nonce ad s 0)) (fun _ => by kernel_rfl) ?_
  refine pl_val (want_no rfl) (some 8) rfl (.string ⟨#[]⟩) (fun _ => by kernel_rfl) ?_
  refine pl_val (want_no rfl) (some 9) rfl (.int .i64 (sf key nonce ad s 0)) (fun _ => by kernel_rfl) ?_
  refine pl_nil ?_
  refine au_then ?_
  refine wp_ret ?_
  refine au_then_ret ?_
  exact bodyPost_ret (v := .tuple #[.string ⟨#[]⟩, .int .i64 (sf key nonce ad s 0)]) (results_tmp2 Tryd.results7 _ _ _ _ (by kernel_rfl) (by kernel_rfl)) (by kernel_rfl) ⟨rfl, below_grown M.old⟩

theorem cx_size (s : ByteArray) : (s.extract 0 (s.size - 16)).size = s.size - 16 := by
  rw [ByteArray.size_extract]
  omega
/-- The tag that a sealed text should have, and the text that it opens as. -/
def tgX (key nonce ad s : ByteArray) : ByteArray := tgO key nonce ad (s.extract 0 (s.size - 16))
def opS (key nonce s : ByteArray) : ByteArray := tn key nonce (s.extract 0 (s.size - 16))

set_option maxRecDepth 100000 in
set_option maxHeartbeats 4000000 in
theorem c_OpenA (key nonce ad s : ByteArray) (h : sf key nonce ad s 16 = 0) (e : tgX key nonce ad s = s.extract (s.size - 16) s.size) (w : World) (hL : Laid w)  :
    Calls Tryd.prog 9 #[.string key, .string nonce, .string ad, .string s] w fun r w' => r = .returned (.tuple #[.string (opS key nonce s), .int .i64 0]) ∧ Below w.heap.size w w' := by
  go_enter Tryd.func9, Tryd.ntmps9
  have M := Mem.start hL
  have hs16 : 16 ≤ s.size := (sf_zero h).2.2.2
  have hs17 : s.size ≤ 65536 + 16 := (sf_zero h).2.2.1
  refine wp_seq ?_
  refine rg_lit ?_
  refine pl_val (want_no rfl) (some 8) rfl (.string ⟨#[]⟩) (fun _ => by kernel_rfl) ?_
  refine pl_val (want_no rfl) (some 9) rfl (.int .i64 0) (fun _ => by kernel_rfl) ?_
  refine pl_nil ?_
  refine au_then ?_
  refine wp_seq ?_
  refine wp_seq ?_
  refine rg_lit ?_
  refine pl_val (want_no rfl) (some 13) rfl (.string key) (fun _ => by kernel_rfl) ?_
  refine pl_val (want_no rfl) (some 14) rfl (.string nonce) (fun _ => by kernel_rfl) ?_
  refine pl_val (want_no rfl) (some 15) rfl (.string ad) (fun _ => by kernel_rfl) ?_
  refine pl_val (want_no rfl) (some 16) rfl (.string s) (fun _ => by kernel_rfl) ?_
  refine pl_call M (want_no rfl) (some 17) rfl 13 #[.string key, .string nonce, .string ad, .string s, .int .i64 16] (.int .i64 (sf key nonce ad s 16)) (fun _ => by kernel_rfl) (fun w M => c_fault key nonce ad s 16 (by decide) w M.laid) ?_
  intro u1 M
  refine pl_val (want_no rfl) (some 10) rfl (.int .i64 (sf key nonce ad s 16)) (fun _ => by kernel_rfl) ?_
  refine pl_nil ?_
  refine au_then ?_
  refine wp_seq ?_
  refine rg_lit ?_
  refine pl_val (want_no rfl) (some 18) rfl (.int .i64 (sf key nonce ad s 16)) (fun _ => by kernel_rfl) ?_
  refine pl_val (want_no rfl) (some 19) rfl (.bool false) (fun w => Eq.trans (b := .ok (.value (.bool (!(decide (sf key nonce ad s 16 = 0))))) w) (by kernel_rfl) (by rw [decide_eq_true (h)]; rfl)) ?_
  refine pl_nil ?_
  refine au_then ?_
  refine wp_cond_false (by kernel_rfl) ?_
  refine wp_skip ?_
  refine au_then ?_
  refine wp_seq ?_
  refine rg_held M [] 11 rfl (by kernel_rfl) (by kernel_rfl) (fun _ _ d _ _ h => by cases d <;> exact h) ?_
  intro u2 M
  replace M : Mem ⟨w, []⟩ [] u2 := M
  refine hl_val M 0 rfl (by decide) (by kernel_rfl) (by kernel_rfl) (want_no rfl) (some 21) rfl (.string s) (fun _ _ => by kernel_rfl) ?_
  refine hl_val M 1 rfl (by decide) (by kernel_rfl) (by kernel_rfl) (want_no rfl) (some 22) rfl (.string s) (fun _ _ => by kernel_rfl) ?_
  refine hl_val M 2 rfl (by decide) (by kernel_rfl) (by kernel_rfl) (want_no rfl) (some 23) rfl (.int .i64 (s.size : Int)) (fun _ _ => by kernel_rfl) ?_
  refine hl_val M 3 rfl (by decide) (by kernel_rfl) (by kernel_rfl) (want_no rfl) (some 24) rfl (.int .i64 ((s.size - 16 : Nat) : Int)) (fun w _ => (fun w => Eq.trans (b := .ok (.value (.int .i64 (IntKind.wrap .i64 ((s.size : Int) - 16)))) w) (by kernel_rfl) (by rw [wrap64 (by omega) (by omega)]; congr 3 <;> omega)) w) ?_
  refine hl_val M 4 rfl (by decide) (by kernel_rfl) (by kernel_rfl) (want_no rfl) (some 25) rfl (.string (s.extract 0 (s.size - 16))) (fun w _ => (run_strh 9 Tryd.underlying9 _ _ rfl s (by kernel_rfl) .i64 (s.size - 16) (by kernel_rfl) (by omega) _ rfl) w) ?_
  refine hl_val M 5 rfl (by decide) (by kernel_rfl) (by kernel_rfl) (want_no rfl) (some 26) rfl (.string s) (fun _ _ => by kernel_rfl) ?_
  refine hl_val M 6 rfl (by decide) (by kernel_rfl) (by kernel_rfl) (want_no rfl) (some 27) rfl (.string s) (fun _ _ => by kernel_rfl) ?_
  refine hl_val M 7 rfl (by decide) (by kernel_rfl) (by kernel_rfl) (want_no rfl) (some 28) rfl (.int .i64 (s.size : Int)) (fun _ _ => by kernel_rfl) ?_
  refine hl_val M 8 rfl (by decide) (by kernel_rfl) (by kernel_rfl) (want_no rfl) (some 29) rfl (.int .i64 ((s.size - 16 : Nat) : Int)) (fun w _ => (fun w => Eq.trans (b := .ok (.value (.int .i64 (IntKind.wrap .i64 ((s.size : Int) - 16)))) w) (by kernel_rfl) (by rw [wrap64 (by omega) (by omega)]; congr 3 <;> omega)) w) ?_
  refine hl_val M 9 rfl (by decide) (by kernel_rfl) (by kernel_rfl) (want_no rfl) (some 30) rfl (.string (s.extract (s.size - 16) s.size)) (fun w _ => (run_strl 9 Tryd.underlying9 _ _ rfl s (by kernel_rfl) .i64 (s.size - 16) (by kernel_rfl) (by omega) _ rfl) w) ?_
  refine hl_val M 10 rfl (by decide) (by kernel_rfl) (by kernel_rfl) (want_no rfl) (some 11) rfl (.string (s.extract 0 (s.size - 16))) (fun _ _ => by kernel_rfl) ?_
  refine hl_end (by kernel_rfl) (by kernel_rfl) rfl ?_
  refine pl_val (want_no rfl) (some 12) rfl (.string (s.extract (s.size - 16) s.size)) (fun _ => by kernel_rfl) ?_
  refine pl_nil ?_
  refine au_then ?_
  refine au_then ?_
  refine wp_seq ?_
  refine wp_seq ?_
  refine rg_lit ?_
  refine pl_val (want_no rfl) (some 31) rfl (.string key) (fun _ => by kernel_rfl) ?_
  refine pl_val (want_no rfl) (some 32) rfl (.string nonce) (fun _ => by kernel_rfl) ?_
  refine pl_val (want_no rfl) (some 33) rfl (.string ad) (fun _ => by kernel_rfl) ?_
  refine pl_val (want_no rfl) (some 34) rfl (.string (s.extract 0 (s.size - 16))) (fun _ => by kernel_rfl) ?_
  refine pl_call M (want_no rfl) (some 35) rfl 15 #[.string key, .string nonce, .string ad, .string (s.extract 0 (s.size - 16))] (.string (tgX key nonce ad s)) (fun _ => by kernel_rfl) (fun w M => c_tagOf key nonce ad (s.extract 0 (s.size - 16)) (sf_zero h).1 (by have := sf_zero h; rw [cx_size]; omega) w M.laid) ?_
  intro u3 M
  refine pl_val (want_no rfl) (some 36) rfl (.string (s.extract (s.size - 16) s.size)) (fun _ => by kernel_rfl) ?_
  refine pl_call M (want_no rfl) (some 37) rfl 19 #[.string (tgX key nonce ad s), .string (s.extract (s.size - 16) s.size)] (.bool true) (fun _ => by kernel_rfl) (fun w M => (by rw [← decide_eq_true e]; exact Pol.c_same _ _ (by show (tgO key nonce ad (s.extract 0 (s.size - 16))).size ≤ _; rw [tgO_size]; decide) w M.laid)) ?_
  intro u4 M
  refine pl_val (want_no rfl) (some 38) rfl (.bool false) (fun _ => by kernel_rfl) ?_
  refine pl_nil ?_
  refine au_then ?_
  refine wp_cond_false (by kernel_rfl) ?_
  refine wp_skip ?_
  refine au_then ?_
  refine wp_seq ?_
  refine rg_lit ?_
  refine pl_val (want_no rfl) (some 39) rfl (.string key) (fun _ => by kernel_rfl) ?_
  refine pl_val (want_no rfl) (some 40) rfl (.string nonce) (fun _ => by kernel_rfl) ?_
  refine pl_val (want_no rfl) (some 41) rfl (.string (s.extract 0 (s.size - 16))) (fun _ => by kernel_rfl) ?_
  refine pl_call M (want_no rfl) (some 42) rfl 14 #[.string key, .string nonce, .int .u32 1, .string (s.extract 0 (s.size - 16))] (.tuple #[.string (opS key nonce s), .int .i64 0]) (fun _ => by kernel_rfl) (fun w M => c_Turn1 key nonce (s.extract 0 (s.size - 16)) (sf_zero h).1 (by have := sf_zero h; rw [cx_size]; omega) w M.laid) ?_
  intro u5 M
  refine pl_val (want_no rfl) (some 43) rfl (.string (opS key nonce s)) (fun _ => by kernel_rfl) ?_
  refine pl_val (want_no rfl) (some 44) rfl (.int .i64 0) (fun _ => by kernel_rfl) ?_
  refine pl_val (want_no rfl) (some 8) rfl (.string (opS key nonce s)) (fun _ => by kernel_rfl) ?_
  refine pl_val (want_no rfl) (some 9) rfl (.int .i64 0) (fun _ => by kernel_rfl) ?_
  refine pl_nil ?_
  refine au_then ?_
  refine wp_ret ?_
  exact bodyPost_ret (v := .tuple #[.string (opS key nonce s), .int .i64 0]) (results_tmp2 Tryd.results9 _ _ _ _ (by kernel_rfl) (by kernel_rfl)) (by kernel_rfl) ⟨rfl, below_grown M.old⟩

set_option maxRecDepth 100000 in
set_option maxHeartbeats 4000000 in
theorem c_OpenB (key nonce ad s : ByteArray) (h : sf key nonce ad s 16 = 0) (e : tgX key nonce ad s ≠ s.extract (s.size - 16) s.size) (w : World) (hL : Laid w)  :
    Calls Tryd.prog 9 #[.string key, .string nonce, .string ad, .string s] w fun r w' => r = .returned (.tuple #[.string ⟨#[]⟩, .int .i64 100]) ∧ Below w.heap.size w w' := by
  go_enter Tryd.func9, Tryd.ntmps9
  have M := Mem.start hL
  have hs16 : 16 ≤ s.size := (sf_zero h).2.2.2
  have hs17 : s.size ≤ 65536 + 16 := (sf_zero h).2.2.1
  refine wp_seq ?_
  refine rg_lit ?_
  refine pl_val (want_no rfl) (some 8) rfl (.string ⟨#[]⟩) (fun _ => by kernel_rfl) ?_
  refine pl_val (want_no rfl) (some 9) rfl (.int .i64 0) (fun _ => by kernel_rfl) ?_
  refine pl_nil ?_
  refine au_then ?_
  refine wp_seq ?_
  refine wp_seq ?_
  refine rg_lit ?_
  refine pl_val (want_no rfl) (some 13) rfl (.string key) (fun _ => by kernel_rfl) ?_
  refine pl_val (want_no rfl) (some 14) rfl (.string nonce) (fun _ => by kernel_rfl) ?_
  refine pl_val (want_no rfl) (some 15) rfl (.string ad) (fun _ => by kernel_rfl) ?_
  refine pl_val (want_no rfl) (some 16) rfl (.string s) (fun _ => by kernel_rfl) ?_
  refine pl_call M (want_no rfl) (some 17) rfl 13 #[.string key, .string nonce, .string ad, .string s, .int .i64 16] (.int .i64 (sf key nonce ad s 16)) (fun _ => by kernel_rfl) (fun w M => c_fault key nonce ad s 16 (by decide) w M.laid) ?_
  intro u1 M
  refine pl_val (want_no rfl) (some 10) rfl (.int .i64 (sf key nonce ad s 16)) (fun _ => by kernel_rfl) ?_
  refine pl_nil ?_
  refine au_then ?_
  refine wp_seq ?_
  refine rg_lit ?_
  refine pl_val (want_no rfl) (some 18) rfl (.int .i64 (sf key nonce ad s 16)) (fun _ => by kernel_rfl) ?_
  refine pl_val (want_no rfl) (some 19) rfl (.bool false) (fun w => Eq.trans (b := .ok (.value (.bool (!(decide (sf key nonce ad s 16 = 0))))) w) (by kernel_rfl) (by rw [decide_eq_true (h)]; rfl)) ?_
  refine pl_nil ?_
  refine au_then ?_
  refine wp_cond_false (by kernel_rfl) ?_
  refine wp_skip ?_
  refine au_then ?_
  refine wp_seq ?_
  refine rg_held M [] 11 rfl (by kernel_rfl) (by kernel_rfl) (fun _ _ d _ _ h => by cases d <;> exact h) ?_
  intro u2 M
  replace M : Mem ⟨w, []⟩ [] u2 := M
  refine hl_val M 0 rfl (by decide) (by kernel_rfl) (by kernel_rfl) (want_no rfl) (some 21) rfl (.string s) (fun _ _ => by kernel_rfl) ?_
  refine hl_val M 1 rfl (by decide) (by kernel_rfl) (by kernel_rfl) (want_no rfl) (some 22) rfl (.string s) (fun _ _ => by kernel_rfl) ?_
  refine hl_val M 2 rfl (by decide) (by kernel_rfl) (by kernel_rfl) (want_no rfl) (some 23) rfl (.int .i64 (s.size : Int)) (fun _ _ => by kernel_rfl) ?_
  refine hl_val M 3 rfl (by decide) (by kernel_rfl) (by kernel_rfl) (want_no rfl) (some 24) rfl (.int .i64 ((s.size - 16 : Nat) : Int)) (fun w _ => (fun w => Eq.trans (b := .ok (.value (.int .i64 (IntKind.wrap .i64 ((s.size : Int) - 16)))) w) (by kernel_rfl) (by rw [wrap64 (by omega) (by omega)]; congr 3 <;> omega)) w) ?_
  refine hl_val M 4 rfl (by decide) (by kernel_rfl) (by kernel_rfl) (want_no rfl) (some 25) rfl (.string (s.extract 0 (s.size - 16))) (fun w _ => (run_strh 9 Tryd.underlying9 _ _ rfl s (by kernel_rfl) .i64 (s.size - 16) (by kernel_rfl) (by omega) _ rfl) w) ?_
  refine hl_val M 5 rfl (by decide) (by kernel_rfl) (by kernel_rfl) (want_no rfl) (some 26) rfl (.string s) (fun _ _ => by kernel_rfl) ?_
  refine hl_val M 6 rfl (by decide) (by kernel_rfl) (by kernel_rfl) (want_no rfl) (some 27) rfl (.string s) (fun _ _ => by kernel_rfl) ?_
  refine hl_val M 7 rfl (by decide) (by kernel_rfl) (by kernel_rfl) (want_no rfl) (some 28) rfl (.int .i64 (s.size : Int)) (fun _ _ => by kernel_rfl) ?_
  refine hl_val M 8 rfl (by decide) (by kernel_rfl) (by kernel_rfl) (want_no rfl) (some 29) rfl (.int .i64 ((s.size - 16 : Nat) : Int)) (fun w _ => (fun w => Eq.trans (b := .ok (.value (.int .i64 (IntKind.wrap .i64 ((s.size : Int) - 16)))) w) (by kernel_rfl) (by rw [wrap64 (by omega) (by omega)]; congr 3 <;> omega)) w) ?_
  refine hl_val M 9 rfl (by decide) (by kernel_rfl) (by kernel_rfl) (want_no rfl) (some 30) rfl (.string (s.extract (s.size - 16) s.size)) (fun w _ => (run_strl 9 Tryd.underlying9 _ _ rfl s (by kernel_rfl) .i64 (s.size - 16) (by kernel_rfl) (by omega) _ rfl) w) ?_
  refine hl_val M 10 rfl (by decide) (by kernel_rfl) (by kernel_rfl) (want_no rfl) (some 11) rfl (.string (s.extract 0 (s.size - 16))) (fun _ _ => by kernel_rfl) ?_
  refine hl_end (by kernel_rfl) (by kernel_rfl) rfl ?_
  refine pl_val (want_no rfl) (some 12) rfl (.string (s.extract (s.size - 16) s.size)) (fun _ => by kernel_rfl) ?_
  refine pl_nil ?_
  refine au_then ?_
  refine au_then ?_
  refine wp_seq ?_
  refine wp_seq ?_
  refine rg_lit ?_
  refine pl_val (want_no rfl) (some 31) rfl (.string key) (fun _ => by kernel_rfl) ?_
  refine pl_val (want_no rfl) (some 32) rfl (.string nonce) (fun _ => by kernel_rfl) ?_
  refine pl_val (want_no rfl) (some 33) rfl (.string ad) (fun _ => by kernel_rfl) ?_
  refine pl_val (want_no rfl) (some 34) rfl (.string (s.extract 0 (s.size - 16))) (fun _ => by kernel_rfl) ?_
  refine pl_call M (want_no rfl) (some 35) rfl 15 #[.string key, .string nonce, .string ad, .string (s.extract 0 (s.size - 16))] (.string (tgX key nonce ad s)) (fun _ => by kernel_rfl) (fun w M => c_tagOf key nonce ad (s.extract 0 (s.size - 16)) (sf_zero h).1 (by have := sf_zero h; rw [cx_size]; omega) w M.laid) ?_
  intro u3 M
  refine pl_val (want_no rfl) (some 36) rfl (.string (s.extract (s.size - 16) s.size)) (fun _ => by kernel_rfl) ?_
  refine pl_call M (want_no rfl) (some 37) rfl 19 #[.string (tgX key nonce ad s), .string (s.extract (s.size - 16) s.size)] (.bool false) (fun _ => by kernel_rfl) (fun w M => (by rw [← decide_eq_false e]; exact Pol.c_same _ _ (by show (tgO key nonce ad (s.extract 0 (s.size - 16))).size ≤ _; rw [tgO_size]; decide) w M.laid)) ?_
  intro u4 M
  refine pl_val (want_no rfl) (some 38) rfl (.bool true) (fun _ => by kernel_rfl) ?_
  refine pl_nil ?_
  refine au_then ?_
  refine wp_cond_true (by kernel_rfl) ?_
  refine wp_seq ?_
  refine rg_lit ?_
  refine pl_val (want_no rfl) (some 8) rfl (.string ⟨#[]⟩) (fun _ => by kernel_rfl) ?_
  refine pl_val (want_no rfl) (some 9) rfl (.int .i64 100) (fun _ => by kernel_rfl) ?_
  refine pl_nil ?_
  refine au_then ?_
  refine wp_ret ?_
  refine au_then_ret ?_
  exact bodyPost_ret (v := .tuple #[.string ⟨#[]⟩, .int .i64 100]) (results_tmp2 Tryd.results9 _ _ _ _ (by kernel_rfl) (by kernel_rfl)) (by kernel_rfl) ⟨rfl, below_grown M.old⟩

set_option maxRecDepth 100000 in
set_option maxHeartbeats 4000000 in
theorem c_OpenC (key nonce ad s : ByteArray) (h : sf key nonce ad s 16 ≠ 0)  (w : World) (hL : Laid w)  :
    Calls Tryd.prog 9 #[.string key, .string nonce, .string ad, .string s] w fun r w' => r = .returned (.tuple #[.string ⟨#[]⟩, .int .i64 (sf key nonce ad s 16)]) ∧ Below w.heap.size w w' := by
  go_enter Tryd.func9, Tryd.ntmps9
  have M := Mem.start hL
  refine wp_seq ?_
  refine rg_lit ?_
  refine pl_val (want_no rfl) (some 8) rfl (.string ⟨#[]⟩) (fun _ => by kernel_rfl) ?_
  refine pl_val (want_no rfl) (some 9) rfl (.int .i64 0) (fun _ => by kernel_rfl) ?_
  refine pl_nil ?_
  refine au_then ?_
  refine wp_seq ?_
  refine wp_seq ?_
  refine rg_lit ?_
  refine pl_val (want_no rfl) (some 13) rfl (.string key) (fun _ => by kernel_rfl) ?_
  refine pl_val (want_no rfl) (some 14) rfl (.string nonce) (fun _ => by kernel_rfl) ?_
  refine pl_val (want_no rfl) (some 15) rfl (.string ad) (fun _ => by kernel_rfl) ?_
  refine pl_val (want_no rfl) (some 16) rfl (.string s) (fun _ => by kernel_rfl) ?_
  refine pl_call M (want_no rfl) (some 17) rfl 13 #[.string key, .string nonce, .string ad, .string s, .int .i64 16] (.int .i64 (sf key nonce ad s 16)) (fun _ => by kernel_rfl) (fun w M => c_fault key nonce ad s 16 (by decide) w M.laid) ?_
  intro u1 M
  refine pl_val (want_no rfl) (some 10) rfl (.int .i64 (sf key nonce ad s 16)) (fun _ => by kernel_rfl) ?_
  refine pl_nil ?_
  refine au_then ?_
  refine wp_seq ?_
  refine rg_lit ?_
  refine pl_val (want_no rfl) (some 18) rfl (.int .i64 (sf key nonce ad s 16)) (fun _ => by kernel_rfl) ?_
  refine pl_val (want_no rfl) (some 19) rfl (.bool true) (fun w => Eq.trans (b := .ok (.value (.bool (!(decide (sf key nonce ad s 16 = 0))))) w) (by kernel_rfl) (by rw [decide_eq_false (h)]; rfl)) ?_
  refine pl_nil ?_
  refine au_then ?_
  refine wp_cond_true (by kernel_rfl) ?_
  refine wp_seq ?_
  refine rg_lit ?_
  refine pl_val (want_no rfl) (some 20) rfl (.int .i64 (sf key nonce ad s 16)) (fun _ => by kernel_rfl) ?_
  refine pl_val (want_no rfl) (some 8) rfl (.string ⟨#[]⟩) (fun _ => by kernel_rfl) ?_
  refine pl_val (want_no rfl) (some 9) rfl (.int .i64 (sf key nonce ad s 16)) (fun _ => by kernel_rfl) ?_
  refine pl_nil ?_
  refine au_then ?_
  refine wp_ret ?_
  refine au_then_ret ?_
  exact bodyPost_ret (v := .tuple #[.string ⟨#[]⟩, .int .i64 (sf key nonce ad s 16)]) (results_tmp2 Tryd.results9 _ _ _ _ (by kernel_rfl) (by kernel_rfl)) (by kernel_rfl) ⟨rfl, below_grown M.old⟩


end Go.Proofs.YtkndaajbedlajaaDoor
