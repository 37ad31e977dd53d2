/- Texts are tagged, sealed and opened: the walks of tagOf, Seal and Open. -/
import Derived.Test.YtenafinbaanicaaDoorA4
namespace Go.Proofs.YtenafinbaanicaaDoor
open Go.RowKit
set_option maxRecDepth 100000

def strE0 : ByteArray := ⟨#[]⟩
def tx2 (ad c : ByteArray) : Nat → Value := fun i => if i = 0 then .string ad else .string c
/-- The key of a tag. -/
def otk (key nonce : ByteArray) : ByteArray := (blk (fw key nonce 0)).extract 0 32
theorem otk_size (key nonce : ByteArray) : (otk key nonce).size = 32 := by
  unfold otk
  rw [ByteArray.size_extract, blk_size]
  rfl
theorem jn_size (ad c : ByteArray) : (jn ad c).size ≤ ad.size + c.size + 48 := by
  have h : (jn ad c).size = (j2 ad c ++ m2 ad c).length := rfl
  rw [h, List.length_append, j2_len, m2_len]
  have := pn_lt ad.size
  have := pn_lt (ad.size + pn ad.size + c.size)
  omega
/-- The tag of what was enciphered, and what stands beside it. -/
def tgO (key nonce ad c : ByteArray) : ByteArray := Pol.tagS (otk key nonce) (jn ad c)
theorem tgO_size (key nonce ad c : ByteArray) : (tgO key nonce ad c).size = 16 := Pol.tagS_size _ _
/-- The text, turned from block 1 on. -/
def tn (key nonce s : ByteArray) : ByteArray := oS (fw key nonce 1) s
theorem tn_size (key nonce s : ByteArray) : (tn key nonce s).size = s.size := oS_size _ _
/-- What a text is when it is sealed. -/
def sealS (key nonce ad s : ByteArray) : ByteArray := tn key nonce s ++ tgO key nonce ad (tn key nonce s)
theorem sealS_size (key nonce ad s : ByteArray) : (sealS key nonce ad s).size = s.size + 16 := by
  unfold sealS
  rw [ByteArray.size_append, tn_size, tgO_size]
theorem sf_zero {key nonce ad s : ByteArray} {m : Nat} (h : sf key nonce ad s m = 0) : (key.size = 32 ∧ nonce.size = 12) ∧ ad.size ≤ 65536 ∧ s.size ≤ 65536 + m ∧ m ≤ s.size := by
  unfold sf at h
  split at h
  · cases h
  · split at h
    · cases h
    · split at h
      · cases h
      · omega
theorem sf_ok {key nonce ad s : ByteArray} {m : Nat} (hk : key.size = 32 ∧ nonce.size = 12) (ha : ad.size ≤ 65536) (hs : s.size ≤ 65536 + m) (hm : m ≤ s.size) : sf key nonce ad s m = 0 := by
  unfold sf
  rw [if_neg (by omega), if_neg (by omega), if_neg (by omega)]
theorem c_Turn1 (key nonce s : ByteArray) (hm : key.size = 32 ∧ nonce.size = 12) (hz : s.size ≤ 65536) (w : World) (hL : Laid w) : Calls Tryd.prog 51 #[.string key, .string nonce, .int .u32 1, .string s] w fun r w' => r = .returned (.tuple #[.string (tn key nonce s), .int .i64 0]) ∧ Below w.heap.size w w' := c_TurnA key nonce 1 (by decide) s (by omega) hm (by omega) w hL

set_option maxRecDepth 100000 in
set_option maxHeartbeats 4000000 in
theorem c_tagOf (key nonce ad c : ByteArray) (hm : key.size = 32 ∧ nonce.size = 12) (hz : ad.size + c.size ≤ 150000) (w : World) (hL : Laid w)  :
    Calls Tryd.prog 52 #[.string key, .string nonce, .string ad, .string c] w fun r w' => r = .returned (.string (tgO key nonce ad c)) ∧ Below w.heap.size w w' := by
  go_enter Tryd.func52, Tryd.ntmps52
  have M := Mem.start hL
  refine sq ?_
  refine sR ?_
  refine rV 2 ?_
  refine ZC M 16 (fun w M => c_BlockA key nonce 0 hm w M.laid) fun u1 M => ?_
  refine rV 5 ?_
  refine nT ?_
  refine wp_seq ?_
  refine rgh M [] 11 fun u2 M => ?_
  refine qV M 0 20 (.string (blk (fw key nonce 0))) ?_
  refine qH M 1 21 (.string (otk key nonce)) (fun w _ => (run_strh 9 Tryd.underlying9 _ _ rfl (blk (fw key nonce 0)) (by kernel_rfl) .i64 32 (by kernel_rfl) (by rw [blk_size]; decide) _ rfl) w) ?_
  refine qV M 2 22 (.string ad) ?_
  refine qV M 3 23 (.string c) ?_
  refine qO 4 ?_
  refine ZM M 24 (fun g1 => .slice (some ⟨g1, 0, none⟩) 2 2) (.cells (av 2 (tx2 ad c)) 9) fun g1 u3 M => ?_
  refine nT ?_
  refine ⟨(M.drop (.cons _ (.slnil))), ?_⟩
  refine qO 5 ?_
  refine ZC M 25 (fun w M => c_joined ad c g1 w M.laid hz (Array.getElem?_eq_some_iff.1 (M.get 0 rfl)).1 (cell_av (M.get 0 rfl) (by decide)) (cell_av (M.get 0 rfl) (by decide))) fun u4 M => ?_
  refine nT ?_
  refine ⟨(M.drop (.cons _ (.slnil))), ?_⟩
  refine qO 6 ?_
  refine pC M 26 65 #[.string (otk key nonce), .string (jn ad c)] (.tuple #[.string (tgO key nonce ad c), .int .i64 0]) (fun w M => Pol.c_Tag _ _ (otk_size key nonce) (by have := jn_size ad c; omega) w M.laid) fun u5 M => ?_
  refine nT ?_
  refine ⟨(M.drop (.cons _ (.slnil))), ?_⟩
  have qM := M.drop (.cons _ (.slnil))
  refine qV qM 7 19 (.tuple #[.string (tgO key nonce ad c), .int .i64 0]) ?_
  refine qV qM 8 27 (.string (tgO key nonce ad c)) ?_
  refine qV qM 9 28 (.int .i64 0) ?_
  refine qV qM 10 11 (.string (tgO key nonce ad c)) ?_
  refine qZ ?_
  refine rV 1 ?_
  refine nT ?_
  refine au_then ?_
  refine sq ?_
  refine wp_ret ?_
  exact b1 M

set_option maxRecDepth 100000 in
set_option maxHeartbeats 4000000 in
theorem c_SealA (key nonce ad s : ByteArray) (h : sf key nonce ad s 0 = 0) (w : World) (hL : Laid w)  :
    Calls Tryd.prog 41 #[.string key, .string nonce, .string ad, .string s] w fun r w' => r = .returned (.tuple #[.string (sealS key nonce ad s), .int .i64 0]) ∧ Below w.heap.size w w' := by
  go_enter Tryd.func41, Tryd.ntmps41
  have M := Mem.start hL
  refine sq ?_
  refine wp_seq ?_
  refine sR ?_
  refine rV 4 ?_
  refine ZC M 17 (fun w M => c_fault key nonce ad s 0 (by decide) w M.laid) fun u1 M => ?_
  refine rV 1 ?_
  refine nT ?_
  refine sR ?_
  refine rV 1 ?_
  refine wD 19 h ?_
  refine nT ?_
  refine wp_cond_false (by kernel_rfl) ?_
  refine wp_skip ?_
  refine au_then ?_
  refine sR ?_
  refine rV 3 ?_
  refine ZC M 25 (fun w M => c_Turn1 key nonce s (sf_zero h).1 (by have := sf_zero h; omega) w M.laid) fun u2 M => ?_
  refine rV 5 ?_
  refine nT ?_
  refine sR ?_
  refine rV 5 ?_
  refine ZC M 33 (fun w M => c_tagOf key nonce ad (tn key nonce s) (sf_zero h).1 (by have := sf_zero h; rw [tn_size]; omega) w M.laid) fun u3 M => ?_
  refine pH 34 (.string (sealS key nonce ad s)) (run_cat 9 9 _ _ rfl (tn key nonce s) (tgO key nonce ad (tn key nonce s)) (by kernel_rfl) (by kernel_rfl) (by rw [tn_size, tgO_size]; have := sf_zero h; omega)) ?_
  refine rV 2 ?_
  refine nT ?_
  refine wp_ret ?_
  exact b1 M

set_option maxRecDepth 100000 in
set_option maxHeartbeats 4000000 in
theorem c_SealB (key nonce ad s : ByteArray) (h : sf key nonce ad s 0 ≠ 0) (w : World) (hL : Laid w)  :
    Calls Tryd.prog 41 #[.string key, .string nonce, .string ad, .string s] w fun r w' => r = .returned (.tuple #[.string ⟨#[]⟩, .int .i64 (sf key nonce ad s 0)]) ∧ Below w.heap.size w w' := by
  go_enter Tryd.func41, Tryd.ntmps41
  have M := Mem.start hL
  refine sq ?_
  refine wp_seq ?_
  refine sR ?_
  refine rV 4 ?_
  refine ZC M 17 (fun w M => c_fault key nonce ad s 0 (by decide) w M.laid) fun u1 M => ?_
  refine rV 1 ?_
  refine nT ?_
  refine sR ?_
  refine rV 1 ?_
  refine wU 19 h ?_
  refine nT ?_
  refine wp_cond_true (by kernel_rfl) ?_
  refine sq ?_
  refine wp_ret ?_
  refine au_then_ret ?_
  exact b1 M

theorem cx_size (s : ByteArray) : (s.extract 0 (s.size - 16)).size = s.size - 16 := by
  rw [ByteArray.size_extract]
  omega
/-- The tag that a sealed text should have, and the text that it opens as. -/
def tgX (key nonce ad s : ByteArray) : ByteArray := tgO key nonce ad (s.extract 0 (s.size - 16))
def opS (key nonce s : ByteArray) : ByteArray := tn key nonce (s.extract 0 (s.size - 16))

set_option maxRecDepth 100000 in
set_option maxHeartbeats 4000000 in
theorem c_OpenA (key nonce ad s : ByteArray) (h : sf key nonce ad s 16 = 0) (e : tgX key nonce ad s = s.extract (s.size - 16) s.size) (w : World) (hL : Laid w)  :
    Calls Tryd.prog 44 #[.string key, .string nonce, .string ad, .string s] w fun r w' => r = .returned (.tuple #[.string (opS key nonce s), .int .i64 0]) ∧ Below w.heap.size w w' := by
  go_enter Tryd.func44, Tryd.ntmps44
  have M := Mem.start hL
  have hs16 : 16 ≤ s.size := (sf_zero h).2.2.2
  have hs17 : s.size ≤ 65536 + 16 := (sf_zero h).2.2.1
  refine sq ?_
  refine wp_seq ?_
  refine sR ?_
  refine rV 4 ?_
  refine ZC M 17 (fun w M => c_fault key nonce ad s 16 (by decide) w M.laid) fun u1 M => ?_
  refine rV 1 ?_
  refine nT ?_
  refine sR ?_
  refine rV 1 ?_
  refine wD 19 h ?_
  refine nT ?_
  refine wp_cond_false (by kernel_rfl) ?_
  refine wp_skip ?_
  refine au_then ?_
  refine wp_seq ?_
  refine rgh M [] 11 fun u2 M => ?_
  refine qV M 0 21 (.string s) ?_
  refine qV M 1 22 (.string s) ?_
  refine qV M 2 23 (.int .i64 (s.size : Int)) ?_
  refine qH M 3 24 (.int .i64 ((s.size - 16 : Nat) : Int)) (fun w _ => (fun w => Eq.trans (b := .ok (.value (.int .i64 (IntKind.wrap .i64 ((s.size : Int) - 16)))) w) (by kernel_rfl) (by rw [wrap64 (by omega) (by omega)]; congr 3 <;> omega)) w) ?_
  refine qH M 4 25 (.string (s.extract 0 (s.size - 16))) (fun w _ => (run_strh 9 Tryd.underlying9 _ _ rfl s (by kernel_rfl) .i64 (s.size - 16) (by kernel_rfl) (by omega) _ rfl) w) ?_
  refine qV M 5 26 (.string s) ?_
  refine qV M 6 27 (.string s) ?_
  refine qV M 7 28 (.int .i64 (s.size : Int)) ?_
  refine qH M 8 29 (.int .i64 ((s.size - 16 : Nat) : Int)) (fun w _ => (fun w => Eq.trans (b := .ok (.value (.int .i64 (IntKind.wrap .i64 ((s.size : Int) - 16)))) w) (by kernel_rfl) (by rw [wrap64 (by omega) (by omega)]; congr 3 <;> omega)) w) ?_
  refine qH M 9 30 (.string (s.extract (s.size - 16) s.size)) (fun w _ => (run_strl 9 Tryd.underlying9 _ _ rfl s (by kernel_rfl) .i64 (s.size - 16) (by kernel_rfl) (by omega) _ rfl) w) ?_
  refine qV M 10 11 (.string (s.extract 0 (s.size - 16))) ?_
  refine qZ ?_
  refine rV 1 ?_
  refine nT ?_
  refine au_then ?_
  refine wp_seq ?_
  refine sR ?_
  refine rV 4 ?_
  refine ZC M 35 (fun w M => c_tagOf key nonce ad (s.extract 0 (s.size - 16)) (sf_zero h).1 (by have := sf_zero h; rw [cx_size]; omega) w M.laid) fun u3 M => ?_
  refine rV 1 ?_
  refine pC M 37 57 #[.string (tgX key nonce ad s), .string (s.extract (s.size - 16) s.size)] (.bool true) (fun w M => (by rw [← decide_eq_true e]; exact Pol.c_same _ _ (by show (tgO key nonce ad (s.extract 0 (s.size - 16))).size ≤ _; rw [tgO_size]; decide) w M.laid)) fun u4 M => ?_
  refine rV 1 ?_
  refine nT ?_
  refine wp_cond_false (by kernel_rfl) ?_
  refine wp_skip ?_
  refine au_then ?_
  refine sR ?_
  refine rV 3 ?_
  refine ZC M 42 (fun w M => c_Turn1 key nonce (s.extract 0 (s.size - 16)) (sf_zero h).1 (by have := sf_zero h; rw [cx_size]; omega) w M.laid) fun u5 M => ?_
  refine rV 4 ?_
  refine nT ?_
  refine wp_ret ?_
  exact b1 M

set_option maxRecDepth 100000 in
set_option maxHeartbeats 4000000 in
theorem c_OpenB (key nonce ad s : ByteArray) (h : sf key nonce ad s 16 = 0) (e : tgX key nonce ad s ≠ s.extract (s.size - 16) s.size) (w : World) (hL : Laid w)  :
    Calls Tryd.prog 44 #[.string key, .string nonce, .string ad, .string s] w fun r w' => r = .returned (.tuple #[.string ⟨#[]⟩, .int .i64 100]) ∧ Below w.heap.size w w' := by
  go_enter Tryd.func44, Tryd.ntmps44
  have M := Mem.start hL
  have hs16 : 16 ≤ s.size := (sf_zero h).2.2.2
  have hs17 : s.size ≤ 65536 + 16 := (sf_zero h).2.2.1
  refine sq ?_
  refine wp_seq ?_
  refine sR ?_
  refine rV 4 ?_
  refine ZC M 17 (fun w M => c_fault key nonce ad s 16 (by decide) w M.laid) fun u1 M => ?_
  refine rV 1 ?_
  refine nT ?_
  refine sR ?_
  refine rV 1 ?_
  refine wD 19 h ?_
  refine nT ?_
  refine wp_cond_false (by kernel_rfl) ?_
  refine wp_skip ?_
  refine au_then ?_
  refine wp_seq ?_
  refine rgh M [] 11 fun u2 M => ?_
  refine qV M 0 21 (.string s) ?_
  refine qV M 1 22 (.string s) ?_
  refine qV M 2 23 (.int .i64 (s.size : Int)) ?_
  refine qH M 3 24 (.int .i64 ((s.size - 16 : Nat) : Int)) (fun w _ => (fun w => Eq.trans (b := .ok (.value (.int .i64 (IntKind.wrap .i64 ((s.size : Int) - 16)))) w) (by kernel_rfl) (by rw [wrap64 (by omega) (by omega)]; congr 3 <;> omega)) w) ?_
  refine qH M 4 25 (.string (s.extract 0 (s.size - 16))) (fun w _ => (run_strh 9 Tryd.underlying9 _ _ rfl s (by kernel_rfl) .i64 (s.size - 16) (by kernel_rfl) (by omega) _ rfl) w) ?_
  refine qV M 5 26 (.string s) ?_
  refine qV M 6 27 (.string s) ?_
  refine qV M 7 28 (.int .i64 (s.size : Int)) ?_
  refine qH M 8 29 (.int .i64 ((s.size - 16 : Nat) : Int)) (fun w _ => (fun w => Eq.trans (b := .ok (.value (.int .i64 (IntKind.wrap .i64 ((s.size : Int) - 16)))) w) (by kernel_rfl) (by rw [wrap64 (by omega) (by omega)]; congr 3 <;> omega)) w) ?_
  refine qH M 9 30 (.string (s.extract (s.size - 16) s.size)) (fun w _ => (run_strl 9 Tryd.underlying9 _ _ rfl s (by kernel_rfl) .i64 (s.size - 16) (by kernel_rfl) (by omega) _ rfl) w) ?_
  refine qV M 10 11 (.string (s.extract 0 (s.size - 16))) ?_
  refine qZ ?_
  refine rV 1 ?_
  refine nT ?_
  refine au_then ?_
  refine wp_seq ?_
  refine sR ?_
  refine rV 4 ?_
  refine ZC M 35 (fun w M => c_tagOf key nonce ad (s.extract 0 (s.size - 16)) (sf_zero h).1 (by have := sf_zero h; rw [cx_size]; omega) w M.laid) fun u3 M => ?_
  refine rV 1 ?_
  refine pC M 37 57 #[.string (tgX key nonce ad s), .string (s.extract (s.size - 16) s.size)] (.bool false) (fun w M => (by rw [← decide_eq_false e]; exact Pol.c_same _ _ (by show (tgO key nonce ad (s.extract 0 (s.size - 16))).size ≤ _; rw [tgO_size]; decide) w M.laid)) fun u4 M => ?_
  refine rV 1 ?_
  refine nT ?_
  refine wp_cond_true (by kernel_rfl) ?_
  refine sq ?_
  refine wp_ret ?_
  refine au_then_ret ?_
  exact b1 M

set_option maxRecDepth 100000 in
set_option maxHeartbeats 4000000 in
theorem c_OpenC (key nonce ad s : ByteArray) (h : sf key nonce ad s 16 ≠ 0)  (w : World) (hL : Laid w)  :
    Calls Tryd.prog 44 #[.string key, .string nonce, .string ad, .string s] w fun r w' => r = .returned (.tuple #[.string ⟨#[]⟩, .int .i64 (sf key nonce ad s 16)]) ∧ Below w.heap.size w w' := by
  go_enter Tryd.func44, Tryd.ntmps44
  have M := Mem.start hL
  refine sq ?_
  refine wp_seq ?_
  refine sR ?_
  refine rV 4 ?_
  refine ZC M 17 (fun w M => c_fault key nonce ad s 16 (by decide) w M.laid) fun u1 M => ?_
  refine rV 1 ?_
  refine nT ?_
  refine sR ?_
  refine rV 1 ?_
  refine wU 19 h ?_
  refine nT ?_
  refine wp_cond_true (by kernel_rfl) ?_
  refine sq ?_
  refine wp_ret ?_
  refine au_then_ret ?_
  exact b1 M


end Go.Proofs.YtenafinbaanicaaDoor
