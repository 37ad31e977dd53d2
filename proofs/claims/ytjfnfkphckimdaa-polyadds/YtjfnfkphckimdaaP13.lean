/- The walk of PolyAdds. -/
import Derived.Test.YtjfnfkphckimdaaP11
namespace Go.Proofs.Ytjfnfkphckimdaa
open Go.RowKit

theorem bt_bs (l : List Int) (h : ∀ x ∈ l, 0 ≤ x ∧ x < 256) (i : Nat) : bt (bs l) i = l.getD i 0 := by
  rw [bt_of_sb, sb_bs l h]
theorem dgs_nn (X : Int) : ∀ x ∈ (List.range 16).map (dgt X), 0 ≤ x ∧ x < 256 := fun x hx => by
  obtain ⟨i, _, rfl⟩ := List.mem_map.1 hx
  exact dgt_nn X i
theorem bt_tag (key s : ByteArray) (i : Nat) (hi : i < 16) : bt (tagS key s) i = dgt (tagZ key s) i := by
  unfold tagS
  rw [bt_bs _ (dgs_nn _), List.getD_eq_getElem?_getD, List.getElem?_map, List.getElem?_range hi]
  rfl
theorem sb_map (x : ByteArray) : sb x = (List.range x.size).map (bt x) := by
  refine List.ext_getElem? fun i => ?_
  by_cases hi : i < x.size
  · rw [sb_get x i hi, List.getElem?_map, List.getElem?_range hi]
    rfl
  · rw [List.getElem?_eq_none (by rw [sb_length]; omega), List.getElem?_eq_none (by simp; omega)]
theorem bs_map (x : ByteArray) (n : Nat) (hn : x.size = n) : bs ((List.range n).map (bt x)) = x := by
  rw [← hn, ← sb_map, bs_sb]
theorem bt_cat (a b : ByteArray) (i : Nat) : bt (a ++ b) i = if i < a.size then bt a i else bt b (i - a.size) := by
  rw [bt_of_sb, sb_append, bt_of_sb, bt_of_sb, List.getD_eq_getElem?_getD, List.getD_eq_getElem?_getD, List.getD_eq_getElem?_getD]
  split
  · rename_i h
    rw [List.getElem?_append_left (by rw [sb_length]; exact h)]
  · rename_i h
    rw [List.getElem?_append_right (by rw [sb_length]; omega), sb_length]
theorem bt_z (n i : Nat) : bt (zB n) i = 0 := by
  unfold zB
  rw [bt_bs _ (z_nn n), List.getD_eq_getElem?_getD, List.getElem?_map]
  cases (List.range n)[i]? <;> rfl
theorem V_zero (b : Int) : ∀ n, V b n (fun _ => 0) = 0
  | 0 => rfl
  | n + 1 => by simp [V, V_zero b n]
theorem hN_zero (q : Nat → Int) : ∀ n, hN 0 q n = 0
  | 0 => rfl
  | n + 1 => by
    show ((hN 0 q n + q n) * 0) % _ = 0
    rw [Int.mul_zero]
    rfl
/-- A number of sixteen bytes is told by them. -/
theorem half (x : ByteArray) (hx : x.size = 16) : bs ((List.range 16).map (dgt (V 256 16 (bt x)))) = x := by
  conv => rhs; rw [← bs_map x 16 hx]
  congr 1
  exact List.map_congr_left fun i hi => dig_val (bt x) 16 (fun k _ => bt_nn x k) i (List.mem_range.1 hi)
def kx (key : ByteArray) : ByteArray := key.extract 16 key.size
theorem kx_size (key : ByteArray) (hk : key.size = 32) : (kx key).size = 16 := by
  unfold kx
  rw [ByteArray.size_extract]
  omega
theorem kx_at (key : ByteArray) (hk : key.size = 32) (i : Nat) (hi : i < 16) : bt (kx key) i = bt key (16 + i) := by
  unfold kx
  rw [bt_sub key 16 key.size i (by omega) (by omega)]
theorem S_kx (key : ByteArray) (hk : key.size = 32) : V 256 16 (fun i => bt key (16 + i)) = V 256 16 (bt (kx key)) := V_congr _ _ _ _ fun i hi => (kx_at key hk i hi).symm
theorem tagD (key : ByteArray) (hk : key.size = 32) : tagS key ⟨#[]⟩ = kx key := by
  unfold tagS tagZ
  rw [S_kx key hk, show hN (V 256 16 (rB (bt key))) (qS ⟨#[]⟩) (((⟨#[]⟩ : ByteArray).size + 15) / 16) = 0 from rfl, Int.zero_add]
  exact half (kx key) (kx_size key hk)
def kc (key : ByteArray) : ByteArray := zB 16 ++ kx key
theorem kc_size (key : ByteArray) (hk : key.size = 32) : (kc key).size = 32 := by
  unfold kc
  rw [ByteArray.size_append, zB_size, kx_size key hk]
theorem tagC (key s : ByteArray) (hk : key.size = 32) : tagS (kc key) s = kx key := by
  have e1 : V 256 16 (rB (bt (kc key))) = 0 := by
    rw [← V_zero 256 16]
    refine V_congr _ _ _ _ fun i hi => ?_
    have : bt (kc key) i = 0 := by
      unfold kc
      rw [bt_cat, zB_size, if_pos hi, bt_z]
    unfold rB
    rw [this]
    split
    · rfl
    · split <;> rfl
  have e2 : V 256 16 (fun i => bt (kc key) (16 + i)) = V 256 16 (bt (kx key)) := V_congr _ _ _ _ fun i hi => by
    unfold kc
    rw [bt_cat, zB_size, if_neg (by omega), Nat.add_sub_cancel_left]
  unfold tagS tagZ
  rw [e1, e2, hN_zero, Int.zero_add]
  exact half (kx key) (kx_size key hk)
def kb (key : ByteArray) : ByteArray := key.extract 0 16 ++ zB 16
theorem kb_size (key : ByteArray) (hk : key.size = 32) : (kb key).size = 32 := by
  unfold kb
  rw [ByteArray.size_append, zB_size, ByteArray.size_extract]
  omega
/-- The tag ahead of the key's second half. -/
theorem tagB (key s : ByteArray) (hk : key.size = 32) : tagZ key s = tagZ (kb key) s + V 256 16 (bt (kx key)) := by
  have hs : (key.extract 0 16).size = 16 := by
    rw [ByteArray.size_extract]
    omega
  have e1 : V 256 16 (rB (bt (kb key))) = V 256 16 (rB (bt key)) := V_congr _ _ _ _ (rB_congr _ _ fun i hi => by
    unfold kb
    rw [bt_cat, hs, if_pos hi, bt_sub key 0 16 i (by omega) (by omega), Nat.zero_add])
  have e2 : V 256 16 (fun i => bt (kb key) (16 + i)) = 0 := by
    rw [← V_zero 256 16]
    refine V_congr _ _ _ _ fun i hi => ?_
    unfold kb
    rw [bt_cat, hs, if_neg (by omega), bt_z]
  unfold tagZ
  rw [e1, e2, S_kx key hk, Int.add_zero]
theorem V_dgt (X : Int) : ∀ n, V 256 n (dgt X) = X % 256 ^ n
  | 0 => by
    show 0 = X % 1
    omega
  | n + 1 => by
    show V 256 n (dgt X) + dgt X n * 256 ^ n = _
    rw [V_dgt X n]
    have hp : (0 : Int) < 256 ^ n := Int.pow_pos (by decide)
    have e1 := Int.emod_add_mul_ediv X (256 ^ n)
    have e2 := Int.emod_add_mul_ediv (X / 256 ^ n) 256
    have r0 := Int.emod_nonneg X (show (256 : Int) ^ n ≠ 0 by omega)
    have r1 := Int.emod_lt_of_pos X hp
    have d := dgt_nn X n
    unfold dgt at *
    rw [Int.pow_succ]
    generalize (256 : Int) ^ n = p at *
    generalize X % p = r at *
    generalize X / p = q at *
    generalize q / 256 = z at *
    generalize q % 256 = y at *
    have e3 : X = (r + y * p) + (p * 256) * z := by
      rw [← e1, ← e2]
      grind
    have y0 : 0 ≤ y * p := Int.mul_nonneg d.1 (by omega)
    have y1 : y * p ≤ 255 * p := Int.mul_le_mul_of_nonneg_right (by omega) (by omega)
    rw [e3, Int.add_mul_emod_self_left, Int.emod_eq_of_lt (by omega) (by omega)]
/-- What is carried, of whole numbers. -/
def cI (g : Nat → Int) : Nat → Int
  | 0 => 0
  | j + 1 => sr (g j + cI g j) 8
theorem cI_cy (g : Nat → Int) (hg : ∀ i, i < 16 → 0 ≤ g i ∧ g i < 4096) : ∀ j, j ≤ 16 → cI g j = cy 8 g j
  | 0, _ => rfl
  | j + 1, h => by
    have C := chain8 g j (fun i hi => by have := hg i (by omega); omega)
    have c0 := C.c0
    have c1 := C.c1
    have a := hg j (by omega)
    show sr (g j + cI g j) 8 = sr (ua (g j) (cy 8 g j)) 8
    rw [cI_cy g hg j (by omega), ua_eq _ _ (by omega) (by omega)]
theorem cI_lt (g : Nat → Int) (hg : ∀ i, i < 16 → 0 ≤ g i ∧ g i < 4096) : ∀ j, j ≤ 16 → 0 ≤ cI g j ∧ cI g j < 4096
  | 0, _ => by
    show (0 : Int) ≤ 0 ∧ (0 : Int) < 4096
    decide
  | j + 1, h => by
    have ih := cI_lt g hg j (by omega)
    have a := hg j (by omega)
    show 0 ≤ sr (g j + cI g j) 8 ∧ sr (g j + cI g j) 8 < 4096
    rw [sr8]
    omega
def gA (key s : ByteArray) : Nat → Int := fun i => bt (tagS (kb key) s) i + bt key (16 + i)
theorem gA_nn (key s : ByteArray) (i : Nat) : 0 ≤ gA key s i ∧ gA key s i < 4096 := by
  have a := bt_nn (tagS (kb key) s) i
  have b := bt_nn key (16 + i)
  unfold gA
  omega
/-- The bytes are those of the tag. -/
theorem adds_at (key s : ByteArray) (hk : key.size = 32) (i : Nat) (hi : i < 16) : cv .u8 (gA key s i + cI (gA key s) i) = bt (tagS key s) i := by
  have hg : ∀ i, i < 16 → 0 ≤ gA key s i ∧ gA key s i < 4096 := fun i _ => gA_nn key s i
  have a := gA_nn key s i
  have c := cI_lt _ hg i (by omega)
  have e1 : cv .u8 (gA key s i + cI (gA key s) i) = dby (gA key s) i := by
    unfold dby
    rw [← cI_cy _ hg i (by omega), ua_eq _ _ (by omega) (by omega)]
  have e2 : V 256 16 (gA key s) = tagZ (kb key) s % 340282366920938463463374607431768211456 + V 256 16 (bt (kx key)) := by
    unfold gA
    rw [V_add, S_kx key hk, V_congr 256 16 (bt (tagS (kb key) s)) (dgt (tagZ (kb key) s)) (fun i hi => bt_tag _ _ i hi), V_dgt, p256]
  rw [e1, dby_val _ hg i hi, e2, bt_tag _ _ i hi, tagB key s hk]
  have e3 := Int.emod_add_mul_ediv (tagZ (kb key) s) 340282366920938463463374607431768211456
  rw [← dgt_more _ (tagZ (kb key) s / 340282366920938463463374607431768211456) i hi]
  congr 1
  omega
theorem cvi8 (x : Int) (h : 0 ≤ x ∧ x < 256) : cv .i64 x = x := wrap64 (by omega) (by omega)

set_option maxRecDepth 100000 in
set_option maxHeartbeats 4000000 in
theorem paA (key s : ByteArray) (h : key.size ≠ 32) (w : World) (hL : Laid w)  :
    Calls Try.prog 5 #[.string key, .string s] w fun r w' => r = .returned (.bool true) ∧ Below w.heap.size w w' := by
  go_enter Try.func5, Try.ntmps5
  have M := Mem.start hL
  refine wp_seq ?_
  refine rg_lit ?_
  refine pl_val (want_no rfl) (some 4) rfl (.bool false) (fun _ => by kernel_rfl) ?_
  refine pl_nil ?_
  refine au_then ?_
  refine wp_seq ?_
  refine wp_seq ?_
  refine rg_lit ?_
  refine pl_val (want_no rfl) (some 17) rfl (.string key) (fun _ => by kernel_rfl) ?_
  refine pl_val (want_no rfl) (some 18) rfl (.int .i64 (key.size : Int)) (fun _ => by kernel_rfl) ?_
  refine pl_val (want_no rfl) (some 19) rfl (.bool true) (fun w => Eq.trans (b := .ok (.value (.bool (!(decide ((key.size : Int) = 32))))) w) (by kernel_rfl) (by rw [decide_eq_false (by omega)]; rfl)) ?_
  refine pl_val (want_no rfl) (some 20) rfl (.bool true) (fun _ => by kernel_rfl) ?_
  refine pl_skip (want_off 3 false rfl 20 rfl (by kernel_rfl)) (some 21) rfl ?_
  refine pl_skip (want_off 3 false rfl 20 rfl (by kernel_rfl)) (some 22) rfl ?_
  refine pl_skip (want_off 3 false rfl 20 rfl (by kernel_rfl)) (some 23) rfl ?_
  refine pl_val (want_no rfl) (some 24) rfl (.bool true) (fun _ => by kernel_rfl) ?_
  refine pl_nil ?_
  refine au_then ?_
  refine wp_cond_true (by kernel_rfl) ?_
  refine wp_seq ?_
  refine rg_lit ?_
  refine pl_call M (want_no rfl) (some 25) rfl 6 #[] (.bool true) (fun _ => by kernel_rfl) (fun w M => c_alive w M.laid) ?_
  intro u1 M
  refine pl_val (want_no rfl) (some 4) rfl (.bool true) (fun _ => by kernel_rfl) ?_
  refine pl_nil ?_
  refine au_then ?_
  refine wp_ret ?_
  refine au_then_ret ?_
  exact bodyPost_ret (v := .bool true) (results_tmp1 Try.results5 _ _ _ (by kernel_rfl)) (by kernel_rfl) ⟨rfl, below_grown M.old⟩

set_option maxRecDepth 100000 in
set_option maxHeartbeats 4000000 in
theorem paB (key s : ByteArray) (h : key.size = 32) (h2 : 4096 < s.size) (w : World) (hL : Laid w)  :
    Calls Try.prog 5 #[.string key, .string s] w fun r w' => r = .returned (.bool true) ∧ Below w.heap.size w w' := by
  go_enter Try.func5, Try.ntmps5
  have M := Mem.start hL
  refine wp_seq ?_
  refine rg_lit ?_
  refine pl_val (want_no rfl) (some 4) rfl (.bool false) (fun _ => by kernel_rfl) ?_
  refine pl_nil ?_
  refine au_then ?_
  refine wp_seq ?_
  refine wp_seq ?_
  refine rg_lit ?_
  refine pl_val (want_no rfl) (some 17) rfl (.string key) (fun _ => by kernel_rfl) ?_
  refine pl_val (want_no rfl) (some 18) rfl (.int .i64 (key.size : Int)) (fun _ => by kernel_rfl) ?_
  refine pl_val (want_no rfl) (some 19) rfl (.bool false) (fun w => Eq.trans (b := .ok (.value (.bool (!(decide ((key.size : Int) = 32))))) w) (by kernel_rfl) (by rw [decide_eq_true (by omega)]; rfl)) ?_
  refine pl_val (want_no rfl) (some 20) rfl (.bool false) (fun _ => by kernel_rfl) ?_
  refine pl_val (want_on 3 false rfl 20 rfl (by kernel_rfl)) (some 21) rfl (.string s) (fun _ => by kernel_rfl) ?_
  refine pl_val (want_on 3 false rfl 20 rfl (by kernel_rfl)) (some 22) rfl (.int .i64 (s.size : Int)) (fun _ => by kernel_rfl) ?_
  refine pl_val (want_on 3 false rfl 20 rfl (by kernel_rfl)) (some 23) rfl (.bool true) (fun w => Eq.trans (b := .ok (.value (.bool (decide ((4096 : Int) < (s.size : Int))))) w) (by kernel_rfl) (by rw [decide_eq_true (by omega)])) ?_
  refine pl_val (want_no rfl) (some 24) rfl (.bool true) (fun _ => by kernel_rfl) ?_
  refine pl_nil ?_
  refine au_then ?_
  refine wp_cond_true (by kernel_rfl) ?_
  refine wp_seq ?_
  refine rg_lit ?_
  refine pl_call M (want_no rfl) (some 25) rfl 6 #[] (.bool true) (fun _ => by kernel_rfl) (fun w M => c_alive w M.laid) ?_
  intro u1 M
  refine pl_val (want_no rfl) (some 4) rfl (.bool true) (fun _ => by kernel_rfl) ?_
  refine pl_nil ?_
  refine au_then ?_
  refine wp_ret ?_
  refine au_then_ret ?_
  exact bodyPost_ret (v := .bool true) (results_tmp1 Try.results5 _ _ _ (by kernel_rfl)) (by kernel_rfl) ⟨rfl, below_grown M.old⟩

set_option maxRecDepth 100000 in
set_option maxHeartbeats 4000000 in
theorem paC (key s : ByteArray) (h : key.size = 32) (h2 : ¬ 4096 < s.size) (w : World) (hL : Laid w)  :
    Calls Try.prog 5 #[.string key, .string s] w fun r w' => r = .returned (.bool true) ∧ Below w.heap.size w w' := by
  go_enter Try.func5, Try.ntmps5
  have M := Mem.start hL
  refine wp_seq ?_
  refine rg_lit ?_
  refine pl_val (want_no rfl) (some 4) rfl (.bool false) (fun _ => by kernel_rfl) ?_
  refine pl_nil ?_
  refine au_then ?_
  refine wp_seq ?_
  refine wp_seq ?_
  refine rg_lit ?_
  refine pl_val (want_no rfl) (some 17) rfl (.string key) (fun _ => by kernel_rfl) ?_
  refine pl_val (want_no rfl) (some 18) rfl (.int .i64 (key.size : Int)) (fun _ => by kernel_rfl) ?_
  refine pl_val (want_no rfl) (some 19) rfl (.bool false) (fun w => Eq.trans (b := .ok (.value (.bool (!(decide ((key.size : Int) = 32))))) w) (by kernel_rfl) (by rw [decide_eq_true (by omega)]; rfl)) ?_
  refine pl_val (want_no rfl) (some 20) rfl (.bool false) (fun _ => by kernel_rfl) ?_
  refine pl_val (want_on 3 false rfl 20 rfl (by kernel_rfl)) (some 21) rfl (.string s) (fun _ => by kernel_rfl) ?_
  refine pl_val (want_on 3 false rfl 20 rfl (by kernel_rfl)) (some 22) rfl (.int .i64 (s.size : Int)) (fun _ => by kernel_rfl) ?_
  refine pl_val (want_on 3 false rfl 20 rfl (by kernel_rfl)) (some 23) rfl (.bool false) (fun w => Eq.trans (b := .ok (.value (.bool (decide ((4096 : Int) < (s.size : Int))))) w) (by kernel_rfl) (by rw [decide_eq_false (by omega)])) ?_
  refine pl_val (want_no rfl) (some 24) rfl (.bool false) (fun _ => by kernel_rfl) ?_
  refine pl_nil ?_
  refine au_then ?_
  refine wp_cond_false (by kernel_rfl) ?_
  refine wp_skip ?_
  refine au_then ?_
  refine wp_seq ?_
  refine rg_lit ?_
  refine pl_mk M (want_no rfl) (some 26) rfl (fun g1 => .slice (some ⟨g1, 0, none⟩) 16 16) (.cells (av 16 (w8 (fun _ => 0))) 5) (fun _ => by kernel_rfl) ?_
  intro g1 u1 M
  replace M : Mem ⟨w, []⟩ [⟨g1, .cells (av 16 (w8 (fun _ => 0))) 5⟩] u1 := M
  refine pl_back M (want_no rfl) (some 27) rfl _ rfl 0 g1 16 16 (by kernel_rfl) _ rfl ((List.range 16).map fun _ => 0) 16 (sb_av 16 _ _) (by simp) (z_nn _) ?_
  refine pl_val (want_no rfl) (some 5) rfl (.string (zB 16)) (fun _ => by kernel_rfl) ?_
  refine pl_nil ?_
  refine au_then ?_
  refine wp_seq ?_
  refine rg_lit ?_
  refine pl_val (want_no rfl) (some 29) rfl (.string key) (fun _ => by kernel_rfl) ?_
  refine pl_val (want_no rfl) (some 30) rfl (.string s) (fun _ => by kernel_rfl) ?_
  refine pl_call M (want_no rfl) (some 31) rfl 7 #[.string key, .string s] (.tuple #[.string (tagS key s), .int .i64 0]) (fun _ => by kernel_rfl) (fun w M => c_Tag key s h (by omega) w M.laid) ?_
  intro u2 M
  refine pl_val (want_no rfl) (some 28) rfl (.tuple #[.string (tagS key s), .int .i64 0]) (fun _ => by kernel_rfl) ?_
  refine pl_val (want_no rfl) (some 32) rfl (.string (tagS key s)) (fun _ => by kernel_rfl) ?_
  refine pl_val (want_no rfl) (some 33) rfl (.int .i64 0) (fun _ => by kernel_rfl) ?_
  refine pl_val (want_no rfl) (some 6) rfl (.string (tagS key s)) (fun _ => by kernel_rfl) ?_
  refine pl_val (want_no rfl) (some 7) rfl (.int .i64 0) (fun _ => by kernel_rfl) ?_
  refine pl_nil ?_
  refine au_then ?_
  refine wp_seq ?_
  refine rg_lit ?_
  refine pl_val (want_no rfl) (some 35) rfl (.string key) (fun _ => by kernel_rfl) ?_
  refine pl_val (want_no rfl) (some 36) rfl (.string (key.extract 0 16)) (run_strh 9 Try.underlying9 _ _ rfl key (by kernel_rfl) .i64 16 (by kernel_rfl) (by omega) _ rfl) ?_
  refine pl_val (want_no rfl) (some 37) rfl (.string (zB 16)) (fun _ => by kernel_rfl) ?_
  refine pl_val (want_no rfl) (some 38) rfl (.string (kb key)) (run_cat 9 9 _ _ rfl (key.extract 0 16) (zB 16) (by kernel_rfl) (by kernel_rfl) (by rw [ByteArray.size_extract, zB_size]; omega)) ?_
  refine pl_val (want_no rfl) (some 39) rfl (.string s) (fun _ => by kernel_rfl) ?_
  refine pl_call M (want_no rfl) (some 40) rfl 7 #[.string (kb key), .string s] (.tuple #[.string (tagS (kb key) s), .int .i64 0]) (fun _ => by kernel_rfl) (fun w M => c_Tag (kb key) s (kb_size key h) (by omega) w M.laid) ?_
  intro u3 M
  refine pl_val (want_no rfl) (some 34) rfl (.tuple #[.string (tagS (kb key) s), .int .i64 0]) (fun _ => by kernel_rfl) ?_
  refine pl_val (want_no rfl) (some 41) rfl (.string (tagS (kb key) s)) (fun _ => by kernel_rfl) ?_
  refine pl_val (want_no rfl) (some 42) rfl (.int .i64 0) (fun _ => by kernel_rfl) ?_
  refine pl_val (want_no rfl) (some 8) rfl (.string (tagS (kb key) s)) (fun _ => by kernel_rfl) ?_
  refine pl_val (want_no rfl) (some 9) rfl (.int .i64 0) (fun _ => by kernel_rfl) ?_
  refine pl_nil ?_
  refine au_then ?_
  refine wp_seq ?_
  refine rg_lit ?_
  refine pl_val (want_no rfl) (some 44) rfl (.string (zB 16)) (fun _ => by kernel_rfl) ?_
  refine pl_val (want_no rfl) (some 45) rfl (.string key) (fun _ => by kernel_rfl) ?_
  refine pl_val (want_no rfl) (some 46) rfl (.string (kx key)) (run_strl 9 Try.underlying9 _ _ rfl key (by kernel_rfl) .i64 16 (by kernel_rfl) (by omega) _ rfl) ?_
  refine pl_val (want_no rfl) (some 47) rfl (.string (kc key)) (run_cat 9 9 _ _ rfl (zB 16) (kx key) (by kernel_rfl) (by kernel_rfl) (by rw [zB_size, kx_size key h]; decide)) ?_
  refine pl_val (want_no rfl) (some 48) rfl (.string s) (fun _ => by kernel_rfl) ?_
  refine pl_call M (want_no rfl) (some 49) rfl 7 #[.string (kc key), .string s] (.tuple #[.string (kx key), .int .i64 0]) (fun _ => by kernel_rfl) (fun w M => (by rw [← tagC key s h]; exact c_Tag (kc key) s (kc_size key h) (by omega) w M.laid)) ?_
  intro u4 M
  refine pl_val (want_no rfl) (some 43) rfl (.tuple #[.string (kx key), .int .i64 0]) (fun _ => by kernel_rfl) ?_
  refine pl_val (want_no rfl) (some 50) rfl (.string (kx key)) (fun _ => by kernel_rfl) ?_
  refine pl_val (want_no rfl) (some 51) rfl (.int .i64 0) (fun _ => by kernel_rfl) ?_
  refine pl_val (want_no rfl) (some 10) rfl (.string (kx key)) (fun _ => by kernel_rfl) ?_
  refine pl_val (want_no rfl) (some 11) rfl (.int .i64 0) (fun _ => by kernel_rfl) ?_
  refine pl_nil ?_
  refine au_then ?_
  refine wp_seq ?_
  refine rg_lit ?_
  refine pl_val (want_no rfl) (some 53) rfl (.string key) (fun _ => by kernel_rfl) ?_
  refine pl_call M (want_no rfl) (some 54) rfl 7 #[.string key, .string ⟨#[]⟩] (.tuple #[.string (kx key), .int .i64 0]) (fun _ => by kernel_rfl) (fun w M => (by rw [← tagD key h]; exact c_Tag key ⟨#[]⟩ h (by decide) w M.laid)) ?_
  intro u5 M
  refine pl_val (want_no rfl) (some 52) rfl (.tuple #[.string (kx key), .int .i64 0]) (fun _ => by kernel_rfl) ?_
  refine pl_val (want_no rfl) (some 55) rfl (.string (kx key)) (fun _ => by kernel_rfl) ?_
  refine pl_val (want_no rfl) (some 56) rfl (.int .i64 0) (fun _ => by kernel_rfl) ?_
  refine pl_val (want_no rfl) (some 12) rfl (.string (kx key)) (fun _ => by kernel_rfl) ?_
  refine pl_val (want_no rfl) (some 13) rfl (.int .i64 0) (fun _ => by kernel_rfl) ?_
  refine pl_nil ?_
  refine au_then ?_
  refine wp_seq ?_
  refine wp_seq ?_
  refine rg_lit ?_
  refine pl_val (want_no rfl) (some 57) rfl (.int .i64 0) (fun _ => by kernel_rfl) ?_
  refine pl_val (want_no rfl) (some 58) rfl (.bool false) (fun _ => by kernel_rfl) ?_
  refine pl_val (want_no rfl) (some 59) rfl (.bool false) (fun _ => by kernel_rfl) ?_
  refine pl_val (want_on 2 false rfl 59 rfl (by kernel_rfl)) (some 60) rfl (.int .i64 0) (fun _ => by kernel_rfl) ?_
  refine pl_val (want_on 2 false rfl 59 rfl (by kernel_rfl)) (some 61) rfl (.bool false) (fun _ => by kernel_rfl) ?_
  refine pl_val (want_no rfl) (some 62) rfl (.bool false) (fun _ => by kernel_rfl) ?_
  refine pl_val (want_no rfl) (some 63) rfl (.bool false) (fun _ => by kernel_rfl) ?_
  refine pl_val (want_on 6 false rfl 63 rfl (by kernel_rfl)) (some 64) rfl (.int .i64 0) (fun _ => by kernel_rfl) ?_
  refine pl_val (want_on 6 false rfl 63 rfl (by kernel_rfl)) (some 65) rfl (.bool false) (fun _ => by kernel_rfl) ?_
  refine pl_val (want_no rfl) (some 66) rfl (.bool false) (fun _ => by kernel_rfl) ?_
  refine pl_val (want_no rfl) (some 67) rfl (.bool false) (fun _ => by kernel_rfl) ?_
  refine pl_val (want_on 10 false rfl 67 rfl (by kernel_rfl)) (some 68) rfl (.int .i64 0) (fun _ => by kernel_rfl) ?_
  refine pl_val (want_on 10 false rfl 67 rfl (by kernel_rfl)) (some 69) rfl (.bool false) (fun _ => by kernel_rfl) ?_
  refine pl_val (want_no rfl) (some 70) rfl (.bool false) (fun _ => by kernel_rfl) ?_
  refine pl_val (want_no rfl) (some 71) rfl (.bool false) (fun _ => by kernel_rfl) ?_
  refine pl_val (want_on 14 false rfl 71 rfl (by kernel_rfl)) (some 72) rfl (.string (kx key)) (fun _ => by kernel_rfl) ?_
  refine pl_val (want_on 14 false rfl 71 rfl (by kernel_rfl)) (some 73) rfl (.string key) (fun _ => by kernel_rfl) ?_
  refine pl_val (want_on 14 false rfl 71 rfl (by kernel_rfl)) (some 74) rfl (.string (kx key)) (run_strl 9 Try.underlying9 _ _ rfl key (by kernel_rfl) .i64 16 (by kernel_rfl) (by omega) _ rfl) ?_
  refine pl_val (want_on 14 false rfl 71 rfl (by kernel_rfl)) (some 75) rfl (.bool false) (fun w => Eq.trans (b := .ok (.value (.bool (!((kx key).toList == (kx key).toList)))) w) (by kernel_rfl) (by rw [beq_self_eq_true]; rfl)) ?_
  refine pl_val (want_no rfl) (some 76) rfl (.bool false) (fun _ => by kernel_rfl) ?_
  refine pl_val (want_no rfl) (some 77) rfl (.bool false) (fun _ => by kernel_rfl) ?_
  refine pl_val (want_on 20 false rfl 77 rfl (by kernel_rfl)) (some 78) rfl (.string (kx key)) (fun _ => by kernel_rfl) ?_
  refine pl_val (want_on 20 false rfl 77 rfl (by kernel_rfl)) (some 79) rfl (.string key) (fun _ => by kernel_rfl) ?_
  refine pl_val (want_on 20 false rfl 77 rfl (by kernel_rfl)) (some 80) rfl (.string (kx key)) (run_strl 9 Try.underlying9 _ _ rfl key (by kernel_rfl) .i64 16 (by kernel_rfl) (by omega) _ rfl) ?_
  refine pl_val (want_on 20 false rfl 77 rfl (by kernel_rfl)) (some 81) rfl (.bool false) (fun w => Eq.trans (b := .ok (.value (.bool (!((kx key).toList == (kx key).toList)))) w) (by kernel_rfl) (by rw [beq_self_eq_true]; rfl)) ?_
  refine pl_val (want_no rfl) (some 82) rfl (.bool false) (fun _ => by kernel_rfl) ?_
  refine pl_val (want_no rfl) (some 83) rfl (.bool false) (fun _ => by kernel_rfl) ?_
  refine pl_val (want_on 26 false rfl 83 rfl (by kernel_rfl)) (some 84) rfl (.string (tagS key s)) (fun _ => by kernel_rfl) ?_
  refine pl_val (want_on 26 false rfl 83 rfl (by kernel_rfl)) (some 85) rfl (.int .i64 ((tagS key s).size : Int)) (fun _ => by kernel_rfl) ?_
  refine pl_val (want_on 26 false rfl 83 rfl (by kernel_rfl)) (some 86) rfl (.bool false) (fun w => Eq.trans (b := .ok (.value (.bool (!(decide (((tagS key s).size : Int) = 16))))) w) (by kernel_rfl) (by rw [decide_eq_true (by rw [tagS_size]; rfl)]; rfl)) ?_
  refine pl_val (want_no rfl) (some 87) rfl (.bool false) (fun _ => by kernel_rfl) ?_
  refine pl_val (want_no rfl) (some 88) rfl (.bool false) (fun _ => by kernel_rfl) ?_
  refine pl_val (want_on 31 false rfl 88 rfl (by kernel_rfl)) (some 89) rfl (.string (tagS (kb key) s)) (fun _ => by kernel_rfl) ?_
  refine pl_val (want_on 31 false rfl 88 rfl (by kernel_rfl)) (some 90) rfl (.int .i64 ((tagS (kb key) s).size : Int)) (fun _ => by kernel_rfl) ?_
  refine pl_val (want_on 31 false rfl 88 rfl (by kernel_rfl)) (some 91) rfl (.bool false) (fun w => Eq.trans (b := .ok (.value (.bool (!(decide (((tagS (kb key) s).size : Int) = 16))))) w) (by kernel_rfl) (by rw [decide_eq_true (by rw [tagS_size]; rfl)]; rfl)) ?_
  refine pl_val (want_no rfl) (some 92) rfl (.bool false) (fun _ => by kernel_rfl) ?_
  refine pl_nil ?_
  refine au_then ?_
  refine wp_cond_false (by kernel_rfl) ?_
  refine wp_skip ?_
  refine au_then ?_
  refine wp_seq ?_
  refine rg_lit ?_
  refine pl_val (want_no rfl) (some 14) rfl (.int .i64 0) (fun _ => by kernel_rfl) ?_
  refine pl_nil ?_
  refine au_then ?_
  refine wp_seq ?_
  refine wp_seq ?_
  refine rg_lit ?_
  refine pl_val (want_no rfl) (some 15) rfl (.int .i64 0) (fun _ => by kernel_rfl) ?_
  refine pl_nil ?_
  refine au_then ?_
  refine wp_block ?_
  have hc := cI_lt (gA key s) (fun i _ => gA_nn key s i)
  refine au_loop (fun j a w' => ∃ v1 : Nat → Value, a = ⟨#[.string key, .string s, undef, undef, v1 4, .string (zB 16), .string (tagS key s), .int .i64 0, .string (tagS (kb key) s), .int .i64 0, .string (kx key), .int .i64 0, .string (kx key), .int .i64 0, .int .i64 (cI (gA key s) j), .int .i64 (j : Int), v1 16, .string key, .int .i64 (key.size : Int), .bool false, .bool false, .string s, .int .i64 (s.size : Int), .bool false, .bool false, undef, .slice (some ⟨g1, 0, none⟩) 16 16, .string (zB 16), .tuple #[.string (tagS key s), .int .i64 0], .string key, .string s, .tuple #[.string (tagS key s), .int .i64 0], .string (tagS key s), .int .i64 0, .tuple #[.string (tagS (kb key) s), .int .i64 0], .string key, .string (key.extract 0 16), .string (zB 16), .string (kb key), .string s, .tuple #[.string (tagS (kb key) s), .int .i64 0], .string (tagS (kb key) s), .int .i64 0, .tuple #[.string (kx key), .int .i64 0], .string (zB 16), .string key, .string (kx key), .string (kc key), .string s, .tuple #[.string (kx key), .int .i64 0], .string (kx key), .int .i64 0, .tuple #[.string (kx key), .int .i64 0], .string key, .tuple #[.string (kx key), .int .i64 0], .string (kx key), .int .i64 0, .int .i64 0, .bool false, .bool false, .int .i64 0, .bool false, .bool false, .bool false, .int .i64 0, .bool false, .bool false, .bool false, .int .i64 0, .bool false, .bool false, .bool false, .string (kx key), .string key, .string (kx key), .bool false, .bool false, .bool false, .string (kx key), .string key, .string (kx key), .bool false, .bool false, .bool false, .string (tagS key s), .int .i64 ((tagS key s).size : Int), .bool false, .bool false, .bool false, .string (tagS (kb key) s), .int .i64 ((tagS (kb key) s).size : Int), .bool false, .bool false, v1 93, v1 94, v1 95, v1 96, v1 97, v1 98, v1 99, v1 100, v1 101, v1 102, v1 103, v1 104, v1 105, v1 106, v1 107, v1 108, v1 109, v1 110, v1 111, v1 112, v1 113, v1 114, v1 115, v1 116, undef], []⟩ ∧ Mem ⟨w, []⟩ [⟨g1, .cells (av 16 (w8 (fun _ => 0))) 5⟩] w') 16 ⟨fun k_ => ([.bool false, undef, undef, undef, undef, undef, undef, undef, undef, undef, undef, undef, undef, undef, undef, undef, undef, undef, undef, undef, undef, undef, undef, undef, undef, undef, undef, undef, undef, undef, undef, undef, undef, undef, undef, undef, undef, undef, undef, undef, undef, undef, undef, undef, undef, undef, undef, undef, undef, undef, undef, undef, undef, undef, undef, undef, undef, undef, undef, undef, undef, undef, undef, undef, undef, undef, undef, undef, undef, undef, undef, undef, undef, undef, undef, undef, undef, undef, undef, undef, undef, undef, undef, undef, undef, undef, undef, undef, undef, undef, undef, undef, undef, undef, undef, undef, undef, undef, undef, undef, undef, undef, undef, undef, undef, undef, undef, undef, undef, undef, undef, undef, undef] : List Value).getD (k_ - 4) undef, by kernel_rfl, M⟩ ?_ ?_
  · intro j a u0 hj hI
    obtain ⟨v1, rfl, M⟩ := hI
    refine wp_seq ?_
    refine wp_seq ?_
    refine rg_lit ?_
    refine pl_val (want_no rfl) (some 93) rfl (.int .i64 (j : Int)) (fun _ => by kernel_rfl) ?_
    refine pl_val (want_no rfl) (some 94) rfl (.bool true) (fun w => Eq.trans (b := .ok (.value (.bool (decide ((j : Int) < 16)))) w) (by kernel_rfl) (by rw [decide_eq_true (by omega)])) ?_
    refine pl_nil ?_
    refine au_then ?_
    refine wp_cond_true (by kernel_rfl) ?_
    refine wp_skip ?_
    refine au_then ?_
    refine wp_seq ?_
    refine wp_block ?_
    refine wp_seq ?_
    refine rg_held M [⟨g1, .cells (av 16 (w8 (fun _ => 0))) 5⟩] 12 rfl (by kernel_rfl) (by kernel_rfl) (fun _ _ d _ _ h => by cases d <;> exact h) ?_
    intro u6 M
    replace M : Mem ⟨w, []⟩ [⟨g1, .cells (av 16 (w8 (fun _ => 0))) 5⟩] u6 := M
    refine hl_val M 0 rfl (by decide) (by kernel_rfl) (by kernel_rfl) (want_no rfl) (some 97) rfl (.string (tagS (kb key) s)) (fun _ _ => by kernel_rfl) ?_
    refine hl_val M 1 rfl (by decide) (by kernel_rfl) (by kernel_rfl) (want_no rfl) (some 98) rfl (.int .i64 (j : Int)) (fun _ _ => by kernel_rfl) ?_
    refine hl_val M 2 rfl (by decide) (by kernel_rfl) (by kernel_rfl) (want_no rfl) (some 99) rfl (.int .u8 (bt (tagS (kb key) s) j)) (fun w _ => (run_ixS 9 Try.underlying9 _ _ rfl (tagS (kb key) s) (by kernel_rfl) .i64 j (by kernel_rfl) (by rw [tagS_size]; omega)) w) ?_
    refine hl_val M 3 rfl (by decide) (by kernel_rfl) (by kernel_rfl) (want_no rfl) (some 100) rfl (.int .i64 (bt (tagS (kb key) s) j)) (fun w _ => (fun w => Eq.trans (b := .ok (.value (.int .i64 (cv .i64 (bt (tagS (kb key) s) j)))) w) (by kernel_rfl) (by rw [cvi8 _ (bt_nn _ _)])) w) ?_
    refine hl_val M 4 rfl (by decide) (by kernel_rfl) (by kernel_rfl) (want_no rfl) (some 101) rfl (.string key) (fun _ _ => by kernel_rfl) ?_
    refine hl_val M 5 rfl (by decide) (by kernel_rfl) (by kernel_rfl) (want_no rfl) (some 102) rfl (.int .i64 (j : Int)) (fun _ _ => by kernel_rfl) ?_
    refine hl_val M 6 rfl (by decide) (by kernel_rfl) (by kernel_rfl) (want_no rfl) (some 103) rfl (.int .i64 ((16 + j : Nat) : Int)) (fun w _ => (fun w => Eq.trans (b := .ok (.value (.int .i64 (IntKind.wrap .i64 (16 + (j : Int))))) w) (by kernel_rfl) (by rw [wrap64 (by omega) (by omega)]; congr 3)) w) ?_
    refine hl_val M 7 rfl (by decide) (by kernel_rfl) (by kernel_rfl) (want_no rfl) (some 104) rfl (.int .u8 (bt key (16 + j))) (fun w _ => (run_ixS 9 Try.underlying9 _ _ rfl key (by kernel_rfl) .i64 (16 + j) (by kernel_rfl) (by omega)) w) ?_
    refine hl_val M 8 rfl (by decide) (by kernel_rfl) (by kernel_rfl) (want_no rfl) (some 105) rfl (.int .i64 (bt key (16 + j))) (fun w _ => (fun w => Eq.trans (b := .ok (.value (.int .i64 (cv .i64 (bt key (16 + j))))) w) (by kernel_rfl) (by rw [cvi8 _ (bt_nn _ _)])) w) ?_
    refine hl_val M 9 rfl (by decide) (by kernel_rfl) (by kernel_rfl) (want_no rfl) (some 106) rfl (.int .i64 ((gA key s) j)) (fun w _ => (fun w => Eq.trans (b := .ok (.value (.int .i64 (IntKind.wrap .i64 ((gA key s) j)))) w) (by kernel_rfl) (by rw [wrap64 (by have := gA_nn key s j; omega) (by have := gA_nn key s j; omega)])) w) ?_
    refine hl_val M 10 rfl (by decide) (by kernel_rfl) (by kernel_rfl) (want_no rfl) (some 107) rfl (.int .i64 (cI (gA key s) j)) (fun _ _ => by kernel_rfl) ?_
    refine hl_val M 11 rfl (by decide) (by kernel_rfl) (by kernel_rfl) (want_no rfl) (some 108) rfl (.int .i64 ((gA key s) j + cI (gA key s) j)) (fun w _ => (fun w => Eq.trans (b := .ok (.value (.int .i64 (IntKind.wrap .i64 ((gA key s) j + cI (gA key s) j)))) w) (by kernel_rfl) (by rw [wrap64 (by have := gA_nn key s j; have := hc j (by omega); omega) (by have := gA_nn key s j; have := hc j (by omega); omega)])) w) ?_
    refine hl_end (by kernel_rfl) (by kernel_rfl) rfl ?_
    refine pl_val (want_no rfl) (some 16) rfl (.int .i64 ((gA key s) j + cI (gA key s) j)) (fun _ => by kernel_rfl) ?_
    refine pl_nil ?_
    refine au_then ?_
    refine au_then ?_
    refine wp_seq ?_
    refine wp_seq ?_
    refine rg_lit ?_
    refine pl_val (want_no rfl) (some 109) rfl (.int .i64 ((gA key s) j + cI (gA key s) j)) (fun _ => by kernel_rfl) ?_
    refine pl_val (want_no rfl) (some 110) rfl (.int .u8 (cv .u8 ((gA key s) j + cI (gA key s) j))) (fun _ => by kernel_rfl) ?_
    refine pl_val (want_no rfl) (some 111) rfl (.string (tagS key s)) (fun _ => by kernel_rfl) ?_
    refine pl_val (want_no rfl) (some 112) rfl (.int .i64 (j : Int)) (fun _ => by kernel_rfl) ?_
    refine pl_val (want_no rfl) (some 113) rfl (.int .u8 (bt (tagS key s) j)) (run_ixS 9 Try.underlying9 _ _ rfl (tagS key s) (by kernel_rfl) .i64 j (by kernel_rfl) (by rw [tagS_size]; omega)) ?_
    refine pl_val (want_no rfl) (some 114) rfl (.bool false) (fun w => Eq.trans (b := .ok (.value (.bool (!(decide (cv .u8 ((gA key s) j + cI (gA key s) j) = bt (tagS key s) j))))) w) (by kernel_rfl) (by rw [decide_eq_true (adds_at key s h j (by omega))]; rfl)) ?_
    refine pl_nil ?_
    refine au_then ?_
    refine wp_cond_false (by kernel_rfl) ?_
    refine wp_skip ?_
    refine au_then ?_
    refine rg_lit ?_
    refine pl_val (want_no rfl) (some 115) rfl (.int .i64 ((gA key s) j + cI (gA key s) j)) (fun _ => by kernel_rfl) ?_
    refine pl_val (want_no rfl) (some 116) rfl (.int .i64 (sr ((gA key s) j + cI (gA key s) j) 8)) (fun _ => by kernel_rfl) ?_
    refine pl_val (want_no rfl) (some 14) rfl (.int .i64 (sr ((gA key s) j + cI (gA key s) j) 8)) (fun _ => by kernel_rfl) ?_
    refine pl_nil ?_
    refine au_block ?_
    refine au_then ?_
    refine rg_lit ?_
    refine pl_val (want_no rfl) (some 95) rfl (.int .i64 (j : Int)) (fun _ => by kernel_rfl) ?_
    refine pl_val (want_no rfl) (some 96) rfl (.int .i64 ((j + 1 : Nat) : Int)) (fun w => Eq.trans (b := .ok (.value (.int .i64 (IntKind.wrap .i64 ((j : Int) + 1)))) w) (by kernel_rfl) (by rw [wrap64 (by omega) (by omega)]; congr 3)) ?_
    refine pl_val (want_no rfl) (some 15) rfl (.int .i64 ((j + 1 : Nat) : Int)) (fun _ => by kernel_rfl) ?_
    refine pl_nil ?_
    refine au_then ?_
    exact ⟨fun k_ => ([v1 4, undef, undef, undef, undef, undef, undef, undef, undef, undef, undef, undef, .int .i64 ((gA key s) j + cI (gA key s) j), undef, undef, undef, undef, undef, undef, undef, undef, undef, undef, undef, undef, undef, undef, undef, undef, undef, undef, undef, undef, undef, undef, undef, undef, undef, undef, undef, undef, undef, undef, undef, undef, undef, undef, undef, undef, undef, undef, undef, undef, undef, undef, undef, undef, undef, undef, undef, undef, undef, undef, undef, undef, undef, undef, undef, undef, undef, undef, undef, undef, undef, undef, undef, undef, undef, undef, undef, undef, undef, undef, undef, undef, undef, undef, undef, undef, .int .i64 (j : Int), .bool true, .int .i64 (j : Int), .int .i64 ((j + 1 : Nat) : Int), .string (tagS (kb key) s), .int .i64 (j : Int), .int .u8 (bt (tagS (kb key) s) j), .int .i64 (bt (tagS (kb key) s) j), .string key, .int .i64 (j : Int), .int .i64 ((16 + j : Nat) : Int), .int .u8 (bt key (16 + j)), .int .i64 (bt key (16 + j)), .int .i64 ((gA key s) j), .int .i64 (cI (gA key s) j), .int .i64 ((gA key s) j + cI (gA key s) j), .int .i64 ((gA key s) j + cI (gA key s) j), .int .u8 (cv .u8 ((gA key s) j + cI (gA key s) j)), .string (tagS key s), .int .i64 (j : Int), .int .u8 (bt (tagS key s) j), .bool false, .int .i64 ((gA key s) j + cI (gA key s) j), .int .i64 (sr ((gA key s) j + cI (gA key s) j) 8)] : List Value).getD (k_ - 4) undef, by kernel_rfl, M⟩
  · intro a u0 hI
    obtain ⟨v1, rfl, M⟩ := hI
    refine wp_seq ?_
    refine wp_seq ?_
    refine rg_lit ?_
    refine pl_val (want_no rfl) (some 93) rfl (.int .i64 (16 : Int)) (fun _ => by kernel_rfl) ?_
    refine pl_val (want_no rfl) (some 94) rfl (.bool false) (fun w => Eq.trans (b := .ok (.value (.bool (decide (16 < 16)))) w) (by kernel_rfl) (by rw [decide_eq_false (by omega)])) ?_
    refine pl_nil ?_
    refine au_then ?_
    refine wp_cond_false (by kernel_rfl) ?_
    refine wp_exit ?_
    refine au_then_exit ?_
    refine au_then_exit ?_
    refine au_block_exit ?_
    refine au_then ?_
    refine wp_seq ?_
    refine rg_lit ?_
    refine pl_call M (want_no rfl) (some 117) rfl 6 #[] (.bool true) (fun _ => by kernel_rfl) (fun w M => c_alive w M.laid) ?_
    intro u7 M
    refine pl_val (want_no rfl) (some 4) rfl (.bool true) (fun _ => by kernel_rfl) ?_
    refine pl_nil ?_
    refine au_then ?_
    refine wp_ret ?_
    exact bodyPost_ret (v := .bool true) (results_tmp1 Try.results5 _ _ _ (by kernel_rfl)) (by kernel_rfl) ⟨rfl, below_grown M.old⟩

theorem c_adds (key s : ByteArray) (w : World) (hL : Laid w) : Calls Try.prog 5 #[.string key, .string s] w fun r w' => r = .returned (.bool true) ∧ Below w.heap.size w w' := by
  by_cases h : key.size = 32
  · by_cases h2 : 4096 < s.size
    · exact paB key s h h2 w hL
    · exact paC key s h h2 w hL
  · exact paA key s h w hL

end Go.Proofs.Ytjfnfkphckimdaa
