/- The hash in memory, the bytes of words, the lowest first, and bytes that are taken: the walks of lowestFirst and take. -/
import Derived.Test.YtnglfpekdedgfaaDoorB2
namespace Go.Proofs.YtnglfpekdedgfaaDoor
open Go.RowKit

/-- The cells of a hash. -/
def hF (sz : Int) (ws : Nat → Int) (gw n : Nat) (ct : Int) : Nat → Value := fun i => if i = 0 then .int .i64 sz else if i < 9 then .int .u32 (ws (i - 1)) else if i = 9 then .slice (some ⟨gw, 0, none⟩) n 64 else .int .u64 ct
theorem hF_words (sz : Int) (ws : Nat → Int) (gw n : Nat) (ct : Int) : ∀ j, j < 8 → hF sz ws gw n ct (1 + j) = w32 ws j := fun j hj => by
  unfold hF w32
  rw [if_neg (by omega), if_pos (by omega), show 1 + j - 1 = j by omega]
theorem hF_ext {sz' : Int} {ws' : Nat → Int} {gw n' : Nat} {ct' : Int} (F : Nat → Value) (h0 : F 0 = .int .i64 sz') (hw : ∀ j, j < 8 → F (1 + j) = .int .u32 (ws' j)) (h9 : F 9 = .slice (some ⟨gw, 0, none⟩) n' 64) (h10 : F 10 = .int .u64 ct') : ∀ j, j < 11 → F j = hF sz' ws' gw n' ct' j := fun j hj => by
  unfold hF
  by_cases e0 : j = 0
  · subst e0
    rw [h0, if_pos rfl]
  · rw [if_neg e0]
    by_cases e8 : j < 9
    · have := hw (j - 1) (by omega)
      rw [show 1 + (j - 1) = j by omega] at this
      rw [if_pos e8, this]
    · rw [if_neg e8]
      by_cases e9 : j = 9
      · subst e9
        rw [if_pos rfl, h9]
      · have e10 : j = 10 := by omega
        subst e10
        rw [if_neg e9, h10]
theorem hF_putw (sz : Int) (ws : Nat → Int) (gw n : Nat) (ct : Int) (f : Nat → Int) : ∀ j, j < 11 → (if 1 ≤ j ∧ j < 1 + 8 then w32 f (j - 1) else hF sz ws gw n ct j) = hF sz f gw n ct j :=
  hF_ext (fun j => if 1 ≤ j ∧ j < 1 + 8 then w32 f (j - 1) else hF sz ws gw n ct j) rfl (fun j hj => by
    show (if 1 ≤ 1 + j ∧ 1 + j < 1 + 8 then w32 f (1 + j - 1) else _) = _
    rw [if_pos (by omega), show 1 + j - 1 = j by omega]
    rfl) rfl rfl
theorem hF_put1 (sz : Int) (ws : Nat → Int) (gw n : Nat) (ct : Int) (v : Int) : ∀ j, j < 11 → (if j = 1 then .int .u32 v else hF sz ws gw n ct j) = hF sz (upd ws 0 v) gw n ct j :=
  hF_ext (fun j => if j = 1 then .int .u32 v else hF sz ws gw n ct j) rfl (fun j hj => by
    show (if 1 + j = 1 then _ else hF sz ws gw n ct (1 + j)) = _
    unfold upd
    by_cases e : j = 0
    · subst e
      rfl
    · rw [if_neg (by omega), if_neg e, hF_words sz ws gw n ct j hj]
      rfl) rfl rfl
theorem hF_putc (sz : Int) (ws : Nat → Int) (gw n : Nat) (ct : Int) (c' : Int) : ∀ j, j < 11 → (if j = 10 then .int .u64 c' else hF sz ws gw n ct j) = hF sz ws gw n c' j :=
  hF_ext (fun j => if j = 10 then .int .u64 c' else hF sz ws gw n ct j) rfl (fun j hj => by
    show (if 1 + j = 10 then _ else hF sz ws gw n ct (1 + j)) = _
    rw [if_neg (by omega), hF_words sz ws gw n ct j hj]
    rfl) rfl rfl
theorem hF_puts (sz : Int) (ws : Nat → Int) (gw n : Nat) (ct : Int) (n' : Nat) : ∀ j, j < 11 → (if j = 9 then .slice (some ⟨gw, 0, none⟩) n' 64 else hF sz ws gw n ct j) = hF sz ws gw n' ct j :=
  hF_ext (fun j => if j = 9 then .slice (some ⟨gw, 0, none⟩) n' 64 else hF sz ws gw n ct j) rfl (fun j hj => by
    show (if 1 + j = 9 then _ else hF sz ws gw n ct (1 + j)) = _
    rw [if_neg (by omega), hF_words sz ws gw n ct j hj]
    rfl) rfl rfl
theorem hF_one (sz : Int) (ws : Nat → Int) (gw n : Nat) (ct : Int) : ∀ j, j < 11 → (hF sz ws gw n ct j).oneCell' = true := fun j _ => by
  unfold hF
  split
  · rfl
  · split
    · rfl
    · split <;> rfl

def lf (l : List Int) : Nat → Int := fun i => l.getD i 0
theorem vs8_cell (l : List Int) (i : Nat) (h : i < l.length) : (vs8 l)[i]? = some (.int .u8 (lf l i)) := by
  unfold vs8 lf
  rw [List.getElem?_map, List.getD_eq_getElem?_getD, List.getElem?_eq_getElem h]
  rfl
theorem byte_vs8 (s : ByteArray) : byteCells s = vs8 (sb s) := by
  unfold byteCells vs8 sb
  rw [List.map_map]
  rfl
theorem vs8_append (l m : List Int) : vs8 l ++ vs8 m = vs8 (l ++ m) := by simp [vs8]
theorem ua_eq (x y : Int) : ua x y = (x + y) % 18446744073709551616 := by
  unfold ua
  simp [IntKind.wrap, IntKind.signed, IntKind.bits]
theorem cv_u64 (n : Nat) (h : n < 18446744073709551616) : cv .u64 (n : Int) = (n : Int) := by
  unfold cv
  simp [IntKind.wrap, IntKind.signed, IntKind.bits]
  omega
theorem cv8_nn (x : Int) : 0 ≤ cv .u8 x ∧ cv .u8 x < 256 := by
  unfold cv
  simp [IntKind.wrap, IntKind.signed, IntKind.bits]
  omega

/- lowestFirst -/
def lo4 (x : Int) : List Int := [cv .u8 x, cv .u8 (sr x 8), cv .u8 (sr x 16), cv .u8 (sr x 24)]
def loI (f : Nat → Int) : Nat → List Int
  | 0 => []
  | j + 1 => loI f j ++ lo4 (f j)
theorem loI_length (f : Nat → Int) : ∀ j, (loI f j).length = 4 * j
  | 0 => rfl
  | j + 1 => by
    unfold loI
    rw [List.length_append, loI_length f j]
    simp [lo4]
    omega
theorem loI_nn (f : Nat → Int) : ∀ j, ∀ x ∈ loI f j, 0 ≤ x ∧ x < 256
  | 0, x, h => by simp [loI] at h
  | j + 1, x, h => by
    unfold loI at h
    rcases List.mem_append.1 h with h | h
    · exact loI_nn f j x h
    · simp only [lo4, List.mem_cons, List.not_mem_nil, or_false] at h
      rcases h with rfl | rfl | rfl | rfl <;> exact cv8_nn _
theorem src4 {c : Ctx} {L : List Blk} {w : World} (M : Mem c L w) (i gx Tx : Nat) (a b d e : Int) (hi : L[i]? = some ⟨gx, .cells (av 4 (w8 (r4 a b d e))) Tx⟩) : Src Tryd.prog 1 47 (.slice (some ⟨gx, 0, none⟩) 4 4) 4 (vs8 [a, b, d, e]) w :=
  Src.ofSlice w Tryd.underlying47 ⟨gx, 0, none⟩ 4 4 _ rfl (fun j u hu => by
    rw [add_at, Nat.zero_add]
    have hj : j < 4 := by
      have := (List.getElem?_eq_some_iff.1 hu).1
      simpa [vs8] using this
    rw [cell_av (M.get i hi) hj, ← hu]
    rcases j with _ | _ | _ | _ | j
    · rfl
    · rfl
    · rfl
    · rfl
    · omega) (fun u hu => by
    obtain ⟨x, _, rfl⟩ := List.mem_map.1 hu
    rfl)
theorem info5_ex : (Tryd.prog.info? 5).isSome = true := by kernel_rfl
theorem info5_eq : Tryd.prog.info? 5 = some ((Tryd.prog.info? 5).get info5_ex) := (Option.some_get info5_ex).symm
theorem info5_z : ((Tryd.prog.info? 5).get info5_ex).zero = some (.int .u8 0) := by kernel_rfl

set_option maxRecDepth 100000 in
set_option maxHeartbeats 4000000 in
theorem c_low (f : Nat → Int) (w : World) (hL : Laid w)  :
    Calls Tryd.prog 23 #[.agg (av 8 (w32 f))] w fun r w' => r = .returned (.string (bs (loI f 8))) ∧ Below w.heap.size w w' := by
  go_enter Tryd.func23, Tryd.ntmps23
  have M := Mem.start hL
  refine wp_seq ?_
  refine rg_lit ?_
  refine pl_new M (want_no rfl) (some 1) rfl (.cells (av 8 (w32 f)) 38) (fun _ => by kernel_rfl) ?_
  intro g1 u1 M
  replace M : Mem ⟨w, []⟩ [⟨g1, .cells (av 8 (w32 f)) 38⟩] u1 := M
  refine pl_val (want_no rfl) (some 2) rfl (.string ⟨#[]⟩) (fun _ => by kernel_rfl) ?_
  refine pl_nil ?_
  refine au_then ?_
  refine wp_seq ?_
  refine rg_lit ?_
  refine pl_make M (want_no rfl) (some 6) rfl 47 5 _ (.int .u8 0) Tryd.underlying47 info5_eq info5_z (by kernel_rfl) (by decide +kernel) _ _ rfl .i64 .i64 (by kernel_rfl) 32 (by kernel_rfl) (by omega) ?_
  intro g2 Zg2 u2 hZ M
  replace M : Mem ⟨w, []⟩ [⟨g1, .cells (av 8 (w32 f)) 38⟩, ⟨g2, Zg2⟩] u2 := M
  refine pl_val (want_no rfl) (some 3) rfl (.slice (some ⟨g2, 0, none⟩) 0 32) (fun _ => by kernel_rfl) ?_
  refine pl_nil ?_
  refine au_then ?_
  refine wp_seq ?_
  refine wp_seq ?_
  refine rg_lit ?_
  refine pl_load M (want_no rfl) (some 7) rfl 38 _ rfl 0 g1 0 (by kernel_rfl) 8 38 (w32 f) rfl 8 (w32 f) (fun j _ => by rw [Nat.zero_add]) (by decide) _ Tryd.underlying38 rfl inz38 ?_
  refine pl_val (want_no rfl) (some 8) rfl (.int .i64 0) (fun _ => by kernel_rfl) ?_
  refine pl_nil ?_
  refine au_then ?_
  refine wp_block ?_
  refine au_loop (fun j a w' => ∃ (v : Nat → Value) (Z : Obj), a = ⟨#[.agg (av 8 (w32 f)), .pointer (some ⟨g1, 0, none⟩), .string ⟨#[]⟩, .slice (some ⟨g2, 0, none⟩) (4 * j) 32, undef, v 5, .slice (some ⟨g2, 0, none⟩) 0 32, .agg (av 8 (w32 f)), .int .i64 (j : Int), v 9, v 10, v 11, v 12, v 13, v 14, v 15, v 16, v 17, v 18, v 19, v 20, v 21, v 22, v 23, v 24, v 25, undef, undef], []⟩ ∧ SB Z 32 (vs8 (loI f j)) ∧ Mem ⟨w, []⟩ [⟨g1, .cells (av 8 (w32 f)) 38⟩, ⟨g2, Z⟩] w') 8 ⟨fun k_ => ([undef, undef, undef, undef, undef, undef, undef, undef, undef, undef, undef, undef, undef, undef, undef, undef, undef, undef, undef, undef, undef] : List Value).getD (k_ - 5) undef, Zg2, by kernel_rfl, hZ, M⟩ ?_ ?_
  · intro j a u0 hj hI
    obtain ⟨v, Z, rfl, hZ, M⟩ := hI
    refine wp_seq ?_
    refine rg_lit ?_
    refine pl_val (want_no rfl) (some 9) rfl (.bool true) (fun w => Eq.trans (b := .ok (.value (.bool (decide ((j : Int) < 8)))) w) (by kernel_rfl) (by rw [decide_eq_true (by omega)])) ?_
    refine pl_nil ?_
    refine au_then ?_
    refine wp_seq ?_
    refine wp_cond_true (by kernel_rfl) ?_
    refine wp_skip ?_
    refine au_then ?_
    refine wp_seq ?_
    refine wp_block ?_
    refine wp_seq ?_
    refine rg_lit ?_
    refine pl_val (want_no rfl) (some 10) rfl (.int .u32 (f (j))) (run_ixA 38 8 37 Tryd.underlying38 inz37 (fun _ => by kernel_rfl) _ _ rfl (w32 f) (by kernel_rfl) .i64 (j) (by kernel_rfl) (by omega) rfl) ?_
    refine pl_val (want_no rfl) (some 5) rfl (.int .u32 (f (j))) (fun _ => by kernel_rfl) ?_
    refine pl_nil ?_
    refine au_then ?_
    refine rg_lit ?_
    refine pl_val (want_no rfl) (some 11) rfl (.slice (some ⟨g2, 0, none⟩) (4 * j) 32) (fun _ => by kernel_rfl) ?_
    refine pl_val (want_no rfl) (some 12) rfl (.int .u32 (f (j))) (fun _ => by kernel_rfl) ?_
    refine pl_val (want_no rfl) (some 13) rfl (.int .u8 (cv .u8 (f (j)))) (fun _ => by kernel_rfl) ?_
    refine pl_val (want_no rfl) (some 14) rfl (.int .u32 (f (j))) (fun _ => by kernel_rfl) ?_
    refine pl_val (want_no rfl) (some 15) rfl (.int .u32 (sr (f (j)) 8)) (fun _ => by kernel_rfl) ?_
    refine pl_val (want_no rfl) (some 16) rfl (.int .u8 (cv .u8 (sr (f (j)) 8))) (fun _ => by kernel_rfl) ?_
    refine pl_val (want_no rfl) (some 17) rfl (.int .u32 (f (j))) (fun _ => by kernel_rfl) ?_
    refine pl_val (want_no rfl) (some 18) rfl (.int .u32 (sr (f (j)) 16)) (fun _ => by kernel_rfl) ?_
    refine pl_val (want_no rfl) (some 19) rfl (.int .u8 (cv .u8 (sr (f (j)) 16))) (fun _ => by kernel_rfl) ?_
    refine pl_val (want_no rfl) (some 20) rfl (.int .u32 (f (j))) (fun _ => by kernel_rfl) ?_
    refine pl_val (want_no rfl) (some 21) rfl (.int .u32 (sr (f (j)) 24)) (fun _ => by kernel_rfl) ?_
    refine pl_val (want_no rfl) (some 22) rfl (.int .u8 (cv .u8 (sr (f (j)) 24))) (fun _ => by kernel_rfl) ?_
    refine pl_mk M (want_no rfl) (some 23) rfl (fun g3 => .slice (some ⟨g3, 0, none⟩) 4 4) (.cells (av 4 (w8 (r4 (cv .u8 (f j)) (cv .u8 (sr (f j) 8)) (cv .u8 (sr (f j) 16)) (cv .u8 (sr (f j) 24))))) 5) (fun _ => by kernel_rfl) ?_
    intro g3 u3 M
    replace M : Mem ⟨w, []⟩ [⟨g1, .cells (av 8 (w32 f)) 38⟩, ⟨g2, Z⟩, ⟨g3, .cells (av 4 (w8 (r4 (cv .u8 (f j)) (cv .u8 (sr (f j) 8)) (cv .u8 (sr (f j) 16)) (cv .u8 (sr (f j) 24))))) 5⟩] u3 := M
    refine pl_appX M (want_no rfl) (some 24) rfl 47 47 47 5 _ Tryd.underlying47 info5_eq (by kernel_rfl) 1 g2 (4 * j) 32 Z (vs8 (loI f j)) rfl hZ (by rw [vs8_length, loI_length]) (.slice (some ⟨g3, 0, none⟩) 4 4) 4 (vs8 (lo4 (f j))) (fun w M => src4 M 2 g3 5 (cv .u8 (f j)) (cv .u8 (sr (f j) 8)) (cv .u8 (sr (f j) 16)) (cv .u8 (sr (f j) 24)) rfl) rfl (by omega) (fun _ => by kernel_rfl) ?_
    intro Y1 u4 hY M
    rw [vs8_append] at hY
    replace M : Mem ⟨w, []⟩ [⟨g1, .cells (av 8 (w32 f)) 38⟩, ⟨g2, Y1⟩, ⟨g3, .cells (av 4 (w8 (r4 (cv .u8 (f j)) (cv .u8 (sr (f j) 8)) (cv .u8 (sr (f j) 16)) (cv .u8 (sr (f j) 24))))) 5⟩] u4 := M
    refine pl_val (want_no rfl) (some 3) rfl (.slice (some ⟨g2, 0, none⟩) (4 * j + 4) 32) (fun _ => by kernel_rfl) ?_
    refine pl_nil ?_
    refine au_block ?_
    refine au_then ?_
    refine rg_lit ?_
    refine pl_val (want_no rfl) (some 25) rfl (.int .i64 ((j + 1 : Nat) : Int)) (fun w => Eq.trans (b := .ok (.value (.int .i64 (IntKind.wrap .i64 ((j : Int) + 1)))) w) (by kernel_rfl) (by rw [wrap64 (by omega) (by omega)]; congr 3)) ?_
    refine pl_val (want_no rfl) (some 8) rfl (.int .i64 ((j + 1 : Nat) : Int)) (fun _ => by kernel_rfl) ?_
    refine pl_nil ?_
    refine au_then ?_
    exact ⟨fun k_ => ([.int .u32 (f (j)), undef, undef, undef, .bool true, .int .u32 (f (j)), .slice (some ⟨g2, 0, none⟩) (4 * j) 32, .int .u32 (f (j)), .int .u8 (cv .u8 (f (j))), .int .u32 (f (j)), .int .u32 (sr (f (j)) 8), .int .u8 (cv .u8 (sr (f (j)) 8)), .int .u32 (f (j)), .int .u32 (sr (f (j)) 16), .int .u8 (cv .u8 (sr (f (j)) 16)), .int .u32 (f (j)), .int .u32 (sr (f (j)) 24), .int .u8 (cv .u8 (sr (f (j)) 24)), .slice (some ⟨g3, 0, none⟩) 4 4, .slice (some ⟨g2, 0, none⟩) (4 * j + 4) 32, .int .i64 ((j + 1 : Nat) : Int)] : List Value).getD (k_ - 5) undef, Y1, by kernel_rfl, hY, M.drop (.cons_cons _ (.cons_cons _ (.cons _ .slnil)))⟩
  · intro a u0 hI
    obtain ⟨v, Z, rfl, hZ, M⟩ := hI
    refine wp_seq ?_
    refine rg_lit ?_
    refine pl_val (want_no rfl) (some 9) rfl (.bool false) (fun _ => by kernel_rfl) ?_
    refine pl_nil ?_
    refine au_then ?_
    refine wp_seq ?_
    refine wp_cond_false (by kernel_rfl) ?_
    refine wp_exit ?_
    refine au_then_exit ?_
    refine au_then_exit ?_
    refine au_block_exit ?_
    refine au_then ?_
    refine wp_seq ?_
    refine rg_lit ?_
    refine pl_val (want_no rfl) (some 26) rfl (.slice (some ⟨g2, 0, none⟩) (4 * 8) 32) (fun _ => by kernel_rfl) ?_
    refine pl_back M (want_no rfl) (some 27) rfl _ rfl 1 g2 (4 * 8) 32 (by kernel_rfl) Z rfl (loI f 8) 32 hZ (loI_length f 8) (loI_nn f 8) ?_
    refine pl_val (want_no rfl) (some 2) rfl (.string (bs (loI f 8))) (fun _ => by kernel_rfl) ?_
    refine pl_nil ?_
    refine au_then ?_
    refine wp_ret ?_
    exact bodyPost_ret (v := .string (bs (loI f 8))) (results_tmp1 Tryd.results23 _ _ _ (by kernel_rfl)) (by kernel_rfl) ⟨rfl, below_grown M.old⟩

/-- A hash: the words, what waits, how many bytes wait no more. -/
structure HS where
  ws : Nat → Int
  wl : List Int
  ct : Int
structure HS.ok (H : HS) : Prop where
  le : H.wl.length ≤ 64
  nn : ∀ x ∈ H.wl, 0 ≤ x ∧ x < 256
/-- What waits is mixed in, if it is a whole piece. -/
def fl (H : HS) : HS := if H.wl.length = 64 then ⟨mixV H.ws (lf H.wl) H.wl.length (ua H.ct 64) false, [], ua H.ct 64⟩ else H
/-- One byte more. -/
def ab (H : HS) (b : Int) : HS := ⟨(fl H).ws, (fl H).wl ++ [b], (fl H).ct⟩
def tk (H : HS) (s : ByteArray) : Nat → HS
  | 0 => H
  | k + 1 => ab (tk H s k) (bt s k)
theorem fl_lt (H : HS) (h : H.ok) : (fl H).wl.length < 64 := by
  unfold fl
  split
  · simp
  · have := h.le
    omega
theorem fl_ok {H : HS} (h : H.ok) : (fl H).ok := by
  unfold fl
  split
  · exact ⟨by simp, by simp⟩
  · exact h
theorem ab_ok {H : HS} (h : H.ok) (b : Int) (hb : 0 ≤ b ∧ b < 256) : (ab H b).ok := by
  have h1 := fl_lt H h
  refine ⟨by show ((fl H).wl ++ [b]).length ≤ 64; simp; omega, fun x hx => ?_⟩
  rcases List.mem_append.1 hx with hx | hx
  · exact (fl_ok h).nn x hx
  · rw [List.mem_singleton.1 hx]
    exact hb
theorem tk_ok {H : HS} (h : H.ok) (s : ByteArray) : ∀ k, (tk H s k).ok
  | 0 => h
  | k + 1 => ab_ok (tk_ok h s k) _ (bt_nn s k)
theorem fl_id {H : HS} (h : H.wl.length < 64) : fl H = H := by
  unfold fl
  rw [if_neg (by omega)]
/-- n bytes that fit. -/
theorem tk_run (H : HS) (s : ByteArray) (k : Nat) : ∀ n, 0 < n → (fl (tk H s k)).wl.length + n ≤ 64 → tk H s (k + n) = ⟨(fl (tk H s k)).ws, (fl (tk H s k)).wl ++ (List.range n).map (fun i => bt s (k + i)), (fl (tk H s k)).ct⟩
  | 0, h, _ => absurd h (by omega)
  | 1, _, _ => rfl
  | n + 2, _, hle => by
    have ih := tk_run H s k (n + 1) (by omega) (by omega)
    show ab (tk H s (k + (n + 1))) (bt s (k + (n + 1))) = _
    unfold ab
    rw [fl_id (by rw [ih]; simp; omega), ih]
    simp only [HS.mk.injEq, true_and, and_true]
    rw [List.append_assoc, List.range_succ (n := n + 1), List.map_append]
    rfl
theorem bt_extract (s : ByteArray) (k : Nat) (i : Nat) : bt (s.extract k s.size) i = bt s (k + i) := by
  unfold bt
  congr 2
  have e : (s.extract k s.size).data[i]? = s.data[k + i]? := by
    have hs : s.data.size = s.size := rfl
    rw [ByteArray.data_extract, Array.getElem?_extract]
    by_cases h : k + i < s.size
    · rw [if_pos (by omega)]
    · rw [if_neg (by omega), Array.getElem?_eq_none (by omega)]
  rw [e]
theorem size_extract (s : ByteArray) (k : Nat) : (s.extract k s.size).size = s.size - k := by simp [ByteArray.size_extract]
theorem extract_extract (s : ByteArray) (k q : Nat) (hk : k + q ≤ s.size) : (s.extract k s.size).extract q (s.extract k s.size).size = s.extract (k + q) s.size := by
  have hs : s.size = s.data.size := rfl
  apply ByteArray.ext
  rw [ByteArray.data_extract, ByteArray.data_extract, ByteArray.data_extract, size_extract]
  apply Array.ext_getElem?
  intro i
  rw [Array.getElem?_extract, Array.getElem?_extract, Array.getElem?_extract]
  by_cases h : k + q + i < s.size
  · rw [if_pos (by simp; omega), if_pos (by omega), if_pos (by omega), Nat.add_assoc]
  · rw [if_neg (by simp; omega), if_neg (by omega)]
theorem extract_all (s : ByteArray) : s.extract 0 s.size = s := by simp
theorem sb_ext (r : ByteArray) (a b : Nat) (h : b ≤ r.size) : sb (r.extract a b) = (List.range (b - a)).map (fun i => bt r (a + i)) := by
  have hs : r.size = r.data.size := rfl
  apply List.ext_getElem?
  intro i
  unfold sb bt
  rw [List.getElem?_map, Array.getElem?_toList, ByteArray.data_extract, Array.getElem?_extract, List.getElem?_map]
  by_cases hi : i < b - a
  · rw [if_pos (by omega), List.getElem?_range hi, Array.getElem?_eq_getElem (by omega), Option.map_some, Option.map_some, Array.getElem?_eq_getElem (by omega)]
    rfl
  · rw [if_neg (by omega), List.getElem?_eq_none (by simp; omega)]
    rfl
theorem run_strl {P : Program} {a : Act} {o : Oper} (t : TypeId) (hu : P.underlying t = some .string) (x lo : Operand) (ho : o.op = .slice t x (some lo) none none) (s : ByteArray) (hx : a.eval x = .string s) (k : IntKind) (i : Nat) (hi : a.eval lo = .int k (i : Int)) (hle : i ≤ s.size) (v : ByteArray) (hv : s.extract i s.size = v) (w : World) :
    (execOp a.eval o).run P w = .ok (.value (.string v)) w := by
  subst hv
  unfold execOp
  simp [ho, hx, hi, run_sliceAt_string w t (.string s) (some (.int k i)) none none hu, run_slice_string_l w t s hu k i (by omega) (by omega)]
theorem run_strh {P : Program} {a : Act} {o : Oper} (t : TypeId) (hu : P.underlying t = some .string) (x hi : Operand) (ho : o.op = .slice t x none (some hi) none) (s : ByteArray) (hx : a.eval x = .string s) (k : IntKind) (i : Nat) (hh : a.eval hi = .int k (i : Int)) (hle : i ≤ s.size) (v : ByteArray) (hv : s.extract 0 i = v) (w : World) :
    (execOp a.eval o).run P w = .ok (.value (.string v)) w := by
  subst hv
  unfold execOp
  simp [ho, hx, hh, run_sliceAt_string w t (.string s) none (some (.int k i)) none hu, run_slice_string_h w t s hu k i (by omega) (by omega)]

set_option maxRecDepth 100000 in
set_option maxHeartbeats 4000000 in
theorem c_take (H : HS) (hH : H.ok) (z g gw : Nat) (Z : Obj) (s : ByteArray) (w : World) (hL : Laid w) (hg : w.heap[g]? = some (.cells (av 11 (hF (z : Int) H.ws gw H.wl.length H.ct)) 49)) (h0 : g ≠ 0) (hk : w.heap[gw]? = some Z) (k0 : gw ≠ 0) (hne : g ≠ gw) (hZ : SB Z 64 (vs8 H.wl)) :
    Calls Tryd.prog 18 #[.pointer (some ⟨g, 0, none⟩), .string s] w fun r w' => ∃ Y, r = .returned (.tuple #[]) ∧ Grw w w' [g, gw] ∧ w'.heap[g]? = some (.cells (av 11 (hF (z : Int) (tk H s s.size).ws gw (tk H s s.size).wl.length (tk H s s.size).ct)) 49) ∧ w'.heap[gw]? = some Y ∧ SB Y 64 (vs8 (tk H s s.size).wl) := by
  go_enter Tryd.func18, Tryd.ntmps18
  have M := Mem.startp2 hL hg h0 hk k0 hne
  refine wp_block ?_
  refine wp_loop_ghost (fun n a w' => ∃ (v : Nat → Value) (k : Nat) (rem : ByteArray) (Y : Obj), k + n = s.size ∧ rem = s.extract k s.size ∧ a = ⟨#[.pointer (some ⟨g, 0, none⟩), .string rem, undef, undef, v 4, v 5, v 6, v 7, v 8, v 9, v 10, v 11, v 12, v 13, v 14, v 15, v 16, v 17, v 18, v 19, v 20, v 21, v 22, v 23, v 24, v 25, v 26, v 27, v 28, v 29, v 30, v 31, v 32, v 33, v 34, v 35, v 36, v 37, v 38, v 39, v 40, v 41, v 42, v 43, v 44, v 45, v 46, v 47, v 48, v 49, v 50, v 51, v 52, v 53, v 54, v 55, v 56, v 57, v 58, v 59, v 60, v 61, v 62, v 63, v 64, v 65, v 66, v 67], []⟩ ∧ SB Y 64 (vs8 (tk H s k).wl) ∧ Mem ⟨w, [g, gw]⟩ [⟨g, .cells (av 11 (hF (z : Int) (tk H s k).ws gw (tk H s k).wl.length (tk H s k).ct)) 49⟩, ⟨gw, Y⟩] w') s.size ⟨fun _ => undef, 0, s, Z, by omega, (extract_all s).symm, by kernel_rfl, hZ, M⟩ ?_
  intro n a u0 hI
  obtain ⟨v, k, rem, Y, hk2, hrem, rfl, hY, M⟩ := hI
  have hsz : rem.size = n := by rw [hrem, size_extract]; omega
  obtain ⟨G, hG⟩ : ∃ G, G = tk H s k := ⟨_, rfl⟩
  have hok : G.ok := by rw [hG]; exact tk_ok hH s k
  rw [← hG] at M hY
  rcases Nat.eq_zero_or_pos n with hn | hn
  · skip
    refine wp_seq ?_
    refine wp_seq ?_
    refine rg_lit ?_
    refine pl_val (want_no rfl) (some 5) rfl (.string rem) (fun _ => by kernel_rfl) ?_
    refine pl_val (want_no rfl) (some 6) rfl (.int .i64 (rem.size : Int)) (fun _ => by kernel_rfl) ?_
    refine pl_val (want_no rfl) (some 7) rfl (.bool false) (fun w => Eq.trans (b := .ok (.value (.bool (decide ((0 : Int) < (rem.size : Int))))) w) (by kernel_rfl) (by rw [decide_eq_false (by omega)])) ?_
    refine pl_nil ?_
    refine au_then ?_
    refine wp_cond_false (by kernel_rfl) ?_
    refine wp_exit ?_
    refine au_then_exit ?_
    refine au_then_exit ?_
    refine au_block_exit ?_
    have ek : k = s.size := by omega
    rw [hG, ek] at M hY
    exact bodyPost_end (v := .tuple #[]) (results_none Tryd.results18 _ _) (by kernel_rfl) ⟨Y, rfl, M.old, M.get 0 rfl, M.get 1 rfl, hY⟩
  by_cases hf : G.wl.length = 64
  · skip
    have hfl : fl G = ⟨mixV G.ws (lf G.wl) G.wl.length (ua G.ct 64) false, [], ua G.ct 64⟩ := by unfold fl; rw [if_pos hf]
    obtain ⟨p, hp⟩ : ∃ p, p = 0 := ⟨_, rfl⟩
    have hp1 : p < 64 := by omega
    obtain ⟨q, hq⟩ : ∃ q, q = Nat.min rem.size (64 - p) := ⟨_, rfl⟩
    have hq1 : q ≤ n := by rw [hq, hsz]; exact Nat.min_le_left _ _
    have hq2 : q ≤ 64 - p := by rw [hq]; exact Nat.min_le_right _ _
    have hq3 : 0 < q := by rw [hq, hsz]; exact Nat.lt_min.2 ⟨hn, by omega⟩
    have hmin : (if ((64 - p : Nat) : Int) < (rem.size : Int) then ((64 - p : Nat) : Int) else (rem.size : Int)) = (q : Int) := by
      have hq4 : q = if 64 - p < rem.size then 64 - p else rem.size := by rw [hq]; simp only [Nat.min_def]; split <;> split <;> omega
      rw [hq4]; split <;> split <;> omega
    have hes : (rem.extract 0 q).size = q := by rw [ByteArray.size_extract]; omega
    have hsrc : ∀ w, Src Tryd.prog 1 9 (.string (rem.extract 0 q)) q (byteCells (rem.extract 0 q)) w := fun w => by have h := Src.ofString (P := Tryd.prog) w (tx := 9) Tryd.underlying9 (rem.extract 0 q); rw [hes] at h; exact h
    have hrun := tk_run H s k q hq3 (by rw [← hG, hfl]; show 0 + q ≤ 64; omega)
    rw [← hG, hfl] at hrun
    have hbs : sb (rem.extract 0 q) = (List.range q).map (fun i => bt s (k + i)) := by rw [sb_ext _ _ _ (by omega), Nat.sub_zero]; refine List.map_congr_left fun i _ => ?_; rw [Nat.zero_add, hrem, bt_extract]
    refine wp_seq ?_
    refine wp_seq ?_
    refine rg_lit ?_
    refine pl_val (want_no rfl) (some 5) rfl (.string rem) (fun _ => by kernel_rfl) ?_
    refine pl_val (want_no rfl) (some 6) rfl (.int .i64 (rem.size : Int)) (fun _ => by kernel_rfl) ?_
    refine pl_val (want_no rfl) (some 7) rfl (.bool true) (fun w => Eq.trans (b := .ok (.value (.bool (decide ((0 : Int) < (rem.size : Int))))) w) (by kernel_rfl) (by rw [decide_eq_true (by omega)])) ?_
    refine pl_nil ?_
    refine au_then ?_
    refine wp_cond_true (by kernel_rfl) ?_
    refine wp_skip ?_
    refine au_then ?_
    refine wp_block ?_
    refine wp_seq ?_
    refine wp_seq ?_
    refine rg_lit ?_
    refine pl_val (want_no rfl) (some 8) rfl (.pointer (some ⟨g, 0, none⟩)) (fun _ => by kernel_rfl) ?_
    refine pl_val (want_no rfl) (some 9) rfl (.pointer (some ⟨g, 0, none⟩)) (fun _ => by kernel_rfl) ?_
    refine pl_val (want_no rfl) (some 10) rfl (.pointer (some ⟨g, 9, none⟩)) (fun _ => by kernel_rfl) ?_
    refine pl_cell M (want_no rfl) (some 11) rfl 47 _ rfl g 9 (by kernel_rfl) (.slice (some ⟨gw, 0, none⟩) G.wl.length 64) (fun _ => by kernel_rfl) (fun w M => M.cell 0 rfl (by decide) rfl) ?_
    refine pl_val (want_no rfl) (some 12) rfl (.int .i64 ((G.wl.length : Nat) : Int)) (fun _ => by kernel_rfl) ?_
    refine pl_val (want_no rfl) (some 13) rfl (.bool true) (fun w => Eq.trans (b := .ok (.value (.bool (decide ((G.wl.length : Int) = 64)))) w) (by kernel_rfl) (by rw [decide_eq_true (by omega)])) ?_
    refine pl_nil ?_
    refine au_then ?_
    refine wp_cond_true (by kernel_rfl) ?_
    refine wp_seq ?_
    refine rg_lit ?_
    refine pl_val (want_no rfl) (some 14) rfl (.pointer (some ⟨g, 0, none⟩)) (fun _ => by kernel_rfl) ?_
    refine pl_val (want_no rfl) (some 15) rfl (.pointer (some ⟨g, 0, none⟩)) (fun _ => by kernel_rfl) ?_
    refine pl_val (want_no rfl) (some 16) rfl (.pointer (some ⟨g, 10, none⟩)) (fun _ => by kernel_rfl) ?_
    refine pl_cell M (want_no rfl) (some 17) rfl 40 _ rfl g 10 (by kernel_rfl) (.int .u64 G.ct) (fun _ => by kernel_rfl) (fun w M => M.cell 0 rfl (by decide) rfl) ?_
    refine pl_val (want_no rfl) (some 18) rfl (.int .u64 (ua G.ct 64)) (fun _ => by kernel_rfl) ?_
    refine pl_val (want_no rfl) (some 19) rfl (.pointer (some ⟨g, 0, none⟩)) (fun _ => by kernel_rfl) ?_
    refine pl_val (want_no rfl) (some 20) rfl (.pointer (some ⟨g, 10, none⟩)) (fun _ => by kernel_rfl) ?_
    refine pl_put1 M (want_no rfl) rfl 40 _ _ rfl 0 g 10 (by kernel_rfl) 11 49 (hF (z : Int) G.ws gw G.wl.length G.ct) rfl (.int .u64 (ua G.ct 64)) (hF (z : Int) G.ws gw G.wl.length (ua G.ct 64)) (by kernel_rfl) inz40 (by decide) rfl rfl (hF_putc (z : Int) G.ws gw G.wl.length G.ct (ua G.ct 64)) ?_
    intro u1 M
    replace M : Mem ⟨w, [g, gw]⟩ [⟨g, .cells (av 11 (hF (z : Int) G.ws gw G.wl.length (ua G.ct 64))) 49⟩, ⟨gw, Y⟩] u1 := M
    refine pl_nil ?_
    refine au_then ?_
    refine wp_seq ?_
    refine rg_tail M 16 (by kernel_rfl) (by kernel_rfl) ?_
    simp only [List.take_succ_cons, List.take_zero]
    refine k_val (want_no rfl) (some 21) rfl (.pointer (some ⟨g, 0, none⟩)) (fun _ => by kernel_rfl) ?_
    refine k_val (want_no rfl) (some 22) rfl (.pointer (some ⟨g, 0, none⟩)) (fun _ => by kernel_rfl) ?_
    refine k_val (want_no rfl) (some 23) rfl (.pointer (some ⟨g, 0, none⟩)) (fun _ => by kernel_rfl) ?_
    refine k_val (want_no rfl) (some 24) rfl (.pointer (some ⟨g, 1, none⟩)) (fun _ => by kernel_rfl) ?_
    refine k_load M (want_no rfl) (some 25) rfl 38 _ rfl 0 g 1 (by kernel_rfl) 11 49 (hF (z : Int) G.ws gw G.wl.length (ua G.ct 64)) rfl 8 (w32 G.ws) (hF_words (z : Int) G.ws gw G.wl.length (ua G.ct 64)) (by decide) _ Tryd.underlying38 rfl inz38 ?_
    refine k_val (want_no rfl) (some 26) rfl (.pointer (some ⟨g, 0, none⟩)) (fun _ => by kernel_rfl) ?_
    refine k_val (want_no rfl) (some 27) rfl (.pointer (some ⟨g, 0, none⟩)) (fun _ => by kernel_rfl) ?_
    refine k_val (want_no rfl) (some 28) rfl (.pointer (some ⟨g, 9, none⟩)) (fun _ => by kernel_rfl) ?_
    refine k_cell M (want_no rfl) (some 29) rfl 47 _ rfl g 9 (by kernel_rfl) (.slice (some ⟨gw, 0, none⟩) G.wl.length 64) (fun _ => by kernel_rfl) (fun w M => M.cell 0 rfl (by decide) rfl) ?_
    refine k_val (want_no rfl) (some 30) rfl (.pointer (some ⟨g, 0, none⟩)) (fun _ => by kernel_rfl) ?_
    refine k_val (want_no rfl) (some 31) rfl (.pointer (some ⟨g, 0, none⟩)) (fun _ => by kernel_rfl) ?_
    refine k_val (want_no rfl) (some 32) rfl (.pointer (some ⟨g, 10, none⟩)) (fun _ => by kernel_rfl) ?_
    refine k_cell M (want_no rfl) (some 33) rfl 40 _ rfl g 10 (by kernel_rfl) (.int .u64 (ua G.ct 64)) (fun _ => by kernel_rfl) (fun w M => M.cell 0 rfl (by decide) rfl) ?_
    refine k_call M (want_no rfl) (some 34) rfl 22 #[.agg (av 8 (w32 G.ws)), .slice (some ⟨gw, 0, none⟩) G.wl.length 64, .int .u64 (ua G.ct 64), .bool false] (.agg (av 8 (w32 (mixV G.ws (lf G.wl) G.wl.length (ua G.ct 64) false)))) (fun _ => by kernel_rfl) (fun w M => c_mixed G.ws (lf G.wl) gw G.wl.length 64 hok.le (ua G.ct 64) false w M.laid (fun i hi => hY.cell (M.get 1 rfl) (vs8_cell G.wl i hi))) ?_
    refine k_val (want_no rfl) (some 35) rfl (.pointer (some ⟨g, 0, none⟩)) (fun _ => by kernel_rfl) ?_
    refine k_val (want_no rfl) (some 36) rfl (.pointer (some ⟨g, 1, none⟩)) (fun _ => by kernel_rfl) ?_
    refine kl_nil ?_
    intro u2 M
    replace M : Mem ⟨w, [g, gw]⟩ [⟨g, .cells (av 11 (hF (z : Int) G.ws gw G.wl.length (ua G.ct 64))) 49⟩, ⟨gw, Y⟩] u2 := M
    refine pl_put M (want_no rfl) rfl 38 _ _ rfl 0 g 1 (by kernel_rfl) 11 49 (hF (z : Int) G.ws gw G.wl.length (ua G.ct 64)) rfl 8 (w32 (mixV G.ws (lf G.wl) G.wl.length (ua G.ct 64) false)) (hF (z : Int) (mixV G.ws (lf G.wl) G.wl.length (ua G.ct 64) false) gw G.wl.length (ua G.ct 64)) (by kernel_rfl) inz38 (by decide) (fun _ _ => rfl) (hF_putw (z : Int) G.ws gw G.wl.length (ua G.ct 64) (mixV G.ws (lf G.wl) G.wl.length (ua G.ct 64) false)) ?_
    intro u3 M
    replace M : Mem ⟨w, [g, gw]⟩ [⟨g, .cells (av 11 (hF (z : Int) (mixV G.ws (lf G.wl) G.wl.length (ua G.ct 64) false) gw G.wl.length (ua G.ct 64))) 49⟩, ⟨gw, Y⟩] u3 := M
    refine pl_nil ?_
    refine au_then ?_
    refine rg_lit ?_
    refine pl_val (want_no rfl) (some 37) rfl (.pointer (some ⟨g, 0, none⟩)) (fun _ => by kernel_rfl) ?_
    refine pl_val (want_no rfl) (some 38) rfl (.pointer (some ⟨g, 0, none⟩)) (fun _ => by kernel_rfl) ?_
    refine pl_val (want_no rfl) (some 39) rfl (.pointer (some ⟨g, 0, none⟩)) (fun _ => by kernel_rfl) ?_
    refine pl_val (want_no rfl) (some 40) rfl (.pointer (some ⟨g, 9, none⟩)) (fun _ => by kernel_rfl) ?_
    refine pl_cell M (want_no rfl) (some 41) rfl 47 _ rfl g 9 (by kernel_rfl) (.slice (some ⟨gw, 0, none⟩) G.wl.length 64) (fun _ => by kernel_rfl) (fun w M => M.cell 0 rfl (by decide) rfl) ?_
    refine pl_val (want_no rfl) (some 42) rfl (.slice (some ⟨gw, 0, none⟩) 0 64) (fun _ => by kernel_rfl) ?_
    refine pl_val (want_no rfl) (some 43) rfl (.pointer (some ⟨g, 0, none⟩)) (fun _ => by kernel_rfl) ?_
    refine pl_val (want_no rfl) (some 44) rfl (.pointer (some ⟨g, 9, none⟩)) (fun _ => by kernel_rfl) ?_
    refine pl_put1 M (want_no rfl) rfl 47 _ _ rfl 0 g 9 (by kernel_rfl) 11 49 (hF (z : Int) (mixV G.ws (lf G.wl) G.wl.length (ua G.ct 64) false) gw G.wl.length (ua G.ct 64)) rfl (.slice (some ⟨gw, 0, none⟩) 0 64) (hF (z : Int) (mixV G.ws (lf G.wl) G.wl.length (ua G.ct 64) false) gw 0 (ua G.ct 64)) (by kernel_rfl) inz47 (by decide) rfl rfl (hF_puts (z : Int) (mixV G.ws (lf G.wl) G.wl.length (ua G.ct 64) false) gw G.wl.length (ua G.ct 64) 0) ?_
    intro u4 M
    replace M : Mem ⟨w, [g, gw]⟩ [⟨g, .cells (av 11 (hF (z : Int) (mixV G.ws (lf G.wl) G.wl.length (ua G.ct 64) false) gw 0 (ua G.ct 64))) 49⟩, ⟨gw, Y⟩] u4 := M
    refine pl_nil ?_
    refine au_then ?_
    refine wp_seq ?_
    refine rg_lit ?_
    refine pl_val (want_no rfl) (some 45) rfl (.string rem) (fun _ => by kernel_rfl) ?_
    refine pl_val (want_no rfl) (some 46) rfl (.int .i64 (rem.size : Int)) (fun _ => by kernel_rfl) ?_
    refine pl_val (want_no rfl) (some 47) rfl (.pointer (some ⟨g, 0, none⟩)) (fun _ => by kernel_rfl) ?_
    refine pl_val (want_no rfl) (some 48) rfl (.pointer (some ⟨g, 0, none⟩)) (fun _ => by kernel_rfl) ?_
    refine pl_val (want_no rfl) (some 49) rfl (.pointer (some ⟨g, 9, none⟩)) (fun _ => by kernel_rfl) ?_
    refine pl_cell M (want_no rfl) (some 50) rfl 47 _ rfl g 9 (by kernel_rfl) (.slice (some ⟨gw, 0, none⟩) 0 64) (fun _ => by kernel_rfl) (fun w M => M.cell 0 rfl (by decide) rfl) ?_
    refine pl_val (want_no rfl) (some 51) rfl (.int .i64 (0 : Int)) (fun _ => by kernel_rfl) ?_
    refine pl_val (want_no rfl) (some 52) rfl (.int .i64 ((64 - p : Nat) : Int)) (fun w => Eq.trans (b := .ok (.value (.int .i64 (IntKind.wrap .i64 (64 - ((0 : Nat) : Int))))) w) (by kernel_rfl) (by rw [wrap64 (by omega) (by omega)]; congr 3; omega)) ?_
    refine pl_val (want_no rfl) (some 53) rfl (.int .i64 (q : Int)) (fun w => Eq.trans (b := .ok (.value (.int .i64 (if ((64 - p : Nat) : Int) < (rem.size : Int) then ((64 - p : Nat) : Int) else (rem.size : Int)))) w) (by kernel_rfl) (by rw [hmin])) ?_
    refine pl_val (want_no rfl) (some 4) rfl (.int .i64 (q : Int)) (fun _ => by kernel_rfl) ?_
    refine pl_nil ?_
    refine au_then ?_
    refine wp_seq ?_
    refine rg_held M [] 11 rfl (by kernel_rfl) (by kernel_rfl) (fun _ _ d _ _ h => by cases d <;> exact h) ?_
    intro u5 M
    replace M : Mem ⟨w, [g, gw]⟩ [⟨g, .cells (av 11 (hF (z : Int) (mixV G.ws (lf G.wl) G.wl.length (ua G.ct 64) false) gw 0 (ua G.ct 64))) 49⟩, ⟨gw, Y⟩] u5 := M
    refine hl_val (M.drop (.cons _ (.cons _ (.slnil)))) 0 rfl (by decide) (by kernel_rfl) (by kernel_rfl) (want_no rfl) (some 54) rfl (.pointer (some ⟨g, 0, none⟩)) (fun _ _ => by kernel_rfl) ?_
    refine hl_val (M.drop (.cons _ (.cons _ (.slnil)))) 1 rfl (by decide) (by kernel_rfl) (by kernel_rfl) (want_no rfl) (some 55) rfl (.pointer (some ⟨g, 0, none⟩)) (fun _ _ => by kernel_rfl) ?_
    refine hl_val (M.drop (.cons _ (.cons _ (.slnil)))) 2 rfl (by decide) (by kernel_rfl) (by kernel_rfl) (want_no rfl) (some 56) rfl (.pointer (some ⟨g, 0, none⟩)) (fun _ _ => by kernel_rfl) ?_
    refine hl_val (M.drop (.cons _ (.cons _ (.slnil)))) 3 rfl (by decide) (by kernel_rfl) (by kernel_rfl) (want_no rfl) (some 57) rfl (.pointer (some ⟨g, 9, none⟩)) (fun _ _ => by kernel_rfl) ?_
    refine hl_val (M.drop (.cons _ (.cons _ (.slnil)))) 5 rfl (by decide) (by kernel_rfl) (by kernel_rfl) (want_no rfl) (some 59) rfl (.string rem) (fun _ _ => by kernel_rfl) ?_
    refine hl_val (M.drop (.cons _ (.cons _ (.slnil)))) 6 rfl (by decide) (by kernel_rfl) (by kernel_rfl) (want_no rfl) (some 60) rfl (.int .i64 (q : Int)) (fun _ _ => by kernel_rfl) ?_
    refine hl_val (M.drop (.cons _ (.cons _ (.slnil)))) 7 rfl (by decide) (by kernel_rfl) (by kernel_rfl) (want_no rfl) (some 61) rfl (.string (rem.extract 0 q)) (fun w _ => (run_strh 9 Tryd.underlying9 _ _ rfl rem (by kernel_rfl) .i64 q (by kernel_rfl) (by omega) _ rfl) w) ?_
    refine hl_one 4 (by decide) (by kernel_rfl) rfl ?_
    refine pl_cell M (want_no rfl) (some 58) rfl 47 _ rfl g 9 (by kernel_rfl) (.slice (some ⟨gw, 0, none⟩) 0 64) (fun _ => by kernel_rfl) (fun w M => M.cell 0 rfl (by decide) rfl) ?_
    refine pl_nil ?_
    refine au_then ?_
    refine ⟨(M.drop (.cons _ (.cons _ (.slnil)))), ?_⟩
    refine hl_one 8 (by decide) (by kernel_rfl) rfl ?_
    refine pl_appX M (want_no rfl) (some 62) rfl 47 9 47 5 _ Tryd.underlying47 info5_eq (by kernel_rfl) 1 gw 0 64 Y (vs8 []) rfl hY.take (vs8_length _) (.string (rem.extract 0 q)) q (byteCells (rem.extract 0 q)) (fun w _ => hsrc w) (by rw [byteCells_length]; exact hes) (by omega) (fun _ => by kernel_rfl) ?_
    intro Y2 u6 hY2 M
    rw [byte_vs8, vs8_append] at hY2
    replace M : Mem ⟨w, [g, gw]⟩ [⟨g, .cells (av 11 (hF (z : Int) (mixV G.ws (lf G.wl) G.wl.length (ua G.ct 64) false) gw 0 (ua G.ct 64))) 49⟩, ⟨gw, Y2⟩] u6 := M
    refine pl_nil ?_
    refine au_then ?_
    refine ⟨(M.drop (.cons _ (.cons _ (.slnil)))), ?_⟩
    refine hl_val (M.drop (.cons _ (.cons _ (.slnil)))) 9 rfl (by decide) (by kernel_rfl) (by kernel_rfl) (want_no rfl) (some 63) rfl (.pointer (some ⟨g, 0, none⟩)) (fun _ _ => by kernel_rfl) ?_
    refine hl_val (M.drop (.cons _ (.cons _ (.slnil)))) 10 rfl (by decide) (by kernel_rfl) (by kernel_rfl) (want_no rfl) (some 64) rfl (.pointer (some ⟨g, 9, none⟩)) (fun _ _ => by kernel_rfl) ?_
    refine hl_end (by kernel_rfl) (by kernel_rfl) rfl ?_
    refine pl_put1 M (want_no rfl) rfl 47 _ _ rfl 0 g 9 (by kernel_rfl) 11 49 (hF (z : Int) (mixV G.ws (lf G.wl) G.wl.length (ua G.ct 64) false) gw 0 (ua G.ct 64)) rfl (.slice (some ⟨gw, 0, none⟩) (0 + q) 64) (hF (z : Int) (mixV G.ws (lf G.wl) G.wl.length (ua G.ct 64) false) gw (0 + q) (ua G.ct 64)) (by kernel_rfl) inz47 (by decide) rfl rfl (hF_puts (z : Int) (mixV G.ws (lf G.wl) G.wl.length (ua G.ct 64) false) gw 0 (ua G.ct 64) (0 + q)) ?_
    intro u7 M
    replace M : Mem ⟨w, [g, gw]⟩ [⟨g, .cells (av 11 (hF (z : Int) (mixV G.ws (lf G.wl) G.wl.length (ua G.ct 64) false) gw (0 + q) (ua G.ct 64))) 49⟩, ⟨gw, Y2⟩] u7 := M
    refine pl_nil ?_
    refine au_then ?_
    refine au_then ?_
    refine rg_lit ?_
    refine pl_val (want_no rfl) (some 65) rfl (.string rem) (fun _ => by kernel_rfl) ?_
    refine pl_val (want_no rfl) (some 66) rfl (.int .i64 (q : Int)) (fun _ => by kernel_rfl) ?_
    refine pl_val (want_no rfl) (some 67) rfl (.string (s.extract (k + q) s.size)) (run_strl 9 Tryd.underlying9 _ _ rfl rem (by kernel_rfl) .i64 q (by kernel_rfl) (by omega) _ (by rw [hrem]; exact extract_extract s k q (by omega))) ?_
    refine pl_val (want_no rfl) (some 1) rfl (.string (s.extract (k + q) s.size)) (fun _ => by kernel_rfl) ?_
    refine pl_nil ?_
    refine au_block ?_
    refine au_then ?_
    have E : (hF (z : Int) (mixV G.ws (lf G.wl) G.wl.length (ua G.ct 64) false) gw (0 + q) (ua G.ct 64)) = hF (z : Int) (tk H s (k + q)).ws gw (tk H s (k + q)).wl.length (tk H s (k + q)).ct := by rw [hrun]; simp
    have E2 : ([] ++ sb (rem.extract 0 q)) = (tk H s (k + q)).wl := by rw [hrun, hbs]
    rw [E] at M
    rw [E2] at hY2
    exact ⟨n - q, by omega, fun k_ => ([.int .i64 (q : Int), .string rem, .int .i64 (rem.size : Int), .bool true, .pointer (some ⟨g, 0, none⟩), .pointer (some ⟨g, 0, none⟩), .pointer (some ⟨g, 9, none⟩), .slice (some ⟨gw, 0, none⟩) G.wl.length 64, .int .i64 ((G.wl.length : Nat) : Int), .bool true, .pointer (some ⟨g, 0, none⟩), .pointer (some ⟨g, 0, none⟩), .pointer (some ⟨g, 10, none⟩), .int .u64 G.ct, .int .u64 (ua G.ct 64), .pointer (some ⟨g, 0, none⟩), .pointer (some ⟨g, 10, none⟩), .pointer (some ⟨g, 0, none⟩), .pointer (some ⟨g, 0, none⟩), .pointer (some ⟨g, 0, none⟩), .pointer (some ⟨g, 1, none⟩), .agg (av 8 (w32 G.ws)), .pointer (some ⟨g, 0, none⟩), .pointer (some ⟨g, 0, none⟩), .pointer (some ⟨g, 9, none⟩), .slice (some ⟨gw, 0, none⟩) G.wl.length 64, .pointer (some ⟨g, 0, none⟩), .pointer (some ⟨g, 0, none⟩), .pointer (some ⟨g, 10, none⟩), .int .u64 (ua G.ct 64), .agg (av 8 (w32 (mixV G.ws (lf G.wl) G.wl.length (ua G.ct 64) false))), .pointer (some ⟨g, 0, none⟩), .pointer (some ⟨g, 1, none⟩), .pointer (some ⟨g, 0, none⟩), .pointer (some ⟨g, 0, none⟩), .pointer (some ⟨g, 0, none⟩), .pointer (some ⟨g, 9, none⟩), .slice (some ⟨gw, 0, none⟩) G.wl.length 64, .slice (some ⟨gw, 0, none⟩) 0 64, .pointer (some ⟨g, 0, none⟩), .pointer (some ⟨g, 9, none⟩), .string rem, .int .i64 (rem.size : Int), .pointer (some ⟨g, 0, none⟩), .pointer (some ⟨g, 0, none⟩), .pointer (some ⟨g, 9, none⟩), .slice (some ⟨gw, 0, none⟩) 0 64, .int .i64 (0 : Int), .int .i64 ((64 - p : Nat) : Int), .int .i64 (q : Int), .pointer (some ⟨g, 0, none⟩), .pointer (some ⟨g, 0, none⟩), .pointer (some ⟨g, 0, none⟩), .pointer (some ⟨g, 9, none⟩), .slice (some ⟨gw, 0, none⟩) 0 64, .string rem, .int .i64 (q : Int), .string (rem.extract 0 q), .slice (some ⟨gw, 0, none⟩) (0 + q) 64, .pointer (some ⟨g, 0, none⟩), .pointer (some ⟨g, 9, none⟩), .string rem, .int .i64 (q : Int), .string (s.extract (k + q) s.size)] : List Value).getD (k_ - 4) undef, k + q, s.extract (k + q) s.size, Y2, by omega, rfl, by kernel_rfl, hY2, M⟩
  · skip
    have hfl : fl G = G := fl_id (by have := hok.le; omega)
    obtain ⟨p, hp⟩ : ∃ p, p = G.wl.length := ⟨_, rfl⟩
    have hlt := hok.le
    have hp1 : p < 64 := by omega
    obtain ⟨q, hq⟩ : ∃ q, q = Nat.min rem.size (64 - p) := ⟨_, rfl⟩
    have hq1 : q ≤ n := by rw [hq, hsz]; exact Nat.min_le_left _ _
    have hq2 : q ≤ 64 - p := by rw [hq]; exact Nat.min_le_right _ _
    have hq3 : 0 < q := by rw [hq, hsz]; exact Nat.lt_min.2 ⟨hn, by omega⟩
    have hmin : (if ((64 - p : Nat) : Int) < (rem.size : Int) then ((64 - p : Nat) : Int) else (rem.size : Int)) = (q : Int) := by
      have hq4 : q = if 64 - p < rem.size then 64 - p else rem.size := by rw [hq]; simp only [Nat.min_def]; split <;> split <;> omega
      rw [hq4]; split <;> split <;> omega
    have hes : (rem.extract 0 q).size = q := by rw [ByteArray.size_extract]; omega
    have hsrc : ∀ w, Src Tryd.prog 1 9 (.string (rem.extract 0 q)) q (byteCells (rem.extract 0 q)) w := fun w => by have h := Src.ofString (P := Tryd.prog) w (tx := 9) Tryd.underlying9 (rem.extract 0 q); rw [hes] at h; exact h
    have hrun := tk_run H s k q hq3 (by rw [← hG, hfl]; show G.wl.length + q ≤ 64; omega)
    rw [← hG, hfl] at hrun
    have hbs : sb (rem.extract 0 q) = (List.range q).map (fun i => bt s (k + i)) := by rw [sb_ext _ _ _ (by omega), Nat.sub_zero]; refine List.map_congr_left fun i _ => ?_; rw [Nat.zero_add, hrem, bt_extract]
    refine wp_seq ?_
    refine wp_seq ?_
    refine rg_lit ?_
    refine pl_val (want_no rfl) (some 5) rfl (.string rem) (fun _ => by kernel_rfl) ?_
    refine pl_val (want_no rfl) (some 6) rfl (.int .i64 (rem.size : Int)) (fun _ => by kernel_rfl) ?_
    refine pl_val (want_no rfl) (some 7) rfl (.bool true) (fun w => Eq.trans (b := .ok (.value (.bool (decide ((0 : Int) < (rem.size : Int))))) w) (by kernel_rfl) (by rw [decide_eq_true (by omega)])) ?_
    refine pl_nil ?_
    refine au_then ?_
    refine wp_cond_true (by kernel_rfl) ?_
    refine wp_skip ?_
    refine au_then ?_
    refine wp_block ?_
    refine wp_seq ?_
    refine wp_seq ?_
    refine rg_lit ?_
    refine pl_val (want_no rfl) (some 8) rfl (.pointer (some ⟨g, 0, none⟩)) (fun _ => by kernel_rfl) ?_
    refine pl_val (want_no rfl) (some 9) rfl (.pointer (some ⟨g, 0, none⟩)) (fun _ => by kernel_rfl) ?_
    refine pl_val (want_no rfl) (some 10) rfl (.pointer (some ⟨g, 9, none⟩)) (fun _ => by kernel_rfl) ?_
    refine pl_cell M (want_no rfl) (some 11) rfl 47 _ rfl g 9 (by kernel_rfl) (.slice (some ⟨gw, 0, none⟩) G.wl.length 64) (fun _ => by kernel_rfl) (fun w M => M.cell 0 rfl (by decide) rfl) ?_
    refine pl_val (want_no rfl) (some 12) rfl (.int .i64 ((G.wl.length : Nat) : Int)) (fun _ => by kernel_rfl) ?_
    refine pl_val (want_no rfl) (some 13) rfl (.bool false) (fun w => Eq.trans (b := .ok (.value (.bool (decide ((G.wl.length : Int) = 64)))) w) (by kernel_rfl) (by rw [decide_eq_false (by omega)])) ?_
    refine pl_nil ?_
    refine au_then ?_
    refine wp_cond_false (by kernel_rfl) ?_
    refine wp_skip ?_
    refine au_then ?_
    refine wp_seq ?_
    refine rg_lit ?_
    refine pl_val (want_no rfl) (some 45) rfl (.string rem) (fun _ => by kernel_rfl) ?_
    refine pl_val (want_no rfl) (some 46) rfl (.int .i64 (rem.size : Int)) (fun _ => by kernel_rfl) ?_
    refine pl_val (want_no rfl) (some 47) rfl (.pointer (some ⟨g, 0, none⟩)) (fun _ => by kernel_rfl) ?_
    refine pl_val (want_no rfl) (some 48) rfl (.pointer (some ⟨g, 0, none⟩)) (fun _ => by kernel_rfl) ?_
    refine pl_val (want_no rfl) (some 49) rfl (.pointer (some ⟨g, 9, none⟩)) (fun _ => by kernel_rfl) ?_
    refine pl_cell M (want_no rfl) (some 50) rfl 47 _ rfl g 9 (by kernel_rfl) (.slice (some ⟨gw, 0, none⟩) G.wl.length 64) (fun _ => by kernel_rfl) (fun w M => M.cell 0 rfl (by decide) rfl) ?_
    refine pl_val (want_no rfl) (some 51) rfl (.int .i64 ((G.wl.length : Nat) : Int)) (fun _ => by kernel_rfl) ?_
    refine pl_val (want_no rfl) (some 52) rfl (.int .i64 ((64 - p : Nat) : Int)) (fun w => Eq.trans (b := .ok (.value (.int .i64 (IntKind.wrap .i64 (64 - (G.wl.length : Int))))) w) (by kernel_rfl) (by rw [wrap64 (by omega) (by omega)]; congr 3; omega)) ?_
    refine pl_val (want_no rfl) (some 53) rfl (.int .i64 (q : Int)) (fun w => Eq.trans (b := .ok (.value (.int .i64 (if ((64 - p : Nat) : Int) < (rem.size : Int) then ((64 - p : Nat) : Int) else (rem.size : Int)))) w) (by kernel_rfl) (by rw [hmin])) ?_
    refine pl_val (want_no rfl) (some 4) rfl (.int .i64 (q : Int)) (fun _ => by kernel_rfl) ?_
    refine pl_nil ?_
    refine au_then ?_
    refine wp_seq ?_
    refine rg_held M [] 11 rfl (by kernel_rfl) (by kernel_rfl) (fun _ _ d _ _ h => by cases d <;> exact h) ?_
    intro u8 M
    replace M : Mem ⟨w, [g, gw]⟩ [⟨g, .cells (av 11 (hF (z : Int) G.ws gw G.wl.length G.ct)) 49⟩, ⟨gw, Y⟩] u8 := M
    refine hl_val (M.drop (.cons _ (.cons _ (.slnil)))) 0 rfl (by decide) (by kernel_rfl) (by kernel_rfl) (want_no rfl) (some 54) rfl (.pointer (some ⟨g, 0, none⟩)) (fun _ _ => by kernel_rfl) ?_
    refine hl_val (M.drop (.cons _ (.cons _ (.slnil)))) 1 rfl (by decide) (by kernel_rfl) (by kernel_rfl) (want_no rfl) (some 55) rfl (.pointer (some ⟨g, 0, none⟩)) (fun _ _ => by kernel_rfl) ?_
    refine hl_val (M.drop (.cons _ (.cons _ (.slnil)))) 2 rfl (by decide) (by kernel_rfl) (by kernel_rfl) (want_no rfl) (some 56) rfl (.pointer (some ⟨g, 0, none⟩)) (fun _ _ => by kernel_rfl) ?_
    refine hl_val (M.drop (.cons _ (.cons _ (.slnil)))) 3 rfl (by decide) (by kernel_rfl) (by kernel_rfl) (want_no rfl) (some 57) rfl (.pointer (some ⟨g, 9, none⟩)) (fun _ _ => by kernel_rfl) ?_
    refine hl_val (M.drop (.cons _ (.cons _ (.slnil)))) 5 rfl (by decide) (by kernel_rfl) (by kernel_rfl) (want_no rfl) (some 59) rfl (.string rem) (fun _ _ => by kernel_rfl) ?_
    refine hl_val (M.drop (.cons _ (.cons _ (.slnil)))) 6 rfl (by decide) (by kernel_rfl) (by kernel_rfl) (want_no rfl) (some 60) rfl (.int .i64 (q : Int)) (fun _ _ => by kernel_rfl) ?_
    refine hl_val (M.drop (.cons _ (.cons _ (.slnil)))) 7 rfl (by decide) (by kernel_rfl) (by kernel_rfl) (want_no rfl) (some 61) rfl (.string (rem.extract 0 q)) (fun w _ => (run_strh 9 Tryd.underlying9 _ _ rfl rem (by kernel_rfl) .i64 q (by kernel_rfl) (by omega) _ rfl) w) ?_
    refine hl_one 4 (by decide) (by kernel_rfl) rfl ?_
    refine pl_cell M (want_no rfl) (some 58) rfl 47 _ rfl g 9 (by kernel_rfl) (.slice (some ⟨gw, 0, none⟩) G.wl.length 64) (fun _ => by kernel_rfl) (fun w M => M.cell 0 rfl (by decide) rfl) ?_
    refine pl_nil ?_
    refine au_then ?_
    refine ⟨(M.drop (.cons _ (.cons _ (.slnil)))), ?_⟩
    refine hl_one 8 (by decide) (by kernel_rfl) rfl ?_
    refine pl_appX M (want_no rfl) (some 62) rfl 47 9 47 5 _ Tryd.underlying47 info5_eq (by kernel_rfl) 1 gw G.wl.length 64 Y (vs8 G.wl) rfl hY (vs8_length _) (.string (rem.extract 0 q)) q (byteCells (rem.extract 0 q)) (fun w _ => hsrc w) (by rw [byteCells_length]; exact hes) (by omega) (fun _ => by kernel_rfl) ?_
    intro Y2 u9 hY2 M
    rw [byte_vs8, vs8_append] at hY2
    replace M : Mem ⟨w, [g, gw]⟩ [⟨g, .cells (av 11 (hF (z : Int) G.ws gw G.wl.length G.ct)) 49⟩, ⟨gw, Y2⟩] u9 := M
    refine pl_nil ?_
    refine au_then ?_
    refine ⟨(M.drop (.cons _ (.cons _ (.slnil)))), ?_⟩
    refine hl_val (M.drop (.cons _ (.cons _ (.slnil)))) 9 rfl (by decide) (by kernel_rfl) (by kernel_rfl) (want_no rfl) (some 63) rfl (.pointer (some ⟨g, 0, none⟩)) (fun _ _ => by kernel_rfl) ?_
    refine hl_val (M.drop (.cons _ (.cons _ (.slnil)))) 10 rfl (by decide) (by kernel_rfl) (by kernel_rfl) (want_no rfl) (some 64) rfl (.pointer (some ⟨g, 9, none⟩)) (fun _ _ => by kernel_rfl) ?_
    refine hl_end (by kernel_rfl) (by kernel_rfl) rfl ?_
    refine pl_put1 M (want_no rfl) rfl 47 _ _ rfl 0 g 9 (by kernel_rfl) 11 49 (hF (z : Int) G.ws gw G.wl.length G.ct) rfl (.slice (some ⟨gw, 0, none⟩) (G.wl.length + q) 64) (hF (z : Int) G.ws gw (G.wl.length + q) G.ct) (by kernel_rfl) inz47 (by decide) rfl rfl (hF_puts (z : Int) G.ws gw G.wl.length G.ct (G.wl.length + q)) ?_
    intro u10 M
    replace M : Mem ⟨w, [g, gw]⟩ [⟨g, .cells (av 11 (hF (z : Int) G.ws gw (G.wl.length + q) G.ct)) 49⟩, ⟨gw, Y2⟩] u10 := M
    refine pl_nil ?_
    refine au_then ?_
    refine au_then ?_
    refine rg_lit ?_
    refine pl_val (want_no rfl) (some 65) rfl (.string rem) (fun _ => by kernel_rfl) ?_
    refine pl_val (want_no rfl) (some 66) rfl (.int .i64 (q : Int)) (fun _ => by kernel_rfl) ?_
    refine pl_val (want_no rfl) (some 67) rfl (.string (s.extract (k + q) s.size)) (run_strl 9 Tryd.underlying9 _ _ rfl rem (by kernel_rfl) .i64 q (by kernel_rfl) (by omega) _ (by rw [hrem]; exact extract_extract s k q (by omega))) ?_
    refine pl_val (want_no rfl) (some 1) rfl (.string (s.extract (k + q) s.size)) (fun _ => by kernel_rfl) ?_
    refine pl_nil ?_
    refine au_block ?_
    refine au_then ?_
    have E : (hF (z : Int) G.ws gw (G.wl.length + q) G.ct) = hF (z : Int) (tk H s (k + q)).ws gw (tk H s (k + q)).wl.length (tk H s (k + q)).ct := by rw [hrun]; simp
    have E2 : (G.wl ++ sb (rem.extract 0 q)) = (tk H s (k + q)).wl := by rw [hrun, hbs]
    rw [E] at M
    rw [E2] at hY2
    exact ⟨n - q, by omega, fun k_ => ([.int .i64 (q : Int), .string rem, .int .i64 (rem.size : Int), .bool true, .pointer (some ⟨g, 0, none⟩), .pointer (some ⟨g, 0, none⟩), .pointer (some ⟨g, 9, none⟩), .slice (some ⟨gw, 0, none⟩) G.wl.length 64, .int .i64 ((G.wl.length : Nat) : Int), .bool false, v 14, v 15, v 16, v 17, v 18, v 19, v 20, v 21, v 22, v 23, v 24, v 25, v 26, v 27, v 28, v 29, v 30, v 31, v 32, v 33, v 34, v 35, v 36, v 37, v 38, v 39, v 40, v 41, v 42, v 43, v 44, .string rem, .int .i64 (rem.size : Int), .pointer (some ⟨g, 0, none⟩), .pointer (some ⟨g, 0, none⟩), .pointer (some ⟨g, 9, none⟩), .slice (some ⟨gw, 0, none⟩) G.wl.length 64, .int .i64 ((G.wl.length : Nat) : Int), .int .i64 ((64 - p : Nat) : Int), .int .i64 (q : Int), .pointer (some ⟨g, 0, none⟩), .pointer (some ⟨g, 0, none⟩), .pointer (some ⟨g, 0, none⟩), .pointer (some ⟨g, 9, none⟩), .slice (some ⟨gw, 0, none⟩) G.wl.length 64, .string rem, .int .i64 (q : Int), .string (rem.extract 0 q), .slice (some ⟨gw, 0, none⟩) (G.wl.length + q) 64, .pointer (some ⟨g, 0, none⟩), .pointer (some ⟨g, 9, none⟩), .string rem, .int .i64 (q : Int), .string (s.extract (k + q) s.size)] : List Value).getD (k_ - 4) undef, k + q, s.extract (k + q) s.size, Y2, by omega, rfl, by kernel_rfl, hY2, M⟩


end Go.Proofs.YtnglfpekdedgfaaDoor
