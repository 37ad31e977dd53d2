/- The hash in memory: firstWords and New; what bytes do to it. -/
import Derived.Test.YtghobmgdadpplaaDoorD3
namespace Go.Proofs.YtghobmgdadpplaaDoor
open Go.RowKit

/-- The cells of a hash. -/
def hF (mk : Bool) (ws rs : Nat → Int) (ct : Int) : Nat → Value := fun i => if i = 0 then .bool mk else if i < 9 then .int .u64 (ws (i - 1)) else if i < 137 then .int .u8 (rs (i - 9)) else .int .u64 ct
theorem hF_words (mk : Bool) (ws rs : Nat → Int) (ct : Int) : ∀ j, j < 8 → hF mk ws rs ct (1 + j) = w64 ws j := fun j hj => by
  unfold hF w64
  rw [if_neg (by omega), if_pos (by omega), show 1 + j - 1 = j by omega]
theorem hF_rest (mk : Bool) (ws rs : Nat → Int) (ct : Int) : ∀ j, j < 128 → hF mk ws rs ct (9 + j) = w8 rs j := fun j hj => by
  unfold hF w8
  rw [if_neg (by omega), if_neg (by omega), if_pos (by omega), show 9 + j - 9 = j by omega]
theorem hF_putw (mk : Bool) (ws rs : Nat → Int) (ct : Int) (f : Nat → Int) : ∀ j, j < 138 → (if 1 ≤ j ∧ j < 1 + 8 then w64 f (j - 1) else hF mk ws rs ct j) = hF mk f rs ct j := fun j hj => by
  unfold hF w64
  by_cases h : 1 ≤ j ∧ j < 1 + 8
  · rw [if_pos h, if_neg (by omega), if_pos (by omega)]
  · rw [if_neg h]
    by_cases h0 : j = 0
    · rw [if_pos h0, if_pos h0]
    · have h9 : ¬ j < 9 := by omega
      rw [if_neg h0, if_neg h0, if_neg h9, if_neg h9]
theorem hF_putc (mk : Bool) (ws rs : Nat → Int) (ct : Int) (c' : Int) : ∀ j, j < 138 → (if j = 137 then .int .u64 c' else hF mk ws rs ct j) = hF mk ws rs c' j := fun j hj => by
  unfold hF
  by_cases h : j = 137
  · rw [if_pos h, if_neg (by omega), if_neg (by omega), if_neg (by omega)]
  · rw [if_neg h]
    by_cases h0 : j < 137
    · rw [if_pos h0, if_pos h0]
    · omega
theorem hF_one (mk : Bool) (ws rs : Nat → Int) (ct : Int) : ∀ j, j < 138 → (hF mk ws rs ct j).oneCell' = true := fun j _ => by
  unfold hF
  split
  · rfl
  · split
    · rfl
    · split <;> rfl
/-- bytes that come into rest -/
def cpy (rs : Nat → Int) (p k : Nat) (s : ByteArray) : Nat → Int := fun i => if p ≤ i ∧ i < p + k then bt s (i - p) else rs i
theorem hF_cpy (mk : Bool) (ws rs : Nat → Int) (ct : Int) (p k : Nat) (s : ByteArray) (hp : p + k ≤ 128) : ∀ j, j < 138 → (if 9 + p ≤ j ∧ j < 9 + p + k then w8 (bt s) (j - (9 + p)) else hF mk ws rs ct j) = hF mk ws (cpy rs p k s) ct j := fun j hj => by
  unfold hF w8 cpy
  by_cases h : 9 + p ≤ j ∧ j < 9 + p + k
  · rw [if_pos h, if_neg (by omega), if_neg (by omega), if_pos (by omega), if_pos (by omega), show j - (9 + p) = j - 9 - p by omega]
  · rw [if_neg h]
    by_cases h0 : j = 0
    · rw [if_pos h0, if_pos h0]
    · rw [if_neg h0, if_neg h0]
      by_cases h9 : j < 9
      · rw [if_pos h9, if_pos h9]
      · rw [if_neg h9, if_neg h9]
        by_cases h1 : j < 137
        · rw [if_pos h1, if_pos h1, if_neg (by omega)]
        · rw [if_neg h1, if_neg h1]

/-- The words to begin with. -/
def HB : Nat → Int := r8 7640891576956012808 13503953896175478587 4354685564936845355 11912009170470909681 5840696475078001361 11170449401992604703 2270897969802886507 6620516959819538809
theorem inzP : True := trivial

/-- A hash. -/
structure HS where
  ws : Nat → Int
  rs : Nat → Int
  ct : Int
def HS.ok (H : HS) : Prop := 0 ≤ H.ct ∧ H.ct < 18446744073709551616
def hs0 : HS := ⟨HB, fun _ => 0, 0⟩
/-- One byte more. -/
def ab (H : HS) (b : Int) : HS := ⟨if H.ct % 128 = 127 then mixV H.ws (upd H.rs 127 b) else H.ws, upd H.rs (H.ct % 128).toNat b, ua H.ct 1⟩
def tk (H : HS) (s : ByteArray) : Nat → HS
  | 0 => H
  | k + 1 => ab (tk H s k) (bt s k)
theorem ua_eq (x y : Int) : ua x y = (x + y) % 18446744073709551616 := by
  unfold ua
  simp [IntKind.wrap, IntKind.signed, IntKind.bits]
theorem ab_ok (H : HS) (b : Int) : (ab H b).ok := by
  unfold HS.ok ab
  simp only [ua_eq]
  omega
theorem tk_ok {H : HS} (h : H.ok) (s : ByteArray) : ∀ k, (tk H s k).ok
  | 0 => h
  | _ + 1 => ab_ok _ _
theorem cpy_zero (rs : Nat → Int) (p : Nat) (s : ByteArray) : cpy rs p 0 s = rs := by
  funext i
  unfold cpy
  rw [if_neg (by omega)]
/-- n bytes that end no block, or just end it. -/
theorem tk_run (H : HS) (h : H.ok) (s : ByteArray) (k p : Nat) (rem : ByteArray) (hrem : ∀ i, bt rem i = bt s (k + i)) (hp : (tk H s k).ct % 128 = (p : Int)) : ∀ n, p + n ≤ 128 →
    (tk H s (k + n)).rs = cpy (tk H s k).rs p n rem ∧ (tk H s (k + n)).ct = ua (tk H s k).ct (n : Int) ∧ (tk H s (k + n)).ws = if n ≠ 0 ∧ p + n = 128 then mixV (tk H s k).ws (cpy (tk H s k).rs p n rem) else (tk H s k).ws := by
  intro n
  have hok := tk_ok h s k
  induction n with
  | zero =>
    intro _
    refine ⟨by rw [cpy_zero]; rfl, ?_, by rw [if_neg (by simp)]; rfl⟩
    rw [ua_eq]
    simp only [Nat.add_zero, Int.natCast_zero, Int.add_zero]
    unfold HS.ok at hok
    omega
  | succ n ih =>
    intro hn
    obtain ⟨h1, h2, h3⟩ := ih (by omega)
    have hct : (tk H s (k + n)).ct % 128 = ((p + n : Nat) : Int) := by
      rw [h2, ua_eq]
      omega
    have hrs : (tk H s (k + (n + 1))).rs = cpy (tk H s k).rs p (n + 1) rem := by
      show upd (tk H s (k + n)).rs ((tk H s (k + n)).ct % 128).toNat (bt s (k + n)) = _
      rw [hct, h1, Int.toNat_natCast]
      funext i
      unfold upd cpy
      by_cases hi : i = p + n
      · rw [if_pos hi, if_pos (by omega), hrem, hi, show k + (p + n - p) = k + n by omega]
      · rw [if_neg hi]
        by_cases hj : p ≤ i ∧ i < p + n
        · rw [if_pos hj, if_pos (by omega)]
        · rw [if_neg hj, if_neg (by omega)]
    refine ⟨hrs, ?_, ?_⟩
    · show ua (tk H s (k + n)).ct 1 = _
      rw [h2, ua_eq, ua_eq, ua_eq]
      omega
    · have hwn : (tk H s (k + n)).ws = (tk H s k).ws := by rw [h3, if_neg (by omega)]
      have hu : (tk H s (k + (n + 1))).ws = if (tk H s (k + n)).ct % 128 = 127 then mixV (tk H s (k + n)).ws (upd (tk H s (k + n)).rs 127 (bt s (k + n))) else (tk H s (k + n)).ws := rfl
      rw [hu, hwn, hct]
      by_cases he : p + (n + 1) = 128
      · rw [if_pos (by omega), if_pos ⟨by omega, he⟩, ← hrs]
        show mixV _ _ = mixV _ (upd (tk H s (k + n)).rs ((tk H s (k + n)).ct % 128).toNat (bt s (k + n)))
        rw [hct, Int.toNat_natCast, show p + n = 127 by omega]
      · rw [if_neg (by omega), if_neg (by omega)]

set_option maxRecDepth 100000 in
set_option maxHeartbeats 4000000 in
theorem c_first  (w : World) (hL : Laid w)  :
    Calls Tryd.prog 19 #[] w fun r w' => r = .returned (.agg (av 8 (w64 HB))) ∧ Below w.heap.size w w' := by
  go_enter Tryd.func19, Tryd.ntmps19
  have M := Mem.start hL
  refine wp_seq ?_
  refine rg_lit ?_
  refine pl_new M (want_no rfl) (some 0) rfl (.cells (av 8 (w64 fun _ => 0)) 28) (fun _ => by kernel_rfl) ?_
  intro g1 u1 M
  replace M : Mem ⟨w, none⟩ [⟨g1, .cells (av 8 (w64 fun _ => 0)) 28⟩] u1 := M
  refine pl_nil ?_
  refine au_then ?_
  refine wp_seq ?_
  refine rg_lit ?_
  refine pl_val (want_no rfl) (some 1) rfl (.agg (av 8 (w64 HB))) (fun _ => by kernel_rfl) ?_
  refine pl_put M (want_no rfl) rfl 28 _ _ rfl 0 g1 0 (by kernel_rfl) 8 28 (w64 fun _ => 0) rfl 8 (w64 HB) (w64 HB) (by kernel_rfl) inz28 (by decide) (fun _ _ => rfl) (fun j hj => by rw [if_pos (by omega), Nat.sub_zero]) ?_
  intro u2 M
  replace M : Mem ⟨w, none⟩ [⟨g1, .cells (av 8 (w64 HB)) 28⟩] u2 := M
  refine pl_nil ?_
  refine au_then ?_
  refine wp_ret ?_
  exact bodyPost_ret (v := .agg (av 8 (w64 HB))) (results_cell_row Tryd.results19 _ _ g1 28 (av 8 (w64 HB)) (0, 0) _ (by kernel_rfl) (M.get 0 rfl) Tryd.underlying28 rfl (by rw [av_size]; exact inz28)) (by kernel_rfl) ⟨rfl, below_grown M.old⟩

set_option maxRecDepth 100000 in
set_option maxHeartbeats 4000000 in
theorem c_new  (w : World) (hL : Laid w)  :
    Calls Tryd.prog 13 #[] w fun r w' => ∃ g, r = .returned (.pointer (some ⟨g, 0, none⟩)) ∧ w.heap.size ≤ g ∧ w'.heap[g]? = some (.cells (av 138 (hF true hs0.ws hs0.rs hs0.ct)) 47) ∧ Below w.heap.size w w' := by
  go_enter Tryd.func13, Tryd.ntmps13
  have M := Mem.start hL
  refine wp_seq ?_
  refine rg_lit ?_
  refine pl_val (want_no rfl) (some 0) rfl (.pointer none) (fun _ => by kernel_rfl) ?_
  refine pl_nil ?_
  refine au_then ?_
  refine wp_seq ?_
  refine rg_lit ?_
  refine pl_call M (want_no rfl) (some 1) rfl 19 #[] (.agg (av 8 (w64 HB))) (fun _ => by kernel_rfl) (fun w M => c_first w M.laid) ?_
  intro u1 M
  refine pl_val (want_no rfl) (some 2) rfl (.agg (av 138 (hF true HB (fun _ => 0) 0))) (fun _ => by kernel_rfl) ?_
  refine pl_new M (want_no rfl) (some 3) rfl (.cells (av 138 (hF true HB (fun _ => 0) 0)) 47) (fun _ => by kernel_rfl) ?_
  intro g1 u2 M
  replace M : Mem ⟨w, none⟩ [⟨g1, .cells (av 138 (hF true HB (fun _ => 0) 0)) 47⟩] u2 := M
  refine pl_val (want_no rfl) (some 0) rfl (.pointer (some ⟨g1, 0, none⟩)) (fun _ => by kernel_rfl) ?_
  refine pl_nil ?_
  refine au_then ?_
  refine wp_ret ?_
  exact bodyPost_ret (v := .pointer (some ⟨g1, 0, none⟩)) (results_tmp1 Tryd.results13 _ _ _ (by kernel_rfl)) (by kernel_rfl) ⟨g1, rfl, (M.ge _ (List.mem_singleton.2 rfl)).elim id (fun h => by cases h), M.get 0 rfl, below_grown M.old⟩


end Go.Proofs.YtghobmgdadpplaaDoor
