/- What a packet carries: the walks of the small functions. -/
import Derived.Test.YtahknenmjnhmjaaE1
import Derived.Test.YtahknenmjnhmjaaQ5
namespace Go.Proofs.Ytahknenmjnhmjaa
open Go.RowKit

section
variable {P : Program} {ops : Array Oper} {o o2 o3 : Oper} {a : Act} {w : World} {Q : Exit → Act → World → Prop} {S : World → Prop} {n fuel : Nat} {listed : Array Bool}
theorem hl_name (h : ∀ H : Nat → Array Bool → Act → World → Prop, (∀ f l a w, H f l a w → HL P ops Q S n f l a w) → (∀ f l a w, HL P ops Q S n f l a w → H f l a w) → H fuel listed a w) : HL P ops Q S n fuel listed a w := h _ (fun _ _ _ _ h => h) (fun _ _ _ _ h => h)
/-- Number i or number j may come up. -/
theorem hl_two (i j : Nat) (hin : i < n) (hjn : j < n) (hr : Region.ready .any ops listed = [i, j]) (hi : ops.toList[i]? = some o) (hj : ops.toList[j]? = some o2)
    (h : PL P ops (Exit.then (fun a' w' => S w' ∧ HL P ops Q S n fuel (listed.setIfInBounds i true) a' w') Q) [o] a w)
    (h2 : PL P ops (Exit.then (fun a' w' => S w' ∧ HL P ops Q S n fuel (listed.setIfInBounds j true) a' w') Q) [o2] a w) : HL P ops Q S n (fuel + 1) listed a w := by
  refine ⟨fun hQ hB inv => ⟨fun h0 => (by rw [hr] at h0; cases h0), fun m hm => ?_⟩⟩
  have hm' := hm
  rw [hr] at hm
  rcases List.mem_cons.1 hm with rfl | hm
  · exact wpOp_mono (fun a' w' h3 => ⟨fun _ => h3.1, h3.2.out hQ hB (inv.set hm' hin)⟩) (wpOp_one (by rw [← Array.getElem?_toList]; exact hi) h.out)
  · obtain rfl := List.mem_singleton.1 hm
    exact wpOp_mono (fun a' w' h3 => ⟨fun _ => h3.1, h3.2.out hQ hB (inv.set hm' hjn)⟩) (wpOp_one (by rw [← Array.getElem?_toList]; exact hj) h2.out)
/-- Number i, number j or number k may come up. -/
theorem hl_three (i j k : Nat) (hin : i < n) (hjn : j < n) (hkn : k < n) (hr : Region.ready .any ops listed = [i, j, k]) (hi : ops.toList[i]? = some o) (hj : ops.toList[j]? = some o2) (hk : ops.toList[k]? = some o3)
    (h : PL P ops (Exit.then (fun a' w' => S w' ∧ HL P ops Q S n fuel (listed.setIfInBounds i true) a' w') Q) [o] a w)
    (h2 : PL P ops (Exit.then (fun a' w' => S w' ∧ HL P ops Q S n fuel (listed.setIfInBounds j true) a' w') Q) [o2] a w)
    (h3 : PL P ops (Exit.then (fun a' w' => S w' ∧ HL P ops Q S n fuel (listed.setIfInBounds k true) a' w') Q) [o3] a w) : HL P ops Q S n (fuel + 1) listed a w := by
  refine ⟨fun hQ hB inv => ⟨fun h0 => (by rw [hr] at h0; cases h0), fun m hm => ?_⟩⟩
  have hm' := hm
  rw [hr] at hm
  rcases List.mem_cons.1 hm with rfl | hm
  · exact wpOp_mono (fun a' w' h3 => ⟨fun _ => h3.1, h3.2.out hQ hB (inv.set hm' hin)⟩) (wpOp_one (by rw [← Array.getElem?_toList]; exact hi) h.out)
  rcases List.mem_cons.1 hm with rfl | hm
  · exact wpOp_mono (fun a' w' h3 => ⟨fun _ => h3.1, h3.2.out hQ hB (inv.set hm' hjn)⟩) (wpOp_one (by rw [← Array.getElem?_toList]; exact hj) h2.out)
  · obtain rfl := List.mem_singleton.1 hm
    exact wpOp_mono (fun a' w' h3 => ⟨fun _ => h3.1, h3.2.out hQ hB (inv.set hm' hkn)⟩) (wpOp_one (by rw [← Array.getElem?_toList]; exact hk) h3.out)
end
section
variable {a : Act} {w : World} {Q : Exit → Act → World → Prop}
theorem au_block_out {id i : Nat} (hn : i ≠ id) (h : Q (.exit i) a w) : Exit.inBlock id Q (.exit i) a w := by
  unfold Exit.inBlock
  simp only [hn, if_false]
  exact h
end
theorem cut_at {P : Program} {x : Code} {K I : Act → World → Prop} {Q : Exit → Act → World → Prop} {a : Act} {w : World} (h1 : x.wp P (Exit.then I Q) a w) (h2 : ∀ a w, I a w → K a w) : x.wp P (Exit.then K Q) a w :=
  wp_mono h1 fun e a w h => by
    cases e <;> first | exact h2 _ _ h | exact h
theorem sz_mk (a : Array UInt8) : (⟨a⟩ : ByteArray).size = a.size := rfl
theorem aB_le (v : Bool) (h l : Int) : (aB v h l).size ≤ 16 := by
  cases v
  · rw [aB_f]; decide
  · rw [aB_t]; decide
theorem sr_4 (x : Int) : sr x 4 = x / 16 := by
  unfold sr
  rw [Int.fdiv_eq_ediv_of_nonneg _ (by decide)]
  rfl
/-- The bytes ahead of the data that the sum is made of. -/
def psB (v0 : Bool) (h0 l0 : Int) (v1 : Bool) (h1 l1 p n : Int) : ByteArray := ((aB v0 h0 l0 ++ aB v1 h1 l1) ++ bs [0, p]) ++ be2 (cv .u64 (cv .u16 n))
/-- The sum of a packet. -/
def sO (v0 : Bool) (h0 l0 : Int) (v1 : Bool) (h1 l1 p : Int) (s : ByteArray) : Int := if p = 6 ∨ p = 17 ∨ p = 58 then sumS (psB v0 h0 l0 v1 h1 l1 p (s.size : Int) ++ s) else sumS s
theorem psB_doc (v0 : Bool) (h0 l0 : Int) (v1 : Bool) (h1 l1 p n : Int) : (((dB v0 h0 l0 ++ dB v1 h1 l1) ++ (⟨#[0]⟩ : ByteArray)) ++ bs [p]) ++ be2 (cv .u64 n) = psB v0 h0 l0 v1 h1 l1 p n := by
  unfold psB
  rw [aB_dB, aB_dB, be2_u16, be2_u64, ByteArray.append_assoc (a := dB v0 h0 l0 ++ dB v1 h1 l1)]
  rfl
theorem sO_nn (v0 : Bool) (h0 l0 : Int) (v1 : Bool) (h1 l1 p : Int) (s : ByteArray) : 0 ≤ sO v0 h0 l0 v1 h1 l1 p s ∧ sO v0 h0 l0 v1 h1 l1 p s ≤ 65535 := by
  have f : ∀ x : ByteArray, 0 ≤ sumS x ∧ sumS x ≤ 65535 := fun x => by
    have := Fs_nn (tot x)
    unfold sumS
    omega
  unfold sO
  split <;> exact f _
/-- The number of two bytes. -/
def pr (s : ByteArray) (k : Nat) : Int := 256 * bt s k + bt s (k + 1)
theorem pr_nn (s : ByteArray) (k : Nat) : 0 ≤ pr s k ∧ pr s k ≤ 65535 := by
  have h1 := bt_nn s k
  have h2 := bt_nn s (k + 1)
  unfold pr
  omega
theorem bt_ext (s : ByteArray) (k m i : Nat) (h : k + i < m) (hm : m ≤ s.size) : bt (s.extract k m) i = bt s (k + i) := by
  unfold bt
  rw [ByteArray.data_extract, Array.getElem?_extract]
  have : m ≤ s.data.size := hm
  rw [if_pos (by omega)]
theorem pr_ext (s : ByteArray) (k : Nat) (h : k + 2 ≤ s.size) : pr (s.extract k s.size) 0 = pr s k := by
  unfold pr
  rw [bt_ext s k _ 0 (by omega) (Nat.le_refl _), bt_ext s k _ 1 (by omega) (Nat.le_refl _)]
  rfl
theorem pr_tk (s : ByteArray) (k : Nat) (h : k + 2 ≤ s.size) : cv .u16 (bnv (tkV (s.extract k s.size) 0 2)) = pr s k := by
  have e : tkV (s.extract k s.size) 0 2 = (s.extract k s.size).extract 0 2 := by
    unfold tkV
    rw [if_pos ⟨rfl, by decide, by rw [ByteArray.size_extract]; omega⟩]
    rfl
  have e2 : ((s.extract k s.size).extract 0 2).size = 2 := by
    rw [ByteArray.size_extract, ByteArray.size_extract]
    omega
  have e3 : (s.extract k s.size).size = s.size - k := by
    rw [ByteArray.size_extract]
    omega
  rw [e, bnv_hv _ 2 e2 (by decide)]
  have hn := pr_nn s k
  have : hv ((s.extract k s.size).extract 0 2) 2 = pr s k := by
    show (0 * 256 + bt _ 0) * 256 + bt _ 1 = _
    rw [bt_ext _ 0 2 0 (by decide) (by omega), bt_ext _ 0 2 1 (by decide) (by omega), ← pr_ext s k h]
    show (0 * 256 + bt (s.extract k s.size) 0) * 256 + bt (s.extract k s.size) 1 = 256 * bt (s.extract k s.size) 0 + bt (s.extract k s.size) 1
    omega
  rw [this, cv_u16]
  omega
theorem yo_256 (x y : Int) (hx : 0 ≤ x ∧ x < 256) (hy : 0 ≤ y ∧ y < 256) : yo (256 * x) y = 256 * x + y := by
  obtain ⟨m, rfl⟩ := Int.eq_ofNat_of_zero_le hx.1
  obtain ⟨n, rfl⟩ := Int.eq_ofNat_of_zero_le hy.1
  have hm : m < 256 := by omega
  have hn : n < 256 := by omega
  have e1 : BitVec.ofInt 16 (256 * (m : Int)) = BitVec.ofNat 16 (256 * m) := by
    rw [show (256 * (m : Int)) = ((256 * m : Nat) : Int) by omega]
    rfl
  have e2 : BitVec.ofInt 16 (n : Int) = BitVec.ofNat 16 n := rfl
  unfold yo
  rw [e1, e2, BitVec.toNat_or, BitVec.toNat_ofNat, BitVec.toNat_ofNat, Nat.mod_eq_of_lt (by omega), Nat.mod_eq_of_lt (by omega)]
  have h3 := Nat.shiftLeft_add_eq_or_of_lt (i := 8) (b := n) hn m
  rw [Nat.shiftLeft_eq, Nat.mul_comm] at h3
  have h4 : 2 ^ 8 * m ||| n = 256 * m + n := h3.symm
  rw [show 256 * m ||| n = 256 * m + n from h4, IntKind.wrap_u16]
  omega
def eP (v : Bool) : Int := if v = true then 58 else 1
def kO (p : Int) (r : Bool) : Int := if p = 1 then (if r = true then 0 else 8) else (if r = true then 129 else 128)
def ec (p k : Int) : Bool := decide (k = kO p false) || decide (k = kO p true)
theorem kO_nn (p : Int) (r : Bool) : 0 ≤ kO p r ∧ kO p r < 256 := by
  unfold kO
  split <;> split <;> decide
theorem eP_nn (v : Bool) : 0 ≤ eP v ∧ eP v < 256 := by
  cases v <;> decide
def hdO (p : Int) (s : ByteArray) : Int := if p = 17 then 8 else if p = 6 then bt s 12 / 16 * 4 else if p = 1 then 8 else if p = 58 then 8 else 0
set_option maxRecDepth 100000 in
set_option maxHeartbeats 4000000 in
set_option linter.unusedSimpArgs false in
theorem c_sumOf (v0 : Bool) (h0 l0 : Int) (v1 : Bool) (h1 l1 p t : Int) (s : ByteArray) (hs : s.size ≤ 9000) (hp : 0 ≤ p ∧ p < 256) (w : World) (hL : Laid w)  :
    Calls Try.prog 27 #[.agg (av 9 (ls [.bool (v0), .int .u64 h0, .int .u64 l0, .bool (v1), .int .u64 h1, .int .u64 l1, .int .u8 p, .int .u8 t, .string s]))] w fun r w' => r = .returned (.int .u16 (sO v0 h0 l0 v1 h1 l1 p s)) ∧ Below w.heap.size w w' := by
  go_enter Try.func27, Try.ntmps27
  have M := Mem.start hL
  have ha0 := aB_le v0 h0 l0
  have ha1 := aB_le v1 h1 l1
  have hd0 := dB_le v0 h0 l0
  have hd1 := dB_le v1 h1 l1
  refine wp_seq ?_
  refine rg_lit ?_
  refine pl_new M (want_no rfl) (some 1) rfl (.cells (av 9 (ls [.bool (v0), .int .u64 h0, .int .u64 l0, .bool (v1), .int .u64 h1, .int .u64 l1, .int .u8 p, .int .u8 t, .string s])) 26) (fun _ => by kernel_rfl) ?_
  intro g1 u1 M
  replace M : Mem ⟨w, []⟩ [⟨g1, .cells (av 9 (ls [.bool (v0), .int .u64 h0, .int .u64 l0, .bool (v1), .int .u64 h1, .int .u64 l1, .int .u8 p, .int .u8 t, .string s])) 26⟩] u1 := M
  refine pl_val (want_no rfl) (some 2) rfl (.int .u16 0) (fun _ => by kernel_rfl) ?_
  refine pl_nil ?_
  refine au_then ?_
  refine wp_seq ?_
  refine wp_seq ?_
  refine rg_lit ?_
  refine pl_val (want_no rfl) (some 3) rfl (.pointer (some ⟨g1, 6, none⟩)) (fun _ => by kernel_rfl) ?_
  refine pl_cell M (want_no rfl) (some 4) rfl 5 _ rfl g1 6 (by kernel_rfl) (.int .u8 p) (fun _ => by kernel_rfl) (fun w M => M.cell 0 rfl (by decide) rfl) ?_
  refine pl_nil ?_
  refine au_then ?_
  refine wp_block ?_
  refine wp_seq ?_
  refine cut_at (I := fun a w' => ∃ (yv1 : Nat → Value) (b_ : Bool), a = ⟨#[.agg (av 9 (ls [.bool (v0), .int .u64 h0, .int .u64 l0, .bool (v1), .int .u64 h1, .int .u64 l1, .int .u8 p, .int .u8 t, .string s])), .pointer (some ⟨g1, 0, none⟩), .int .u16 0, .pointer (some ⟨g1, 6, none⟩), .int .u8 p, .bool (b_), yv1 6, yv1 7, yv1 8, undef, undef, undef, undef, undef, undef, undef, undef, undef, undef, undef, undef, undef, undef, undef, undef, undef, undef, undef, undef, undef, undef, undef, undef, undef], []⟩ ∧ Mem ⟨w, []⟩ [⟨g1, .cells (av 9 (ls [.bool (v0), .int .u64 h0, .int .u64 l0, .bool (v1), .int .u64 h1, .int .u64 l1, .int .u8 p, .int .u8 t, .string s])) 26⟩] w' ∧ ((b_ = true ∧ (p = 6 ∨ p = 17 ∨ p = 58)) ∨ (b_ = false ∧ ¬ (p = 6 ∨ p = 17 ∨ p = 58)))) ?_ ?_
  · skip
    refine wp_seq ?_
    refine rg_lit ?_
    by_cases c0 : p = 6
    · skip
      refine pl_val (want_no rfl) (some 6) rfl (.bool true) (fun w => Eq.trans (b := .ok (.value (.bool (decide (p = 6)))) w) (by kernel_rfl) (by rw [decide_eq_true (c0)])) ?_
      refine pl_val (want_no rfl) (some 5) rfl (.bool true) (fun _ => by kernel_rfl) ?_
      refine pl_nil ?_
      refine au_then ?_
      refine wp_cond_true (by kernel_rfl) ?_
      refine wp_skip ?_
      refine au_then ?_
      exact ⟨fun k_ => ([.bool true, undef, undef] : List Value).getD (k_ - 6) undef, true, by kernel_rfl, M, Or.inl ⟨rfl, by omega⟩⟩
    · skip
      refine pl_val (want_no rfl) (some 6) rfl (.bool false) (fun w => Eq.trans (b := .ok (.value (.bool (decide (p = 6)))) w) (by kernel_rfl) (by rw [decide_eq_false (c0)])) ?_
      refine pl_val (want_no rfl) (some 5) rfl (.bool false) (fun _ => by kernel_rfl) ?_
      refine pl_nil ?_
      refine au_then ?_
      refine wp_cond_false (by kernel_rfl) ?_
      refine wp_seq ?_
      refine rg_lit ?_
      by_cases c1 : p = 17
      · skip
        refine pl_val (want_no rfl) (some 7) rfl (.bool true) (fun w => Eq.trans (b := .ok (.value (.bool (decide (p = 17)))) w) (by kernel_rfl) (by rw [decide_eq_true (c1)])) ?_
        refine pl_val (want_no rfl) (some 5) rfl (.bool true) (fun _ => by kernel_rfl) ?_
        refine pl_nil ?_
        refine au_then ?_
        refine wp_cond_true (by kernel_rfl) ?_
        refine wp_skip ?_
        refine au_then ?_
        exact ⟨fun k_ => ([.bool false, .bool true, undef] : List Value).getD (k_ - 6) undef, true, by kernel_rfl, M, Or.inl ⟨rfl, by omega⟩⟩
      · skip
        refine pl_val (want_no rfl) (some 7) rfl (.bool false) (fun w => Eq.trans (b := .ok (.value (.bool (decide (p = 17)))) w) (by kernel_rfl) (by rw [decide_eq_false (c1)])) ?_
        refine pl_val (want_no rfl) (some 5) rfl (.bool false) (fun _ => by kernel_rfl) ?_
        refine pl_nil ?_
        refine au_then ?_
        refine wp_cond_false (by kernel_rfl) ?_
        refine rg_lit ?_
        by_cases c2 : p = 58
        · skip
          refine pl_val (want_no rfl) (some 8) rfl (.bool true) (fun w => Eq.trans (b := .ok (.value (.bool (decide (p = 58)))) w) (by kernel_rfl) (by rw [decide_eq_true (c2)])) ?_
          refine pl_val (want_no rfl) (some 5) rfl (.bool true) (fun _ => by kernel_rfl) ?_
          refine pl_nil ?_
          refine au_then ?_
          exact ⟨fun k_ => ([.bool false, .bool false, .bool true] : List Value).getD (k_ - 6) undef, true, by kernel_rfl, M, Or.inl ⟨rfl, by omega⟩⟩
        · skip
          refine pl_val (want_no rfl) (some 8) rfl (.bool false) (fun w => Eq.trans (b := .ok (.value (.bool (decide (p = 58)))) w) (by kernel_rfl) (by rw [decide_eq_false (c2)])) ?_
          refine pl_val (want_no rfl) (some 5) rfl (.bool false) (fun _ => by kernel_rfl) ?_
          refine pl_nil ?_
          refine au_then ?_
          exact ⟨fun k_ => ([.bool false, .bool false, .bool false] : List Value).getD (k_ - 6) undef, false, by kernel_rfl, M, Or.inr ⟨rfl, by omega⟩⟩
  · intro a u0 hI
    obtain ⟨yv1, b_, rfl, M, hI⟩ := hI
    rcases hI with ⟨rfl, hX⟩ | ⟨rfl, hX⟩
    · skip
      refine wp_cond_true (by kernel_rfl) ?_
      refine wp_seq ?_
      refine rg_held M [⟨g1, .cells (av 9 (ls [.bool (v0), .int .u64 h0, .int .u64 l0, .bool (v1), .int .u64 h1, .int .u64 l1, .int .u8 p, .int .u8 t, .string s])) 26⟩] 22 rfl (by kernel_rfl) (by kernel_rfl) (fun _ _ d _ _ h => by cases d <;> exact h) ?_
      intro u2 M
      replace M : Mem ⟨w, []⟩ [⟨g1, .cells (av 9 (ls [.bool (v0), .int .u64 h0, .int .u64 l0, .bool (v1), .int .u64 h1, .int .u64 l1, .int .u8 p, .int .u8 t, .string s])) 26⟩] u2 := M
      refine hl_val M 0 rfl (by decide) (by kernel_rfl) (by kernel_rfl) (want_no rfl) (some 9) rfl (.pointer (some ⟨g1, 0, none⟩)) (fun _ _ => by kernel_rfl) ?_
      refine hl_load M 1 rfl (by decide) (by kernel_rfl) (by kernel_rfl) (want_no rfl) (some 10) rfl 24 _ rfl 0 g1 0 (by kernel_rfl) 9 26 (ls [.bool (v0), .int .u64 h0, .int .u64 l0, .bool (v1), .int .u64 h1, .int .u64 l1, .int .u8 p, .int .u8 t, .string s]) rfl 3 (ls [.bool (v0), .int .u64 h0, .int .u64 l0]) (part_ls _ 0 3 _ rfl) (by decide) _ Try.underlying24 rfl inz24 ?_
      refine hl_val M 3 rfl (by decide) (by kernel_rfl) (by kernel_rfl) (want_no rfl) (some 12) rfl (.pointer (some ⟨g1, 3, none⟩)) (fun _ _ => by kernel_rfl) ?_
      refine hl_load M 4 rfl (by decide) (by kernel_rfl) (by kernel_rfl) (want_no rfl) (some 13) rfl 24 _ rfl 0 g1 3 (by kernel_rfl) 9 26 (ls [.bool (v0), .int .u64 h0, .int .u64 l0, .bool (v1), .int .u64 h1, .int .u64 l1, .int .u8 p, .int .u8 t, .string s]) rfl 3 (ls [.bool (v1), .int .u64 h1, .int .u64 l1]) (part_ls _ 3 3 _ rfl) (by decide) _ Try.underlying24 rfl inz24 ?_
      refine hl_val M 7 rfl (by decide) (by kernel_rfl) (by kernel_rfl) (want_no rfl) (some 16) rfl (.pointer (some ⟨g1, 6, none⟩)) (fun _ _ => by kernel_rfl) ?_
      refine hl_cell M 8 rfl (by decide) (by kernel_rfl) (by kernel_rfl) (want_no rfl) (some 17) rfl 5 _ rfl g1 6 (by kernel_rfl) (.int .u8 p) (fun _ => by kernel_rfl) (fun w M => M.cell 0 rfl (by decide) rfl) ?_
      refine hl_val M 12 rfl (by decide) (by kernel_rfl) (by kernel_rfl) (want_no rfl) (some 21) rfl (.pointer (some ⟨g1, 8, none⟩)) (fun _ _ => by kernel_rfl) ?_
      refine hl_cell M 13 rfl (by decide) (by kernel_rfl) (by kernel_rfl) (want_no rfl) (some 22) rfl 9 _ rfl g1 8 (by kernel_rfl) (.string s) (fun _ => by kernel_rfl) (fun w M => M.cell 0 rfl (by decide) rfl) ?_
      refine hl_val M 14 rfl (by decide) (by kernel_rfl) (by kernel_rfl) (want_no rfl) (some 23) rfl (.int .i64 (s.size : Int)) (fun _ _ => by kernel_rfl) ?_
      refine hl_val M 15 rfl (by decide) (by kernel_rfl) (by kernel_rfl) (want_no rfl) (some 24) rfl (.int .u16 (cv .u16 (s.size : Int))) (fun _ _ => by kernel_rfl) ?_
      refine hl_val M 18 rfl (by decide) (by kernel_rfl) (by kernel_rfl) (want_no rfl) (some 27) rfl (.pointer (some ⟨g1, 8, none⟩)) (fun _ _ => by kernel_rfl) ?_
      refine hl_cell M 19 rfl (by decide) (by kernel_rfl) (by kernel_rfl) (want_no rfl) (some 28) rfl 9 _ rfl g1 8 (by kernel_rfl) (.string s) (fun _ => by kernel_rfl) (fun w M => M.cell 0 rfl (by decide) rfl) ?_
      refine hl_name ?_
      intro H hA hB
      have s12 : ∀ (a : Act) (l : Array Bool) (x_18 : Value) (w0 : World), a = ⟨#[.agg (av 9 (ls [.bool (v0), .int .u64 h0, .int .u64 l0, .bool (v1), .int .u64 h1, .int .u64 l1, .int .u8 p, .int .u8 t, .string s])), .pointer (some ⟨g1, 0, none⟩), .int .u16 0, .pointer (some ⟨g1, 6, none⟩), .int .u8 p, .bool true, yv1 6, yv1 7, yv1 8, .pointer (some ⟨g1, 0, none⟩), .agg (av 3 (ls [.bool (v0), .int .u64 h0, .int .u64 l0])), .string (aB v0 h0 l0), .pointer (some ⟨g1, 3, none⟩), .agg (av 3 (ls [.bool (v1), .int .u64 h1, .int .u64 l1])), .string (aB v1 h1 l1), .string ((aB v0 h0 l0) ++ (aB v1 h1 l1)), .pointer (some ⟨g1, 6, none⟩), .int .u8 p, x_18, .string (bs [0, p]), .string (((aB v0 h0 l0) ++ (aB v1 h1 l1)) ++ (bs [0, p])), .pointer (some ⟨g1, 8, none⟩), .string s, .int .i64 (s.size : Int), .int .u16 (cv .u16 (s.size : Int)), .string (be2 (cv .u64 (cv .u16 (s.size : Int)))), .string ((((aB v0 h0 l0) ++ (aB v1 h1 l1)) ++ (bs [0, p])) ++ (be2 (cv .u64 (cv .u16 (s.size : Int))))), .pointer (some ⟨g1, 8, none⟩), .string s, .string (((((aB v0 h0 l0) ++ (aB v1 h1 l1)) ++ (bs [0, p])) ++ (be2 (cv .u64 (cv .u16 (s.size : Int))))) ++ s), .int .u16 (sumS (((((aB v0 h0 l0) ++ (aB v1 h1 l1)) ++ (bs [0, p])) ++ (be2 (cv .u64 (cv .u16 (s.size : Int))))) ++ s)), undef, undef, undef], []⟩ → l = #[true, true, true, true, true, true, true, true, true, true, true, true, true, true, true, true, true, true, true, true, true, true, false] → Mem ⟨w, []⟩ [⟨g1, .cells (av 9 (ls [.bool (v0), .int .u64 h0, .int .u64 l0, .bool (v1), .int .u64 h1, .int .u64 l1, .int .u8 p, .int .u8 t, .string s])) 26⟩] w0 → H 1 l a w0 := by
        intro a l  x_18 u0 ha hl M
        subst ha hl
        refine hB _ _ _ _ ?_
        refine hl_end (by kernel_rfl) (by kernel_rfl) rfl ?_
        refine pl_val (want_no rfl) (some 2) rfl (.int .u16 (sumS (((((aB v0 h0 l0) ++ (aB v1 h1 l1)) ++ (bs [0, p])) ++ (be2 (cv .u64 (cv .u16 (s.size : Int))))) ++ s))) (fun _ => by kernel_rfl) ?_
        refine pl_nil ?_
        refine au_then ?_
        refine au_then ?_
        refine wp_ret ?_
        refine au_block_ret ?_
        refine au_then_ret ?_
        have e0 : (sO v0 h0 l0 v1 h1 l1 p s) = (sumS (((((aB v0 h0 l0) ++ (aB v1 h1 l1)) ++ (bs [0, p])) ++ (be2 (cv .u64 (cv .u16 (s.size : Int))))) ++ s)) := by unfold sO; exact if_pos hX
        exact bodyPost_ret (v := .int .u16 (sumS (((((aB v0 h0 l0) ++ (aB v1 h1 l1)) ++ (bs [0, p])) ++ (be2 (cv .u64 (cv .u16 (s.size : Int))))) ++ s))) (results_tmp1 Try.results27 _ _ _ (by kernel_rfl)) (by kernel_rfl) ⟨by rw [e0], below_grown M.old⟩
      have s11 : ∀ (a : Act) (l : Array Bool) (x_18 : Value) (w0 : World), a = ⟨#[.agg (av 9 (ls [.bool (v0), .int .u64 h0, .int .u64 l0, .bool (v1), .int .u64 h1, .int .u64 l1, .int .u8 p, .int .u8 t, .string s])), .pointer (some ⟨g1, 0, none⟩), .int .u16 0, .pointer (some ⟨g1, 6, none⟩), .int .u8 p, .bool true, yv1 6, yv1 7, yv1 8, .pointer (some ⟨g1, 0, none⟩), .agg (av 3 (ls [.bool (v0), .int .u64 h0, .int .u64 l0])), .string (aB v0 h0 l0), .pointer (some ⟨g1, 3, none⟩), .agg (av 3 (ls [.bool (v1), .int .u64 h1, .int .u64 l1])), .string (aB v1 h1 l1), .string ((aB v0 h0 l0) ++ (aB v1 h1 l1)), .pointer (some ⟨g1, 6, none⟩), .int .u8 p, x_18, .string (bs [0, p]), .string (((aB v0 h0 l0) ++ (aB v1 h1 l1)) ++ (bs [0, p])), .pointer (some ⟨g1, 8, none⟩), .string s, .int .i64 (s.size : Int), .int .u16 (cv .u16 (s.size : Int)), .string (be2 (cv .u64 (cv .u16 (s.size : Int)))), .string ((((aB v0 h0 l0) ++ (aB v1 h1 l1)) ++ (bs [0, p])) ++ (be2 (cv .u64 (cv .u16 (s.size : Int))))), .pointer (some ⟨g1, 8, none⟩), .string s, .string (((((aB v0 h0 l0) ++ (aB v1 h1 l1)) ++ (bs [0, p])) ++ (be2 (cv .u64 (cv .u16 (s.size : Int))))) ++ s), undef, undef, undef, undef], []⟩ → l = #[true, true, true, true, true, true, true, true, true, true, true, true, true, true, true, true, true, true, true, true, true, false, false] → Mem ⟨w, []⟩ [⟨g1, .cells (av 9 (ls [.bool (v0), .int .u64 h0, .int .u64 l0, .bool (v1), .int .u64 h1, .int .u64 l1, .int .u8 p, .int .u8 t, .string s])) 26⟩] w0 → H 2 l a w0 := by
        intro a l  x_18 u0 ha hl M
        subst ha hl
        refine hB _ _ _ _ ?_
        refine hl_one 21 (by decide) (by kernel_rfl) rfl ?_
        refine pl_call M (want_no rfl) (some 30) rfl 49 #[.string (((((aB v0 h0 l0) ++ (aB v1 h1 l1)) ++ (bs [0, p])) ++ (be2 (cv .u64 (cv .u16 (s.size : Int))))) ++ s)] (.int .u16 (sumS (((((aB v0 h0 l0) ++ (aB v1 h1 l1)) ++ (bs [0, p])) ++ (be2 (cv .u64 (cv .u16 (s.size : Int))))) ++ s))) (fun _ => by kernel_rfl) (fun w M => c_Sum (((((aB v0 h0 l0) ++ (aB v1 h1 l1)) ++ (bs [0, p])) ++ (be2 (cv .u64 (cv .u16 (s.size : Int))))) ++ s) (by (try simp only [ByteArray.size_append, ByteArray.size_extract, be2_size, be4_size, be8_size, bs_size, sz_mk, List.size_toArray, List.length_cons, List.length_nil]); omega) w M.laid) ?_
        intro u7 M
        refine pl_nil ?_
        refine au_then ?_
        refine ⟨M, ?_⟩
        exact hA _ _ _ _ (s12 _ _ (x_18) _ (by kernel_rfl) (by kernel_rfl) M)
      have s9 : ∀ (a : Act) (l : Array Bool) (x_18 : Value) (w0 : World), a = ⟨#[.agg (av 9 (ls [.bool (v0), .int .u64 h0, .int .u64 l0, .bool (v1), .int .u64 h1, .int .u64 l1, .int .u8 p, .int .u8 t, .string s])), .pointer (some ⟨g1, 0, none⟩), .int .u16 0, .pointer (some ⟨g1, 6, none⟩), .int .u8 p, .bool true, yv1 6, yv1 7, yv1 8, .pointer (some ⟨g1, 0, none⟩), .agg (av 3 (ls [.bool (v0), .int .u64 h0, .int .u64 l0])), .string (aB v0 h0 l0), .pointer (some ⟨g1, 3, none⟩), .agg (av 3 (ls [.bool (v1), .int .u64 h1, .int .u64 l1])), .string (aB v1 h1 l1), .string ((aB v0 h0 l0) ++ (aB v1 h1 l1)), .pointer (some ⟨g1, 6, none⟩), .int .u8 p, x_18, .string (bs [0, p]), .string (((aB v0 h0 l0) ++ (aB v1 h1 l1)) ++ (bs [0, p])), .pointer (some ⟨g1, 8, none⟩), .string s, .int .i64 (s.size : Int), .int .u16 (cv .u16 (s.size : Int)), undef, undef, .pointer (some ⟨g1, 8, none⟩), .string s, undef, undef, undef, undef, undef], []⟩ → l = #[true, true, true, true, true, true, true, true, true, true, true, true, true, true, true, true, false, false, true, true, false, false, false] → Mem ⟨w, []⟩ [⟨g1, .cells (av 9 (ls [.bool (v0), .int .u64 h0, .int .u64 l0, .bool (v1), .int .u64 h1, .int .u64 l1, .int .u8 p, .int .u8 t, .string s])) 26⟩] w0 → H 5 l a w0 := by
        intro a l  x_18 u0 ha hl M
        subst ha hl
        refine hB _ _ _ _ ?_
        refine hl_one 16 (by decide) (by kernel_rfl) rfl ?_
        refine pl_call M (want_no rfl) (some 25) rfl 31 #[.int .u16 (cv .u16 (s.size : Int))] (.string (be2 (cv .u64 (cv .u16 (s.size : Int))))) (fun _ => by kernel_rfl) (fun w M => c_U16 (cv .u16 (s.size : Int)) w M.laid) ?_
        intro u6 M
        refine pl_nil ?_
        refine au_then ?_
        refine ⟨M, ?_⟩
        refine hl_val M 17 rfl (by decide) (by kernel_rfl) (by kernel_rfl) (want_no rfl) (some 26) rfl (.string ((((aB v0 h0 l0) ++ (aB v1 h1 l1)) ++ (bs [0, p])) ++ (be2 (cv .u64 (cv .u16 (s.size : Int)))))) (fun w _ => (run_cat 9 9 _ _ rfl (((aB v0 h0 l0) ++ (aB v1 h1 l1)) ++ (bs [0, p])) (be2 (cv .u64 (cv .u16 (s.size : Int)))) (by kernel_rfl) (by kernel_rfl) (by (try simp only [ByteArray.size_append, ByteArray.size_extract, be2_size, be4_size, be8_size, bs_size, sz_mk, List.size_toArray, List.length_cons, List.length_nil]); omega)) w) ?_
        refine hl_val M 20 rfl (by decide) (by kernel_rfl) (by kernel_rfl) (want_no rfl) (some 29) rfl (.string (((((aB v0 h0 l0) ++ (aB v1 h1 l1)) ++ (bs [0, p])) ++ (be2 (cv .u64 (cv .u16 (s.size : Int))))) ++ s)) (fun w _ => (run_cat 9 9 _ _ rfl ((((aB v0 h0 l0) ++ (aB v1 h1 l1)) ++ (bs [0, p])) ++ (be2 (cv .u64 (cv .u16 (s.size : Int))))) s (by kernel_rfl) (by kernel_rfl) (by (try simp only [ByteArray.size_append, ByteArray.size_extract, be2_size, be4_size, be8_size, bs_size, sz_mk, List.size_toArray, List.length_cons, List.length_nil]); omega)) w) ?_
        exact hA _ _ _ _ (s11 _ _ (x_18) _ (by kernel_rfl) (by kernel_rfl) M)
      have s10 : ∀ (a : Act) (l : Array Bool) (g2 : Nat) (w0 : World), a = ⟨#[.agg (av 9 (ls [.bool (v0), .int .u64 h0, .int .u64 l0, .bool (v1), .int .u64 h1, .int .u64 l1, .int .u8 p, .int .u8 t, .string s])), .pointer (some ⟨g1, 0, none⟩), .int .u16 0, .pointer (some ⟨g1, 6, none⟩), .int .u8 p, .bool true, yv1 6, yv1 7, yv1 8, .pointer (some ⟨g1, 0, none⟩), .agg (av 3 (ls [.bool (v0), .int .u64 h0, .int .u64 l0])), .string (aB v0 h0 l0), .pointer (some ⟨g1, 3, none⟩), .agg (av 3 (ls [.bool (v1), .int .u64 h1, .int .u64 l1])), .string (aB v1 h1 l1), .string ((aB v0 h0 l0) ++ (aB v1 h1 l1)), .pointer (some ⟨g1, 6, none⟩), .int .u8 p, .slice (some ⟨g2, 0, none⟩) 2 2, undef, undef, .pointer (some ⟨g1, 8, none⟩), .string s, .int .i64 (s.size : Int), .int .u16 (cv .u16 (s.size : Int)), .string (be2 (cv .u64 (cv .u16 (s.size : Int)))), undef, .pointer (some ⟨g1, 8, none⟩), .string s, undef, undef, undef, undef, undef], []⟩ → l = #[true, true, true, true, true, true, true, true, true, true, false, false, true, true, true, true, true, false, true, true, false, false, false] → Mem ⟨w, []⟩ [⟨g1, .cells (av 9 (ls [.bool (v0), .int .u64 h0, .int .u64 l0, .bool (v1), .int .u64 h1, .int .u64 l1, .int .u8 p, .int .u8 t, .string s])) 26⟩, ⟨g2, .cells (av 2 (ls [.int .u8 0, .int .u8 p])) 5⟩] w0 → H 6 l a w0 := by
        intro a l g2  u0 ha hl M
        subst ha hl
        refine hB _ _ _ _ ?_
        refine hl_one 10 (by decide) (by kernel_rfl) rfl ?_
        refine pl_back M (want_no rfl) (some 19) rfl _ rfl 1 g2 2 2 (by kernel_rfl) _ rfl [0, p] 2 (sb_ls [0, p] _) rfl (by intro x hx; simp only [List.mem_cons, List.mem_nil_iff, or_false] at hx; rcases hx with rfl | rfl <;> omega) ?_
        refine pl_nil ?_
        refine au_then ?_
        refine ⟨(M.drop (.cons_cons _ (.cons _ (.slnil)))), ?_⟩
        refine hl_val (M.drop (.cons_cons _ (.cons _ (.slnil)))) 11 rfl (by decide) (by kernel_rfl) (by kernel_rfl) (want_no rfl) (some 20) rfl (.string (((aB v0 h0 l0) ++ (aB v1 h1 l1)) ++ (bs [0, p]))) (fun w _ => (run_cat 9 9 _ _ rfl ((aB v0 h0 l0) ++ (aB v1 h1 l1)) (bs [0, p]) (by kernel_rfl) (by kernel_rfl) (by (try simp only [ByteArray.size_append, ByteArray.size_extract, be2_size, be4_size, be8_size, bs_size, sz_mk, List.size_toArray, List.length_cons, List.length_nil]); omega)) w) ?_
        refine hl_val (M.drop (.cons_cons _ (.cons _ (.slnil)))) 17 rfl (by decide) (by kernel_rfl) (by kernel_rfl) (want_no rfl) (some 26) rfl (.string ((((aB v0 h0 l0) ++ (aB v1 h1 l1)) ++ (bs [0, p])) ++ (be2 (cv .u64 (cv .u16 (s.size : Int)))))) (fun w _ => (run_cat 9 9 _ _ rfl (((aB v0 h0 l0) ++ (aB v1 h1 l1)) ++ (bs [0, p])) (be2 (cv .u64 (cv .u16 (s.size : Int)))) (by kernel_rfl) (by kernel_rfl) (by (try simp only [ByteArray.size_append, ByteArray.size_extract, be2_size, be4_size, be8_size, bs_size, sz_mk, List.size_toArray, List.length_cons, List.length_nil]); omega)) w) ?_
        refine hl_val (M.drop (.cons_cons _ (.cons _ (.slnil)))) 20 rfl (by decide) (by kernel_rfl) (by kernel_rfl) (want_no rfl) (some 29) rfl (.string (((((aB v0 h0 l0) ++ (aB v1 h1 l1)) ++ (bs [0, p])) ++ (be2 (cv .u64 (cv .u16 (s.size : Int))))) ++ s)) (fun w _ => (run_cat 9 9 _ _ rfl ((((aB v0 h0 l0) ++ (aB v1 h1 l1)) ++ (bs [0, p])) ++ (be2 (cv .u64 (cv .u16 (s.size : Int))))) s (by kernel_rfl) (by kernel_rfl) (by (try simp only [ByteArray.size_append, ByteArray.size_extract, be2_size, be4_size, be8_size, bs_size, sz_mk, List.size_toArray, List.length_cons, List.length_nil]); omega)) w) ?_
        exact hA _ _ _ _ (s11 _ _ (.slice (some ⟨g2, 0, none⟩) 2 2) _ (by kernel_rfl) (by kernel_rfl) (M.drop (.cons_cons _ (.cons _ (.slnil)))))
      have s6 : ∀ (a : Act) (l : Array Bool) (g2 : Nat) (w0 : World), a = ⟨#[.agg (av 9 (ls [.bool (v0), .int .u64 h0, .int .u64 l0, .bool (v1), .int .u64 h1, .int .u64 l1, .int .u8 p, .int .u8 t, .string s])), .pointer (some ⟨g1, 0, none⟩), .int .u16 0, .pointer (some ⟨g1, 6, none⟩), .int .u8 p, .bool true, yv1 6, yv1 7, yv1 8, .pointer (some ⟨g1, 0, none⟩), .agg (av 3 (ls [.bool (v0), .int .u64 h0, .int .u64 l0])), .string (aB v0 h0 l0), .pointer (some ⟨g1, 3, none⟩), .agg (av 3 (ls [.bool (v1), .int .u64 h1, .int .u64 l1])), .string (aB v1 h1 l1), .string ((aB v0 h0 l0) ++ (aB v1 h1 l1)), .pointer (some ⟨g1, 6, none⟩), .int .u8 p, .slice (some ⟨g2, 0, none⟩) 2 2, undef, undef, .pointer (some ⟨g1, 8, none⟩), .string s, .int .i64 (s.size : Int), .int .u16 (cv .u16 (s.size : Int)), undef, undef, .pointer (some ⟨g1, 8, none⟩), .string s, undef, undef, undef, undef, undef], []⟩ → l = #[true, true, true, true, true, true, true, true, true, true, false, false, true, true, true, true, false, false, true, true, false, false, false] → Mem ⟨w, []⟩ [⟨g1, .cells (av 9 (ls [.bool (v0), .int .u64 h0, .int .u64 l0, .bool (v1), .int .u64 h1, .int .u64 l1, .int .u8 p, .int .u8 t, .string s])) 26⟩, ⟨g2, .cells (av 2 (ls [.int .u8 0, .int .u8 p])) 5⟩] w0 → H 7 l a w0 := by
        intro a l g2  u0 ha hl M
        subst ha hl
        refine hB _ _ _ _ ?_
        refine hl_two 10 16 (by decide) (by decide) (by kernel_rfl) rfl rfl ?_ ?_
        · skip
          refine pl_back M (want_no rfl) (some 19) rfl _ rfl 1 g2 2 2 (by kernel_rfl) _ rfl [0, p] 2 (sb_ls [0, p] _) rfl (by intro x hx; simp only [List.mem_cons, List.mem_nil_iff, or_false] at hx; rcases hx with rfl | rfl <;> omega) ?_
          refine pl_nil ?_
          refine au_then ?_
          refine ⟨(M.drop (.cons_cons _ (.cons _ (.slnil)))), ?_⟩
          refine hl_val (M.drop (.cons_cons _ (.cons _ (.slnil)))) 11 rfl (by decide) (by kernel_rfl) (by kernel_rfl) (want_no rfl) (some 20) rfl (.string (((aB v0 h0 l0) ++ (aB v1 h1 l1)) ++ (bs [0, p]))) (fun w _ => (run_cat 9 9 _ _ rfl ((aB v0 h0 l0) ++ (aB v1 h1 l1)) (bs [0, p]) (by kernel_rfl) (by kernel_rfl) (by (try simp only [ByteArray.size_append, ByteArray.size_extract, be2_size, be4_size, be8_size, bs_size, sz_mk, List.size_toArray, List.length_cons, List.length_nil]); omega)) w) ?_
          exact hA _ _ _ _ (s9 _ _ (.slice (some ⟨g2, 0, none⟩) 2 2) _ (by kernel_rfl) (by kernel_rfl) (M.drop (.cons_cons _ (.cons _ (.slnil)))))
        · skip
          refine pl_call M (want_no rfl) (some 25) rfl 31 #[.int .u16 (cv .u16 (s.size : Int))] (.string (be2 (cv .u64 (cv .u16 (s.size : Int))))) (fun _ => by kernel_rfl) (fun w M => c_U16 (cv .u16 (s.size : Int)) w M.laid) ?_
          intro u6 M
          refine pl_nil ?_
          refine au_then ?_
          refine ⟨(M.drop (.cons_cons _ (.cons _ (.slnil)))), ?_⟩
          exact hA _ _ _ _ (s10 _ _ g2 _ (by kernel_rfl) (by kernel_rfl) M)
      have s7 : ∀ (a : Act) (l : Array Bool) (w0 : World), a = ⟨#[.agg (av 9 (ls [.bool (v0), .int .u64 h0, .int .u64 l0, .bool (v1), .int .u64 h1, .int .u64 l1, .int .u8 p, .int .u8 t, .string s])), .pointer (some ⟨g1, 0, none⟩), .int .u16 0, .pointer (some ⟨g1, 6, none⟩), .int .u8 p, .bool true, yv1 6, yv1 7, yv1 8, .pointer (some ⟨g1, 0, none⟩), .agg (av 3 (ls [.bool (v0), .int .u64 h0, .int .u64 l0])), .string (aB v0 h0 l0), .pointer (some ⟨g1, 3, none⟩), .agg (av 3 (ls [.bool (v1), .int .u64 h1, .int .u64 l1])), .string (aB v1 h1 l1), .string ((aB v0 h0 l0) ++ (aB v1 h1 l1)), .pointer (some ⟨g1, 6, none⟩), .int .u8 p, undef, undef, undef, .pointer (some ⟨g1, 8, none⟩), .string s, .int .i64 (s.size : Int), .int .u16 (cv .u16 (s.size : Int)), .string (be2 (cv .u64 (cv .u16 (s.size : Int)))), undef, .pointer (some ⟨g1, 8, none⟩), .string s, undef, undef, undef, undef, undef], []⟩ → l = #[true, true, true, true, true, true, true, true, true, false, false, false, true, true, true, true, true, false, true, true, false, false, false] → Mem ⟨w, []⟩ [⟨g1, .cells (av 9 (ls [.bool (v0), .int .u64 h0, .int .u64 l0, .bool (v1), .int .u64 h1, .int .u64 l1, .int .u8 p, .int .u8 t, .string s])) 26⟩] w0 → H 7 l a w0 := by
        intro a l   u0 ha hl M
        subst ha hl
        refine hB _ _ _ _ ?_
        refine hl_one 9 (by decide) (by kernel_rfl) rfl ?_
        refine pl_mk M (want_no rfl) (some 18) rfl (fun g2 => .slice (some ⟨g2, 0, none⟩) 2 2) (.cells (av 2 (ls [.int .u8 0, .int .u8 p])) 5) (fun _ => by kernel_rfl) ?_
        intro g2 u6 M
        replace M : Mem ⟨w, []⟩ [⟨g1, .cells (av 9 (ls [.bool (v0), .int .u64 h0, .int .u64 l0, .bool (v1), .int .u64 h1, .int .u64 l1, .int .u8 p, .int .u8 t, .string s])) 26⟩, ⟨g2, .cells (av 2 (ls [.int .u8 0, .int .u8 p])) 5⟩] u6 := M
        refine pl_nil ?_
        refine au_then ?_
        refine ⟨(M.drop (.cons_cons _ (.cons _ (.slnil)))), ?_⟩
        exact hA _ _ _ _ (s10 _ _ g2 _ (by kernel_rfl) (by kernel_rfl) M)
      have s3 : ∀ (a : Act) (l : Array Bool) (w0 : World), a = ⟨#[.agg (av 9 (ls [.bool (v0), .int .u64 h0, .int .u64 l0, .bool (v1), .int .u64 h1, .int .u64 l1, .int .u8 p, .int .u8 t, .string s])), .pointer (some ⟨g1, 0, none⟩), .int .u16 0, .pointer (some ⟨g1, 6, none⟩), .int .u8 p, .bool true, yv1 6, yv1 7, yv1 8, .pointer (some ⟨g1, 0, none⟩), .agg (av 3 (ls [.bool (v0), .int .u64 h0, .int .u64 l0])), .string (aB v0 h0 l0), .pointer (some ⟨g1, 3, none⟩), .agg (av 3 (ls [.bool (v1), .int .u64 h1, .int .u64 l1])), .string (aB v1 h1 l1), .string ((aB v0 h0 l0) ++ (aB v1 h1 l1)), .pointer (some ⟨g1, 6, none⟩), .int .u8 p, undef, undef, undef, .pointer (some ⟨g1, 8, none⟩), .string s, .int .i64 (s.size : Int), .int .u16 (cv .u16 (s.size : Int)), undef, undef, .pointer (some ⟨g1, 8, none⟩), .string s, undef, undef, undef, undef, undef], []⟩ → l = #[true, true, true, true, true, true, true, true, true, false, false, false, true, true, true, true, false, false, true, true, false, false, false] → Mem ⟨w, []⟩ [⟨g1, .cells (av 9 (ls [.bool (v0), .int .u64 h0, .int .u64 l0, .bool (v1), .int .u64 h1, .int .u64 l1, .int .u8 p, .int .u8 t, .string s])) 26⟩] w0 → H 8 l a w0 := by
        intro a l   u0 ha hl M
        subst ha hl
        refine hB _ _ _ _ ?_
        refine hl_two 9 16 (by decide) (by decide) (by kernel_rfl) rfl rfl ?_ ?_
        · skip
          refine pl_mk M (want_no rfl) (some 18) rfl (fun g2 => .slice (some ⟨g2, 0, none⟩) 2 2) (.cells (av 2 (ls [.int .u8 0, .int .u8 p])) 5) (fun _ => by kernel_rfl) ?_
          intro g2 u5 M
          replace M : Mem ⟨w, []⟩ [⟨g1, .cells (av 9 (ls [.bool (v0), .int .u64 h0, .int .u64 l0, .bool (v1), .int .u64 h1, .int .u64 l1, .int .u8 p, .int .u8 t, .string s])) 26⟩, ⟨g2, .cells (av 2 (ls [.int .u8 0, .int .u8 p])) 5⟩] u5 := M
          refine pl_nil ?_
          refine au_then ?_
          refine ⟨(M.drop (.cons_cons _ (.cons _ (.slnil)))), ?_⟩
          exact hA _ _ _ _ (s6 _ _ g2 _ (by kernel_rfl) (by kernel_rfl) M)
        · skip
          refine pl_call M (want_no rfl) (some 25) rfl 31 #[.int .u16 (cv .u16 (s.size : Int))] (.string (be2 (cv .u64 (cv .u16 (s.size : Int))))) (fun _ => by kernel_rfl) (fun w M => c_U16 (cv .u16 (s.size : Int)) w M.laid) ?_
          intro u5 M
          refine pl_nil ?_
          refine au_then ?_
          refine ⟨M, ?_⟩
          exact hA _ _ _ _ (s7 _ _  _ (by kernel_rfl) (by kernel_rfl) M)
      have s8 : ∀ (a : Act) (l : Array Bool) (x_18 : Value) (w0 : World), a = ⟨#[.agg (av 9 (ls [.bool (v0), .int .u64 h0, .int .u64 l0, .bool (v1), .int .u64 h1, .int .u64 l1, .int .u8 p, .int .u8 t, .string s])), .pointer (some ⟨g1, 0, none⟩), .int .u16 0, .pointer (some ⟨g1, 6, none⟩), .int .u8 p, .bool true, yv1 6, yv1 7, yv1 8, .pointer (some ⟨g1, 0, none⟩), .agg (av 3 (ls [.bool (v0), .int .u64 h0, .int .u64 l0])), .string (aB v0 h0 l0), .pointer (some ⟨g1, 3, none⟩), .agg (av 3 (ls [.bool (v1), .int .u64 h1, .int .u64 l1])), undef, undef, .pointer (some ⟨g1, 6, none⟩), .int .u8 p, x_18, .string (bs [0, p]), undef, .pointer (some ⟨g1, 8, none⟩), .string s, .int .i64 (s.size : Int), .int .u16 (cv .u16 (s.size : Int)), undef, undef, .pointer (some ⟨g1, 8, none⟩), .string s, undef, undef, undef, undef, undef], []⟩ → l = #[true, true, true, true, true, false, false, true, true, true, true, false, true, true, true, true, false, false, true, true, false, false, false] → Mem ⟨w, []⟩ [⟨g1, .cells (av 9 (ls [.bool (v0), .int .u64 h0, .int .u64 l0, .bool (v1), .int .u64 h1, .int .u64 l1, .int .u8 p, .int .u8 t, .string s])) 26⟩] w0 → H 8 l a w0 := by
        intro a l  x_18 u0 ha hl M
        subst ha hl
        refine hB _ _ _ _ ?_
        refine hl_one 5 (by decide) (by kernel_rfl) rfl ?_
        refine pl_call M (want_no rfl) (some 14) rfl 50 #[.agg (av 3 (ls [.bool (v1), .int .u64 h1, .int .u64 l1]))] (.string (aB v1 h1 l1)) (fun _ => by kernel_rfl) (fun w M => c_addrBytes v1 h1 l1 w M.laid) ?_
        intro u5 M
        refine pl_nil ?_
        refine au_then ?_
        refine ⟨M, ?_⟩
        refine hl_val M 6 rfl (by decide) (by kernel_rfl) (by kernel_rfl) (want_no rfl) (some 15) rfl (.string ((aB v0 h0 l0) ++ (aB v1 h1 l1))) (fun w _ => (run_cat 9 9 _ _ rfl (aB v0 h0 l0) (aB v1 h1 l1) (by kernel_rfl) (by kernel_rfl) (by (try simp only [ByteArray.size_append, ByteArray.size_extract, be2_size, be4_size, be8_size, bs_size, sz_mk, List.size_toArray, List.length_cons, List.length_nil]); omega)) w) ?_
        refine hl_val M 11 rfl (by decide) (by kernel_rfl) (by kernel_rfl) (want_no rfl) (some 20) rfl (.string (((aB v0 h0 l0) ++ (aB v1 h1 l1)) ++ (bs [0, p]))) (fun w _ => (run_cat 9 9 _ _ rfl ((aB v0 h0 l0) ++ (aB v1 h1 l1)) (bs [0, p]) (by kernel_rfl) (by kernel_rfl) (by (try simp only [ByteArray.size_append, ByteArray.size_extract, be2_size, be4_size, be8_size, bs_size, sz_mk, List.size_toArray, List.length_cons, List.length_nil]); omega)) w) ?_
        exact hA _ _ _ _ (s9 _ _ (x_18) _ (by kernel_rfl) (by kernel_rfl) M)
      have s4 : ∀ (a : Act) (l : Array Bool) (g2 : Nat) (w0 : World), a = ⟨#[.agg (av 9 (ls [.bool (v0), .int .u64 h0, .int .u64 l0, .bool (v1), .int .u64 h1, .int .u64 l1, .int .u8 p, .int .u8 t, .string s])), .pointer (some ⟨g1, 0, none⟩), .int .u16 0, .pointer (some ⟨g1, 6, none⟩), .int .u8 p, .bool true, yv1 6, yv1 7, yv1 8, .pointer (some ⟨g1, 0, none⟩), .agg (av 3 (ls [.bool (v0), .int .u64 h0, .int .u64 l0])), .string (aB v0 h0 l0), .pointer (some ⟨g1, 3, none⟩), .agg (av 3 (ls [.bool (v1), .int .u64 h1, .int .u64 l1])), undef, undef, .pointer (some ⟨g1, 6, none⟩), .int .u8 p, .slice (some ⟨g2, 0, none⟩) 2 2, undef, undef, .pointer (some ⟨g1, 8, none⟩), .string s, .int .i64 (s.size : Int), .int .u16 (cv .u16 (s.size : Int)), undef, undef, .pointer (some ⟨g1, 8, none⟩), .string s, undef, undef, undef, undef, undef], []⟩ → l = #[true, true, true, true, true, false, false, true, true, true, false, false, true, true, true, true, false, false, true, true, false, false, false] → Mem ⟨w, []⟩ [⟨g1, .cells (av 9 (ls [.bool (v0), .int .u64 h0, .int .u64 l0, .bool (v1), .int .u64 h1, .int .u64 l1, .int .u8 p, .int .u8 t, .string s])) 26⟩, ⟨g2, .cells (av 2 (ls [.int .u8 0, .int .u8 p])) 5⟩] w0 → H 9 l a w0 := by
        intro a l g2  u0 ha hl M
        subst ha hl
        refine hB _ _ _ _ ?_
        refine hl_two 5 10 (by decide) (by decide) (by kernel_rfl) rfl rfl ?_ ?_
        · skip
          refine pl_call M (want_no rfl) (some 14) rfl 50 #[.agg (av 3 (ls [.bool (v1), .int .u64 h1, .int .u64 l1]))] (.string (aB v1 h1 l1)) (fun _ => by kernel_rfl) (fun w M => c_addrBytes v1 h1 l1 w M.laid) ?_
          intro u5 M
          refine pl_nil ?_
          refine au_then ?_
          refine ⟨(M.drop (.cons_cons _ (.cons _ (.slnil)))), ?_⟩
          refine hl_val (M.drop (.cons_cons _ (.cons _ (.slnil)))) 6 rfl (by decide) (by kernel_rfl) (by kernel_rfl) (want_no rfl) (some 15) rfl (.string ((aB v0 h0 l0) ++ (aB v1 h1 l1))) (fun w _ => (run_cat 9 9 _ _ rfl (aB v0 h0 l0) (aB v1 h1 l1) (by kernel_rfl) (by kernel_rfl) (by (try simp only [ByteArray.size_append, ByteArray.size_extract, be2_size, be4_size, be8_size, bs_size, sz_mk, List.size_toArray, List.length_cons, List.length_nil]); omega)) w) ?_
          exact hA _ _ _ _ (s6 _ _ g2 _ (by kernel_rfl) (by kernel_rfl) M)
        · skip
          refine pl_back M (want_no rfl) (some 19) rfl _ rfl 1 g2 2 2 (by kernel_rfl) _ rfl [0, p] 2 (sb_ls [0, p] _) rfl (by intro x hx; simp only [List.mem_cons, List.mem_nil_iff, or_false] at hx; rcases hx with rfl | rfl <;> omega) ?_
          refine pl_nil ?_
          refine au_then ?_
          refine ⟨(M.drop (.cons_cons _ (.cons _ (.slnil)))), ?_⟩
          exact hA _ _ _ _ (s8 _ _ (.slice (some ⟨g2, 0, none⟩) 2 2) _ (by kernel_rfl) (by kernel_rfl) (M.drop (.cons_cons _ (.cons _ (.slnil)))))
      have s5 : ∀ (a : Act) (l : Array Bool) (x_18 : Value) (w0 : World), a = ⟨#[.agg (av 9 (ls [.bool (v0), .int .u64 h0, .int .u64 l0, .bool (v1), .int .u64 h1, .int .u64 l1, .int .u8 p, .int .u8 t, .string s])), .pointer (some ⟨g1, 0, none⟩), .int .u16 0, .pointer (some ⟨g1, 6, none⟩), .int .u8 p, .bool true, yv1 6, yv1 7, yv1 8, .pointer (some ⟨g1, 0, none⟩), .agg (av 3 (ls [.bool (v0), .int .u64 h0, .int .u64 l0])), undef, .pointer (some ⟨g1, 3, none⟩), .agg (av 3 (ls [.bool (v1), .int .u64 h1, .int .u64 l1])), undef, undef, .pointer (some ⟨g1, 6, none⟩), .int .u8 p, x_18, .string (bs [0, p]), undef, .pointer (some ⟨g1, 8, none⟩), .string s, .int .i64 (s.size : Int), .int .u16 (cv .u16 (s.size : Int)), undef, undef, .pointer (some ⟨g1, 8, none⟩), .string s, undef, undef, undef, undef, undef], []⟩ → l = #[true, true, false, true, true, false, false, true, true, true, true, false, true, true, true, true, false, false, true, true, false, false, false] → Mem ⟨w, []⟩ [⟨g1, .cells (av 9 (ls [.bool (v0), .int .u64 h0, .int .u64 l0, .bool (v1), .int .u64 h1, .int .u64 l1, .int .u8 p, .int .u8 t, .string s])) 26⟩] w0 → H 9 l a w0 := by
        intro a l  x_18 u0 ha hl M
        subst ha hl
        refine hB _ _ _ _ ?_
        refine hl_one 2 (by decide) (by kernel_rfl) rfl ?_
        refine pl_call M (want_no rfl) (some 11) rfl 50 #[.agg (av 3 (ls [.bool (v0), .int .u64 h0, .int .u64 l0]))] (.string (aB v0 h0 l0)) (fun _ => by kernel_rfl) (fun w M => c_addrBytes v0 h0 l0 w M.laid) ?_
        intro u4 M
        refine pl_nil ?_
        refine au_then ?_
        refine ⟨M, ?_⟩
        exact hA _ _ _ _ (s8 _ _ (x_18) _ (by kernel_rfl) (by kernel_rfl) M)
      have s1 : ∀ (a : Act) (l : Array Bool) (w0 : World), a = ⟨#[.agg (av 9 (ls [.bool (v0), .int .u64 h0, .int .u64 l0, .bool (v1), .int .u64 h1, .int .u64 l1, .int .u8 p, .int .u8 t, .string s])), .pointer (some ⟨g1, 0, none⟩), .int .u16 0, .pointer (some ⟨g1, 6, none⟩), .int .u8 p, .bool true, yv1 6, yv1 7, yv1 8, .pointer (some ⟨g1, 0, none⟩), .agg (av 3 (ls [.bool (v0), .int .u64 h0, .int .u64 l0])), .string (aB v0 h0 l0), .pointer (some ⟨g1, 3, none⟩), .agg (av 3 (ls [.bool (v1), .int .u64 h1, .int .u64 l1])), undef, undef, .pointer (some ⟨g1, 6, none⟩), .int .u8 p, undef, undef, undef, .pointer (some ⟨g1, 8, none⟩), .string s, .int .i64 (s.size : Int), .int .u16 (cv .u16 (s.size : Int)), undef, undef, .pointer (some ⟨g1, 8, none⟩), .string s, undef, undef, undef, undef, undef], []⟩ → l = #[true, true, true, true, true, false, false, true, true, false, false, false, true, true, true, true, false, false, true, true, false, false, false] → Mem ⟨w, []⟩ [⟨g1, .cells (av 9 (ls [.bool (v0), .int .u64 h0, .int .u64 l0, .bool (v1), .int .u64 h1, .int .u64 l1, .int .u8 p, .int .u8 t, .string s])) 26⟩] w0 → H 10 l a w0 := by
        intro a l   u0 ha hl M
        subst ha hl
        refine hB _ _ _ _ ?_
        refine hl_two 5 9 (by decide) (by decide) (by kernel_rfl) rfl rfl ?_ ?_
        · skip
          refine pl_call M (want_no rfl) (some 14) rfl 50 #[.agg (av 3 (ls [.bool (v1), .int .u64 h1, .int .u64 l1]))] (.string (aB v1 h1 l1)) (fun _ => by kernel_rfl) (fun w M => c_addrBytes v1 h1 l1 w M.laid) ?_
          intro u4 M
          refine pl_nil ?_
          refine au_then ?_
          refine ⟨M, ?_⟩
          refine hl_val M 6 rfl (by decide) (by kernel_rfl) (by kernel_rfl) (want_no rfl) (some 15) rfl (.string ((aB v0 h0 l0) ++ (aB v1 h1 l1))) (fun w _ => (run_cat 9 9 _ _ rfl (aB v0 h0 l0) (aB v1 h1 l1) (by kernel_rfl) (by kernel_rfl) (by (try simp only [ByteArray.size_append, ByteArray.size_extract, be2_size, be4_size, be8_size, bs_size, sz_mk, List.size_toArray, List.length_cons, List.length_nil]); omega)) w) ?_
          exact hA _ _ _ _ (s3 _ _  _ (by kernel_rfl) (by kernel_rfl) M)
        · skip
          refine pl_mk M (want_no rfl) (some 18) rfl (fun g2 => .slice (some ⟨g2, 0, none⟩) 2 2) (.cells (av 2 (ls [.int .u8 0, .int .u8 p])) 5) (fun _ => by kernel_rfl) ?_
          intro g2 u4 M
          replace M : Mem ⟨w, []⟩ [⟨g1, .cells (av 9 (ls [.bool (v0), .int .u64 h0, .int .u64 l0, .bool (v1), .int .u64 h1, .int .u64 l1, .int .u8 p, .int .u8 t, .string s])) 26⟩, ⟨g2, .cells (av 2 (ls [.int .u8 0, .int .u8 p])) 5⟩] u4 := M
          refine pl_nil ?_
          refine au_then ?_
          refine ⟨(M.drop (.cons_cons _ (.cons _ (.slnil)))), ?_⟩
          exact hA _ _ _ _ (s4 _ _ g2 _ (by kernel_rfl) (by kernel_rfl) M)
      have s2 : ∀ (a : Act) (l : Array Bool) (g2 : Nat) (w0 : World), a = ⟨#[.agg (av 9 (ls [.bool (v0), .int .u64 h0, .int .u64 l0, .bool (v1), .int .u64 h1, .int .u64 l1, .int .u8 p, .int .u8 t, .string s])), .pointer (some ⟨g1, 0, none⟩), .int .u16 0, .pointer (some ⟨g1, 6, none⟩), .int .u8 p, .bool true, yv1 6, yv1 7, yv1 8, .pointer (some ⟨g1, 0, none⟩), .agg (av 3 (ls [.bool (v0), .int .u64 h0, .int .u64 l0])), undef, .pointer (some ⟨g1, 3, none⟩), .agg (av 3 (ls [.bool (v1), .int .u64 h1, .int .u64 l1])), undef, undef, .pointer (some ⟨g1, 6, none⟩), .int .u8 p, .slice (some ⟨g2, 0, none⟩) 2 2, undef, undef, .pointer (some ⟨g1, 8, none⟩), .string s, .int .i64 (s.size : Int), .int .u16 (cv .u16 (s.size : Int)), undef, undef, .pointer (some ⟨g1, 8, none⟩), .string s, undef, undef, undef, undef, undef], []⟩ → l = #[true, true, false, true, true, false, false, true, true, true, false, false, true, true, true, true, false, false, true, true, false, false, false] → Mem ⟨w, []⟩ [⟨g1, .cells (av 9 (ls [.bool (v0), .int .u64 h0, .int .u64 l0, .bool (v1), .int .u64 h1, .int .u64 l1, .int .u8 p, .int .u8 t, .string s])) 26⟩, ⟨g2, .cells (av 2 (ls [.int .u8 0, .int .u8 p])) 5⟩] w0 → H 10 l a w0 := by
        intro a l g2  u0 ha hl M
        subst ha hl
        refine hB _ _ _ _ ?_
        refine hl_two 2 10 (by decide) (by decide) (by kernel_rfl) rfl rfl ?_ ?_
        · skip
          refine pl_call M (want_no rfl) (some 11) rfl 50 #[.agg (av 3 (ls [.bool (v0), .int .u64 h0, .int .u64 l0]))] (.string (aB v0 h0 l0)) (fun _ => by kernel_rfl) (fun w M => c_addrBytes v0 h0 l0 w M.laid) ?_
          intro u4 M
          refine pl_nil ?_
          refine au_then ?_
          refine ⟨(M.drop (.cons_cons _ (.cons _ (.slnil)))), ?_⟩
          exact hA _ _ _ _ (s4 _ _ g2 _ (by kernel_rfl) (by kernel_rfl) M)
        · skip
          refine pl_back M (want_no rfl) (some 19) rfl _ rfl 1 g2 2 2 (by kernel_rfl) _ rfl [0, p] 2 (sb_ls [0, p] _) rfl (by intro x hx; simp only [List.mem_cons, List.mem_nil_iff, or_false] at hx; rcases hx with rfl | rfl <;> omega) ?_
          refine pl_nil ?_
          refine au_then ?_
          refine ⟨(M.drop (.cons_cons _ (.cons _ (.slnil)))), ?_⟩
          exact hA _ _ _ _ (s5 _ _ (.slice (some ⟨g2, 0, none⟩) 2 2) _ (by kernel_rfl) (by kernel_rfl) (M.drop (.cons_cons _ (.cons _ (.slnil)))))
      have s0 : ∀ (a : Act) (l : Array Bool) (w0 : World), a = ⟨#[.agg (av 9 (ls [.bool (v0), .int .u64 h0, .int .u64 l0, .bool (v1), .int .u64 h1, .int .u64 l1, .int .u8 p, .int .u8 t, .string s])), .pointer (some ⟨g1, 0, none⟩), .int .u16 0, .pointer (some ⟨g1, 6, none⟩), .int .u8 p, .bool true, yv1 6, yv1 7, yv1 8, .pointer (some ⟨g1, 0, none⟩), .agg (av 3 (ls [.bool (v0), .int .u64 h0, .int .u64 l0])), undef, .pointer (some ⟨g1, 3, none⟩), .agg (av 3 (ls [.bool (v1), .int .u64 h1, .int .u64 l1])), undef, undef, .pointer (some ⟨g1, 6, none⟩), .int .u8 p, undef, undef, undef, .pointer (some ⟨g1, 8, none⟩), .string s, .int .i64 (s.size : Int), .int .u16 (cv .u16 (s.size : Int)), undef, undef, .pointer (some ⟨g1, 8, none⟩), .string s, undef, undef, undef, undef, undef], []⟩ → l = #[true, true, false, true, true, false, false, true, true, false, false, false, true, true, true, true, false, false, true, true, false, false, false] → Mem ⟨w, []⟩ [⟨g1, .cells (av 9 (ls [.bool (v0), .int .u64 h0, .int .u64 l0, .bool (v1), .int .u64 h1, .int .u64 l1, .int .u8 p, .int .u8 t, .string s])) 26⟩] w0 → H 11 l a w0 := by
        intro a l   u0 ha hl M
        subst ha hl
        refine hB _ _ _ _ ?_
        refine hl_two 2 9 (by decide) (by decide) (by kernel_rfl) rfl rfl ?_ ?_
        · skip
          refine pl_call M (want_no rfl) (some 11) rfl 50 #[.agg (av 3 (ls [.bool (v0), .int .u64 h0, .int .u64 l0]))] (.string (aB v0 h0 l0)) (fun _ => by kernel_rfl) (fun w M => c_addrBytes v0 h0 l0 w M.laid) ?_
          intro u3 M
          refine pl_nil ?_
          refine au_then ?_
          refine ⟨M, ?_⟩
          exact hA _ _ _ _ (s1 _ _  _ (by kernel_rfl) (by kernel_rfl) M)
        · skip
          refine pl_mk M (want_no rfl) (some 18) rfl (fun g2 => .slice (some ⟨g2, 0, none⟩) 2 2) (.cells (av 2 (ls [.int .u8 0, .int .u8 p])) 5) (fun _ => by kernel_rfl) ?_
          intro g2 u3 M
          replace M : Mem ⟨w, []⟩ [⟨g1, .cells (av 9 (ls [.bool (v0), .int .u64 h0, .int .u64 l0, .bool (v1), .int .u64 h1, .int .u64 l1, .int .u8 p, .int .u8 t, .string s])) 26⟩, ⟨g2, .cells (av 2 (ls [.int .u8 0, .int .u8 p])) 5⟩] u3 := M
          refine pl_nil ?_
          refine au_then ?_
          refine ⟨(M.drop (.cons_cons _ (.cons _ (.slnil)))), ?_⟩
          exact hA _ _ _ _ (s2 _ _ g2 _ (by kernel_rfl) (by kernel_rfl) M)
      exact s0 _ _  _ (by kernel_rfl) (by kernel_rfl) M
    · skip
      refine wp_cond_false (by kernel_rfl) ?_
      refine wp_skip ?_
      refine au_block ?_
      refine au_then ?_
      refine wp_seq ?_
      refine rg_lit ?_
      refine pl_val (want_no rfl) (some 31) rfl (.pointer (some ⟨g1, 8, none⟩)) (fun _ => by kernel_rfl) ?_
      refine pl_cell M (want_no rfl) (some 32) rfl 9 _ rfl g1 8 (by kernel_rfl) (.string s) (fun _ => by kernel_rfl) (fun w M => M.cell 0 rfl (by decide) rfl) ?_
      refine pl_call M (want_no rfl) (some 33) rfl 49 #[.string s] (.int .u16 (sumS s)) (fun _ => by kernel_rfl) (fun w M => c_Sum s (by (try simp only [ByteArray.size_append, ByteArray.size_extract, be2_size, be4_size, be8_size, bs_size, sz_mk, List.size_toArray, List.length_cons, List.length_nil]); omega) w M.laid) ?_
      intro u2 M
      refine pl_val (want_no rfl) (some 2) rfl (.int .u16 (sumS s)) (fun _ => by kernel_rfl) ?_
      refine pl_nil ?_
      refine au_then ?_
      refine wp_ret ?_
      have e0 : (sO v0 h0 l0 v1 h1 l1 p s) = (sumS s) := by unfold sO; exact if_neg hX
      exact bodyPost_ret (v := .int .u16 (sumS s)) (results_tmp1 Try.results27 _ _ _ (by kernel_rfl)) (by kernel_rfl) ⟨by rw [e0], below_grown M.old⟩

set_option maxRecDepth 100000 in
set_option maxHeartbeats 4000000 in
set_option linter.unusedSimpArgs false in
theorem d_sum (v0 : Bool) (h0 l0 : Int) (v1 : Bool) (h1 l1 p t : Int) (s : ByteArray) (hs : s.size ≤ 9000) (hp : 0 ≤ p ∧ p < 256) (w : World) (hL : Laid w)  :
    Calls Try.prog 26 #[.agg (av 9 (ls [.bool (v0), .int .u64 h0, .int .u64 l0, .bool (v1), .int .u64 h1, .int .u64 l1, .int .u8 p, .int .u8 t, .string s]))] w fun r w' => r = .returned (.int .u16 (sO v0 h0 l0 v1 h1 l1 p s)) ∧ Below w.heap.size w w' := by
  go_enter Try.func26, Try.ntmps26
  have M := Mem.start hL
  have ha0 := aB_le v0 h0 l0
  have ha1 := aB_le v1 h1 l1
  have hd0 := dB_le v0 h0 l0
  have hd1 := dB_le v1 h1 l1
  refine wp_seq ?_
  refine rg_lit ?_
  refine pl_new M (want_no rfl) (some 1) rfl (.cells (av 9 (ls [.bool (v0), .int .u64 h0, .int .u64 l0, .bool (v1), .int .u64 h1, .int .u64 l1, .int .u8 p, .int .u8 t, .string s])) 26) (fun _ => by kernel_rfl) ?_
  intro g1 u1 M
  replace M : Mem ⟨w, []⟩ [⟨g1, .cells (av 9 (ls [.bool (v0), .int .u64 h0, .int .u64 l0, .bool (v1), .int .u64 h1, .int .u64 l1, .int .u8 p, .int .u8 t, .string s])) 26⟩] u1 := M
  refine pl_val (want_no rfl) (some 2) rfl (.int .u16 0) (fun _ => by kernel_rfl) ?_
  refine pl_nil ?_
  refine au_then ?_
  refine wp_seq ?_
  refine rg_lit ?_
  refine pl_val (want_no rfl) (some 4) rfl (.pointer (some ⟨g1, 8, none⟩)) (fun _ => by kernel_rfl) ?_
  refine pl_cell M (want_no rfl) (some 5) rfl 9 _ rfl g1 8 (by kernel_rfl) (.string s) (fun _ => by kernel_rfl) (fun w M => M.cell 0 rfl (by decide) rfl) ?_
  refine pl_val (want_no rfl) (some 3) rfl (.string s) (fun _ => by kernel_rfl) ?_
  refine pl_nil ?_
  refine au_then ?_
  refine wp_seq ?_
  refine wp_seq ?_
  refine cut_at (I := fun a w' => ∃ (yv1 : Nat → Value) (b_ : Bool), a = ⟨#[.agg (av 9 (ls [.bool (v0), .int .u64 h0, .int .u64 l0, .bool (v1), .int .u64 h1, .int .u64 l1, .int .u8 p, .int .u8 t, .string s])), .pointer (some ⟨g1, 0, none⟩), .int .u16 0, .string s, .pointer (some ⟨g1, 8, none⟩), .string s, yv1 6, yv1 7, yv1 8, yv1 9, yv1 10, yv1 11, yv1 12, yv1 13, yv1 14, yv1 15, yv1 16, yv1 17, .bool (b_), undef, undef, undef, undef, undef, undef, undef, undef, undef, undef, undef, undef, undef, undef, undef, undef, undef, undef, undef, undef, undef, undef, undef, undef], []⟩ ∧ Mem ⟨w, []⟩ [⟨g1, .cells (av 9 (ls [.bool (v0), .int .u64 h0, .int .u64 l0, .bool (v1), .int .u64 h1, .int .u64 l1, .int .u8 p, .int .u8 t, .string s])) 26⟩] w' ∧ ((b_ = true ∧ (p = 6 ∨ p = 17 ∨ p = 58)) ∨ (b_ = false ∧ ¬ (p = 6 ∨ p = 17 ∨ p = 58)))) ?_ ?_
  · skip
    refine rg_lit ?_
    refine pl_val (want_no rfl) (some 6) rfl (.pointer (some ⟨g1, 6, none⟩)) (fun _ => by kernel_rfl) ?_
    refine pl_cell M (want_no rfl) (some 7) rfl 5 _ rfl g1 6 (by kernel_rfl) (.int .u8 p) (fun _ => by kernel_rfl) (fun w M => M.cell 0 rfl (by decide) rfl) ?_
    by_cases c0 : p = 6
    · skip
      refine pl_val (want_no rfl) (some 8) rfl (.bool true) (fun w => Eq.trans (b := .ok (.value (.bool (decide (p = 6)))) w) (by kernel_rfl) (by rw [decide_eq_true (c0)])) ?_
      refine pl_val (want_no rfl) (some 9) rfl (.bool true) (fun _ => by kernel_rfl) ?_
      refine pl_skip (want_off 3 false rfl 9 rfl (by kernel_rfl)) (some 10) rfl ?_
      refine pl_skip (want_off 3 false rfl 9 rfl (by kernel_rfl)) (some 11) rfl ?_
      refine pl_skip (want_off 3 false rfl 9 rfl (by kernel_rfl)) (some 12) rfl ?_
      refine pl_val (want_no rfl) (some 13) rfl (.bool true) (fun _ => by kernel_rfl) ?_
      refine pl_val (want_no rfl) (some 14) rfl (.bool true) (fun _ => by kernel_rfl) ?_
      refine pl_skip (want_off 8 false rfl 14 rfl (by kernel_rfl)) (some 15) rfl ?_
      refine pl_skip (want_off 8 false rfl 14 rfl (by kernel_rfl)) (some 16) rfl ?_
      refine pl_skip (want_off 8 false rfl 14 rfl (by kernel_rfl)) (some 17) rfl ?_
      refine pl_val (want_no rfl) (some 18) rfl (.bool true) (fun _ => by kernel_rfl) ?_
      refine pl_nil ?_
      refine au_then ?_
      exact ⟨fun k_ => ([.pointer (some ⟨g1, 6, none⟩), .int .u8 p, .bool true, .bool true, undef, undef, undef, .bool true, .bool true, undef, undef, undef] : List Value).getD (k_ - 6) undef, true, by kernel_rfl, M, Or.inl ⟨rfl, by omega⟩⟩
    · skip
      refine pl_val (want_no rfl) (some 8) rfl (.bool false) (fun w => Eq.trans (b := .ok (.value (.bool (decide (p = 6)))) w) (by kernel_rfl) (by rw [decide_eq_false (c0)])) ?_
      refine pl_val (want_no rfl) (some 9) rfl (.bool false) (fun _ => by kernel_rfl) ?_
      refine pl_val (want_on 3 false rfl 9 rfl (by kernel_rfl)) (some 10) rfl (.pointer (some ⟨g1, 6, none⟩)) (fun _ => by kernel_rfl) ?_
      refine pl_cell M (want_on 3 false rfl 9 rfl (by kernel_rfl)) (some 11) rfl 5 _ rfl g1 6 (by kernel_rfl) (.int .u8 p) (fun _ => by kernel_rfl) (fun w M => M.cell 0 rfl (by decide) rfl) ?_
      by_cases c1 : p = 17
      · skip
        refine pl_val (want_on 3 false rfl 9 rfl (by kernel_rfl)) (some 12) rfl (.bool true) (fun w => Eq.trans (b := .ok (.value (.bool (decide (p = 17)))) w) (by kernel_rfl) (by rw [decide_eq_true (c1)])) ?_
        refine pl_val (want_no rfl) (some 13) rfl (.bool true) (fun _ => by kernel_rfl) ?_
        refine pl_val (want_no rfl) (some 14) rfl (.bool true) (fun _ => by kernel_rfl) ?_
        refine pl_skip (want_off 8 false rfl 14 rfl (by kernel_rfl)) (some 15) rfl ?_
        refine pl_skip (want_off 8 false rfl 14 rfl (by kernel_rfl)) (some 16) rfl ?_
        refine pl_skip (want_off 8 false rfl 14 rfl (by kernel_rfl)) (some 17) rfl ?_
        refine pl_val (want_no rfl) (some 18) rfl (.bool true) (fun _ => by kernel_rfl) ?_
        refine pl_nil ?_
        refine au_then ?_
        exact ⟨fun k_ => ([.pointer (some ⟨g1, 6, none⟩), .int .u8 p, .bool false, .bool false, .pointer (some ⟨g1, 6, none⟩), .int .u8 p, .bool true, .bool true, .bool true, undef, undef, undef] : List Value).getD (k_ - 6) undef, true, by kernel_rfl, M, Or.inl ⟨rfl, by omega⟩⟩
      · skip
        refine pl_val (want_on 3 false rfl 9 rfl (by kernel_rfl)) (some 12) rfl (.bool false) (fun w => Eq.trans (b := .ok (.value (.bool (decide (p = 17)))) w) (by kernel_rfl) (by rw [decide_eq_false (c1)])) ?_
        refine pl_val (want_no rfl) (some 13) rfl (.bool false) (fun _ => by kernel_rfl) ?_
        refine pl_val (want_no rfl) (some 14) rfl (.bool false) (fun _ => by kernel_rfl) ?_
        refine pl_val (want_on 8 false rfl 14 rfl (by kernel_rfl)) (some 15) rfl (.pointer (some ⟨g1, 6, none⟩)) (fun _ => by kernel_rfl) ?_
        refine pl_cell M (want_on 8 false rfl 14 rfl (by kernel_rfl)) (some 16) rfl 5 _ rfl g1 6 (by kernel_rfl) (.int .u8 p) (fun _ => by kernel_rfl) (fun w M => M.cell 0 rfl (by decide) rfl) ?_
        by_cases c2 : p = 58
        · skip
          refine pl_val (want_on 8 false rfl 14 rfl (by kernel_rfl)) (some 17) rfl (.bool true) (fun w => Eq.trans (b := .ok (.value (.bool (decide (p = 58)))) w) (by kernel_rfl) (by rw [decide_eq_true (c2)])) ?_
          refine pl_val (want_no rfl) (some 18) rfl (.bool true) (fun _ => by kernel_rfl) ?_
          refine pl_nil ?_
          refine au_then ?_
          exact ⟨fun k_ => ([.pointer (some ⟨g1, 6, none⟩), .int .u8 p, .bool false, .bool false, .pointer (some ⟨g1, 6, none⟩), .int .u8 p, .bool false, .bool false, .bool false, .pointer (some ⟨g1, 6, none⟩), .int .u8 p, .bool true] : List Value).getD (k_ - 6) undef, true, by kernel_rfl, M, Or.inl ⟨rfl, by omega⟩⟩
        · skip
          refine pl_val (want_on 8 false rfl 14 rfl (by kernel_rfl)) (some 17) rfl (.bool false) (fun w => Eq.trans (b := .ok (.value (.bool (decide (p = 58)))) w) (by kernel_rfl) (by rw [decide_eq_false (c2)])) ?_
          refine pl_val (want_no rfl) (some 18) rfl (.bool false) (fun _ => by kernel_rfl) ?_
          refine pl_nil ?_
          refine au_then ?_
          exact ⟨fun k_ => ([.pointer (some ⟨g1, 6, none⟩), .int .u8 p, .bool false, .bool false, .pointer (some ⟨g1, 6, none⟩), .int .u8 p, .bool false, .bool false, .bool false, .pointer (some ⟨g1, 6, none⟩), .int .u8 p, .bool false] : List Value).getD (k_ - 6) undef, false, by kernel_rfl, M, Or.inr ⟨rfl, by omega⟩⟩
  · intro a u0 hI
    obtain ⟨yv1, b_, rfl, M, hI⟩ := hI
    rcases hI with ⟨rfl, hX⟩ | ⟨rfl, hX⟩
    · skip
      refine wp_cond_true (by kernel_rfl) ?_
      refine rg_held M [⟨g1, .cells (av 9 (ls [.bool (v0), .int .u64 h0, .int .u64 l0, .bool (v1), .int .u64 h1, .int .u64 l1, .int .u8 p, .int .u8 t, .string s])) 26⟩] 22 rfl (by kernel_rfl) (by kernel_rfl) (fun _ _ d _ _ h => by cases d <;> exact h) ?_
      intro u2 M
      replace M : Mem ⟨w, []⟩ [⟨g1, .cells (av 9 (ls [.bool (v0), .int .u64 h0, .int .u64 l0, .bool (v1), .int .u64 h1, .int .u64 l1, .int .u8 p, .int .u8 t, .string s])) 26⟩] u2 := M
      refine hl_val M 0 rfl (by decide) (by kernel_rfl) (by kernel_rfl) (want_no rfl) (some 19) rfl (.pointer (some ⟨g1, 0, none⟩)) (fun _ _ => by kernel_rfl) ?_
      refine hl_load M 1 rfl (by decide) (by kernel_rfl) (by kernel_rfl) (want_no rfl) (some 20) rfl 24 _ rfl 0 g1 0 (by kernel_rfl) 9 26 (ls [.bool (v0), .int .u64 h0, .int .u64 l0, .bool (v1), .int .u64 h1, .int .u64 l1, .int .u8 p, .int .u8 t, .string s]) rfl 3 (ls [.bool (v0), .int .u64 h0, .int .u64 l0]) (part_ls _ 0 3 _ rfl) (by decide) _ Try.underlying24 rfl inz24 ?_
      refine hl_val M 3 rfl (by decide) (by kernel_rfl) (by kernel_rfl) (want_no rfl) (some 22) rfl (.pointer (some ⟨g1, 3, none⟩)) (fun _ _ => by kernel_rfl) ?_
      refine hl_load M 4 rfl (by decide) (by kernel_rfl) (by kernel_rfl) (want_no rfl) (some 23) rfl 24 _ rfl 0 g1 3 (by kernel_rfl) 9 26 (ls [.bool (v0), .int .u64 h0, .int .u64 l0, .bool (v1), .int .u64 h1, .int .u64 l1, .int .u8 p, .int .u8 t, .string s]) rfl 3 (ls [.bool (v1), .int .u64 h1, .int .u64 l1]) (part_ls _ 3 3 _ rfl) (by decide) _ Try.underlying24 rfl inz24 ?_
      refine hl_val M 8 rfl (by decide) (by kernel_rfl) (by kernel_rfl) (want_no rfl) (some 27) rfl (.pointer (some ⟨g1, 6, none⟩)) (fun _ _ => by kernel_rfl) ?_
      refine hl_cell M 9 rfl (by decide) (by kernel_rfl) (by kernel_rfl) (want_no rfl) (some 28) rfl 5 _ rfl g1 6 (by kernel_rfl) (.int .u8 p) (fun _ => by kernel_rfl) (fun w M => M.cell 0 rfl (by decide) rfl) ?_
      refine hl_val M 13 rfl (by decide) (by kernel_rfl) (by kernel_rfl) (want_no rfl) (some 32) rfl (.pointer (some ⟨g1, 8, none⟩)) (fun _ _ => by kernel_rfl) ?_
      refine hl_cell M 14 rfl (by decide) (by kernel_rfl) (by kernel_rfl) (want_no rfl) (some 33) rfl 9 _ rfl g1 8 (by kernel_rfl) (.string s) (fun _ => by kernel_rfl) (fun w M => M.cell 0 rfl (by decide) rfl) ?_
      refine hl_val M 15 rfl (by decide) (by kernel_rfl) (by kernel_rfl) (want_no rfl) (some 34) rfl (.int .i64 (s.size : Int)) (fun _ _ => by kernel_rfl) ?_
      refine hl_val M 16 rfl (by decide) (by kernel_rfl) (by kernel_rfl) (want_no rfl) (some 35) rfl (.int .u64 (cv .u64 (s.size : Int))) (fun _ _ => by kernel_rfl) ?_
      refine hl_val M 19 rfl (by decide) (by kernel_rfl) (by kernel_rfl) (want_no rfl) (some 38) rfl (.pointer (some ⟨g1, 8, none⟩)) (fun _ _ => by kernel_rfl) ?_
      refine hl_cell M 20 rfl (by decide) (by kernel_rfl) (by kernel_rfl) (want_no rfl) (some 39) rfl 9 _ rfl g1 8 (by kernel_rfl) (.string s) (fun _ => by kernel_rfl) (fun w M => M.cell 0 rfl (by decide) rfl) ?_
      refine hl_name ?_
      intro H hA hB
      have s11 : ∀ (a : Act) (l : Array Bool) (x_29 : Value) (w0 : World), a = ⟨#[.agg (av 9 (ls [.bool (v0), .int .u64 h0, .int .u64 l0, .bool (v1), .int .u64 h1, .int .u64 l1, .int .u8 p, .int .u8 t, .string s])), .pointer (some ⟨g1, 0, none⟩), .int .u16 0, .string s, .pointer (some ⟨g1, 8, none⟩), .string s, yv1 6, yv1 7, yv1 8, yv1 9, yv1 10, yv1 11, yv1 12, yv1 13, yv1 14, yv1 15, yv1 16, yv1 17, .bool true, .pointer (some ⟨g1, 0, none⟩), .agg (av 3 (ls [.bool (v0), .int .u64 h0, .int .u64 l0])), .string (dB v0 h0 l0), .pointer (some ⟨g1, 3, none⟩), .agg (av 3 (ls [.bool (v1), .int .u64 h1, .int .u64 l1])), .string (dB v1 h1 l1), .string ((dB v0 h0 l0) ++ (dB v1 h1 l1)), .string (((dB v0 h0 l0) ++ (dB v1 h1 l1)) ++ (⟨#[0]⟩ : ByteArray)), .pointer (some ⟨g1, 6, none⟩), .int .u8 p, x_29, .string (bs [p]), .string ((((dB v0 h0 l0) ++ (dB v1 h1 l1)) ++ (⟨#[0]⟩ : ByteArray)) ++ (bs [p])), .pointer (some ⟨g1, 8, none⟩), .string s, .int .i64 (s.size : Int), .int .u64 (cv .u64 (s.size : Int)), .string (be2 (cv .u64 (s.size : Int))), .string (((((dB v0 h0 l0) ++ (dB v1 h1 l1)) ++ (⟨#[0]⟩ : ByteArray)) ++ (bs [p])) ++ (be2 (cv .u64 (s.size : Int)))), .pointer (some ⟨g1, 8, none⟩), .string s, .string ((((((dB v0 h0 l0) ++ (dB v1 h1 l1)) ++ (⟨#[0]⟩ : ByteArray)) ++ (bs [p])) ++ (be2 (cv .u64 (s.size : Int)))) ++ s), undef, undef], []⟩ → l = #[true, true, true, true, true, true, true, true, true, true, true, true, true, true, true, true, true, true, true, true, true, true, false] → Mem ⟨w, []⟩ [⟨g1, .cells (av 9 (ls [.bool (v0), .int .u64 h0, .int .u64 l0, .bool (v1), .int .u64 h1, .int .u64 l1, .int .u8 p, .int .u8 t, .string s])) 26⟩] w0 → H 1 l a w0 := by
        intro a l  x_29 u0 ha hl M
        subst ha hl
        refine hB _ _ _ _ ?_
        refine hl_end (by kernel_rfl) (by kernel_rfl) rfl ?_
        refine pl_val (want_no rfl) (some 3) rfl (.string ((((((dB v0 h0 l0) ++ (dB v1 h1 l1)) ++ (⟨#[0]⟩ : ByteArray)) ++ (bs [p])) ++ (be2 (cv .u64 (s.size : Int)))) ++ s)) (fun _ => by kernel_rfl) ?_
        refine pl_nil ?_
        refine au_then ?_
        refine au_then ?_
        refine wp_seq ?_
        refine rg_lit ?_
        refine pl_val (want_no rfl) (some 41) rfl (.string ((((((dB v0 h0 l0) ++ (dB v1 h1 l1)) ++ (⟨#[0]⟩ : ByteArray)) ++ (bs [p])) ++ (be2 (cv .u64 (s.size : Int)))) ++ s)) (fun _ => by kernel_rfl) ?_
        refine pl_call M (want_no rfl) (some 42) rfl 48 #[.string ((((((dB v0 h0 l0) ++ (dB v1 h1 l1)) ++ (⟨#[0]⟩ : ByteArray)) ++ (bs [p])) ++ (be2 (cv .u64 (s.size : Int)))) ++ s)] (.int .u16 (sumS ((((((dB v0 h0 l0) ++ (dB v1 h1 l1)) ++ (⟨#[0]⟩ : ByteArray)) ++ (bs [p])) ++ (be2 (cv .u64 (s.size : Int)))) ++ s))) (fun _ => by kernel_rfl) (fun w M => d_Sum ((((((dB v0 h0 l0) ++ (dB v1 h1 l1)) ++ (⟨#[0]⟩ : ByteArray)) ++ (bs [p])) ++ (be2 (cv .u64 (s.size : Int)))) ++ s) (by (try simp only [ByteArray.size_append, ByteArray.size_extract, be2_size, be4_size, be8_size, bs_size, sz_mk, List.size_toArray, List.length_cons, List.length_nil]); omega) w M.laid) ?_
        intro u7 M
        refine pl_val (want_no rfl) (some 2) rfl (.int .u16 (sumS ((((((dB v0 h0 l0) ++ (dB v1 h1 l1)) ++ (⟨#[0]⟩ : ByteArray)) ++ (bs [p])) ++ (be2 (cv .u64 (s.size : Int)))) ++ s))) (fun _ => by kernel_rfl) ?_
        refine pl_nil ?_
        refine au_then ?_
        refine wp_ret ?_
        have e0 : (sO v0 h0 l0 v1 h1 l1 p s) = (sumS ((((((dB v0 h0 l0) ++ (dB v1 h1 l1)) ++ (⟨#[0]⟩ : ByteArray)) ++ (bs [p])) ++ (be2 (cv .u64 (s.size : Int)))) ++ s)) := by unfold sO; rw [if_pos hX, ← psB_doc]
        exact bodyPost_ret (v := .int .u16 (sumS ((((((dB v0 h0 l0) ++ (dB v1 h1 l1)) ++ (⟨#[0]⟩ : ByteArray)) ++ (bs [p])) ++ (be2 (cv .u64 (s.size : Int)))) ++ s))) (results_tmp1 Try.results26 _ _ _ (by kernel_rfl)) (by kernel_rfl) ⟨by rw [e0], below_grown M.old⟩
      have s9 : ∀ (a : Act) (l : Array Bool) (x_29 : Value) (w0 : World), a = ⟨#[.agg (av 9 (ls [.bool (v0), .int .u64 h0, .int .u64 l0, .bool (v1), .int .u64 h1, .int .u64 l1, .int .u8 p, .int .u8 t, .string s])), .pointer (some ⟨g1, 0, none⟩), .int .u16 0, .string s, .pointer (some ⟨g1, 8, none⟩), .string s, yv1 6, yv1 7, yv1 8, yv1 9, yv1 10, yv1 11, yv1 12, yv1 13, yv1 14, yv1 15, yv1 16, yv1 17, .bool true, .pointer (some ⟨g1, 0, none⟩), .agg (av 3 (ls [.bool (v0), .int .u64 h0, .int .u64 l0])), .string (dB v0 h0 l0), .pointer (some ⟨g1, 3, none⟩), .agg (av 3 (ls [.bool (v1), .int .u64 h1, .int .u64 l1])), .string (dB v1 h1 l1), .string ((dB v0 h0 l0) ++ (dB v1 h1 l1)), .string (((dB v0 h0 l0) ++ (dB v1 h1 l1)) ++ (⟨#[0]⟩ : ByteArray)), .pointer (some ⟨g1, 6, none⟩), .int .u8 p, x_29, .string (bs [p]), .string ((((dB v0 h0 l0) ++ (dB v1 h1 l1)) ++ (⟨#[0]⟩ : ByteArray)) ++ (bs [p])), .pointer (some ⟨g1, 8, none⟩), .string s, .int .i64 (s.size : Int), .int .u64 (cv .u64 (s.size : Int)), undef, undef, .pointer (some ⟨g1, 8, none⟩), .string s, undef, undef, undef], []⟩ → l = #[true, true, true, true, true, true, true, true, true, true, true, true, true, true, true, true, true, false, false, true, true, false, false] → Mem ⟨w, []⟩ [⟨g1, .cells (av 9 (ls [.bool (v0), .int .u64 h0, .int .u64 l0, .bool (v1), .int .u64 h1, .int .u64 l1, .int .u8 p, .int .u8 t, .string s])) 26⟩] w0 → H 4 l a w0 := by
        intro a l  x_29 u0 ha hl M
        subst ha hl
        refine hB _ _ _ _ ?_
        refine hl_one 17 (by decide) (by kernel_rfl) rfl ?_
        refine pl_call M (want_no rfl) (some 36) rfl 32 #[.int .u64 (cv .u64 (s.size : Int)), .int .i64 2] (.string (be2 (cv .u64 (s.size : Int)))) (fun _ => by kernel_rfl) (fun w M => c_num2 (cv .u64 (s.size : Int)) w M.laid) ?_
        intro u6 M
        refine pl_nil ?_
        refine au_then ?_
        refine ⟨M, ?_⟩
        refine hl_val M 18 rfl (by decide) (by kernel_rfl) (by kernel_rfl) (want_no rfl) (some 37) rfl (.string (((((dB v0 h0 l0) ++ (dB v1 h1 l1)) ++ (⟨#[0]⟩ : ByteArray)) ++ (bs [p])) ++ (be2 (cv .u64 (s.size : Int))))) (fun w _ => (run_cat 9 9 _ _ rfl ((((dB v0 h0 l0) ++ (dB v1 h1 l1)) ++ (⟨#[0]⟩ : ByteArray)) ++ (bs [p])) (be2 (cv .u64 (s.size : Int))) (by kernel_rfl) (by kernel_rfl) (by (try simp only [ByteArray.size_append, ByteArray.size_extract, be2_size, be4_size, be8_size, bs_size, sz_mk, List.size_toArray, List.length_cons, List.length_nil]); omega)) w) ?_
        refine hl_val M 21 rfl (by decide) (by kernel_rfl) (by kernel_rfl) (want_no rfl) (some 40) rfl (.string ((((((dB v0 h0 l0) ++ (dB v1 h1 l1)) ++ (⟨#[0]⟩ : ByteArray)) ++ (bs [p])) ++ (be2 (cv .u64 (s.size : Int)))) ++ s)) (fun w _ => (run_cat 9 9 _ _ rfl (((((dB v0 h0 l0) ++ (dB v1 h1 l1)) ++ (⟨#[0]⟩ : ByteArray)) ++ (bs [p])) ++ (be2 (cv .u64 (s.size : Int)))) s (by kernel_rfl) (by kernel_rfl) (by (try simp only [ByteArray.size_append, ByteArray.size_extract, be2_size, be4_size, be8_size, bs_size, sz_mk, List.size_toArray, List.length_cons, List.length_nil]); omega)) w) ?_
        exact hA _ _ _ _ (s11 _ _ (x_29) _ (by kernel_rfl) (by kernel_rfl) M)
      have s10 : ∀ (a : Act) (l : Array Bool) (g2 : Nat) (w0 : World), a = ⟨#[.agg (av 9 (ls [.bool (v0), .int .u64 h0, .int .u64 l0, .bool (v1), .int .u64 h1, .int .u64 l1, .int .u8 p, .int .u8 t, .string s])), .pointer (some ⟨g1, 0, none⟩), .int .u16 0, .string s, .pointer (some ⟨g1, 8, none⟩), .string s, yv1 6, yv1 7, yv1 8, yv1 9, yv1 10, yv1 11, yv1 12, yv1 13, yv1 14, yv1 15, yv1 16, yv1 17, .bool true, .pointer (some ⟨g1, 0, none⟩), .agg (av 3 (ls [.bool (v0), .int .u64 h0, .int .u64 l0])), .string (dB v0 h0 l0), .pointer (some ⟨g1, 3, none⟩), .agg (av 3 (ls [.bool (v1), .int .u64 h1, .int .u64 l1])), .string (dB v1 h1 l1), .string ((dB v0 h0 l0) ++ (dB v1 h1 l1)), .string (((dB v0 h0 l0) ++ (dB v1 h1 l1)) ++ (⟨#[0]⟩ : ByteArray)), .pointer (some ⟨g1, 6, none⟩), .int .u8 p, .slice (some ⟨g2, 0, none⟩) 1 1, undef, undef, .pointer (some ⟨g1, 8, none⟩), .string s, .int .i64 (s.size : Int), .int .u64 (cv .u64 (s.size : Int)), .string (be2 (cv .u64 (s.size : Int))), undef, .pointer (some ⟨g1, 8, none⟩), .string s, undef, undef, undef], []⟩ → l = #[true, true, true, true, true, true, true, true, true, true, true, false, false, true, true, true, true, true, false, true, true, false, false] → Mem ⟨w, []⟩ [⟨g1, .cells (av 9 (ls [.bool (v0), .int .u64 h0, .int .u64 l0, .bool (v1), .int .u64 h1, .int .u64 l1, .int .u8 p, .int .u8 t, .string s])) 26⟩, ⟨g2, .cells (av 1 (ls [.int .u8 p])) 5⟩] w0 → H 5 l a w0 := by
        intro a l g2  u0 ha hl M
        subst ha hl
        refine hB _ _ _ _ ?_
        refine hl_one 11 (by decide) (by kernel_rfl) rfl ?_
        refine pl_back M (want_no rfl) (some 30) rfl _ rfl 1 g2 1 1 (by kernel_rfl) _ rfl [p] 1 (sb_ls [p] _) rfl (by intro x hx; simp only [List.mem_cons, List.mem_nil_iff, or_false] at hx; subst hx; omega) ?_
        refine pl_nil ?_
        refine au_then ?_
        refine ⟨(M.drop (.cons_cons _ (.cons _ (.slnil)))), ?_⟩
        refine hl_val (M.drop (.cons_cons _ (.cons _ (.slnil)))) 12 rfl (by decide) (by kernel_rfl) (by kernel_rfl) (want_no rfl) (some 31) rfl (.string ((((dB v0 h0 l0) ++ (dB v1 h1 l1)) ++ (⟨#[0]⟩ : ByteArray)) ++ (bs [p]))) (fun w _ => (run_cat 9 9 _ _ rfl (((dB v0 h0 l0) ++ (dB v1 h1 l1)) ++ (⟨#[0]⟩ : ByteArray)) (bs [p]) (by kernel_rfl) (by kernel_rfl) (by (try simp only [ByteArray.size_append, ByteArray.size_extract, be2_size, be4_size, be8_size, bs_size, sz_mk, List.size_toArray, List.length_cons, List.length_nil]); omega)) w) ?_
        refine hl_val (M.drop (.cons_cons _ (.cons _ (.slnil)))) 18 rfl (by decide) (by kernel_rfl) (by kernel_rfl) (want_no rfl) (some 37) rfl (.string (((((dB v0 h0 l0) ++ (dB v1 h1 l1)) ++ (⟨#[0]⟩ : ByteArray)) ++ (bs [p])) ++ (be2 (cv .u64 (s.size : Int))))) (fun w _ => (run_cat 9 9 _ _ rfl ((((dB v0 h0 l0) ++ (dB v1 h1 l1)) ++ (⟨#[0]⟩ : ByteArray)) ++ (bs [p])) (be2 (cv .u64 (s.size : Int))) (by kernel_rfl) (by kernel_rfl) (by (try simp only [ByteArray.size_append, ByteArray.size_extract, be2_size, be4_size, be8_size, bs_size, sz_mk, List.size_toArray, List.length_cons, List.length_nil]); omega)) w) ?_
        refine hl_val (M.drop (.cons_cons _ (.cons _ (.slnil)))) 21 rfl (by decide) (by kernel_rfl) (by kernel_rfl) (want_no rfl) (some 40) rfl (.string ((((((dB v0 h0 l0) ++ (dB v1 h1 l1)) ++ (⟨#[0]⟩ : ByteArray)) ++ (bs [p])) ++ (be2 (cv .u64 (s.size : Int)))) ++ s)) (fun w _ => (run_cat 9 9 _ _ rfl (((((dB v0 h0 l0) ++ (dB v1 h1 l1)) ++ (⟨#[0]⟩ : ByteArray)) ++ (bs [p])) ++ (be2 (cv .u64 (s.size : Int)))) s (by kernel_rfl) (by kernel_rfl) (by (try simp only [ByteArray.size_append, ByteArray.size_extract, be2_size, be4_size, be8_size, bs_size, sz_mk, List.size_toArray, List.length_cons, List.length_nil]); omega)) w) ?_
        exact hA _ _ _ _ (s11 _ _ (.slice (some ⟨g2, 0, none⟩) 1 1) _ (by kernel_rfl) (by kernel_rfl) (M.drop (.cons_cons _ (.cons _ (.slnil)))))
      have s6 : ∀ (a : Act) (l : Array Bool) (g2 : Nat) (w0 : World), a = ⟨#[.agg (av 9 (ls [.bool (v0), .int .u64 h0, .int .u64 l0, .bool (v1), .int .u64 h1, .int .u64 l1, .int .u8 p, .int .u8 t, .string s])), .pointer (some ⟨g1, 0, none⟩), .int .u16 0, .string s, .pointer (some ⟨g1, 8, none⟩), .string s, yv1 6, yv1 7, yv1 8, yv1 9, yv1 10, yv1 11, yv1 12, yv1 13, yv1 14, yv1 15, yv1 16, yv1 17, .bool true, .pointer (some ⟨g1, 0, none⟩), .agg (av 3 (ls [.bool (v0), .int .u64 h0, .int .u64 l0])), .string (dB v0 h0 l0), .pointer (some ⟨g1, 3, none⟩), .agg (av 3 (ls [.bool (v1), .int .u64 h1, .int .u64 l1])), .string (dB v1 h1 l1), .string ((dB v0 h0 l0) ++ (dB v1 h1 l1)), .string (((dB v0 h0 l0) ++ (dB v1 h1 l1)) ++ (⟨#[0]⟩ : ByteArray)), .pointer (some ⟨g1, 6, none⟩), .int .u8 p, .slice (some ⟨g2, 0, none⟩) 1 1, undef, undef, .pointer (some ⟨g1, 8, none⟩), .string s, .int .i64 (s.size : Int), .int .u64 (cv .u64 (s.size : Int)), undef, undef, .pointer (some ⟨g1, 8, none⟩), .string s, undef, undef, undef], []⟩ → l = #[true, true, true, true, true, true, true, true, true, true, true, false, false, true, true, true, true, false, false, true, true, false, false] → Mem ⟨w, []⟩ [⟨g1, .cells (av 9 (ls [.bool (v0), .int .u64 h0, .int .u64 l0, .bool (v1), .int .u64 h1, .int .u64 l1, .int .u8 p, .int .u8 t, .string s])) 26⟩, ⟨g2, .cells (av 1 (ls [.int .u8 p])) 5⟩] w0 → H 6 l a w0 := by
        intro a l g2  u0 ha hl M
        subst ha hl
        refine hB _ _ _ _ ?_
        refine hl_two 11 17 (by decide) (by decide) (by kernel_rfl) rfl rfl ?_ ?_
        · skip
          refine pl_back M (want_no rfl) (some 30) rfl _ rfl 1 g2 1 1 (by kernel_rfl) _ rfl [p] 1 (sb_ls [p] _) rfl (by intro x hx; simp only [List.mem_cons, List.mem_nil_iff, or_false] at hx; subst hx; omega) ?_
          refine pl_nil ?_
          refine au_then ?_
          refine ⟨(M.drop (.cons_cons _ (.cons _ (.slnil)))), ?_⟩
          refine hl_val (M.drop (.cons_cons _ (.cons _ (.slnil)))) 12 rfl (by decide) (by kernel_rfl) (by kernel_rfl) (want_no rfl) (some 31) rfl (.string ((((dB v0 h0 l0) ++ (dB v1 h1 l1)) ++ (⟨#[0]⟩ : ByteArray)) ++ (bs [p]))) (fun w _ => (run_cat 9 9 _ _ rfl (((dB v0 h0 l0) ++ (dB v1 h1 l1)) ++ (⟨#[0]⟩ : ByteArray)) (bs [p]) (by kernel_rfl) (by kernel_rfl) (by (try simp only [ByteArray.size_append, ByteArray.size_extract, be2_size, be4_size, be8_size, bs_size, sz_mk, List.size_toArray, List.length_cons, List.length_nil]); omega)) w) ?_
          exact hA _ _ _ _ (s9 _ _ (.slice (some ⟨g2, 0, none⟩) 1 1) _ (by kernel_rfl) (by kernel_rfl) (M.drop (.cons_cons _ (.cons _ (.slnil)))))
        · skip
          refine pl_call M (want_no rfl) (some 36) rfl 32 #[.int .u64 (cv .u64 (s.size : Int)), .int .i64 2] (.string (be2 (cv .u64 (s.size : Int)))) (fun _ => by kernel_rfl) (fun w M => c_num2 (cv .u64 (s.size : Int)) w M.laid) ?_
          intro u6 M
          refine pl_nil ?_
          refine au_then ?_
          refine ⟨(M.drop (.cons_cons _ (.cons _ (.slnil)))), ?_⟩
          exact hA _ _ _ _ (s10 _ _ g2 _ (by kernel_rfl) (by kernel_rfl) M)
      have s7 : ∀ (a : Act) (l : Array Bool) (w0 : World), a = ⟨#[.agg (av 9 (ls [.bool (v0), .int .u64 h0, .int .u64 l0, .bool (v1), .int .u64 h1, .int .u64 l1, .int .u8 p, .int .u8 t, .string s])), .pointer (some ⟨g1, 0, none⟩), .int .u16 0, .string s, .pointer (some ⟨g1, 8, none⟩), .string s, yv1 6, yv1 7, yv1 8, yv1 9, yv1 10, yv1 11, yv1 12, yv1 13, yv1 14, yv1 15, yv1 16, yv1 17, .bool true, .pointer (some ⟨g1, 0, none⟩), .agg (av 3 (ls [.bool (v0), .int .u64 h0, .int .u64 l0])), .string (dB v0 h0 l0), .pointer (some ⟨g1, 3, none⟩), .agg (av 3 (ls [.bool (v1), .int .u64 h1, .int .u64 l1])), .string (dB v1 h1 l1), .string ((dB v0 h0 l0) ++ (dB v1 h1 l1)), .string (((dB v0 h0 l0) ++ (dB v1 h1 l1)) ++ (⟨#[0]⟩ : ByteArray)), .pointer (some ⟨g1, 6, none⟩), .int .u8 p, undef, undef, undef, .pointer (some ⟨g1, 8, none⟩), .string s, .int .i64 (s.size : Int), .int .u64 (cv .u64 (s.size : Int)), .string (be2 (cv .u64 (s.size : Int))), undef, .pointer (some ⟨g1, 8, none⟩), .string s, undef, undef, undef], []⟩ → l = #[true, true, true, true, true, true, true, true, true, true, false, false, false, true, true, true, true, true, false, true, true, false, false] → Mem ⟨w, []⟩ [⟨g1, .cells (av 9 (ls [.bool (v0), .int .u64 h0, .int .u64 l0, .bool (v1), .int .u64 h1, .int .u64 l1, .int .u8 p, .int .u8 t, .string s])) 26⟩] w0 → H 6 l a w0 := by
        intro a l   u0 ha hl M
        subst ha hl
        refine hB _ _ _ _ ?_
        refine hl_one 10 (by decide) (by kernel_rfl) rfl ?_
        refine pl_mk M (want_no rfl) (some 29) rfl (fun g2 => .slice (some ⟨g2, 0, none⟩) 1 1) (.cells (av 1 (ls [.int .u8 p])) 5) (fun _ => by kernel_rfl) ?_
        intro g2 u6 M
        replace M : Mem ⟨w, []⟩ [⟨g1, .cells (av 9 (ls [.bool (v0), .int .u64 h0, .int .u64 l0, .bool (v1), .int .u64 h1, .int .u64 l1, .int .u8 p, .int .u8 t, .string s])) 26⟩, ⟨g2, .cells (av 1 (ls [.int .u8 p])) 5⟩] u6 := M
        refine pl_nil ?_
        refine au_then ?_
        refine ⟨(M.drop (.cons_cons _ (.cons _ (.slnil)))), ?_⟩
        exact hA _ _ _ _ (s10 _ _ g2 _ (by kernel_rfl) (by kernel_rfl) M)
      have s3 : ∀ (a : Act) (l : Array Bool) (w0 : World), a = ⟨#[.agg (av 9 (ls [.bool (v0), .int .u64 h0, .int .u64 l0, .bool (v1), .int .u64 h1, .int .u64 l1, .int .u8 p, .int .u8 t, .string s])), .pointer (some ⟨g1, 0, none⟩), .int .u16 0, .string s, .pointer (some ⟨g1, 8, none⟩), .string s, yv1 6, yv1 7, yv1 8, yv1 9, yv1 10, yv1 11, yv1 12, yv1 13, yv1 14, yv1 15, yv1 16, yv1 17, .bool true, .pointer (some ⟨g1, 0, none⟩), .agg (av 3 (ls [.bool (v0), .int .u64 h0, .int .u64 l0])), .string (dB v0 h0 l0), .pointer (some ⟨g1, 3, none⟩), .agg (av 3 (ls [.bool (v1), .int .u64 h1, .int .u64 l1])), .string (dB v1 h1 l1), .string ((dB v0 h0 l0) ++ (dB v1 h1 l1)), .string (((dB v0 h0 l0) ++ (dB v1 h1 l1)) ++ (⟨#[0]⟩ : ByteArray)), .pointer (some ⟨g1, 6, none⟩), .int .u8 p, undef, undef, undef, .pointer (some ⟨g1, 8, none⟩), .string s, .int .i64 (s.size : Int), .int .u64 (cv .u64 (s.size : Int)), undef, undef, .pointer (some ⟨g1, 8, none⟩), .string s, undef, undef, undef], []⟩ → l = #[true, true, true, true, true, true, true, true, true, true, false, false, false, true, true, true, true, false, false, true, true, false, false] → Mem ⟨w, []⟩ [⟨g1, .cells (av 9 (ls [.bool (v0), .int .u64 h0, .int .u64 l0, .bool (v1), .int .u64 h1, .int .u64 l1, .int .u8 p, .int .u8 t, .string s])) 26⟩] w0 → H 7 l a w0 := by
        intro a l   u0 ha hl M
        subst ha hl
        refine hB _ _ _ _ ?_
        refine hl_two 10 17 (by decide) (by decide) (by kernel_rfl) rfl rfl ?_ ?_
        · skip
          refine pl_mk M (want_no rfl) (some 29) rfl (fun g2 => .slice (some ⟨g2, 0, none⟩) 1 1) (.cells (av 1 (ls [.int .u8 p])) 5) (fun _ => by kernel_rfl) ?_
          intro g2 u5 M
          replace M : Mem ⟨w, []⟩ [⟨g1, .cells (av 9 (ls [.bool (v0), .int .u64 h0, .int .u64 l0, .bool (v1), .int .u64 h1, .int .u64 l1, .int .u8 p, .int .u8 t, .string s])) 26⟩, ⟨g2, .cells (av 1 (ls [.int .u8 p])) 5⟩] u5 := M
          refine pl_nil ?_
          refine au_then ?_
          refine ⟨(M.drop (.cons_cons _ (.cons _ (.slnil)))), ?_⟩
          exact hA _ _ _ _ (s6 _ _ g2 _ (by kernel_rfl) (by kernel_rfl) M)
        · skip
          refine pl_call M (want_no rfl) (some 36) rfl 32 #[.int .u64 (cv .u64 (s.size : Int)), .int .i64 2] (.string (be2 (cv .u64 (s.size : Int)))) (fun _ => by kernel_rfl) (fun w M => c_num2 (cv .u64 (s.size : Int)) w M.laid) ?_
          intro u5 M
          refine pl_nil ?_
          refine au_then ?_
          refine ⟨M, ?_⟩
          exact hA _ _ _ _ (s7 _ _  _ (by kernel_rfl) (by kernel_rfl) M)
      have s8 : ∀ (a : Act) (l : Array Bool) (x_29 : Value) (w0 : World), a = ⟨#[.agg (av 9 (ls [.bool (v0), .int .u64 h0, .int .u64 l0, .bool (v1), .int .u64 h1, .int .u64 l1, .int .u8 p, .int .u8 t, .string s])), .pointer (some ⟨g1, 0, none⟩), .int .u16 0, .string s, .pointer (some ⟨g1, 8, none⟩), .string s, yv1 6, yv1 7, yv1 8, yv1 9, yv1 10, yv1 11, yv1 12, yv1 13, yv1 14, yv1 15, yv1 16, yv1 17, .bool true, .pointer (some ⟨g1, 0, none⟩), .agg (av 3 (ls [.bool (v0), .int .u64 h0, .int .u64 l0])), .string (dB v0 h0 l0), .pointer (some ⟨g1, 3, none⟩), .agg (av 3 (ls [.bool (v1), .int .u64 h1, .int .u64 l1])), undef, undef, undef, .pointer (some ⟨g1, 6, none⟩), .int .u8 p, x_29, .string (bs [p]), undef, .pointer (some ⟨g1, 8, none⟩), .string s, .int .i64 (s.size : Int), .int .u64 (cv .u64 (s.size : Int)), undef, undef, .pointer (some ⟨g1, 8, none⟩), .string s, undef, undef, undef], []⟩ → l = #[true, true, true, true, true, false, false, false, true, true, true, true, false, true, true, true, true, false, false, true, true, false, false] → Mem ⟨w, []⟩ [⟨g1, .cells (av 9 (ls [.bool (v0), .int .u64 h0, .int .u64 l0, .bool (v1), .int .u64 h1, .int .u64 l1, .int .u8 p, .int .u8 t, .string s])) 26⟩] w0 → H 8 l a w0 := by
        intro a l  x_29 u0 ha hl M
        subst ha hl
        refine hB _ _ _ _ ?_
        refine hl_one 5 (by decide) (by kernel_rfl) rfl ?_
        refine pl_call M (want_no rfl) (some 24) rfl 47 #[.agg (av 3 (ls [.bool (v1), .int .u64 h1, .int .u64 l1]))] (.string (dB v1 h1 l1)) (fun _ => by kernel_rfl) (fun w M => d_Bytes v1 h1 l1 w M.laid) ?_
        intro u5 M
        refine pl_nil ?_
        refine au_then ?_
        refine ⟨M, ?_⟩
        refine hl_val M 6 rfl (by decide) (by kernel_rfl) (by kernel_rfl) (want_no rfl) (some 25) rfl (.string ((dB v0 h0 l0) ++ (dB v1 h1 l1))) (fun w _ => (run_cat 9 9 _ _ rfl (dB v0 h0 l0) (dB v1 h1 l1) (by kernel_rfl) (by kernel_rfl) (by (try simp only [ByteArray.size_append, ByteArray.size_extract, be2_size, be4_size, be8_size, bs_size, sz_mk, List.size_toArray, List.length_cons, List.length_nil]); omega)) w) ?_
        refine hl_val M 7 rfl (by decide) (by kernel_rfl) (by kernel_rfl) (want_no rfl) (some 26) rfl (.string (((dB v0 h0 l0) ++ (dB v1 h1 l1)) ++ (⟨#[0]⟩ : ByteArray))) (fun w _ => (run_cat 9 9 _ _ rfl ((dB v0 h0 l0) ++ (dB v1 h1 l1)) ⟨#[0]⟩ (by kernel_rfl) (by kernel_rfl) (by (try simp only [ByteArray.size_append, ByteArray.size_extract, be2_size, be4_size, be8_size, bs_size, sz_mk, List.size_toArray, List.length_cons, List.length_nil]); omega)) w) ?_
        refine hl_val M 12 rfl (by decide) (by kernel_rfl) (by kernel_rfl) (want_no rfl) (some 31) rfl (.string ((((dB v0 h0 l0) ++ (dB v1 h1 l1)) ++ (⟨#[0]⟩ : ByteArray)) ++ (bs [p]))) (fun w _ => (run_cat 9 9 _ _ rfl (((dB v0 h0 l0) ++ (dB v1 h1 l1)) ++ (⟨#[0]⟩ : ByteArray)) (bs [p]) (by kernel_rfl) (by kernel_rfl) (by (try simp only [ByteArray.size_append, ByteArray.size_extract, be2_size, be4_size, be8_size, bs_size, sz_mk, List.size_toArray, List.length_cons, List.length_nil]); omega)) w) ?_
        exact hA _ _ _ _ (s9 _ _ (x_29) _ (by kernel_rfl) (by kernel_rfl) M)
      have s4 : ∀ (a : Act) (l : Array Bool) (g2 : Nat) (w0 : World), a = ⟨#[.agg (av 9 (ls [.bool (v0), .int .u64 h0, .int .u64 l0, .bool (v1), .int .u64 h1, .int .u64 l1, .int .u8 p, .int .u8 t, .string s])), .pointer (some ⟨g1, 0, none⟩), .int .u16 0, .string s, .pointer (some ⟨g1, 8, none⟩), .string s, yv1 6, yv1 7, yv1 8, yv1 9, yv1 10, yv1 11, yv1 12, yv1 13, yv1 14, yv1 15, yv1 16, yv1 17, .bool true, .pointer (some ⟨g1, 0, none⟩), .agg (av 3 (ls [.bool (v0), .int .u64 h0, .int .u64 l0])), .string (dB v0 h0 l0), .pointer (some ⟨g1, 3, none⟩), .agg (av 3 (ls [.bool (v1), .int .u64 h1, .int .u64 l1])), undef, undef, undef, .pointer (some ⟨g1, 6, none⟩), .int .u8 p, .slice (some ⟨g2, 0, none⟩) 1 1, undef, undef, .pointer (some ⟨g1, 8, none⟩), .string s, .int .i64 (s.size : Int), .int .u64 (cv .u64 (s.size : Int)), undef, undef, .pointer (some ⟨g1, 8, none⟩), .string s, undef, undef, undef], []⟩ → l = #[true, true, true, true, true, false, false, false, true, true, true, false, false, true, true, true, true, false, false, true, true, false, false] → Mem ⟨w, []⟩ [⟨g1, .cells (av 9 (ls [.bool (v0), .int .u64 h0, .int .u64 l0, .bool (v1), .int .u64 h1, .int .u64 l1, .int .u8 p, .int .u8 t, .string s])) 26⟩, ⟨g2, .cells (av 1 (ls [.int .u8 p])) 5⟩] w0 → H 9 l a w0 := by
        intro a l g2  u0 ha hl M
        subst ha hl
        refine hB _ _ _ _ ?_
        refine hl_two 5 11 (by decide) (by decide) (by kernel_rfl) rfl rfl ?_ ?_
        · skip
          refine pl_call M (want_no rfl) (some 24) rfl 47 #[.agg (av 3 (ls [.bool (v1), .int .u64 h1, .int .u64 l1]))] (.string (dB v1 h1 l1)) (fun _ => by kernel_rfl) (fun w M => d_Bytes v1 h1 l1 w M.laid) ?_
          intro u5 M
          refine pl_nil ?_
          refine au_then ?_
          refine ⟨(M.drop (.cons_cons _ (.cons _ (.slnil)))), ?_⟩
          refine hl_val (M.drop (.cons_cons _ (.cons _ (.slnil)))) 6 rfl (by decide) (by kernel_rfl) (by kernel_rfl) (want_no rfl) (some 25) rfl (.string ((dB v0 h0 l0) ++ (dB v1 h1 l1))) (fun w _ => (run_cat 9 9 _ _ rfl (dB v0 h0 l0) (dB v1 h1 l1) (by kernel_rfl) (by kernel_rfl) (by (try simp only [ByteArray.size_append, ByteArray.size_extract, be2_size, be4_size, be8_size, bs_size, sz_mk, List.size_toArray, List.length_cons, List.length_nil]); omega)) w) ?_
          refine hl_val (M.drop (.cons_cons _ (.cons _ (.slnil)))) 7 rfl (by decide) (by kernel_rfl) (by kernel_rfl) (want_no rfl) (some 26) rfl (.string (((dB v0 h0 l0) ++ (dB v1 h1 l1)) ++ (⟨#[0]⟩ : ByteArray))) (fun w _ => (run_cat 9 9 _ _ rfl ((dB v0 h0 l0) ++ (dB v1 h1 l1)) ⟨#[0]⟩ (by kernel_rfl) (by kernel_rfl) (by (try simp only [ByteArray.size_append, ByteArray.size_extract, be2_size, be4_size, be8_size, bs_size, sz_mk, List.size_toArray, List.length_cons, List.length_nil]); omega)) w) ?_
          exact hA _ _ _ _ (s6 _ _ g2 _ (by kernel_rfl) (by kernel_rfl) M)
        · skip
          refine pl_back M (want_no rfl) (some 30) rfl _ rfl 1 g2 1 1 (by kernel_rfl) _ rfl [p] 1 (sb_ls [p] _) rfl (by intro x hx; simp only [List.mem_cons, List.mem_nil_iff, or_false] at hx; subst hx; omega) ?_
          refine pl_nil ?_
          refine au_then ?_
          refine ⟨(M.drop (.cons_cons _ (.cons _ (.slnil)))), ?_⟩
          exact hA _ _ _ _ (s8 _ _ (.slice (some ⟨g2, 0, none⟩) 1 1) _ (by kernel_rfl) (by kernel_rfl) (M.drop (.cons_cons _ (.cons _ (.slnil)))))
      have s5 : ∀ (a : Act) (l : Array Bool) (x_29 : Value) (w0 : World), a = ⟨#[.agg (av 9 (ls [.bool (v0), .int .u64 h0, .int .u64 l0, .bool (v1), .int .u64 h1, .int .u64 l1, .int .u8 p, .int .u8 t, .string s])), .pointer (some ⟨g1, 0, none⟩), .int .u16 0, .string s, .pointer (some ⟨g1, 8, none⟩), .string s, yv1 6, yv1 7, yv1 8, yv1 9, yv1 10, yv1 11, yv1 12, yv1 13, yv1 14, yv1 15, yv1 16, yv1 17, .bool true, .pointer (some ⟨g1, 0, none⟩), .agg (av 3 (ls [.bool (v0), .int .u64 h0, .int .u64 l0])), undef, .pointer (some ⟨g1, 3, none⟩), .agg (av 3 (ls [.bool (v1), .int .u64 h1, .int .u64 l1])), undef, undef, undef, .pointer (some ⟨g1, 6, none⟩), .int .u8 p, x_29, .string (bs [p]), undef, .pointer (some ⟨g1, 8, none⟩), .string s, .int .i64 (s.size : Int), .int .u64 (cv .u64 (s.size : Int)), undef, undef, .pointer (some ⟨g1, 8, none⟩), .string s, undef, undef, undef], []⟩ → l = #[true, true, false, true, true, false, false, false, true, true, true, true, false, true, true, true, true, false, false, true, true, false, false] → Mem ⟨w, []⟩ [⟨g1, .cells (av 9 (ls [.bool (v0), .int .u64 h0, .int .u64 l0, .bool (v1), .int .u64 h1, .int .u64 l1, .int .u8 p, .int .u8 t, .string s])) 26⟩] w0 → H 9 l a w0 := by
        intro a l  x_29 u0 ha hl M
        subst ha hl
        refine hB _ _ _ _ ?_
        refine hl_one 2 (by decide) (by kernel_rfl) rfl ?_
        refine pl_call M (want_no rfl) (some 21) rfl 47 #[.agg (av 3 (ls [.bool (v0), .int .u64 h0, .int .u64 l0]))] (.string (dB v0 h0 l0)) (fun _ => by kernel_rfl) (fun w M => d_Bytes v0 h0 l0 w M.laid) ?_
        intro u4 M
        refine pl_nil ?_
        refine au_then ?_
        refine ⟨M, ?_⟩
        exact hA _ _ _ _ (s8 _ _ (x_29) _ (by kernel_rfl) (by kernel_rfl) M)
      have s1 : ∀ (a : Act) (l : Array Bool) (w0 : World), a = ⟨#[.agg (av 9 (ls [.bool (v0), .int .u64 h0, .int .u64 l0, .bool (v1), .int .u64 h1, .int .u64 l1, .int .u8 p, .int .u8 t, .string s])), .pointer (some ⟨g1, 0, none⟩), .int .u16 0, .string s, .pointer (some ⟨g1, 8, none⟩), .string s, yv1 6, yv1 7, yv1 8, yv1 9, yv1 10, yv1 11, yv1 12, yv1 13, yv1 14, yv1 15, yv1 16, yv1 17, .bool true, .pointer (some ⟨g1, 0, none⟩), .agg (av 3 (ls [.bool (v0), .int .u64 h0, .int .u64 l0])), .string (dB v0 h0 l0), .pointer (some ⟨g1, 3, none⟩), .agg (av 3 (ls [.bool (v1), .int .u64 h1, .int .u64 l1])), undef, undef, undef, .pointer (some ⟨g1, 6, none⟩), .int .u8 p, undef, undef, undef, .pointer (some ⟨g1, 8, none⟩), .string s, .int .i64 (s.size : Int), .int .u64 (cv .u64 (s.size : Int)), undef, undef, .pointer (some ⟨g1, 8, none⟩), .string s, undef, undef, undef], []⟩ → l = #[true, true, true, true, true, false, false, false, true, true, false, false, false, true, true, true, true, false, false, true, true, false, false] → Mem ⟨w, []⟩ [⟨g1, .cells (av 9 (ls [.bool (v0), .int .u64 h0, .int .u64 l0, .bool (v1), .int .u64 h1, .int .u64 l1, .int .u8 p, .int .u8 t, .string s])) 26⟩] w0 → H 10 l a w0 := by
        intro a l   u0 ha hl M
        subst ha hl
        refine hB _ _ _ _ ?_
        refine hl_two 5 10 (by decide) (by decide) (by kernel_rfl) rfl rfl ?_ ?_
        · skip
          refine pl_call M (want_no rfl) (some 24) rfl 47 #[.agg (av 3 (ls [.bool (v1), .int .u64 h1, .int .u64 l1]))] (.string (dB v1 h1 l1)) (fun _ => by kernel_rfl) (fun w M => d_Bytes v1 h1 l1 w M.laid) ?_
          intro u4 M
          refine pl_nil ?_
          refine au_then ?_
          refine ⟨M, ?_⟩
          refine hl_val M 6 rfl (by decide) (by kernel_rfl) (by kernel_rfl) (want_no rfl) (some 25) rfl (.string ((dB v0 h0 l0) ++ (dB v1 h1 l1))) (fun w _ => (run_cat 9 9 _ _ rfl (dB v0 h0 l0) (dB v1 h1 l1) (by kernel_rfl) (by kernel_rfl) (by (try simp only [ByteArray.size_append, ByteArray.size_extract, be2_size, be4_size, be8_size, bs_size, sz_mk, List.size_toArray, List.length_cons, List.length_nil]); omega)) w) ?_
          refine hl_val M 7 rfl (by decide) (by kernel_rfl) (by kernel_rfl) (want_no rfl) (some 26) rfl (.string (((dB v0 h0 l0) ++ (dB v1 h1 l1)) ++ (⟨#[0]⟩ : ByteArray))) (fun w _ => (run_cat 9 9 _ _ rfl ((dB v0 h0 l0) ++ (dB v1 h1 l1)) ⟨#[0]⟩ (by kernel_rfl) (by kernel_rfl) (by (try simp only [ByteArray.size_append, ByteArray.size_extract, be2_size, be4_size, be8_size, bs_size, sz_mk, List.size_toArray, List.length_cons, List.length_nil]); omega)) w) ?_
          exact hA _ _ _ _ (s3 _ _  _ (by kernel_rfl) (by kernel_rfl) M)
        · skip
          refine pl_mk M (want_no rfl) (some 29) rfl (fun g2 => .slice (some ⟨g2, 0, none⟩) 1 1) (.cells (av 1 (ls [.int .u8 p])) 5) (fun _ => by kernel_rfl) ?_
          intro g2 u4 M
          replace M : Mem ⟨w, []⟩ [⟨g1, .cells (av 9 (ls [.bool (v0), .int .u64 h0, .int .u64 l0, .bool (v1), .int .u64 h1, .int .u64 l1, .int .u8 p, .int .u8 t, .string s])) 26⟩, ⟨g2, .cells (av 1 (ls [.int .u8 p])) 5⟩] u4 := M
          refine pl_nil ?_
          refine au_then ?_
          refine ⟨(M.drop (.cons_cons _ (.cons _ (.slnil)))), ?_⟩
          exact hA _ _ _ _ (s4 _ _ g2 _ (by kernel_rfl) (by kernel_rfl) M)
      have s2 : ∀ (a : Act) (l : Array Bool) (g2 : Nat) (w0 : World), a = ⟨#[.agg (av 9 (ls [.bool (v0), .int .u64 h0, .int .u64 l0, .bool (v1), .int .u64 h1, .int .u64 l1, .int .u8 p, .int .u8 t, .string s])), .pointer (some ⟨g1, 0, none⟩), .int .u16 0, .string s, .pointer (some ⟨g1, 8, none⟩), .string s, yv1 6, yv1 7, yv1 8, yv1 9, yv1 10, yv1 11, yv1 12, yv1 13, yv1 14, yv1 15, yv1 16, yv1 17, .bool true, .pointer (some ⟨g1, 0, none⟩), .agg (av 3 (ls [.bool (v0), .int .u64 h0, .int .u64 l0])), undef, .pointer (some ⟨g1, 3, none⟩), .agg (av 3 (ls [.bool (v1), .int .u64 h1, .int .u64 l1])), undef, undef, undef, .pointer (some ⟨g1, 6, none⟩), .int .u8 p, .slice (some ⟨g2, 0, none⟩) 1 1, undef, undef, .pointer (some ⟨g1, 8, none⟩), .string s, .int .i64 (s.size : Int), .int .u64 (cv .u64 (s.size : Int)), undef, undef, .pointer (some ⟨g1, 8, none⟩), .string s, undef, undef, undef], []⟩ → l = #[true, true, false, true, true, false, false, false, true, true, true, false, false, true, true, true, true, false, false, true, true, false, false] → Mem ⟨w, []⟩ [⟨g1, .cells (av 9 (ls [.bool (v0), .int .u64 h0, .int .u64 l0, .bool (v1), .int .u64 h1, .int .u64 l1, .int .u8 p, .int .u8 t, .string s])) 26⟩, ⟨g2, .cells (av 1 (ls [.int .u8 p])) 5⟩] w0 → H 10 l a w0 := by
        intro a l g2  u0 ha hl M
        subst ha hl
        refine hB _ _ _ _ ?_
        refine hl_two 2 11 (by decide) (by decide) (by kernel_rfl) rfl rfl ?_ ?_
        · skip
          refine pl_call M (want_no rfl) (some 21) rfl 47 #[.agg (av 3 (ls [.bool (v0), .int .u64 h0, .int .u64 l0]))] (.string (dB v0 h0 l0)) (fun _ => by kernel_rfl) (fun w M => d_Bytes v0 h0 l0 w M.laid) ?_
          intro u4 M
          refine pl_nil ?_
          refine au_then ?_
          refine ⟨(M.drop (.cons_cons _ (.cons _ (.slnil)))), ?_⟩
          exact hA _ _ _ _ (s4 _ _ g2 _ (by kernel_rfl) (by kernel_rfl) M)
        · skip
          refine pl_back M (want_no rfl) (some 30) rfl _ rfl 1 g2 1 1 (by kernel_rfl) _ rfl [p] 1 (sb_ls [p] _) rfl (by intro x hx; simp only [List.mem_cons, List.mem_nil_iff, or_false] at hx; subst hx; omega) ?_
          refine pl_nil ?_
          refine au_then ?_
          refine ⟨(M.drop (.cons_cons _ (.cons _ (.slnil)))), ?_⟩
          exact hA _ _ _ _ (s5 _ _ (.slice (some ⟨g2, 0, none⟩) 1 1) _ (by kernel_rfl) (by kernel_rfl) (M.drop (.cons_cons _ (.cons _ (.slnil)))))
      have s0 : ∀ (a : Act) (l : Array Bool) (w0 : World), a = ⟨#[.agg (av 9 (ls [.bool (v0), .int .u64 h0, .int .u64 l0, .bool (v1), .int .u64 h1, .int .u64 l1, .int .u8 p, .int .u8 t, .string s])), .pointer (some ⟨g1, 0, none⟩), .int .u16 0, .string s, .pointer (some ⟨g1, 8, none⟩), .string s, yv1 6, yv1 7, yv1 8, yv1 9, yv1 10, yv1 11, yv1 12, yv1 13, yv1 14, yv1 15, yv1 16, yv1 17, .bool true, .pointer (some ⟨g1, 0, none⟩), .agg (av 3 (ls [.bool (v0), .int .u64 h0, .int .u64 l0])), undef, .pointer (some ⟨g1, 3, none⟩), .agg (av 3 (ls [.bool (v1), .int .u64 h1, .int .u64 l1])), undef, undef, undef, .pointer (some ⟨g1, 6, none⟩), .int .u8 p, undef, undef, undef, .pointer (some ⟨g1, 8, none⟩), .string s, .int .i64 (s.size : Int), .int .u64 (cv .u64 (s.size : Int)), undef, undef, .pointer (some ⟨g1, 8, none⟩), .string s, undef, undef, undef], []⟩ → l = #[true, true, false, true, true, false, false, false, true, true, false, false, false, true, true, true, true, false, false, true, true, false, false] → Mem ⟨w, []⟩ [⟨g1, .cells (av 9 (ls [.bool (v0), .int .u64 h0, .int .u64 l0, .bool (v1), .int .u64 h1, .int .u64 l1, .int .u8 p, .int .u8 t, .string s])) 26⟩] w0 → H 11 l a w0 := by
        intro a l   u0 ha hl M
        subst ha hl
        refine hB _ _ _ _ ?_
        refine hl_two 2 10 (by decide) (by decide) (by kernel_rfl) rfl rfl ?_ ?_
        · skip
          refine pl_call M (want_no rfl) (some 21) rfl 47 #[.agg (av 3 (ls [.bool (v0), .int .u64 h0, .int .u64 l0]))] (.string (dB v0 h0 l0)) (fun _ => by kernel_rfl) (fun w M => d_Bytes v0 h0 l0 w M.laid) ?_
          intro u3 M
          refine pl_nil ?_
          refine au_then ?_
          refine ⟨M, ?_⟩
          exact hA _ _ _ _ (s1 _ _  _ (by kernel_rfl) (by kernel_rfl) M)
        · skip
          refine pl_mk M (want_no rfl) (some 29) rfl (fun g2 => .slice (some ⟨g2, 0, none⟩) 1 1) (.cells (av 1 (ls [.int .u8 p])) 5) (fun _ => by kernel_rfl) ?_
          intro g2 u3 M
          replace M : Mem ⟨w, []⟩ [⟨g1, .cells (av 9 (ls [.bool (v0), .int .u64 h0, .int .u64 l0, .bool (v1), .int .u64 h1, .int .u64 l1, .int .u8 p, .int .u8 t, .string s])) 26⟩, ⟨g2, .cells (av 1 (ls [.int .u8 p])) 5⟩] u3 := M
          refine pl_nil ?_
          refine au_then ?_
          refine ⟨(M.drop (.cons_cons _ (.cons _ (.slnil)))), ?_⟩
          exact hA _ _ _ _ (s2 _ _ g2 _ (by kernel_rfl) (by kernel_rfl) M)
      exact s0 _ _  _ (by kernel_rfl) (by kernel_rfl) M
    · skip
      refine wp_cond_false (by kernel_rfl) ?_
      refine wp_skip ?_
      refine au_then ?_
      refine wp_seq ?_
      refine rg_lit ?_
      refine pl_val (want_no rfl) (some 41) rfl (.string s) (fun _ => by kernel_rfl) ?_
      refine pl_call M (want_no rfl) (some 42) rfl 48 #[.string s] (.int .u16 (sumS s)) (fun _ => by kernel_rfl) (fun w M => d_Sum s (by (try simp only [ByteArray.size_append, ByteArray.size_extract, be2_size, be4_size, be8_size, bs_size, sz_mk, List.size_toArray, List.length_cons, List.length_nil]); omega) w M.laid) ?_
      intro u2 M
      refine pl_val (want_no rfl) (some 2) rfl (.int .u16 (sumS s)) (fun _ => by kernel_rfl) ?_
      refine pl_nil ?_
      refine au_then ?_
      refine wp_ret ?_
      have e0 : (sO v0 h0 l0 v1 h1 l1 p s) = (sumS s) := by unfold sO; exact if_neg hX
      exact bodyPost_ret (v := .int .u16 (sumS s)) (results_tmp1 Try.results26 _ _ _ (by kernel_rfl)) (by kernel_rfl) ⟨by rw [e0], below_grown M.old⟩

set_option maxRecDepth 100000 in
set_option maxHeartbeats 4000000 in
set_option linter.unusedSimpArgs false in
theorem c_pairAt (s : ByteArray) (k : Nat) (hk : k + 2 ≤ s.size) (w : World) (hL : Laid w)  :
    Calls Try.prog 44 #[.string s, .int .i64 (k : Int)] w fun r w' => r = .returned (.int .u16 (pr s k)) ∧ Below w.heap.size w w' := by
  go_enter Try.func44, Try.ntmps44
  have M := Mem.start hL
  refine wp_seq ?_
  refine rg_lit ?_
  refine pl_val (want_no rfl) (some 4) rfl (.int .u16 0) (fun _ => by kernel_rfl) ?_
  refine pl_nil ?_
  refine au_then ?_
  refine wp_seq ?_
  refine rg_lit ?_
  refine pl_val (want_no rfl) (some 5) rfl (.string s) (fun _ => by kernel_rfl) ?_
  refine pl_val (want_no rfl) (some 6) rfl (.int .i64 (k : Int)) (fun _ => by kernel_rfl) ?_
  refine pl_val (want_no rfl) (some 7) rfl (.string (s.extract k s.size)) (run_strl 9 Try.underlying9 _ _ rfl s (by kernel_rfl) .i64 k (by kernel_rfl) (by omega) _ rfl) ?_
  refine pl_calln M (want_no rfl) (some 8) rfl 55 #[.string (s.extract k s.size)] (fun g1 => .pointer (some ⟨g1, 0, none⟩)) (.cells (av 3 (ls [.bool true, .string (s.extract k s.size), .int .i64 0])) 78) (fun _ => by kernel_rfl) (fun w M => c_New (s.extract k s.size) w M.laid) ?_
  intro g1 u1 M
  replace M : Mem ⟨w, []⟩ [⟨g1, .cells (av 3 (ls [.bool true, .string (s.extract k s.size), .int .i64 0])) 78⟩] u1 := M
  refine pl_callp M (want_no rfl) (some 9) rfl 56 #[.pointer (some ⟨g1, 0, none⟩)] (.int .u16 (cv .u16 (bnv (tkV (s.extract k s.size) 0 2)))) 0 g1 (.cells (av 3 (ls [.bool true, .string (s.extract k s.size), .int .i64 0])) 78) (.cells (av 3 (ls [.bool true, .string (tkS (s.extract k s.size) 0 2), .int .i64 (tkF (s.extract k s.size) 0 2)])) 78) rfl (fun _ => by kernel_rfl) (fun w M => r_U16 g1 (s.extract k s.size) 0 w M.laid (M.get 0 rfl)) ?_
  intro u2 M
  replace M : Mem ⟨w, []⟩ [⟨g1, .cells (av 3 (ls [.bool true, .string (tkS (s.extract k s.size) 0 2), .int .i64 (tkF (s.extract k s.size) 0 2)])) 78⟩] u2 := M
  refine pl_val (want_no rfl) (some 4) rfl (.int .u16 (cv .u16 (bnv (tkV (s.extract k s.size) 0 2)))) (fun _ => by kernel_rfl) ?_
  refine pl_nil ?_
  refine au_then ?_
  refine wp_ret ?_
  have e0 : (pr s k) = (cv .u16 (bnv (tkV (s.extract k s.size) 0 2))) := (pr_tk s k hk).symm
  exact bodyPost_ret (v := .int .u16 (cv .u16 (bnv (tkV (s.extract k s.size) 0 2)))) (results_tmp1 Try.results44 _ _ _ (by kernel_rfl)) (by kernel_rfl) ⟨by rw [e0], below_grown M.old⟩

set_option maxRecDepth 100000 in
set_option maxHeartbeats 4000000 in
set_option linter.unusedSimpArgs false in
theorem d_num16 (s : ByteArray) (hk : 2 ≤ s.size) (w : World) (hL : Laid w)  :
    Calls Try.prog 25 #[.string s] w fun r w' => r = .returned (.int .u16 (pr s 0)) ∧ Below w.heap.size w w' := by
  go_enter Try.func25, Try.ntmps25
  have M := Mem.start hL
  have hb0 := bt_nn s 0
  have hb1 := bt_nn s 1
  refine wp_seq ?_
  refine rg_lit ?_
  refine pl_val (want_no rfl) (some 2) rfl (.int .u16 0) (fun _ => by kernel_rfl) ?_
  refine pl_nil ?_
  refine au_then ?_
  refine wp_seq ?_
  refine rg_held M [] 8 rfl (by kernel_rfl) (by kernel_rfl) (fun _ _ d _ _ h => by cases d <;> exact h) ?_
  intro u1 M
  replace M : Mem ⟨w, []⟩ [] u1 := M
  refine hl_val M 0 rfl (by decide) (by kernel_rfl) (by kernel_rfl) (want_no rfl) (some 3) rfl (.string s) (fun _ _ => by kernel_rfl) ?_
  refine hl_val M 1 rfl (by decide) (by kernel_rfl) (by kernel_rfl) (want_no rfl) (some 4) rfl (.int .u8 (bt s 0)) (fun w _ => (run_ixS 9 Try.underlying9 _ _ rfl s (by kernel_rfl) .i64 0 (by kernel_rfl) (by omega)) w) ?_
  refine hl_val M 2 rfl (by decide) (by kernel_rfl) (by kernel_rfl) (want_no rfl) (some 5) rfl (.int .u16 (bt s 0)) (fun w _ => (fun w => Eq.trans (b := .ok (.value (.int .u16 (cv .u16 (bt s 0)))) w) (by kernel_rfl) (by rw [cv_u16]; congr 3; omega)) w) ?_
  refine hl_val M 3 rfl (by decide) (by kernel_rfl) (by kernel_rfl) (want_no rfl) (some 6) rfl (.int .u16 (256 * bt s 0)) (fun w _ => (fun w => Eq.trans (b := .ok (.value (.int .u16 (IntKind.wrap .u16 (bt s 0 * 2 ^ 8)))) w) (by kernel_rfl) (by rw [IntKind.wrap_u16]; congr 3; omega)) w) ?_
  refine hl_val M 4 rfl (by decide) (by kernel_rfl) (by kernel_rfl) (want_no rfl) (some 7) rfl (.string s) (fun _ _ => by kernel_rfl) ?_
  refine hl_val M 5 rfl (by decide) (by kernel_rfl) (by kernel_rfl) (want_no rfl) (some 8) rfl (.int .u8 (bt s 1)) (fun w _ => (run_ixS 9 Try.underlying9 _ _ rfl s (by kernel_rfl) .i64 1 (by kernel_rfl) (by omega)) w) ?_
  refine hl_val M 6 rfl (by decide) (by kernel_rfl) (by kernel_rfl) (want_no rfl) (some 9) rfl (.int .u16 (bt s 1)) (fun w _ => (fun w => Eq.trans (b := .ok (.value (.int .u16 (cv .u16 (bt s 1)))) w) (by kernel_rfl) (by rw [cv_u16]; congr 3; omega)) w) ?_
  refine hl_val M 7 rfl (by decide) (by kernel_rfl) (by kernel_rfl) (want_no rfl) (some 10) rfl (.int .u16 (pr s 0)) (fun w _ => (fun w => Eq.trans (b := .ok (.value (.int .u16 (yo (256 * bt s 0) (bt s 1)))) w) (by kernel_rfl) (by rw [yo_256 _ _ hb0 hb1]; rfl)) w) ?_
  refine hl_end (by kernel_rfl) (by kernel_rfl) rfl ?_
  refine pl_val (want_no rfl) (some 2) rfl (.int .u16 (pr s 0)) (fun _ => by kernel_rfl) ?_
  refine pl_nil ?_
  refine au_then ?_
  refine au_then ?_
  refine wp_ret ?_
  exact bodyPost_ret (v := .int .u16 (pr s 0)) (results_tmp1 Try.results25 _ _ _ (by kernel_rfl)) (by kernel_rfl) ⟨rfl, below_grown M.old⟩

set_option maxRecDepth 100000 in
set_option maxHeartbeats 4000000 in
set_option linter.unusedSimpArgs false in
theorem c_bareFlow (v0 : Bool) (h0 l0 : Int) (v1 : Bool) (h1 l1 p t : Int) (s : ByteArray) (w : World) (hL : Laid w)  :
    Calls Try.prog 42 #[.agg (av 9 (ls [.bool (v0), .int .u64 h0, .int .u64 l0, .bool (v1), .int .u64 h1, .int .u64 l1, .int .u8 p, .int .u8 t, .string s]))] w fun r w' => r = .returned (.agg (av 9 (ls [.int .u8 p, .bool (v0), .int .u64 h0, .int .u64 l0, .bool (v1), .int .u64 h1, .int .u64 l1, .int .u16 0, .int .u16 0]))) ∧ Below w.heap.size w w' := by
  go_enter Try.func42, Try.ntmps42
  have M := Mem.start hL
  refine wp_seq ?_
  refine rg_lit ?_
  refine pl_new M (want_no rfl) (some 1) rfl (.cells (av 9 (ls [.bool (v0), .int .u64 h0, .int .u64 l0, .bool (v1), .int .u64 h1, .int .u64 l1, .int .u8 p, .int .u8 t, .string s])) 26) (fun _ => by kernel_rfl) ?_
  intro g1 u1 M
  replace M : Mem ⟨w, []⟩ [⟨g1, .cells (av 9 (ls [.bool (v0), .int .u64 h0, .int .u64 l0, .bool (v1), .int .u64 h1, .int .u64 l1, .int .u8 p, .int .u8 t, .string s])) 26⟩] u1 := M
  refine pl_new M (want_no rfl) (some 2) rfl (.cells (av 9 (ls [.int .u8 0, .bool false, .int .u64 0, .int .u64 0, .bool false, .int .u64 0, .int .u64 0, .int .u16 0, .int .u16 0])) 29) (fun _ => by kernel_rfl) ?_
  intro g2 u2 M
  replace M : Mem ⟨w, []⟩ [⟨g1, .cells (av 9 (ls [.bool (v0), .int .u64 h0, .int .u64 l0, .bool (v1), .int .u64 h1, .int .u64 l1, .int .u8 p, .int .u8 t, .string s])) 26⟩, ⟨g2, .cells (av 9 (ls [.int .u8 0, .bool false, .int .u64 0, .int .u64 0, .bool false, .int .u64 0, .int .u64 0, .int .u16 0, .int .u16 0])) 29⟩] u2 := M
  refine pl_nil ?_
  refine au_then ?_
  refine wp_seq ?_
  refine rg_lit ?_
  refine pl_val (want_no rfl) (some 3) rfl (.pointer (some ⟨g1, 6, none⟩)) (fun _ => by kernel_rfl) ?_
  refine pl_cell M (want_no rfl) (some 4) rfl 5 _ rfl g1 6 (by kernel_rfl) (.int .u8 p) (fun _ => by kernel_rfl) (fun w M => M.cell 0 rfl (by decide) rfl) ?_
  refine pl_val (want_no rfl) (some 5) rfl (.pointer (some ⟨g1, 0, none⟩)) (fun _ => by kernel_rfl) ?_
  refine pl_load M (want_no rfl) (some 6) rfl 24 _ rfl 0 g1 0 (by kernel_rfl) 9 26 (ls [.bool (v0), .int .u64 h0, .int .u64 l0, .bool (v1), .int .u64 h1, .int .u64 l1, .int .u8 p, .int .u8 t, .string s]) rfl 3 (ls [.bool (v0), .int .u64 h0, .int .u64 l0]) (part_ls _ 0 3 _ rfl) (by decide) _ Try.underlying24 rfl inz24 ?_
  refine pl_val (want_no rfl) (some 7) rfl (.pointer (some ⟨g1, 3, none⟩)) (fun _ => by kernel_rfl) ?_
  refine pl_load M (want_no rfl) (some 8) rfl 24 _ rfl 0 g1 3 (by kernel_rfl) 9 26 (ls [.bool (v0), .int .u64 h0, .int .u64 l0, .bool (v1), .int .u64 h1, .int .u64 l1, .int .u8 p, .int .u8 t, .string s]) rfl 3 (ls [.bool (v1), .int .u64 h1, .int .u64 l1]) (part_ls _ 3 3 _ rfl) (by decide) _ Try.underlying24 rfl inz24 ?_
  refine pl_val (want_no rfl) (some 9) rfl (.agg (av 9 (ls [.int .u8 p, .bool (v0), .int .u64 h0, .int .u64 l0, .bool (v1), .int .u64 h1, .int .u64 l1, .int .u16 0, .int .u16 0]))) (fun _ => by kernel_rfl) ?_
  refine pl_put M (want_no rfl) rfl 29 _ _ rfl 1 g2 0 (by kernel_rfl) 9 29 (ls [.int .u8 0, .bool false, .int .u64 0, .int .u64 0, .bool false, .int .u64 0, .int .u64 0, .int .u16 0, .int .u16 0]) rfl 9 (ls [.int .u8 p, .bool (v0), .int .u64 h0, .int .u64 l0, .bool (v1), .int .u64 h1, .int .u64 l1, .int .u16 0, .int .u16 0]) (ls [.int .u8 p, .bool (v0), .int .u64 h0, .int .u64 l0, .bool (v1), .int .u64 h1, .int .u64 l1, .int .u16 0, .int .u16 0]) (by kernel_rfl) inz29 (by decide) (one_ls _ rfl) (fun j hj => by rw [if_pos (by omega), Nat.sub_zero]) ?_
  intro u3 M
  replace M : Mem ⟨w, []⟩ [⟨g1, .cells (av 9 (ls [.bool (v0), .int .u64 h0, .int .u64 l0, .bool (v1), .int .u64 h1, .int .u64 l1, .int .u8 p, .int .u8 t, .string s])) 26⟩, ⟨g2, .cells (av 9 (ls [.int .u8 p, .bool (v0), .int .u64 h0, .int .u64 l0, .bool (v1), .int .u64 h1, .int .u64 l1, .int .u16 0, .int .u16 0])) 29⟩] u3 := M
  refine pl_nil ?_
  refine au_then ?_
  refine wp_ret ?_
  exact bodyPost_ret (v := .agg (av 9 (ls [.int .u8 p, .bool (v0), .int .u64 h0, .int .u64 l0, .bool (v1), .int .u64 h1, .int .u64 l1, .int .u16 0, .int .u16 0]))) (results_cell_row Try.results42 _ _ g2 29 (av 9 (ls [.int .u8 p, .bool (v0), .int .u64 h0, .int .u64 l0, .bool (v1), .int .u64 h1, .int .u64 l1, .int .u16 0, .int .u16 0])) (0, 0) _ (by kernel_rfl) (M.get 1 rfl) Try.underlying29 rfl (by rw [av_size]; exact inz29)) (by kernel_rfl) ⟨rfl, below_grown M.old⟩

set_option maxRecDepth 100000 in
set_option maxHeartbeats 4000000 in
set_option linter.unusedSimpArgs false in
theorem c_flowOf (p : Int) (v0 : Bool) (h0 l0 : Int) (f : Int) (v1 : Bool) (h1 l1 : Int) (g : Int) (w : World) (hL : Laid w)  :
    Calls Try.prog 28 #[.int .u8 p, .agg (av 4 (ls [.bool (v0), .int .u64 h0, .int .u64 l0, .int .u16 f])), .agg (av 4 (ls [.bool (v1), .int .u64 h1, .int .u64 l1, .int .u16 g]))] w fun r w' => r = .returned (.agg (av 9 (ls [.int .u8 p, .bool (v0), .int .u64 h0, .int .u64 l0, .bool (v1), .int .u64 h1, .int .u64 l1, .int .u16 f, .int .u16 g]))) ∧ Below w.heap.size w w' := by
  go_enter Try.func28, Try.ntmps28
  have M := Mem.start hL
  refine wp_seq ?_
  refine rg_lit ?_
  refine pl_new M (want_no rfl) (some 4) rfl (.cells (av 4 (ls [.bool (v0), .int .u64 h0, .int .u64 l0, .int .u16 f])) 40) (fun _ => by kernel_rfl) ?_
  intro g1 u1 M
  replace M : Mem ⟨w, []⟩ [⟨g1, .cells (av 4 (ls [.bool (v0), .int .u64 h0, .int .u64 l0, .int .u16 f])) 40⟩] u1 := M
  refine pl_new M (want_no rfl) (some 5) rfl (.cells (av 4 (ls [.bool (v1), .int .u64 h1, .int .u64 l1, .int .u16 g])) 40) (fun _ => by kernel_rfl) ?_
  intro g2 u2 M
  replace M : Mem ⟨w, []⟩ [⟨g1, .cells (av 4 (ls [.bool (v0), .int .u64 h0, .int .u64 l0, .int .u16 f])) 40⟩, ⟨g2, .cells (av 4 (ls [.bool (v1), .int .u64 h1, .int .u64 l1, .int .u16 g])) 40⟩] u2 := M
  refine pl_new M (want_no rfl) (some 6) rfl (.cells (av 9 (ls [.int .u8 0, .bool false, .int .u64 0, .int .u64 0, .bool false, .int .u64 0, .int .u64 0, .int .u16 0, .int .u16 0])) 29) (fun _ => by kernel_rfl) ?_
  intro g3 u3 M
  replace M : Mem ⟨w, []⟩ [⟨g1, .cells (av 4 (ls [.bool (v0), .int .u64 h0, .int .u64 l0, .int .u16 f])) 40⟩, ⟨g2, .cells (av 4 (ls [.bool (v1), .int .u64 h1, .int .u64 l1, .int .u16 g])) 40⟩, ⟨g3, .cells (av 9 (ls [.int .u8 0, .bool false, .int .u64 0, .int .u64 0, .bool false, .int .u64 0, .int .u64 0, .int .u16 0, .int .u16 0])) 29⟩] u3 := M
  refine pl_nil ?_
  refine au_then ?_
  refine wp_seq ?_
  refine rg_lit ?_
  refine pl_val (want_no rfl) (some 7) rfl (.int .u8 p) (fun _ => by kernel_rfl) ?_
  refine pl_val (want_no rfl) (some 8) rfl (.pointer (some ⟨g1, 0, none⟩)) (fun _ => by kernel_rfl) ?_
  refine pl_load M (want_no rfl) (some 9) rfl 24 _ rfl 0 g1 0 (by kernel_rfl) 4 40 (ls [.bool (v0), .int .u64 h0, .int .u64 l0, .int .u16 f]) rfl 3 (ls [.bool (v0), .int .u64 h0, .int .u64 l0]) (part_ls _ 0 3 _ rfl) (by decide) _ Try.underlying24 rfl inz24 ?_
  refine pl_val (want_no rfl) (some 10) rfl (.pointer (some ⟨g2, 0, none⟩)) (fun _ => by kernel_rfl) ?_
  refine pl_load M (want_no rfl) (some 11) rfl 24 _ rfl 1 g2 0 (by kernel_rfl) 4 40 (ls [.bool (v1), .int .u64 h1, .int .u64 l1, .int .u16 g]) rfl 3 (ls [.bool (v1), .int .u64 h1, .int .u64 l1]) (part_ls _ 0 3 _ rfl) (by decide) _ Try.underlying24 rfl inz24 ?_
  refine pl_val (want_no rfl) (some 12) rfl (.pointer (some ⟨g1, 3, none⟩)) (fun _ => by kernel_rfl) ?_
  refine pl_cell M (want_no rfl) (some 13) rfl 27 _ rfl g1 3 (by kernel_rfl) (.int .u16 f) (fun _ => by kernel_rfl) (fun w M => M.cell 0 rfl (by decide) rfl) ?_
  refine pl_val (want_no rfl) (some 14) rfl (.pointer (some ⟨g2, 3, none⟩)) (fun _ => by kernel_rfl) ?_
  refine pl_cell M (want_no rfl) (some 15) rfl 27 _ rfl g2 3 (by kernel_rfl) (.int .u16 g) (fun _ => by kernel_rfl) (fun w M => M.cell 1 rfl (by decide) rfl) ?_
  refine pl_val (want_no rfl) (some 16) rfl (.agg (av 9 (ls [.int .u8 p, .bool (v0), .int .u64 h0, .int .u64 l0, .bool (v1), .int .u64 h1, .int .u64 l1, .int .u16 f, .int .u16 g]))) (fun _ => by kernel_rfl) ?_
  refine pl_put M (want_no rfl) rfl 29 _ _ rfl 2 g3 0 (by kernel_rfl) 9 29 (ls [.int .u8 0, .bool false, .int .u64 0, .int .u64 0, .bool false, .int .u64 0, .int .u64 0, .int .u16 0, .int .u16 0]) rfl 9 (ls [.int .u8 p, .bool (v0), .int .u64 h0, .int .u64 l0, .bool (v1), .int .u64 h1, .int .u64 l1, .int .u16 f, .int .u16 g]) (ls [.int .u8 p, .bool (v0), .int .u64 h0, .int .u64 l0, .bool (v1), .int .u64 h1, .int .u64 l1, .int .u16 f, .int .u16 g]) (by kernel_rfl) inz29 (by decide) (one_ls _ rfl) (fun j hj => by rw [if_pos (by omega), Nat.sub_zero]) ?_
  intro u4 M
  replace M : Mem ⟨w, []⟩ [⟨g1, .cells (av 4 (ls [.bool (v0), .int .u64 h0, .int .u64 l0, .int .u16 f])) 40⟩, ⟨g2, .cells (av 4 (ls [.bool (v1), .int .u64 h1, .int .u64 l1, .int .u16 g])) 40⟩, ⟨g3, .cells (av 9 (ls [.int .u8 p, .bool (v0), .int .u64 h0, .int .u64 l0, .bool (v1), .int .u64 h1, .int .u64 l1, .int .u16 f, .int .u16 g])) 29⟩] u4 := M
  refine pl_nil ?_
  refine au_then ?_
  refine wp_ret ?_
  exact bodyPost_ret (v := .agg (av 9 (ls [.int .u8 p, .bool (v0), .int .u64 h0, .int .u64 l0, .bool (v1), .int .u64 h1, .int .u64 l1, .int .u16 f, .int .u16 g]))) (results_cell_row Try.results28 _ _ g3 29 (av 9 (ls [.int .u8 p, .bool (v0), .int .u64 h0, .int .u64 l0, .bool (v1), .int .u64 h1, .int .u64 l1, .int .u16 f, .int .u16 g])) (0, 0) _ (by kernel_rfl) (M.get 2 rfl) Try.underlying29 rfl (by rw [av_size]; exact inz29)) (by kernel_rfl) ⟨rfl, below_grown M.old⟩

set_option maxRecDepth 100000 in
set_option maxHeartbeats 4000000 in
set_option linter.unusedSimpArgs false in
theorem c_echoFlow (v0 : Bool) (h0 l0 : Int) (v1 : Bool) (h1 l1 : Int) (f : Int) (w : World) (hL : Laid w)  :
    Calls Try.prog 35 #[.agg (av 3 (ls [.bool (v0), .int .u64 h0, .int .u64 l0])), .agg (av 3 (ls [.bool (v1), .int .u64 h1, .int .u64 l1])), .int .u16 f] w fun r w' => r = .returned (.agg (av 9 (ls [.int .u8 (eP v0), .bool (v0), .int .u64 h0, .int .u64 l0, .bool (v1), .int .u64 h1, .int .u64 l1, .int .u16 f, .int .u16 f]))) ∧ Below w.heap.size w w' := by
  go_enter Try.func35, Try.ntmps35
  have M := Mem.start hL
  refine wp_seq ?_
  refine rg_lit ?_
  refine pl_new M (want_no rfl) (some 3) rfl (.cells (av 3 (ls [.bool (v0), .int .u64 h0, .int .u64 l0])) 24) (fun _ => by kernel_rfl) ?_
  intro g1 u1 M
  replace M : Mem ⟨w, []⟩ [⟨g1, .cells (av 3 (ls [.bool (v0), .int .u64 h0, .int .u64 l0])) 24⟩] u1 := M
  refine pl_new M (want_no rfl) (some 4) rfl (.cells (av 3 (ls [.bool (v1), .int .u64 h1, .int .u64 l1])) 24) (fun _ => by kernel_rfl) ?_
  intro g2 u2 M
  replace M : Mem ⟨w, []⟩ [⟨g1, .cells (av 3 (ls [.bool (v0), .int .u64 h0, .int .u64 l0])) 24⟩, ⟨g2, .cells (av 3 (ls [.bool (v1), .int .u64 h1, .int .u64 l1])) 24⟩] u2 := M
  refine pl_new M (want_no rfl) (some 6) rfl (.cells (av 9 (ls [.int .u8 0, .bool false, .int .u64 0, .int .u64 0, .bool false, .int .u64 0, .int .u64 0, .int .u16 0, .int .u16 0])) 29) (fun _ => by kernel_rfl) ?_
  intro g3 u3 M
  replace M : Mem ⟨w, []⟩ [⟨g1, .cells (av 3 (ls [.bool (v0), .int .u64 h0, .int .u64 l0])) 24⟩, ⟨g2, .cells (av 3 (ls [.bool (v1), .int .u64 h1, .int .u64 l1])) 24⟩, ⟨g3, .cells (av 9 (ls [.int .u8 0, .bool false, .int .u64 0, .int .u64 0, .bool false, .int .u64 0, .int .u64 0, .int .u16 0, .int .u16 0])) 29⟩] u3 := M
  refine pl_nil ?_
  refine au_then ?_
  refine wp_seq ?_
  refine rg_lit ?_
  refine pl_val (want_no rfl) (some 7) rfl (.int .u8 1) (fun _ => by kernel_rfl) ?_
  refine pl_nil ?_
  refine au_then ?_
  refine wp_seq ?_
  refine wp_seq ?_
  refine rg_lit ?_
  refine pl_val (want_no rfl) (some 8) rfl (.pointer (some ⟨g1, 0, none⟩)) (fun _ => by kernel_rfl) ?_
  rcases Bool.eq_false_or_eq_true (v0) with c0 | c0
  · skip
    refine pl_cell M (want_no rfl) (some 9) rfl 4 _ rfl g1 0 (by kernel_rfl) (.bool true) (fun _ => by kernel_rfl) (fun w M => M.cell 0 rfl (by decide) (congrArg Value.bool c0)) ?_
    refine pl_nil ?_
    refine au_then ?_
    refine wp_cond_true (by kernel_rfl) ?_
    refine rg_lit ?_
    refine pl_val (want_no rfl) (some 7) rfl (.int .u8 58) (fun _ => by kernel_rfl) ?_
    refine pl_nil ?_
    refine au_then ?_
    refine wp_seq ?_
    refine rg_lit ?_
    refine pl_val (want_no rfl) (some 10) rfl (.int .u8 58) (fun _ => by kernel_rfl) ?_
    refine pl_load M (want_no rfl) (some 11) rfl 24 _ rfl 0 g1 0 (by kernel_rfl) 3 24 (ls [.bool (v0), .int .u64 h0, .int .u64 l0]) rfl 3 (ls [.bool (v0), .int .u64 h0, .int .u64 l0]) (fun j _ => by rw [Nat.zero_add]) (by decide) _ Try.underlying24 rfl inz24 ?_
    refine pl_val (want_no rfl) (some 12) rfl (.int .u16 f) (fun _ => by kernel_rfl) ?_
    refine pl_val (want_no rfl) (some 13) rfl (.agg (av 4 (ls [.bool (v0), .int .u64 h0, .int .u64 l0, .int .u16 f]))) (fun _ => by kernel_rfl) ?_
    refine pl_load M (want_no rfl) (some 14) rfl 24 _ rfl 1 g2 0 (by kernel_rfl) 3 24 (ls [.bool (v1), .int .u64 h1, .int .u64 l1]) rfl 3 (ls [.bool (v1), .int .u64 h1, .int .u64 l1]) (fun j _ => by rw [Nat.zero_add]) (by decide) _ Try.underlying24 rfl inz24 ?_
    refine pl_val (want_no rfl) (some 15) rfl (.int .u16 f) (fun _ => by kernel_rfl) ?_
    refine pl_val (want_no rfl) (some 16) rfl (.agg (av 4 (ls [.bool (v1), .int .u64 h1, .int .u64 l1, .int .u16 f]))) (fun _ => by kernel_rfl) ?_
    refine pl_call M (want_no rfl) (some 17) rfl 28 #[.int .u8 58, .agg (av 4 (ls [.bool (v0), .int .u64 h0, .int .u64 l0, .int .u16 f])), .agg (av 4 (ls [.bool (v1), .int .u64 h1, .int .u64 l1, .int .u16 f]))] (.agg (av 9 (ls [.int .u8 58, .bool (v0), .int .u64 h0, .int .u64 l0, .bool (v1), .int .u64 h1, .int .u64 l1, .int .u16 f, .int .u16 f]))) (fun _ => by kernel_rfl) (fun w M => c_flowOf 58 v0 h0 l0 f v1 h1 l1 f w M.laid) ?_
    intro u4 M
    refine pl_put M (want_no rfl) rfl 29 _ _ rfl 2 g3 0 (by kernel_rfl) 9 29 (ls [.int .u8 0, .bool false, .int .u64 0, .int .u64 0, .bool false, .int .u64 0, .int .u64 0, .int .u16 0, .int .u16 0]) rfl 9 (ls [.int .u8 58, .bool (v0), .int .u64 h0, .int .u64 l0, .bool (v1), .int .u64 h1, .int .u64 l1, .int .u16 f, .int .u16 f]) (ls [.int .u8 58, .bool (v0), .int .u64 h0, .int .u64 l0, .bool (v1), .int .u64 h1, .int .u64 l1, .int .u16 f, .int .u16 f]) (by kernel_rfl) inz29 (by decide) (one_ls _ rfl) (fun j hj => by rw [if_pos (by omega), Nat.sub_zero]) ?_
    intro u5 M
    replace M : Mem ⟨w, []⟩ [⟨g1, .cells (av 3 (ls [.bool (v0), .int .u64 h0, .int .u64 l0])) 24⟩, ⟨g2, .cells (av 3 (ls [.bool (v1), .int .u64 h1, .int .u64 l1])) 24⟩, ⟨g3, .cells (av 9 (ls [.int .u8 58, .bool (v0), .int .u64 h0, .int .u64 l0, .bool (v1), .int .u64 h1, .int .u64 l1, .int .u16 f, .int .u16 f])) 29⟩] u5 := M
    refine pl_nil ?_
    refine au_then ?_
    refine wp_ret ?_
    have e0 : (eP v0) = 58 := by simp [eP, c0]
    exact bodyPost_ret (v := .agg (av 9 (ls [.int .u8 58, .bool (v0), .int .u64 h0, .int .u64 l0, .bool (v1), .int .u64 h1, .int .u64 l1, .int .u16 f, .int .u16 f]))) (results_cell_row Try.results35 _ _ g3 29 (av 9 (ls [.int .u8 58, .bool (v0), .int .u64 h0, .int .u64 l0, .bool (v1), .int .u64 h1, .int .u64 l1, .int .u16 f, .int .u16 f])) (0, 0) _ (by kernel_rfl) (M.get 2 rfl) Try.underlying29 rfl (by rw [av_size]; exact inz29)) (by kernel_rfl) ⟨by rw [e0], below_grown M.old⟩
  · skip
    refine pl_cell M (want_no rfl) (some 9) rfl 4 _ rfl g1 0 (by kernel_rfl) (.bool false) (fun _ => by kernel_rfl) (fun w M => M.cell 0 rfl (by decide) (congrArg Value.bool c0)) ?_
    refine pl_nil ?_
    refine au_then ?_
    refine wp_cond_false (by kernel_rfl) ?_
    refine wp_skip ?_
    refine au_then ?_
    refine wp_seq ?_
    refine rg_lit ?_
    refine pl_val (want_no rfl) (some 10) rfl (.int .u8 1) (fun _ => by kernel_rfl) ?_
    refine pl_load M (want_no rfl) (some 11) rfl 24 _ rfl 0 g1 0 (by kernel_rfl) 3 24 (ls [.bool (v0), .int .u64 h0, .int .u64 l0]) rfl 3 (ls [.bool (v0), .int .u64 h0, .int .u64 l0]) (fun j _ => by rw [Nat.zero_add]) (by decide) _ Try.underlying24 rfl inz24 ?_
    refine pl_val (want_no rfl) (some 12) rfl (.int .u16 f) (fun _ => by kernel_rfl) ?_
    refine pl_val (want_no rfl) (some 13) rfl (.agg (av 4 (ls [.bool (v0), .int .u64 h0, .int .u64 l0, .int .u16 f]))) (fun _ => by kernel_rfl) ?_
    refine pl_load M (want_no rfl) (some 14) rfl 24 _ rfl 1 g2 0 (by kernel_rfl) 3 24 (ls [.bool (v1), .int .u64 h1, .int .u64 l1]) rfl 3 (ls [.bool (v1), .int .u64 h1, .int .u64 l1]) (fun j _ => by rw [Nat.zero_add]) (by decide) _ Try.underlying24 rfl inz24 ?_
    refine pl_val (want_no rfl) (some 15) rfl (.int .u16 f) (fun _ => by kernel_rfl) ?_
    refine pl_val (want_no rfl) (some 16) rfl (.agg (av 4 (ls [.bool (v1), .int .u64 h1, .int .u64 l1, .int .u16 f]))) (fun _ => by kernel_rfl) ?_
    refine pl_call M (want_no rfl) (some 17) rfl 28 #[.int .u8 1, .agg (av 4 (ls [.bool (v0), .int .u64 h0, .int .u64 l0, .int .u16 f])), .agg (av 4 (ls [.bool (v1), .int .u64 h1, .int .u64 l1, .int .u16 f]))] (.agg (av 9 (ls [.int .u8 1, .bool (v0), .int .u64 h0, .int .u64 l0, .bool (v1), .int .u64 h1, .int .u64 l1, .int .u16 f, .int .u16 f]))) (fun _ => by kernel_rfl) (fun w M => c_flowOf 1 v0 h0 l0 f v1 h1 l1 f w M.laid) ?_
    intro u4 M
    refine pl_put M (want_no rfl) rfl 29 _ _ rfl 2 g3 0 (by kernel_rfl) 9 29 (ls [.int .u8 0, .bool false, .int .u64 0, .int .u64 0, .bool false, .int .u64 0, .int .u64 0, .int .u16 0, .int .u16 0]) rfl 9 (ls [.int .u8 1, .bool (v0), .int .u64 h0, .int .u64 l0, .bool (v1), .int .u64 h1, .int .u64 l1, .int .u16 f, .int .u16 f]) (ls [.int .u8 1, .bool (v0), .int .u64 h0, .int .u64 l0, .bool (v1), .int .u64 h1, .int .u64 l1, .int .u16 f, .int .u16 f]) (by kernel_rfl) inz29 (by decide) (one_ls _ rfl) (fun j hj => by rw [if_pos (by omega), Nat.sub_zero]) ?_
    intro u5 M
    replace M : Mem ⟨w, []⟩ [⟨g1, .cells (av 3 (ls [.bool (v0), .int .u64 h0, .int .u64 l0])) 24⟩, ⟨g2, .cells (av 3 (ls [.bool (v1), .int .u64 h1, .int .u64 l1])) 24⟩, ⟨g3, .cells (av 9 (ls [.int .u8 1, .bool (v0), .int .u64 h0, .int .u64 l0, .bool (v1), .int .u64 h1, .int .u64 l1, .int .u16 f, .int .u16 f])) 29⟩] u5 := M
    refine pl_nil ?_
    refine au_then ?_
    refine wp_ret ?_
    have e0 : (eP v0) = 1 := by simp [eP, c0]
    exact bodyPost_ret (v := .agg (av 9 (ls [.int .u8 1, .bool (v0), .int .u64 h0, .int .u64 l0, .bool (v1), .int .u64 h1, .int .u64 l1, .int .u16 f, .int .u16 f]))) (results_cell_row Try.results35 _ _ g3 29 (av 9 (ls [.int .u8 1, .bool (v0), .int .u64 h0, .int .u64 l0, .bool (v1), .int .u64 h1, .int .u64 l1, .int .u16 f, .int .u16 f])) (0, 0) _ (by kernel_rfl) (M.get 2 rfl) Try.underlying29 rfl (by rw [av_size]; exact inz29)) (by kernel_rfl) ⟨by rw [e0], below_grown M.old⟩

set_option maxRecDepth 100000 in
set_option maxHeartbeats 4000000 in
set_option linter.unusedSimpArgs false in
theorem c_kindOfT (p : Int) (w : World) (hL : Laid w)  :
    Calls Try.prog 36 #[.int .u8 p, .bool true] w fun r w' => r = .returned (.int .u8 (kO p true)) ∧ Below w.heap.size w w' := by
  go_enter Try.func36, Try.ntmps36
  have M := Mem.start hL
  refine wp_seq ?_
  refine rg_lit ?_
  refine pl_val (want_no rfl) (some 4) rfl (.int .u8 0) (fun _ => by kernel_rfl) ?_
  refine pl_nil ?_
  refine au_then ?_
  refine wp_seq ?_
  refine wp_block ?_
  refine wp_seq ?_
  refine rg_lit ?_
  refine pl_val (want_no rfl) (some 6) rfl (.int .u8 p) (fun _ => by kernel_rfl) ?_
  by_cases c0 : p = 1
  · skip
    refine pl_val (want_no rfl) (some 7) rfl (.bool true) (fun w => Eq.trans (b := .ok (.value (.bool (decide (p = 1)))) w) (by kernel_rfl) (by rw [decide_eq_true (c0)])) ?_
    refine pl_val (want_no rfl) (some 8) rfl (.bool true) (fun _ => by kernel_rfl) ?_
    refine pl_val (want_on 2 true rfl 8 rfl (by kernel_rfl)) (some 9) rfl (.bool true) (fun _ => by kernel_rfl) ?_
    refine pl_val (want_no rfl) (some 10) rfl (.bool true) (fun _ => by kernel_rfl) ?_
    refine pl_val (want_no rfl) (some 5) rfl (.bool true) (fun _ => by kernel_rfl) ?_
    refine pl_nil ?_
    refine au_then ?_
    refine wp_cond_true (by kernel_rfl) ?_
    refine wp_seq ?_
    refine rg_lit ?_
    refine pl_val (want_no rfl) (some 4) rfl (.int .u8 0) (fun _ => by kernel_rfl) ?_
    refine pl_nil ?_
    refine au_then ?_
    refine wp_ret ?_
    refine au_block_ret ?_
    refine au_then_ret ?_
    have e0 : (kO p true) = 0 := by simp [kO, c0]
    exact bodyPost_ret (v := .int .u8 0) (results_tmp1 Try.results36 _ _ _ (by kernel_rfl)) (by kernel_rfl) ⟨by rw [e0], below_grown M.old⟩
  · skip
    refine pl_val (want_no rfl) (some 7) rfl (.bool false) (fun w => Eq.trans (b := .ok (.value (.bool (decide (p = 1)))) w) (by kernel_rfl) (by rw [decide_eq_false (c0)])) ?_
    refine pl_val (want_no rfl) (some 8) rfl (.bool false) (fun _ => by kernel_rfl) ?_
    refine pl_skip (want_off 2 true rfl 8 rfl (by kernel_rfl)) (some 9) rfl ?_
    refine pl_val (want_no rfl) (some 10) rfl (.bool false) (fun _ => by kernel_rfl) ?_
    refine pl_val (want_no rfl) (some 5) rfl (.bool false) (fun _ => by kernel_rfl) ?_
    refine pl_nil ?_
    refine au_then ?_
    refine wp_cond_false (by kernel_rfl) ?_
    refine wp_seq ?_
    refine rg_lit ?_
    refine pl_val (want_no rfl) (some 12) rfl (.int .u8 p) (fun _ => by kernel_rfl) ?_
    refine pl_val (want_no rfl) (some 13) rfl (.bool false) (fun w => Eq.trans (b := .ok (.value (.bool (decide (p = 1)))) w) (by kernel_rfl) (by rw [decide_eq_false (c0)])) ?_
    refine pl_val (want_no rfl) (some 11) rfl (.bool false) (fun _ => by kernel_rfl) ?_
    refine pl_nil ?_
    refine au_then ?_
    refine wp_cond_false (by kernel_rfl) ?_
    refine wp_seq ?_
    refine rg_lit ?_
    refine pl_val (want_no rfl) (some 15) rfl (.bool true) (fun _ => by kernel_rfl) ?_
    refine pl_val (want_no rfl) (some 14) rfl (.bool true) (fun _ => by kernel_rfl) ?_
    refine pl_nil ?_
    refine au_then ?_
    refine wp_cond_true (by kernel_rfl) ?_
    refine wp_seq ?_
    refine rg_lit ?_
    refine pl_val (want_no rfl) (some 4) rfl (.int .u8 129) (fun _ => by kernel_rfl) ?_
    refine pl_nil ?_
    refine au_then ?_
    refine wp_ret ?_
    refine au_block_ret ?_
    refine au_then_ret ?_
    have e0 : (kO p true) = 129 := by simp [kO, c0]
    exact bodyPost_ret (v := .int .u8 129) (results_tmp1 Try.results36 _ _ _ (by kernel_rfl)) (by kernel_rfl) ⟨by rw [e0], below_grown M.old⟩

set_option maxRecDepth 100000 in
set_option maxHeartbeats 4000000 in
set_option linter.unusedSimpArgs false in
theorem c_kindOfF (p : Int) (w : World) (hL : Laid w)  :
    Calls Try.prog 36 #[.int .u8 p, .bool false] w fun r w' => r = .returned (.int .u8 (kO p false)) ∧ Below w.heap.size w w' := by
  go_enter Try.func36, Try.ntmps36
  have M := Mem.start hL
  refine wp_seq ?_
  refine rg_lit ?_
  refine pl_val (want_no rfl) (some 4) rfl (.int .u8 0) (fun _ => by kernel_rfl) ?_
  refine pl_nil ?_
  refine au_then ?_
  refine wp_seq ?_
  refine wp_block ?_
  refine wp_seq ?_
  refine rg_lit ?_
  refine pl_val (want_no rfl) (some 6) rfl (.int .u8 p) (fun _ => by kernel_rfl) ?_
  by_cases c0 : p = 1
  · skip
    refine pl_val (want_no rfl) (some 7) rfl (.bool true) (fun w => Eq.trans (b := .ok (.value (.bool (decide (p = 1)))) w) (by kernel_rfl) (by rw [decide_eq_true (c0)])) ?_
    refine pl_val (want_no rfl) (some 8) rfl (.bool true) (fun _ => by kernel_rfl) ?_
    refine pl_val (want_on 2 true rfl 8 rfl (by kernel_rfl)) (some 9) rfl (.bool false) (fun _ => by kernel_rfl) ?_
    refine pl_val (want_no rfl) (some 10) rfl (.bool false) (fun _ => by kernel_rfl) ?_
    refine pl_val (want_no rfl) (some 5) rfl (.bool false) (fun _ => by kernel_rfl) ?_
    refine pl_nil ?_
    refine au_then ?_
    refine wp_cond_false (by kernel_rfl) ?_
    refine wp_seq ?_
    refine rg_lit ?_
    refine pl_val (want_no rfl) (some 12) rfl (.int .u8 p) (fun _ => by kernel_rfl) ?_
    refine pl_val (want_no rfl) (some 13) rfl (.bool true) (fun w => Eq.trans (b := .ok (.value (.bool (decide (p = 1)))) w) (by kernel_rfl) (by rw [decide_eq_true (c0)])) ?_
    refine pl_val (want_no rfl) (some 11) rfl (.bool true) (fun _ => by kernel_rfl) ?_
    refine pl_nil ?_
    refine au_then ?_
    refine wp_cond_true (by kernel_rfl) ?_
    refine wp_seq ?_
    refine rg_lit ?_
    refine pl_val (want_no rfl) (some 4) rfl (.int .u8 8) (fun _ => by kernel_rfl) ?_
    refine pl_nil ?_
    refine au_then ?_
    refine wp_ret ?_
    refine au_block_ret ?_
    refine au_then_ret ?_
    have e0 : (kO p false) = 8 := by simp [kO, c0]
    exact bodyPost_ret (v := .int .u8 8) (results_tmp1 Try.results36 _ _ _ (by kernel_rfl)) (by kernel_rfl) ⟨by rw [e0], below_grown M.old⟩
  · skip
    refine pl_val (want_no rfl) (some 7) rfl (.bool false) (fun w => Eq.trans (b := .ok (.value (.bool (decide (p = 1)))) w) (by kernel_rfl) (by rw [decide_eq_false (c0)])) ?_
    refine pl_val (want_no rfl) (some 8) rfl (.bool false) (fun _ => by kernel_rfl) ?_
    refine pl_skip (want_off 2 true rfl 8 rfl (by kernel_rfl)) (some 9) rfl ?_
    refine pl_val (want_no rfl) (some 10) rfl (.bool false) (fun _ => by kernel_rfl) ?_
    refine pl_val (want_no rfl) (some 5) rfl (.bool false) (fun _ => by kernel_rfl) ?_
    refine pl_nil ?_
    refine au_then ?_
    refine wp_cond_false (by kernel_rfl) ?_
    refine wp_seq ?_
    refine rg_lit ?_
    refine pl_val (want_no rfl) (some 12) rfl (.int .u8 p) (fun _ => by kernel_rfl) ?_
    refine pl_val (want_no rfl) (some 13) rfl (.bool false) (fun w => Eq.trans (b := .ok (.value (.bool (decide (p = 1)))) w) (by kernel_rfl) (by rw [decide_eq_false (c0)])) ?_
    refine pl_val (want_no rfl) (some 11) rfl (.bool false) (fun _ => by kernel_rfl) ?_
    refine pl_nil ?_
    refine au_then ?_
    refine wp_cond_false (by kernel_rfl) ?_
    refine wp_seq ?_
    refine rg_lit ?_
    refine pl_val (want_no rfl) (some 15) rfl (.bool false) (fun _ => by kernel_rfl) ?_
    refine pl_val (want_no rfl) (some 14) rfl (.bool false) (fun _ => by kernel_rfl) ?_
    refine pl_nil ?_
    refine au_then ?_
    refine wp_cond_false (by kernel_rfl) ?_
    refine wp_skip ?_
    refine au_block ?_
    refine au_then ?_
    refine wp_seq ?_
    refine rg_lit ?_
    refine pl_val (want_no rfl) (some 4) rfl (.int .u8 128) (fun _ => by kernel_rfl) ?_
    refine pl_nil ?_
    refine au_then ?_
    refine wp_ret ?_
    have e0 : (kO p false) = 128 := by simp [kO, c0]
    exact bodyPost_ret (v := .int .u8 128) (results_tmp1 Try.results36 _ _ _ (by kernel_rfl)) (by kernel_rfl) ⟨by rw [e0], below_grown M.old⟩

set_option maxRecDepth 100000 in
set_option maxHeartbeats 4000000 in
set_option linter.unusedSimpArgs false in
theorem c_isEcho (p k : Int) (w : World) (hL : Laid w)  :
    Calls Try.prog 45 #[.int .u8 p, .int .u8 k] w fun r w' => r = .returned (.bool (ec p k)) ∧ Below w.heap.size w w' := by
  go_enter Try.func45, Try.ntmps45
  have M := Mem.start hL
  refine wp_seq ?_
  refine rg_lit ?_
  refine pl_val (want_no rfl) (some 4) rfl (.bool false) (fun _ => by kernel_rfl) ?_
  refine pl_nil ?_
  refine au_then ?_
  refine wp_seq ?_
  refine rg_lit ?_
  refine pl_val (want_no rfl) (some 5) rfl (.int .u8 k) (fun _ => by kernel_rfl) ?_
  refine pl_val (want_no rfl) (some 6) rfl (.int .u8 p) (fun _ => by kernel_rfl) ?_
  refine pl_call M (want_no rfl) (some 7) rfl 36 #[.int .u8 p, .bool false] (.int .u8 (kO p false)) (fun _ => by kernel_rfl) (fun w M => c_kindOfF p w M.laid) ?_
  intro u1 M
  by_cases c0 : k = (kO p false)
  · skip
    refine pl_val (want_no rfl) (some 8) rfl (.bool true) (fun w => Eq.trans (b := .ok (.value (.bool (decide (k = (kO p false))))) w) (by kernel_rfl) (by rw [decide_eq_true (c0)])) ?_
    refine pl_val (want_no rfl) (some 9) rfl (.bool true) (fun _ => by kernel_rfl) ?_
    refine pl_skip (want_off 4 false rfl 9 rfl (by kernel_rfl)) (some 10) rfl ?_
    refine pl_skip (want_off 4 false rfl 9 rfl (by kernel_rfl)) (some 11) rfl ?_
    refine pl_skip (want_off 4 false rfl 9 rfl (by kernel_rfl)) (some 12) rfl ?_
    refine pl_skip (want_off 4 false rfl 9 rfl (by kernel_rfl)) (some 13) rfl ?_
    refine pl_val (want_no rfl) (some 14) rfl (.bool true) (fun _ => by kernel_rfl) ?_
    refine pl_val (want_no rfl) (some 4) rfl (.bool true) (fun _ => by kernel_rfl) ?_
    refine pl_nil ?_
    refine au_then ?_
    refine wp_ret ?_
    have e0 : ec p k = true := by unfold ec; rw [decide_eq_true c0] <;> rfl
    exact bodyPost_ret (v := .bool true) (results_tmp1 Try.results45 _ _ _ (by kernel_rfl)) (by kernel_rfl) ⟨by rw [e0], below_grown M.old⟩
  · skip
    refine pl_val (want_no rfl) (some 8) rfl (.bool false) (fun w => Eq.trans (b := .ok (.value (.bool (decide (k = (kO p false))))) w) (by kernel_rfl) (by rw [decide_eq_false (c0)])) ?_
    refine pl_val (want_no rfl) (some 9) rfl (.bool false) (fun _ => by kernel_rfl) ?_
    refine pl_val (want_on 4 false rfl 9 rfl (by kernel_rfl)) (some 10) rfl (.int .u8 k) (fun _ => by kernel_rfl) ?_
    refine pl_val (want_on 4 false rfl 9 rfl (by kernel_rfl)) (some 11) rfl (.int .u8 p) (fun _ => by kernel_rfl) ?_
    refine pl_call M (want_on 4 false rfl 9 rfl (by kernel_rfl)) (some 12) rfl 36 #[.int .u8 p, .bool true] (.int .u8 (kO p true)) (fun _ => by kernel_rfl) (fun w M => c_kindOfT p w M.laid) ?_
    intro u2 M
    by_cases c1 : k = (kO p true)
    · skip
      refine pl_val (want_on 4 false rfl 9 rfl (by kernel_rfl)) (some 13) rfl (.bool true) (fun w => Eq.trans (b := .ok (.value (.bool (decide (k = (kO p true))))) w) (by kernel_rfl) (by rw [decide_eq_true (c1)])) ?_
      refine pl_val (want_no rfl) (some 14) rfl (.bool true) (fun _ => by kernel_rfl) ?_
      refine pl_val (want_no rfl) (some 4) rfl (.bool true) (fun _ => by kernel_rfl) ?_
      refine pl_nil ?_
      refine au_then ?_
      refine wp_ret ?_
      have e0 : ec p k = true := by unfold ec; rw [decide_eq_false c0, decide_eq_true c1] <;> rfl
      exact bodyPost_ret (v := .bool true) (results_tmp1 Try.results45 _ _ _ (by kernel_rfl)) (by kernel_rfl) ⟨by rw [e0], below_grown M.old⟩
    · skip
      refine pl_val (want_on 4 false rfl 9 rfl (by kernel_rfl)) (some 13) rfl (.bool false) (fun w => Eq.trans (b := .ok (.value (.bool (decide (k = (kO p true))))) w) (by kernel_rfl) (by rw [decide_eq_false (c1)])) ?_
      refine pl_val (want_no rfl) (some 14) rfl (.bool false) (fun _ => by kernel_rfl) ?_
      refine pl_val (want_no rfl) (some 4) rfl (.bool false) (fun _ => by kernel_rfl) ?_
      refine pl_nil ?_
      refine au_then ?_
      refine wp_ret ?_
      have e0 : ec p k = false := by unfold ec; rw [decide_eq_false c0, decide_eq_false c1] <;> rfl
      exact bodyPost_ret (v := .bool false) (results_tmp1 Try.results45 _ _ _ (by kernel_rfl)) (by kernel_rfl) ⟨by rw [e0], below_grown M.old⟩

set_option maxRecDepth 100000 in
set_option maxHeartbeats 4000000 in
set_option linter.unusedSimpArgs false in
theorem c_headerOf (v0 : Bool) (h0 l0 : Int) (v1 : Bool) (h1 l1 p t : Int) (s : ByteArray) (h12 : p = 6 → 13 ≤ s.size) (w : World) (hL : Laid w)  :
    Calls Try.prog 43 #[.agg (av 9 (ls [.bool (v0), .int .u64 h0, .int .u64 l0, .bool (v1), .int .u64 h1, .int .u64 l1, .int .u8 p, .int .u8 t, .string s]))] w fun r w' => r = .returned (.int .i64 (hdO p s)) ∧ Below w.heap.size w w' := by
  go_enter Try.func43, Try.ntmps43
  have M := Mem.start hL
  have hb := bt_nn s 12
  refine wp_seq ?_
  refine rg_lit ?_
  refine pl_new M (want_no rfl) (some 1) rfl (.cells (av 9 (ls [.bool (v0), .int .u64 h0, .int .u64 l0, .bool (v1), .int .u64 h1, .int .u64 l1, .int .u8 p, .int .u8 t, .string s])) 26) (fun _ => by kernel_rfl) ?_
  intro g1 u1 M
  replace M : Mem ⟨w, []⟩ [⟨g1, .cells (av 9 (ls [.bool (v0), .int .u64 h0, .int .u64 l0, .bool (v1), .int .u64 h1, .int .u64 l1, .int .u8 p, .int .u8 t, .string s])) 26⟩] u1 := M
  refine pl_val (want_no rfl) (some 2) rfl (.int .i64 0) (fun _ => by kernel_rfl) ?_
  refine pl_nil ?_
  refine au_then ?_
  refine wp_seq ?_
  refine wp_seq ?_
  refine rg_lit ?_
  refine pl_val (want_no rfl) (some 3) rfl (.pointer (some ⟨g1, 6, none⟩)) (fun _ => by kernel_rfl) ?_
  refine pl_cell M (want_no rfl) (some 4) rfl 5 _ rfl g1 6 (by kernel_rfl) (.int .u8 p) (fun _ => by kernel_rfl) (fun w M => M.cell 0 rfl (by decide) rfl) ?_
  refine pl_nil ?_
  refine au_then ?_
  refine wp_block ?_
  refine wp_seq ?_
  refine rg_lit ?_
  by_cases c0 : p = 17
  · skip
    refine pl_val (want_no rfl) (some 6) rfl (.bool true) (fun w => Eq.trans (b := .ok (.value (.bool (decide (p = 17)))) w) (by kernel_rfl) (by rw [decide_eq_true (c0)])) ?_
    refine pl_val (want_no rfl) (some 5) rfl (.bool true) (fun _ => by kernel_rfl) ?_
    refine pl_nil ?_
    refine au_then ?_
    refine wp_cond_true (by kernel_rfl) ?_
    refine wp_seq ?_
    refine rg_lit ?_
    refine pl_val (want_no rfl) (some 2) rfl (.int .i64 8) (fun _ => by kernel_rfl) ?_
    refine pl_nil ?_
    refine au_then ?_
    refine wp_ret ?_
    refine au_block_ret ?_
    refine au_then_ret ?_
    have e0 : (hdO p s) = 8 := by simp only [hdO, if_pos c0]
    exact bodyPost_ret (v := .int .i64 8) (results_tmp1 Try.results43 _ _ _ (by kernel_rfl)) (by kernel_rfl) ⟨by rw [e0], below_grown M.old⟩
  · skip
    refine pl_val (want_no rfl) (some 6) rfl (.bool false) (fun w => Eq.trans (b := .ok (.value (.bool (decide (p = 17)))) w) (by kernel_rfl) (by rw [decide_eq_false (c0)])) ?_
    refine pl_val (want_no rfl) (some 5) rfl (.bool false) (fun _ => by kernel_rfl) ?_
    refine pl_nil ?_
    refine au_then ?_
    refine wp_cond_false (by kernel_rfl) ?_
    refine wp_seq ?_
    refine rg_lit ?_
    by_cases c1 : p = 6
    · skip
      refine pl_val (want_no rfl) (some 8) rfl (.bool true) (fun w => Eq.trans (b := .ok (.value (.bool (decide (p = 6)))) w) (by kernel_rfl) (by rw [decide_eq_true (c1)])) ?_
      refine pl_val (want_no rfl) (some 7) rfl (.bool true) (fun _ => by kernel_rfl) ?_
      refine pl_nil ?_
      refine au_then ?_
      refine wp_cond_true (by kernel_rfl) ?_
      refine wp_seq ?_
      refine rg_lit ?_
      refine pl_val (want_no rfl) (some 9) rfl (.pointer (some ⟨g1, 8, none⟩)) (fun _ => by kernel_rfl) ?_
      refine pl_cell M (want_no rfl) (some 10) rfl 9 _ rfl g1 8 (by kernel_rfl) (.string s) (fun _ => by kernel_rfl) (fun w M => M.cell 0 rfl (by decide) rfl) ?_
      refine pl_val (want_no rfl) (some 11) rfl (.int .u8 (bt s 12)) (run_ixS 9 Try.underlying9 _ _ rfl s (by kernel_rfl) .i64 12 (by kernel_rfl) (by omega)) ?_
      refine pl_val (want_no rfl) (some 12) rfl (.int .u8 (sr (bt s 12) 4)) (fun _ => by kernel_rfl) ?_
      refine pl_val (want_no rfl) (some 13) rfl (.int .i64 (bt s 12 / 16)) (fun w => Eq.trans (b := .ok (.value (.int .i64 (cv .i64 (sr (bt s 12) 4)))) w) (by kernel_rfl) (by rw [sr_4, cv_i64 (by omega) (by omega)])) ?_
      refine pl_val (want_no rfl) (some 14) rfl (.int .i64 ((bt s 12 / 16) * 4)) (fun w => Eq.trans (b := .ok (.value (.int .i64 (IntKind.wrap .i64 ((bt s 12 / 16) * 4)))) w) (by kernel_rfl) (by rw [wrap64 (by omega) (by omega)])) ?_
      refine pl_val (want_no rfl) (some 2) rfl (.int .i64 ((bt s 12 / 16) * 4)) (fun _ => by kernel_rfl) ?_
      refine pl_nil ?_
      refine au_then ?_
      refine wp_ret ?_
      refine au_block_ret ?_
      refine au_then_ret ?_
      have e0 : (hdO p s) = ((bt s 12 / 16) * 4) := by simp only [hdO, if_neg c0, if_pos c1]
      exact bodyPost_ret (v := .int .i64 ((bt s 12 / 16) * 4)) (results_tmp1 Try.results43 _ _ _ (by kernel_rfl)) (by kernel_rfl) ⟨by rw [e0], below_grown M.old⟩
    · skip
      refine pl_val (want_no rfl) (some 8) rfl (.bool false) (fun w => Eq.trans (b := .ok (.value (.bool (decide (p = 6)))) w) (by kernel_rfl) (by rw [decide_eq_false (c1)])) ?_
      refine pl_val (want_no rfl) (some 7) rfl (.bool false) (fun _ => by kernel_rfl) ?_
      refine pl_nil ?_
      refine au_then ?_
      refine wp_cond_false (by kernel_rfl) ?_
      refine wp_seq ?_
      refine wp_seq ?_
      refine rg_lit ?_
      by_cases c2 : p = 1
      · skip
        refine pl_val (want_no rfl) (some 16) rfl (.bool true) (fun w => Eq.trans (b := .ok (.value (.bool (decide (p = 1)))) w) (by kernel_rfl) (by rw [decide_eq_true (c2)])) ?_
        refine pl_val (want_no rfl) (some 15) rfl (.bool true) (fun _ => by kernel_rfl) ?_
        refine pl_nil ?_
        refine au_then ?_
        refine wp_cond_true (by kernel_rfl) ?_
        refine wp_skip ?_
        refine au_then ?_
        refine wp_cond_true (by kernel_rfl) ?_
        refine wp_seq ?_
        refine rg_lit ?_
        refine pl_val (want_no rfl) (some 2) rfl (.int .i64 8) (fun _ => by kernel_rfl) ?_
        refine pl_nil ?_
        refine au_then ?_
        refine wp_ret ?_
        refine au_block_ret ?_
        refine au_then_ret ?_
        have e0 : (hdO p s) = 8 := by simp only [hdO, if_neg c0, if_neg c1, if_pos c2]
        exact bodyPost_ret (v := .int .i64 8) (results_tmp1 Try.results43 _ _ _ (by kernel_rfl)) (by kernel_rfl) ⟨by rw [e0], below_grown M.old⟩
      · skip
        refine pl_val (want_no rfl) (some 16) rfl (.bool false) (fun w => Eq.trans (b := .ok (.value (.bool (decide (p = 1)))) w) (by kernel_rfl) (by rw [decide_eq_false (c2)])) ?_
        refine pl_val (want_no rfl) (some 15) rfl (.bool false) (fun _ => by kernel_rfl) ?_
        refine pl_nil ?_
        refine au_then ?_
        refine wp_cond_false (by kernel_rfl) ?_
        refine rg_lit ?_
        by_cases c3 : p = 58
        · skip
          refine pl_val (want_no rfl) (some 17) rfl (.bool true) (fun w => Eq.trans (b := .ok (.value (.bool (decide (p = 58)))) w) (by kernel_rfl) (by rw [decide_eq_true (c3)])) ?_
          refine pl_val (want_no rfl) (some 15) rfl (.bool true) (fun _ => by kernel_rfl) ?_
          refine pl_nil ?_
          refine au_then ?_
          refine wp_cond_true (by kernel_rfl) ?_
          refine wp_seq ?_
          refine rg_lit ?_
          refine pl_val (want_no rfl) (some 2) rfl (.int .i64 8) (fun _ => by kernel_rfl) ?_
          refine pl_nil ?_
          refine au_then ?_
          refine wp_ret ?_
          refine au_block_ret ?_
          refine au_then_ret ?_
          have e0 : (hdO p s) = 8 := by simp only [hdO, if_neg c0, if_neg c1, if_neg c2, if_pos c3]
          exact bodyPost_ret (v := .int .i64 8) (results_tmp1 Try.results43 _ _ _ (by kernel_rfl)) (by kernel_rfl) ⟨by rw [e0], below_grown M.old⟩
        · skip
          refine pl_val (want_no rfl) (some 17) rfl (.bool false) (fun w => Eq.trans (b := .ok (.value (.bool (decide (p = 58)))) w) (by kernel_rfl) (by rw [decide_eq_false (c3)])) ?_
          refine pl_val (want_no rfl) (some 15) rfl (.bool false) (fun _ => by kernel_rfl) ?_
          refine pl_nil ?_
          refine au_then ?_
          refine wp_cond_false (by kernel_rfl) ?_
          refine wp_skip ?_
          refine au_block ?_
          refine au_then ?_
          refine wp_seq ?_
          refine rg_lit ?_
          refine pl_val (want_no rfl) (some 2) rfl (.int .i64 0) (fun _ => by kernel_rfl) ?_
          refine pl_nil ?_
          refine au_then ?_
          refine wp_ret ?_
          have e0 : (hdO p s) = 0 := by simp only [hdO, if_neg c0, if_neg c1, if_neg c2, if_neg c3]
          exact bodyPost_ret (v := .int .i64 0) (results_tmp1 Try.results43 _ _ _ (by kernel_rfl)) (by kernel_rfl) ⟨by rw [e0], below_grown M.old⟩


end Go.Proofs.Ytahknenmjnhmjaa
