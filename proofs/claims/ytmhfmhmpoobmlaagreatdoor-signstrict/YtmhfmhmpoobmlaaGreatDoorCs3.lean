/- Part 3 of the walks and facts behind signStrict_holds. -/
import Derived.Test.YtmhfmhmpoobmlaaGreatDoorCs2
import Derived.Deep.LoopGhost
import Derived.Laws.Bits64b
import Derived.Laws.Externs
import Derived.Lib.Mul64
import Derived.LoopN
import Derived.Shelf.Strings.Repeat
import Derived.Test.YtmhfmhmpoobmlaaGreatDoorProg
import Derived.Test.YtmhfmhmpoobmlaaGreatDoorRows
import Derived.WalkKit
import Derived.WalkLawsBesides
import Derived.WalkSpells
/- More steps of a walk that a program types: loops, places of an array, bytes of a string, strings out of bytes. -/
namespace Go.Proofs.YtmhfmhmpoobmlaaGreatDoor
open Go.RowKit

section
variable {P : Program} {ops : Array Oper} {rest : List Oper} {o : Oper} {a : Act} {w w0 : World} {L : List Blk} {Q : Exit → Act → World → Prop}

theorem au_loop {c : Code} (I : Nat → Act → World → Prop) (N : Nat) (h0 : I 0 a w) (round : ∀ j a w, j < N → I j a w → c.wp P (Exit.then (I (j + 1)) Q) a w) (last : ∀ a w, I N a w → c.wp P (Exit.then (fun _ _ => False) Q) a w) : (Code.loop c).wp P Q a w := by
  refine wp_loop_ghost (fun n a w => n ≤ N ∧ I (N - n) a w) N ⟨Nat.le_refl _, by rw [Nat.sub_self]; exact h0⟩ fun n a w ⟨hn, hI⟩ => ?_
  cases n with
  | zero =>
    rw [Nat.sub_zero] at hI
    refine wp_mono (last a w hI) fun e a' w' hq => ?_
    cases e <;> first | exact hq | exact hq.elim
  | succ n =>
    refine wp_mono (round (N - (n + 1)) a w (by omega) hI) fun e a' w' hq => ?_
    rw [show N - (n + 1) + 1 = N - n by omega] at hq
    cases e <;> first | exact hq | exact ⟨n, by omega, by omega, hq⟩

theorem rounds_go {c : Code} {n : Nat} (h : c.wp P (Exit.then (Code.rounds P c Q n) Q) a w) : Code.rounds P c Q (n + 1) a w := h

theorem run_ix (t : TypeId) (len sz : Nat) (elem : TypeId) (hu : P.underlying t = some (.array len elem)) (hs : (P.info? elem).map (·.size) = some sz) (x ix : Operand) (ho : o.op = .indexAddr t x ix) (g : Nat) (hx : a.eval x = .pointer (some ⟨g, 0, none⟩)) (k : IntKind) (i : Nat) (hi : a.eval ix = .int k (i : Int)) (hlt : i < len) (w : World) :
    (execOp a.eval o).run P w = .ok (.value (.pointer (some ⟨g, i * sz, none⟩))) w := by
  have hadd : (⟨g, 0, none⟩ : Addr).add (i * sz) = ⟨g, i * sz, none⟩ := by unfold Addr.add; split <;> simp_all
  cases hq : P.info? elem with
  | none => simp [hq] at hs
  | some u =>
    have hsz : u.size = sz := by simpa [hq] using hs
    unfold execOp
    simp [ho, hx, hi, Instr.indexAt, Instr.sureAddr, asIntOf, run_underlying hu, sizeOf, typeInfo, hq, hsz, hadd, hlt]

theorem run_ixS (t : TypeId) (hu : P.underlying t = some .string) (x ix : Operand) (ho : o.op = .index t x ix) (s : ByteArray) (hx : a.eval x = .string s) (k : IntKind) (i : Nat) (hi : a.eval ix = .int k (i : Int)) (hlt : i < s.size) (w : World) :
    (execOp a.eval o).run P w = .ok (.value (.int .u8 (bt s i))) w := by
  have hb : s[i]? = some (s[i]'hlt) := getElem?_pos s i hlt
  have hv : bt s i = ((s[i]'hlt).toNat : Int) := by
    unfold bt
    rw [Array.getElem?_eq_getElem hlt]
    rfl
  unfold execOp
  simp [ho, hx, hi, Instr.index, asIntOf, run_underlying hu, hb, hv]

theorem run_bin (op : BinOp) (t : TypeId) (x y : Operand) {rt : TypeId} (ho : o.op = .binOp op t x y rt) {vx vy v : Value} (hx : a.eval x = vx) (hy : a.eval y = vy) (hg : ∀ w, (eqGuard op t x y vx vy).run P w = .ok () w) (hb : ∀ w, (binOp op t vx vy).run P w = .ok v w) (w : World) :
    (execOp a.eval o).run P w = .ok (.value v) w := by
  unfold execOp
  simp only [ho, hx, hy, Sem.run_bind, hg, hb, Result.andThen_ok, Sem.run_pure]
theorem run_shr4 (x : Int) (w : World) : (binOp .shr 5 (.int .u8 x) (.int .u64 4)).run Tryz.prog w = .ok (.int .u8 (x / 16)) w := by
  simp [binOp, go_sem]

theorem wrap64 {x : Int} (h0 : -9223372036854775808 ≤ x) (h1 : x < 9223372036854775808) : IntKind.wrap .i64 x = x := by
  simp [IntKind.wrap, IntKind.signed, IntKind.bits, go_sem]
  omega

theorem setAll_part (n : Nat) (f f' fn : Nat → Int) (off k : Nat) (hk : off + k ≤ n) (hfn : ∀ j, j < n → (if off ≤ j ∧ j < off + k then f' (j - off) else f j) = fn j) : setAll (arr n f) off (arr k f').toList = arr n fn := by
  have hlen : (arr k f').toList.length = k := by simp [arr_size]
  have hsz : ∀ (vs : List Value) (cs : Array Value) (o : Nat), (setAll cs o vs).size = cs.size := by
    intro vs
    induction vs with
    | nil => intro cs o; rfl
    | cons v vs ih => intro cs o; simp [setAll, ih]
  apply Array.ext_getElem?
  intro i
  rw [setAll_get _ _ _ _ (by rw [hlen, arr_size]; exact hk), hlen]
  by_cases hi : i < n
  · rw [arr_get n fn i hi, ← hfn i hi]
    by_cases h : off ≤ i ∧ i < off + k
    · rw [if_pos h, if_pos h, Array.getElem?_toList, arr_get k f' _ (by omega)]
    · rw [if_neg h, if_neg h, arr_get n f i hi]
  · rw [if_neg (by omega), Array.getElem?_eq_none (by rw [arr_size]; omega), Array.getElem?_eq_none (by rw [arr_size]; omega)]

theorem Row.setPart {W : World} {g : Nat} {T : TypeId} {n : Nat} {f : Nat → Int} (h : Row W g T n f) (f' fn : Nat → Int) (off k : Nat) (hk : off + k ≤ n) (hfn : ∀ j, j < n → (if off ≤ j ∧ j < off + k then f' (j - off) else f j) = fn j) : Row (W.setCells g off (arr k f').toList) g T n fn := by
  unfold Row
  rw [heap_setCells g T _ W _ off h, setAll_part n f f' fn off k hk hfn]

theorem Row.thereP {W : World} {g : Nat} {T : TypeId} {n : Nat} {f : Nat → Int} (h : Row W g T n f) (off k : Nat) (hk : off + k ≤ n) : W.there g off k := fun j hj => by
  have := h.there (off + j) (by omega)
  simpa using this

theorem pl_putm (M : Mem w0 L w) (hw : Region.wanted o (yielded ops a.tmps) = true) (hd : o.dst = none) (ty : TypeId) (x y : Operand) (ho : o.op = .store ty x y) (i g off : Nat) (hx : a.eval x = .pointer (some ⟨g, off, none⟩)) (n T : Nat) (f : Nat → Int) (hi : L[i]? = some ⟨g, .cells (arr n f) T⟩) (k : Nat) (f' fn : Nat → Int)
    (hy : a.eval y = .agg (arr k f')) (hz : (P.info? ty).map (·.size) = some k) (hk : off + k ≤ n) (hfn : ∀ j, j < n → (if off ≤ j ∧ j < off + k then f' (j - off) else f j) = fn j)
    (h : ∀ w', Mem w0 (L.set i ⟨g, .cells (arr n fn) T⟩) w' → PL P ops Q rest a w') : PL P ops Q (o :: rest) a w := by
  have R := M.row i hi
  refine ⟨Go.BigFrame.wpList_want hw fun K hK => wp_store_mid ty x y ho g off (arr k f') hx hy (by rw [arr_size]; exact R.thereP off k hk) (by rw [hz, arr_size]) (arr_one _ _) (hK _ _ ?_)⟩
  rw [hd]
  refine PL.out ?_
  exact h _ (M.put i ⟨g, _⟩ hi _ (R.setPart f' fn off k hk hfn) (fun k hk => heap_setCells_other g k hk _ _ _) (fun B u hB hu => below_setCells hB _ _ hu))
end

section
variable {ops : Array Oper} {rest : List Oper} {o : Oper} {a : Act} {w w0 : World} {L : List Blk} {Q : Exit → Act → World → Prop}

theorem pl_back (M : Mem w0 L w) (hw : Region.wanted o (yielded ops a.tmps) = true) (d : Option Tmp) (hd : o.dst = d) (x : Operand) (ho : o.op = .convert 32 9 x) (i g n cap : Nat) (hx : a.eval x = .slice (some ⟨g, 0, none⟩) n cap) (Z : Obj) (hi : L[i]? = some ⟨g, Z⟩) (f : Nat → Int) (hz : ByZ Z n f) (hf : ∀ i, i < n → 0 ≤ f i ∧ f i < 256)
    (h : PL Tryz.prog ops Q rest (a.put d (.string (bs ((List.range n).map f)))) w) : PL Tryz.prog ops Q (o :: rest) a w := by
  refine pl_to hw d hd _ w ?_ h
  have hb := conv_back (hz.bc (M.get i hi)) cap hf
  unfold execOp
  simp only [ho, hx, Sem.run_bind, hb, Result.andThen_ok, Sem.run_pure]
end

section
variable {ops : Array Oper} {rest : List Oper} {o : Oper} {a : Act} {w w0 : World} {L : List Blk} {Q : Exit → Act → World → Prop}
end

section
variable {P : Program} {ops : Array Oper} {md : Region.Mode} {Q : Exit → Act → World → Prop} {fuel : Nat} {listed : Array Bool} {a : Act} {w w0 : World} {L : List Blk} {i : Nat} {o : Oper} {rs : List Nat}

end

section
variable {P : Program} {ops : Array Oper} {md : Region.Mode} {Q : Exit → Act → World → Prop} {fuel : Nat} {listed : Array Bool} {a : Act} {w : World}
end

end Go.Proofs.YtmhfmhmpoobmlaaGreatDoor

/- The walks that go by bytes, told by what their callees hand back. -/
namespace Go.Proofs.YtmhfmhmpoobmlaaGreatDoor
open Go.RowKit

theorem inzb : (Tryz.prog.info? 5).map (·.size) = some 1 := by kernel_rfl

structure partedF (s : ByteArray)  : Prop where
  h0 : True

set_option maxRecDepth 100000 in
set_option maxHeartbeats 4000000 in
theorem parted_gen (s : ByteArray)  (w : World) (_F : partedF s ) (hs : s.size = 32) (hf : ∀ i, i < 32 → 0 ≤ (upd (bt s) 31 (bits .andNot .u8 (bt s 31) 128)) i ∧ (upd (bt s) 31 (bits .andNot .u8 (bt s 31) 128)) i < 256) :
    Calls Tryz.prog 76 #[.string s] w fun r w' => r = .returned (.tuple #[.string (bs ((List.range 32).map (upd (bt (s)) 31 (bits .andNot .u8 ((bt (s)) 31) 128)))), .bool (!(decide (bits .and .u8 (bt (s) 31) 128 = 0)))]) ∧ Below w.heap.size w w' := by
  go_enter Tryz.func76, Tryz.ntmps76
  have M := Mem.start w
  refine sr ?_
  refine pv 2 (.string ⟨#[]⟩) ?_
  refine pv 3 (.bool false) ?_
  refine nt ?_
  refine sr ?_
  refine zN M 4 (.cells (bz 32) 89) fun g1 w1 M => ?_
  refine nt ?_
  refine sr ?_
  refine pv 6 (.slice (some ⟨g1, 0, none⟩) 32 32) ?_
  refine pv 7 (.string s) ?_
  refine pl_copy M (want_no rfl) (some 8) rfl 32 9 3 5 0 g1 32 32 (s) hs (.cells (bz 32) 89) rfl (fun _ => 0) (ByZ.zero 32 89) Tryz.underlying32 inzb (fun _ => by kernel_rfl) ?_
  intro Z1 w2 z1 M
  refine nt ?_
  refine sr ?_
  refine pv 9 (.pointer (some ⟨g1, 31, none⟩)) ?_
  refine pl_loadb M (want_no rfl) (some 10) rfl 5 _ rfl 0 g1 31 (by kernel_rfl) (Z1) rfl 32 (bt (s)) z1 (by decide) (fun _ => by kernel_rfl) ?_
  refine pv 11 (.int .u8 (bits .and .u8 ((bt (s)) 31) 128)) ?_
  refine pv 12 (.bool (!(decide (bits .and .u8 (bt (s) 31) 128 = 0)))) ?_
  refine pv 5 (.bool (!(decide (bits .and .u8 (bt (s) 31) 128 = 0)))) ?_
  refine nt ?_
  refine sr ?_
  refine pv 13 (.pointer (some ⟨g1, 31, none⟩)) ?_
  refine pl_loadb M (want_no rfl) (some 14) rfl 5 _ rfl 0 g1 31 (by kernel_rfl) (Z1) rfl 32 (bt (s)) z1 (by decide) (fun _ => by kernel_rfl) ?_
  refine pv 15 (.int .u8 (bits .andNot .u8 ((bt (s)) 31) 128)) ?_
  refine pv 16 (.pointer (some ⟨g1, 31, none⟩)) ?_
  refine pl_storeb M (want_no rfl) rfl 5 _ _ rfl 0 g1 31 (by kernel_rfl) (bits .andNot .u8 ((bt (s)) 31) 128) (by kernel_rfl) (Z1) rfl 32 (bt (s)) z1 (by decide) inzb ?_
  intro Z2 w3 z2 M
  refine nt ?_
  refine sr ?_
  refine pv 17 (.slice (some ⟨g1, 0, none⟩) 32 32) ?_
  refine pl_back M (want_no rfl) (some 18) rfl _ rfl 0 g1 32 32 (by kernel_rfl) (Z2) rfl (upd (bt (s)) 31 (bits .andNot .u8 ((bt (s)) 31) 128)) z2 hf ?_
  refine pv 19 (.bool (!(decide (bits .and .u8 (bt (s) 31) 128 = 0)))) ?_
  refine pv 2 (.string (bs ((List.range 32).map (upd (bt (s)) 31 (bits .andNot .u8 ((bt (s)) 31) 128))))) ?_
  refine pv 3 (.bool (!(decide (bits .and .u8 (bt (s) 31) 128 = 0)))) ?_
  refine nt ?_
  refine wp_ret ?_
  exact bodyPost_ret (v := .tuple #[.string (bs ((List.range 32).map (upd (bt (s)) 31 (bits .andNot .u8 ((bt (s)) 31) 128)))), .bool (!(decide (bits .and .u8 (bt (s) 31) 128 = 0)))]) (results_tmp2 Tryz.results76 _ _ _ _ (by kernel_rfl) (by kernel_rfl)) (by kernel_rfl) ⟨rfl, M.old⟩

structure bytesNF (px py pz pt : Nat → Int) : Prop where
  h1 : ∀ w, Calls Tryz.prog 58 #[.agg (arr 20 (p4 5 px py pz pt))] w fun r w' => r = .returned (.bool true) ∧ Below w.heap.size w w'

set_option maxRecDepth 100000 in
set_option maxHeartbeats 4000000 in
theorem bytesN_gen (px py pz pt : Nat → Int) (w : World) (F : bytesNF px py pz pt)  :
    Calls Tryz.prog 27 #[.agg (arr 20 (p4 5 px py pz pt))] w fun r w' => r = .returned (.string ⟨#[]⟩) ∧ Below w.heap.size w w' := by
  go_enter Tryz.func27, Tryz.ntmps27
  have M := Mem.start w
  refine sr ?_
  refine zN M 1 (.cells (arr 20 (p4 5 px py pz pt)) 60) fun g1 w1 M => ?_
  refine pv 2 (.string ⟨#[]⟩) ?_
  refine nt ?_
  refine wp_seq ?_
  refine sr ?_
  refine zA M 5 0 rfl ?_
  refine zC M 6 F.h1 fun w2 M => ?_
  refine nt ?_
  refine wp_cond_true (by kernel_rfl) ?_
  refine sr ?_
  refine pv 2 (.string ⟨#[]⟩) ?_
  refine nt ?_
  refine wp_ret ?_
  refine au_then_ret ?_
  exact bodyPost_ret (v := .string ⟨#[]⟩) (results_tmp1 Tryz.results27 _ _ _ (by kernel_rfl)) (by kernel_rfl) ⟨rfl, M.old⟩

structure bytesFF (px py pz pt r1 r2 r4 : Nat → Int) (s3 : ByteArray) : Prop where
  h1 : ∀ w, Calls Tryz.prog 58 #[.agg (arr 20 (p4 5 px py pz pt))] w fun r w' => r = .returned (.bool false) ∧ Below w.heap.size w w'
  h2 : ∀ w, Calls Tryz.prog 63 #[.agg (arr 5 pz)] w fun r w' => r = .returned (.agg (arr 5 r1)) ∧ Below w.heap.size w w'
  h3 : ∀ w, Calls Tryz.prog 64 #[.agg (arr 5 py), .agg (arr 5 r1)] w fun r w' => r = .returned (.agg (arr 5 r2)) ∧ Below w.heap.size w w'
  h4 : ∀ w, Calls Tryz.prog 65 #[.agg (arr 5 r2)] w fun r w' => r = .returned (.string s3) ∧ Below w.heap.size w w'
  h5 : ∀ w, Calls Tryz.prog 64 #[.agg (arr 5 px), .agg (arr 5 r1)] w fun r w' => r = .returned (.agg (arr 5 r4)) ∧ Below w.heap.size w w'
  h6 : ∀ w, Calls Tryz.prog 66 #[.agg (arr 5 r4)] w fun r w' => r = .returned (.bool false) ∧ Below w.heap.size w w'

set_option maxRecDepth 100000 in
set_option maxHeartbeats 4000000 in
theorem bytesF_gen (px py pz pt r1 r2 r4 : Nat → Int) (s3 : ByteArray) (w : World) (F : bytesFF px py pz pt r1 r2 r4 s3) (hs : s3.size = 32) (hf : ∀ i, i < 32 → 0 ≤ bt s3 i ∧ bt s3 i < 256) :
    Calls Tryz.prog 27 #[.agg (arr 20 (p4 5 px py pz pt))] w fun r w' => r = .returned (.string (bs ((List.range 32).map (bt (s3))))) ∧ Below w.heap.size w w' := by
  go_enter Tryz.func27, Tryz.ntmps27
  have M := Mem.start w
  refine sr ?_
  refine zN M 1 (.cells (arr 20 (p4 5 px py pz pt)) 60) fun g1 w1 M => ?_
  refine pv 2 (.string ⟨#[]⟩) ?_
  refine nt ?_
  refine wp_seq ?_
  refine sr ?_
  refine zA M 5 0 rfl ?_
  refine zC M 6 F.h1 fun w2 M => ?_
  refine nt ?_
  refine wp_cond_false (by kernel_rfl) ?_
  refine wp_skip ?_
  refine au_then ?_
  refine sr ?_
  refine pv 7 (.pointer (some ⟨g1, 10, none⟩)) ?_
  refine zL M 8 0 rfl 10 5 (p4_2 5 px py pz pt 10 rfl) ?_
  refine zC M 9 F.h2 fun w3 M => ?_
  refine zN M 3 (.cells (arr 5 (fun _ => 0)) 58) fun g2 w4 M => ?_
  refine zW M 1 rfl r1 fun w5 M => ?_
  refine nt ?_
  refine sr ?_
  refine zN M 4 (.cells (bz 32) 89) fun g3 w6 M => ?_
  refine nt ?_
  refine wp_seq ?_
  refine rg_tail M 6 (by kernel_rfl) (by kernel_rfl) ?_
  simp only [List.take_succ_cons, List.take_zero]
  refine kv 10 (.slice (some ⟨g3, 0, none⟩) 32 32) ?_
  refine kv 11 (.pointer (some ⟨g1, 5, none⟩)) ?_
  refine wL M 12 0 rfl 5 5 (p4_1 5 px py pz pt 5 rfl) ?_
  refine wA M 13 1 rfl ?_
  refine wC 14 F.h3 ?_
  refine wC 15 F.h4 ?_
  refine kl_nil fun w7 M => ?_
  refine pl_copy M (want_no rfl) (some 16) rfl 32 9 3 5 2 g3 32 32 (s3) hs (.cells (bz 32) 89) rfl (fun _ => 0) (ByZ.zero 32 89) Tryz.underlying32 inzb (fun _ => by kernel_rfl) ?_
  intro Z1 w8 z1 M
  refine nt ?_
  refine wp_seq ?_
  refine sr ?_
  refine pv 17 (.pointer (some ⟨g1, 0, none⟩)) ?_
  refine zL M 18 0 rfl 0 5 (p4_0 5 px py pz pt 0 rfl) ?_
  refine zA M 19 1 rfl ?_
  refine zC M 20 F.h5 fun w9 M => ?_
  refine zC M 21 F.h6 fun w10 M => ?_
  refine nt ?_
  refine wp_cond_false (by kernel_rfl) ?_
  refine wp_skip ?_
  refine au_then ?_
  refine sr ?_
  refine pv 26 (.slice (some ⟨g3, 0, none⟩) 32 32) ?_
  refine pl_back M (want_no rfl) (some 27) rfl _ rfl 2 g3 32 32 (by kernel_rfl) (Z1) rfl (bt (s3)) z1 hf ?_
  refine pv 2 (.string (bs ((List.range 32).map (bt (s3))))) ?_
  refine nt ?_
  refine wp_ret ?_
  exact bodyPost_ret (v := .string (bs ((List.range 32).map (bt (s3))))) (results_tmp1 Tryz.results27 _ _ _ (by kernel_rfl)) (by kernel_rfl) ⟨rfl, M.old⟩

structure bytesTF (px py pz pt r1 r2 r4 : Nat → Int) (s3 : ByteArray) : Prop where
  h1 : ∀ w, Calls Tryz.prog 58 #[.agg (arr 20 (p4 5 px py pz pt))] w fun r w' => r = .returned (.bool false) ∧ Below w.heap.size w w'
  h2 : ∀ w, Calls Tryz.prog 63 #[.agg (arr 5 pz)] w fun r w' => r = .returned (.agg (arr 5 r1)) ∧ Below w.heap.size w w'
  h3 : ∀ w, Calls Tryz.prog 64 #[.agg (arr 5 py), .agg (arr 5 r1)] w fun r w' => r = .returned (.agg (arr 5 r2)) ∧ Below w.heap.size w w'
  h4 : ∀ w, Calls Tryz.prog 65 #[.agg (arr 5 r2)] w fun r w' => r = .returned (.string s3) ∧ Below w.heap.size w w'
  h5 : ∀ w, Calls Tryz.prog 64 #[.agg (arr 5 px), .agg (arr 5 r1)] w fun r w' => r = .returned (.agg (arr 5 r4)) ∧ Below w.heap.size w w'
  h6 : ∀ w, Calls Tryz.prog 66 #[.agg (arr 5 r4)] w fun r w' => r = .returned (.bool true) ∧ Below w.heap.size w w'

set_option maxRecDepth 100000 in
set_option maxHeartbeats 4000000 in
theorem bytesT_gen (px py pz pt r1 r2 r4 : Nat → Int) (s3 : ByteArray) (w : World) (F : bytesTF px py pz pt r1 r2 r4 s3) (hs : s3.size = 32) (hf : ∀ i, i < 32 → 0 ≤ (upd (bt s3) 31 (bits .or .u8 (bt s3 31) 128)) i ∧ (upd (bt s3) 31 (bits .or .u8 (bt s3 31) 128)) i < 256) :
    Calls Tryz.prog 27 #[.agg (arr 20 (p4 5 px py pz pt))] w fun r w' => r = .returned (.string (bs ((List.range 32).map (upd (bt (s3)) 31 (bits .or .u8 ((bt (s3)) 31) 128))))) ∧ Below w.heap.size w w' := by
  go_enter Tryz.func27, Tryz.ntmps27
  have M := Mem.start w
  refine sr ?_
  refine zN M 1 (.cells (arr 20 (p4 5 px py pz pt)) 60) fun g1 w1 M => ?_
  refine pv 2 (.string ⟨#[]⟩) ?_
  refine nt ?_
  refine wp_seq ?_
  refine sr ?_
  refine zA M 5 0 rfl ?_
  refine zC M 6 F.h1 fun w2 M => ?_
  refine nt ?_
  refine wp_cond_false (by kernel_rfl) ?_
  refine wp_skip ?_
  refine au_then ?_
  refine sr ?_
  refine pv 7 (.pointer (some ⟨g1, 10, none⟩)) ?_
  refine zL M 8 0 rfl 10 5 (p4_2 5 px py pz pt 10 rfl) ?_
  refine zC M 9 F.h2 fun w3 M => ?_
  refine zN M 3 (.cells (arr 5 (fun _ => 0)) 58) fun g2 w4 M => ?_
  refine zW M 1 rfl r1 fun w5 M => ?_
  refine nt ?_
  refine sr ?_
  refine zN M 4 (.cells (bz 32) 89) fun g3 w6 M => ?_
  refine nt ?_
  refine wp_seq ?_
  refine rg_tail M 6 (by kernel_rfl) (by kernel_rfl) ?_
  simp only [List.take_succ_cons, List.take_zero]
  refine kv 10 (.slice (some ⟨g3, 0, none⟩) 32 32) ?_
  refine kv 11 (.pointer (some ⟨g1, 5, none⟩)) ?_
  refine wL M 12 0 rfl 5 5 (p4_1 5 px py pz pt 5 rfl) ?_
  refine wA M 13 1 rfl ?_
  refine wC 14 F.h3 ?_
  refine wC 15 F.h4 ?_
  refine kl_nil fun w7 M => ?_
  refine pl_copy M (want_no rfl) (some 16) rfl 32 9 3 5 2 g3 32 32 (s3) hs (.cells (bz 32) 89) rfl (fun _ => 0) (ByZ.zero 32 89) Tryz.underlying32 inzb (fun _ => by kernel_rfl) ?_
  intro Z1 w8 z1 M
  refine nt ?_
  refine wp_seq ?_
  refine sr ?_
  refine pv 17 (.pointer (some ⟨g1, 0, none⟩)) ?_
  refine zL M 18 0 rfl 0 5 (p4_0 5 px py pz pt 0 rfl) ?_
  refine zA M 19 1 rfl ?_
  refine zC M 20 F.h5 fun w9 M => ?_
  refine zC M 21 F.h6 fun w10 M => ?_
  refine nt ?_
  refine wp_cond_true (by kernel_rfl) ?_
  refine rg_lit ?_
  refine pv 22 (.pointer (some ⟨g3, 31, none⟩)) ?_
  refine pl_loadb M (want_no rfl) (some 23) rfl 5 _ rfl 2 g3 31 (by kernel_rfl) (Z1) rfl 32 (bt (s3)) z1 (by decide) (fun _ => by kernel_rfl) ?_
  refine pv 24 (.int .u8 (bits .or .u8 ((bt (s3)) 31) 128)) ?_
  refine pv 25 (.pointer (some ⟨g3, 31, none⟩)) ?_
  refine pl_storeb M (want_no rfl) rfl 5 _ _ rfl 2 g3 31 (by kernel_rfl) (bits .or .u8 ((bt (s3)) 31) 128) (by kernel_rfl) (Z1) rfl 32 (bt (s3)) z1 (by decide) inzb ?_
  intro Z2 w11 z2 M
  refine nt ?_
  refine sr ?_
  refine pv 26 (.slice (some ⟨g3, 0, none⟩) 32 32) ?_
  refine pl_back M (want_no rfl) (some 27) rfl _ rfl 2 g3 32 32 (by kernel_rfl) (Z2) rfl (upd (bt (s3)) 31 (bits .or .u8 ((bt (s3)) 31) 128)) z2 hf ?_
  refine pv 2 (.string (bs ((List.range 32).map (upd (bt (s3)) 31 (bits .or .u8 ((bt (s3)) 31) 128))))) ?_
  refine nt ?_
  refine wp_ret ?_
  exact bodyPost_ret (v := .string (bs ((List.range 32).map (upd (bt (s3)) 31 (bits .or .u8 ((bt (s3)) 31) 128))))) (results_tmp1 Tryz.results27 _ _ _ (by kernel_rfl)) (by kernel_rfl) ⟨rfl, M.old⟩

end Go.Proofs.YtmhfmhmpoobmlaaGreatDoor

/- The walks of Decode, Base and what they call, told by what their callees hand back. -/
namespace Go.Proofs.YtmhfmhmpoobmlaaGreatDoor
open Go.RowKit

/-- The bytes of the curve's number. -/
def dBy : ByteArray := ⟨#[163, 120, 89, 19, 202, 77, 235, 117, 171, 216, 65, 65, 77, 10, 112, 0, 152, 232, 121, 119, 121, 64, 199, 140, 115, 254, 111, 43, 238, 108, 3, 82]⟩
def s102 : ByteArray := ⟨#[102]⟩
def f31S : ByteArray := ⟨#[102, 102, 102, 102, 102, 102, 102, 102, 102, 102, 102, 102, 102, 102, 102, 102, 102, 102, 102, 102, 102, 102, 102, 102, 102, 102, 102, 102, 102, 102, 102]⟩
/-- The bytes of the base point. -/
def baseS : ByteArray := ⟨#[88, 102, 102, 102, 102, 102, 102, 102, 102, 102, 102, 102, 102, 102, 102, 102, 102, 102, 102, 102, 102, 102, 102, 102, 102, 102, 102, 102, 102, 102, 102, 102]⟩

structure factorF (r1 : Nat → Int) : Prop where
  h1 : ∀ w, Calls Tryz.prog 78 #[.string dBy] w fun r w' => r = .returned (.tuple #[.agg (arr 5 r1), .int .i64 0]) ∧ Below w.heap.size w w'

set_option maxRecDepth 100000 in
set_option maxHeartbeats 4000000 in
theorem factor_gen (r1 : Nat → Int) (w : World) (F : factorF r1)  :
    Calls Tryz.prog 113 #[] w fun r w' => r = .returned (.agg (arr 5 r1)) ∧ Below w.heap.size w w' := by
  go_enter Tryz.func113, Tryz.ntmps113
  have M := Mem.start w
  refine sr ?_
  refine zN M 0 (.cells (arr 5 (fun _ => 0)) 58) fun g1 w1 M => ?_
  refine nt ?_
  refine sr ?_
  refine zC M 4 F.h1 fun w2 M => ?_
  refine pv 3 (.tuple #[.agg (arr 5 r1), .int .i64 0]) ?_
  refine pv 5 (.agg (arr 5 r1)) ?_
  refine pv 6 (.int .i64 0) ?_
  refine zN M 1 (.cells (arr 5 (fun _ => 0)) 58) fun g2 w3 M => ?_
  refine zW M 1 rfl r1 fun w4 M => ?_
  refine pv 2 (.int .i64 0) ?_
  refine nt ?_
  refine sr ?_
  refine zA M 7 1 rfl ?_
  refine zW M 0 rfl r1 fun w5 M => ?_
  refine nt ?_
  refine wp_ret ?_
  exact bodyPost_ret (v := .agg (arr 5 r1)) (results_cell_row Tryz.results113 _ _ g1 58 (arr 5 r1) (0, 0) _ (by kernel_rfl) (M.get 0 rfl) Tryz.underlying58 rfl (by rw [arr_size]; exact inz58)) (by kernel_rfl) ⟨rfl, M.old⟩

structure besidesF (y r1 r2 r3 r4 r5 r6 r7 r8 r9 : Nat → Int) (b10 : Bool) : Prop where
  h1 : ∀ w, Calls Tryz.prog 109 #[.int .u32 1] w fun r w' => r = .returned (.agg (arr 5 r1)) ∧ Below w.heap.size w w'
  h2 : ∀ w, Calls Tryz.prog 64 #[.agg (arr 5 y), .agg (arr 5 y)] w fun r w' => r = .returned (.agg (arr 5 r2)) ∧ Below w.heap.size w w'
  h3 : ∀ w, Calls Tryz.prog 111 #[.agg (arr 5 r2), .agg (arr 5 r1)] w fun r w' => r = .returned (.agg (arr 5 r3)) ∧ Below w.heap.size w w'
  h4 : ∀ w, Calls Tryz.prog 113 #[] w fun r w' => r = .returned (.agg (arr 5 r4)) ∧ Below w.heap.size w w'
  h5 : ∀ w, Calls Tryz.prog 64 #[.agg (arr 5 r4), .agg (arr 5 r2)] w fun r w' => r = .returned (.agg (arr 5 r5)) ∧ Below w.heap.size w w'
  h6 : ∀ w, Calls Tryz.prog 112 #[.agg (arr 5 r5), .agg (arr 5 r1)] w fun r w' => r = .returned (.agg (arr 5 r6)) ∧ Below w.heap.size w w'
  h7 : ∀ w, Calls Tryz.prog 63 #[.agg (arr 5 r6)] w fun r w' => r = .returned (.agg (arr 5 r7)) ∧ Below w.heap.size w w'
  h8 : ∀ w, Calls Tryz.prog 64 #[.agg (arr 5 r3), .agg (arr 5 r7)] w fun r w' => r = .returned (.agg (arr 5 r8)) ∧ Below w.heap.size w w'
  h9 : ∀ w, Calls Tryz.prog 132 #[.agg (arr 5 r8)] w fun r w' => r = .returned (.tuple #[.agg (arr 5 r9), .bool b10]) ∧ Below w.heap.size w w'

set_option maxRecDepth 100000 in
set_option maxHeartbeats 4000000 in
theorem besides_gen (y r1 r2 r3 r4 r5 r6 r7 r8 r9 : Nat → Int) (b10 : Bool) (w : World) (F : besidesF y r1 r2 r3 r4 r5 r6 r7 r8 r9 b10)  :
    Calls Tryz.prog 79 #[.agg (arr 5 y)] w fun r w' => r = .returned (.tuple #[.agg (arr 5 r9), .bool b10]) ∧ Below w.heap.size w w' := by
  go_enter Tryz.func79, Tryz.ntmps79
  have M := Mem.start w
  refine sr ?_
  refine zN M 1 (.cells (arr 5 y) 58) fun g1 w1 M => ?_
  refine zN M 2 (.cells (arr 5 (fun _ => 0)) 58) fun g2 w2 M => ?_
  refine pv 3 (.bool false) ?_
  refine nt ?_
  refine wp_seq ?_
  refine rg_allocs M 4 [(4, 58, 5), (5, 58, 5)] (by kernel_rfl) (by kernel_rfl) ⟨rfl, rfl, fun _ _ => by kernel_rfl, rfl, rfl, fun _ _ => by kernel_rfl, trivial⟩ (by decide) ?_
  simp only [List.take_succ_cons, List.take_zero]
  refine wC 6 F.h1 ?_
  refine wA M 7 0 rfl ?_
  refine wA M 8 0 rfl ?_
  refine wC 9 F.h2 ?_
  refine kl_nil fun w3 g3 g4 M => ?_
  refine zW M 2 rfl r1 fun w4 M => ?_
  refine zW M 3 rfl r2 fun w5 M => ?_
  refine nt ?_
  refine wp_seq ?_
  refine rg_tail M 13 (by kernel_rfl) (by kernel_rfl) ?_
  simp only [List.take_succ_cons, List.take_zero]
  refine wA M 10 3 rfl ?_
  refine wA M 11 2 rfl ?_
  refine wC 12 F.h3 ?_
  refine wC 13 F.h4 ?_
  refine wA M 14 3 rfl ?_
  refine wC 15 F.h5 ?_
  refine wA M 16 2 rfl ?_
  refine wC 17 F.h6 ?_
  refine wC 18 F.h7 ?_
  refine wC 19 F.h8 ?_
  refine wC 20 F.h9 ?_
  refine kv 21 (.agg (arr 5 r9)) ?_
  refine kv 22 (.bool b10) ?_
  refine kl_nil fun w6 M => ?_
  refine zW M 1 rfl r9 fun w7 M => ?_
  refine pv 3 (.bool b10) ?_
  refine nt ?_
  refine wp_ret ?_
  exact bodyPost_ret (v := .tuple #[.agg (arr 5 r9), .bool b10]) (results_cell_tmp Tryz.results79 _ _ g2 58 (arr 5 r9) (0, 0) _ (.bool b10) (by kernel_rfl) (by kernel_rfl) (M.get 1 rfl) Tryz.underlying58 rfl (by rw [arr_size]; exact inz58)) (by kernel_rfl) ⟨rfl, M.old⟩

structure decLF (s : ByteArray)  : Prop where
  h0 : True

set_option maxRecDepth 100000 in
set_option maxHeartbeats 4000000 in
theorem decL_gen (s : ByteArray)  (w : World) (_F : decLF s ) (hs : ¬ (s.size : Int) = 32) :
    Calls Tryz.prog 34 #[.string s] w fun r w' => r = .returned (.tuple #[.agg (arr 20 (fun _ => 0)), .int .i64 2]) ∧ Below w.heap.size w w' := by
  go_enter Tryz.func34, Tryz.ntmps34
  have M := Mem.start w
  refine sr ?_
  refine zN M 2 (.cells (arr 20 (fun _ => 0)) 60) fun g1 w1 M => ?_
  refine pv 3 (.int .i64 0) ?_
  refine nt ?_
  refine wp_seq ?_
  refine sr ?_
  refine pv 10 (.string s) ?_
  refine pv 11 (.int .i64 (s.size : Int)) ?_
  refine pl_val (want_no rfl) (some 12) rfl (.bool true) (fun w => Eq.trans (b := .ok (.value (.bool (!(decide ((s.size : Int) = 32))))) w) (by kernel_rfl) (by rw [decide_eq_false hs]; rfl)) ?_
  refine nt ?_
  refine wp_cond_true (by kernel_rfl) ?_
  refine sr ?_
  refine pv 13 (.agg (arr 20 (fun _ => 0))) ?_
  refine zW M 0 rfl (fun _ => 0) fun w2 M => ?_
  refine pv 3 (.int .i64 2) ?_
  refine nt ?_
  refine wp_ret ?_
  refine au_then_ret ?_
  exact bodyPost_ret (v := .tuple #[.agg (arr 20 (fun _ => 0)), .int .i64 2]) (results_cell_tmp Tryz.results34 _ _ g1 60 (arr 20 (fun _ => 0)) (0, 0) _ (.int .i64 2) (by kernel_rfl) (by kernel_rfl) (M.get 0 rfl) Tryz.underlying60 rfl (by rw [arr_size]; exact inz60)) (by kernel_rfl) ⟨rfl, M.old⟩

structure decCF (s : ByteArray) (b2 : Bool) (s1 : ByteArray) : Prop where
  h1 : ∀ w, Calls Tryz.prog 76 #[.string s] w fun r w' => r = .returned (.tuple #[.string s1, .bool b2]) ∧ Below w.heap.size w w'
  h2 : ∀ w, Calls Tryz.prog 77 #[.string s1] w fun r w' => r = .returned (.bool false) ∧ Below w.heap.size w w'

set_option maxRecDepth 100000 in
set_option maxHeartbeats 4000000 in
theorem decC_gen (s : ByteArray) (b2 : Bool) (s1 : ByteArray) (w : World) (F : decCF s b2 s1) (hs : s.size = 32) :
    Calls Tryz.prog 34 #[.string s] w fun r w' => r = .returned (.tuple #[.agg (arr 20 (fun _ => 0)), .int .i64 40]) ∧ Below w.heap.size w w' := by
  go_enter Tryz.func34, Tryz.ntmps34
  have M := Mem.start w
  refine sr ?_
  refine zN M 2 (.cells (arr 20 (fun _ => 0)) 60) fun g1 w1 M => ?_
  refine pv 3 (.int .i64 0) ?_
  refine nt ?_
  refine wp_seq ?_
  refine sr ?_
  refine pv 10 (.string s) ?_
  refine pl_val (want_no rfl) (some 11) rfl (.int .i64 32) (fun w => Eq.trans (b := .ok (.value (.int .i64 (s.size : Int))) w) (by kernel_rfl) (by rw [hs]; rfl)) ?_
  refine pv 12 (.bool false) ?_
  refine nt ?_
  refine wp_cond_false (by kernel_rfl) ?_
  refine wp_skip ?_
  refine au_then ?_
  refine sr ?_
  refine pv 15 (.string s) ?_
  refine zC M 16 F.h1 fun w2 M => ?_
  refine pv 14 (.tuple #[.string s1, .bool b2]) ?_
  refine pv 17 (.string s1) ?_
  refine pv 18 (.bool b2) ?_
  refine pv 4 (.string s1) ?_
  refine pv 5 (.bool b2) ?_
  refine nt ?_
  refine wp_seq ?_
  refine sr ?_
  refine pv 19 (.string s1) ?_
  refine zC M 20 F.h2 fun w3 M => ?_
  refine pv 21 (.bool true) ?_
  refine nt ?_
  refine wp_cond_true (by kernel_rfl) ?_
  refine sr ?_
  refine pv 22 (.agg (arr 20 (fun _ => 0))) ?_
  refine zW M 0 rfl (fun _ => 0) fun w4 M => ?_
  refine pv 3 (.int .i64 40) ?_
  refine nt ?_
  refine wp_ret ?_
  refine au_then_ret ?_
  exact bodyPost_ret (v := .tuple #[.agg (arr 20 (fun _ => 0)), .int .i64 40]) (results_cell_tmp Tryz.results34 _ _ g1 60 (arr 20 (fun _ => 0)) (0, 0) _ (.int .i64 40) (by kernel_rfl) (by kernel_rfl) (M.get 0 rfl) Tryz.underlying60 rfl (by rw [arr_size]; exact inz60)) (by kernel_rfl) ⟨rfl, M.old⟩

structure decRFF (s : ByteArray) (r2 r3 : Nat → Int) (s1 : ByteArray) : Prop where
  h1 : ∀ w, Calls Tryz.prog 76 #[.string s] w fun r w' => r = .returned (.tuple #[.string s1, .bool false]) ∧ Below w.heap.size w w'
  h2 : ∀ w, Calls Tryz.prog 77 #[.string s1] w fun r w' => r = .returned (.bool true) ∧ Below w.heap.size w w'
  h3 : ∀ w, Calls Tryz.prog 78 #[.string s1] w fun r w' => r = .returned (.tuple #[.agg (arr 5 r2), .int .i64 0]) ∧ Below w.heap.size w w'
  h4 : ∀ w, Calls Tryz.prog 79 #[.agg (arr 5 r2)] w fun r w' => r = .returned (.tuple #[.agg (arr 5 r3), .bool false]) ∧ Below w.heap.size w w'

set_option maxRecDepth 100000 in
set_option maxHeartbeats 4000000 in
theorem decRF_gen (s : ByteArray) (r2 r3 : Nat → Int) (s1 : ByteArray) (w : World) (F : decRFF s r2 r3 s1) (hs : s.size = 32) :
    Calls Tryz.prog 34 #[.string s] w fun r w' => r = .returned (.tuple #[.agg (arr 20 (fun _ => 0)), .int .i64 40]) ∧ Below w.heap.size w w' := by
  go_enter Tryz.func34, Tryz.ntmps34
  have M := Mem.start w
  refine sr ?_
  refine zN M 2 (.cells (arr 20 (fun _ => 0)) 60) fun g1 w1 M => ?_
  refine pv 3 (.int .i64 0) ?_
  refine nt ?_
  refine wp_seq ?_
  refine sr ?_
  refine pv 10 (.string s) ?_
  refine pl_val (want_no rfl) (some 11) rfl (.int .i64 32) (fun w => Eq.trans (b := .ok (.value (.int .i64 (s.size : Int))) w) (by kernel_rfl) (by rw [hs]; rfl)) ?_
  refine pv 12 (.bool false) ?_
  refine nt ?_
  refine wp_cond_false (by kernel_rfl) ?_
  refine wp_skip ?_
  refine au_then ?_
  refine sr ?_
  refine pv 15 (.string s) ?_
  refine zC M 16 F.h1 fun w2 M => ?_
  refine pv 14 (.tuple #[.string s1, .bool false]) ?_
  refine pv 17 (.string s1) ?_
  refine pv 18 (.bool false) ?_
  refine pv 4 (.string s1) ?_
  refine pv 5 (.bool false) ?_
  refine nt ?_
  refine wp_seq ?_
  refine sr ?_
  refine pv 19 (.string s1) ?_
  refine zC M 20 F.h2 fun w3 M => ?_
  refine pv 21 (.bool false) ?_
  refine nt ?_
  refine wp_cond_false (by kernel_rfl) ?_
  refine wp_skip ?_
  refine au_then ?_
  refine sr ?_
  refine pv 24 (.string s1) ?_
  refine zC M 25 F.h3 fun w4 M => ?_
  refine pv 23 (.tuple #[.agg (arr 5 r2), .int .i64 0]) ?_
  refine pv 26 (.agg (arr 5 r2)) ?_
  refine pv 27 (.int .i64 0) ?_
  refine zN M 6 (.cells (arr 5 (fun _ => 0)) 58) fun g2 w5 M => ?_
  refine zW M 1 rfl r2 fun w6 M => ?_
  refine pv 7 (.int .i64 0) ?_
  refine nt ?_
  refine sr ?_
  refine zA M 29 1 rfl ?_
  refine zC M 30 F.h4 fun w7 M => ?_
  refine pv 28 (.tuple #[.agg (arr 5 r3), .bool false]) ?_
  refine pv 31 (.agg (arr 5 r3)) ?_
  refine pv 32 (.bool false) ?_
  refine zN M 8 (.cells (arr 5 (fun _ => 0)) 58) fun g3 w8 M => ?_
  refine zW M 2 rfl r3 fun w9 M => ?_
  refine pv 9 (.bool false) ?_
  refine nt ?_
  refine wp_seq ?_
  refine sr ?_
  refine pv 33 (.bool false) ?_
  refine nt ?_
  refine wp_cond_false (by kernel_rfl) ?_
  refine wp_skip ?_
  refine au_then ?_
  refine wp_seq ?_
  refine sr ?_
  refine pv 36 (.bool false) ?_
  refine pv 37 (.bool true) ?_
  refine pv 38 (.bool true) ?_
  refine pl_skip (want_off 2 false rfl 38 rfl (by kernel_rfl)) (some 39) rfl ?_
  refine pl_skip (want_off 2 false rfl 38 rfl (by kernel_rfl)) (some 40) rfl ?_
  refine pl_skip (want_off 2 false rfl 38 rfl (by kernel_rfl)) (some 41) rfl ?_
  refine pl_skip (want_off 2 false rfl 38 rfl (by kernel_rfl)) (some 42) rfl ?_
  refine pv 43 (.bool true) ?_
  refine nt ?_
  refine wp_cond_true (by kernel_rfl) ?_
  refine sr ?_
  refine pv 44 (.agg (arr 20 (fun _ => 0))) ?_
  refine zW M 0 rfl (fun _ => 0) fun w10 M => ?_
  refine pv 3 (.int .i64 40) ?_
  refine nt ?_
  refine wp_ret ?_
  refine au_then_ret ?_
  exact bodyPost_ret (v := .tuple #[.agg (arr 20 (fun _ => 0)), .int .i64 40]) (results_cell_tmp Tryz.results34 _ _ g1 60 (arr 20 (fun _ => 0)) (0, 0) _ (.int .i64 40) (by kernel_rfl) (by kernel_rfl) (M.get 0 rfl) Tryz.underlying60 rfl (by rw [arr_size]; exact inz60)) (by kernel_rfl) ⟨rfl, M.old⟩

structure decOFF (s : ByteArray) (r2 r3 : Nat → Int) (s1 : ByteArray) : Prop where
  h1 : ∀ w, Calls Tryz.prog 76 #[.string s] w fun r w' => r = .returned (.tuple #[.string s1, .bool false]) ∧ Below w.heap.size w w'
  h2 : ∀ w, Calls Tryz.prog 77 #[.string s1] w fun r w' => r = .returned (.bool true) ∧ Below w.heap.size w w'
  h3 : ∀ w, Calls Tryz.prog 78 #[.string s1] w fun r w' => r = .returned (.tuple #[.agg (arr 5 r2), .int .i64 0]) ∧ Below w.heap.size w w'
  h4 : ∀ w, Calls Tryz.prog 79 #[.agg (arr 5 r2)] w fun r w' => r = .returned (.tuple #[.agg (arr 5 r3), .bool true]) ∧ Below w.heap.size w w'
  h5 : ∀ w, Calls Tryz.prog 66 #[.agg (arr 5 r3)] w fun r w' => r = .returned (.bool true) ∧ Below w.heap.size w w'

set_option maxRecDepth 100000 in
set_option maxHeartbeats 4000000 in
theorem decOF_gen (s : ByteArray) (r2 r3 : Nat → Int) (s1 : ByteArray) (w : World) (F : decOFF s r2 r3 s1) (hs : s.size = 32) :
    Calls Tryz.prog 34 #[.string s] w fun r w' => r = .returned (.tuple #[.agg (arr 20 (fun _ => 0)), .int .i64 40]) ∧ Below w.heap.size w w' := by
  go_enter Tryz.func34, Tryz.ntmps34
  have M := Mem.start w
  refine sr ?_
  refine zN M 2 (.cells (arr 20 (fun _ => 0)) 60) fun g1 w1 M => ?_
  refine pv 3 (.int .i64 0) ?_
  refine nt ?_
  refine wp_seq ?_
  refine sr ?_
  refine pv 10 (.string s) ?_
  refine pl_val (want_no rfl) (some 11) rfl (.int .i64 32) (fun w => Eq.trans (b := .ok (.value (.int .i64 (s.size : Int))) w) (by kernel_rfl) (by rw [hs]; rfl)) ?_
  refine pv 12 (.bool false) ?_
  refine nt ?_
  refine wp_cond_false (by kernel_rfl) ?_
  refine wp_skip ?_
  refine au_then ?_
  refine sr ?_
  refine pv 15 (.string s) ?_
  refine zC M 16 F.h1 fun w2 M => ?_
  refine pv 14 (.tuple #[.string s1, .bool false]) ?_
  refine pv 17 (.string s1) ?_
  refine pv 18 (.bool false) ?_
  refine pv 4 (.string s1) ?_
  refine pv 5 (.bool false) ?_
  refine nt ?_
  refine wp_seq ?_
  refine sr ?_
  refine pv 19 (.string s1) ?_
  refine zC M 20 F.h2 fun w3 M => ?_
  refine pv 21 (.bool false) ?_
  refine nt ?_
  refine wp_cond_false (by kernel_rfl) ?_
  refine wp_skip ?_
  refine au_then ?_
  refine sr ?_
  refine pv 24 (.string s1) ?_
  refine zC M 25 F.h3 fun w4 M => ?_
  refine pv 23 (.tuple #[.agg (arr 5 r2), .int .i64 0]) ?_
  refine pv 26 (.agg (arr 5 r2)) ?_
  refine pv 27 (.int .i64 0) ?_
  refine zN M 6 (.cells (arr 5 (fun _ => 0)) 58) fun g2 w5 M => ?_
  refine zW M 1 rfl r2 fun w6 M => ?_
  refine pv 7 (.int .i64 0) ?_
  refine nt ?_
  refine sr ?_
  refine zA M 29 1 rfl ?_
  refine zC M 30 F.h4 fun w7 M => ?_
  refine pv 28 (.tuple #[.agg (arr 5 r3), .bool true]) ?_
  refine pv 31 (.agg (arr 5 r3)) ?_
  refine pv 32 (.bool true) ?_
  refine zN M 8 (.cells (arr 5 (fun _ => 0)) 58) fun g3 w8 M => ?_
  refine zW M 2 rfl r3 fun w9 M => ?_
  refine pv 9 (.bool true) ?_
  refine nt ?_
  refine wp_seq ?_
  refine sr ?_
  refine pv 33 (.bool false) ?_
  refine nt ?_
  refine wp_cond_false (by kernel_rfl) ?_
  refine wp_skip ?_
  refine au_then ?_
  refine wp_seq ?_
  refine sr ?_
  refine pv 36 (.bool true) ?_
  refine pv 37 (.bool false) ?_
  refine pv 38 (.bool false) ?_
  refine pl_load M (want_on 2 false rfl 38 rfl (by kernel_rfl)) (some 39) rfl 58 _ rfl 2 g3 0 (by kernel_rfl) 5 58 r3 rfl 5 r3 (Part.all _ _) (by decide) _ Tryz.underlying58 rfl inz58 ?_
  refine pl_call M (want_on 2 false rfl 38 rfl (by kernel_rfl)) (some 40) rfl 66 #[.agg (arr 5 r3)] (.bool true) (fun _ => by kernel_rfl) F.h5 fun w10 M => ?_
  refine pl_val (want_on 2 false rfl 38 rfl (by kernel_rfl)) (some 41) rfl (.bool false) (fun _ => by kernel_rfl) ?_
  refine pl_val (want_on 2 false rfl 38 rfl (by kernel_rfl)) (some 42) rfl (.bool true) (fun _ => by kernel_rfl) ?_
  refine pv 43 (.bool true) ?_
  refine nt ?_
  refine wp_cond_true (by kernel_rfl) ?_
  refine sr ?_
  refine pv 44 (.agg (arr 20 (fun _ => 0))) ?_
  refine zW M 0 rfl (fun _ => 0) fun w11 M => ?_
  refine pv 3 (.int .i64 40) ?_
  refine nt ?_
  refine wp_ret ?_
  refine au_then_ret ?_
  exact bodyPost_ret (v := .tuple #[.agg (arr 20 (fun _ => 0)), .int .i64 40]) (results_cell_tmp Tryz.results34 _ _ g1 60 (arr 20 (fun _ => 0)) (0, 0) _ (.int .i64 40) (by kernel_rfl) (by kernel_rfl) (M.get 0 rfl) Tryz.underlying60 rfl (by rw [arr_size]; exact inz60)) (by kernel_rfl) ⟨rfl, M.old⟩

structure decYFF (s : ByteArray) (r2 r3 r4 : Nat → Int) (s1 : ByteArray) : Prop where
  h1 : ∀ w, Calls Tryz.prog 76 #[.string s] w fun r w' => r = .returned (.tuple #[.string s1, .bool false]) ∧ Below w.heap.size w w'
  h2 : ∀ w, Calls Tryz.prog 77 #[.string s1] w fun r w' => r = .returned (.bool true) ∧ Below w.heap.size w w'
  h3 : ∀ w, Calls Tryz.prog 78 #[.string s1] w fun r w' => r = .returned (.tuple #[.agg (arr 5 r2), .int .i64 0]) ∧ Below w.heap.size w w'
  h4 : ∀ w, Calls Tryz.prog 79 #[.agg (arr 5 r2)] w fun r w' => r = .returned (.tuple #[.agg (arr 5 r3), .bool true]) ∧ Below w.heap.size w w'
  h5 : ∀ w, Calls Tryz.prog 66 #[.agg (arr 5 r3)] w fun r w' => r = .returned (.bool false) ∧ Below w.heap.size w w'
  h6 : ∀ w, Calls Tryz.prog 81 #[.agg (arr 5 r3), .agg (arr 5 r2)] w fun r w' => r = .returned (.agg (arr 20 r4)) ∧ Below w.heap.size w w'

set_option maxRecDepth 100000 in
set_option maxHeartbeats 4000000 in
theorem decYF_gen (s : ByteArray) (r2 r3 r4 : Nat → Int) (s1 : ByteArray) (w : World) (F : decYFF s r2 r3 r4 s1) (hs : s.size = 32) :
    Calls Tryz.prog 34 #[.string s] w fun r w' => r = .returned (.tuple #[.agg (arr 20 r4), .int .i64 0]) ∧ Below w.heap.size w w' := by
  go_enter Tryz.func34, Tryz.ntmps34
  have M := Mem.start w
  refine sr ?_
  refine zN M 2 (.cells (arr 20 (fun _ => 0)) 60) fun g1 w1 M => ?_
  refine pv 3 (.int .i64 0) ?_
  refine nt ?_
  refine wp_seq ?_
  refine sr ?_
  refine pv 10 (.string s) ?_
  refine pl_val (want_no rfl) (some 11) rfl (.int .i64 32) (fun w => Eq.trans (b := .ok (.value (.int .i64 (s.size : Int))) w) (by kernel_rfl) (by rw [hs]; rfl)) ?_
  refine pv 12 (.bool false) ?_
  refine nt ?_
  refine wp_cond_false (by kernel_rfl) ?_
  refine wp_skip ?_
  refine au_then ?_
  refine sr ?_
  refine pv 15 (.string s) ?_
  refine zC M 16 F.h1 fun w2 M => ?_
  refine pv 14 (.tuple #[.string s1, .bool false]) ?_
  refine pv 17 (.string s1) ?_
  refine pv 18 (.bool false) ?_
  refine pv 4 (.string s1) ?_
  refine pv 5 (.bool false) ?_
  refine nt ?_
  refine wp_seq ?_
  refine sr ?_
  refine pv 19 (.string s1) ?_
  refine zC M 20 F.h2 fun w3 M => ?_
  refine pv 21 (.bool false) ?_
  refine nt ?_
  refine wp_cond_false (by kernel_rfl) ?_
  refine wp_skip ?_
  refine au_then ?_
  refine sr ?_
  refine pv 24 (.string s1) ?_
  refine zC M 25 F.h3 fun w4 M => ?_
  refine pv 23 (.tuple #[.agg (arr 5 r2), .int .i64 0]) ?_
  refine pv 26 (.agg (arr 5 r2)) ?_
  refine pv 27 (.int .i64 0) ?_
  refine zN M 6 (.cells (arr 5 (fun _ => 0)) 58) fun g2 w5 M => ?_
  refine zW M 1 rfl r2 fun w6 M => ?_
  refine pv 7 (.int .i64 0) ?_
  refine nt ?_
  refine sr ?_
  refine zA M 29 1 rfl ?_
  refine zC M 30 F.h4 fun w7 M => ?_
  refine pv 28 (.tuple #[.agg (arr 5 r3), .bool true]) ?_
  refine pv 31 (.agg (arr 5 r3)) ?_
  refine pv 32 (.bool true) ?_
  refine zN M 8 (.cells (arr 5 (fun _ => 0)) 58) fun g3 w8 M => ?_
  refine zW M 2 rfl r3 fun w9 M => ?_
  refine pv 9 (.bool true) ?_
  refine nt ?_
  refine wp_seq ?_
  refine sr ?_
  refine pv 33 (.bool false) ?_
  refine nt ?_
  refine wp_cond_false (by kernel_rfl) ?_
  refine wp_skip ?_
  refine au_then ?_
  refine wp_seq ?_
  refine sr ?_
  refine pv 36 (.bool true) ?_
  refine pv 37 (.bool false) ?_
  refine pv 38 (.bool false) ?_
  refine pl_load M (want_on 2 false rfl 38 rfl (by kernel_rfl)) (some 39) rfl 58 _ rfl 2 g3 0 (by kernel_rfl) 5 58 r3 rfl 5 r3 (Part.all _ _) (by decide) _ Tryz.underlying58 rfl inz58 ?_
  refine pl_call M (want_on 2 false rfl 38 rfl (by kernel_rfl)) (some 40) rfl 66 #[.agg (arr 5 r3)] (.bool false) (fun _ => by kernel_rfl) F.h5 fun w10 M => ?_
  refine pl_val (want_on 2 false rfl 38 rfl (by kernel_rfl)) (some 41) rfl (.bool false) (fun _ => by kernel_rfl) ?_
  refine pl_val (want_on 2 false rfl 38 rfl (by kernel_rfl)) (some 42) rfl (.bool false) (fun _ => by kernel_rfl) ?_
  refine pv 43 (.bool false) ?_
  refine nt ?_
  refine wp_cond_false (by kernel_rfl) ?_
  refine wp_skip ?_
  refine au_then ?_
  refine sr ?_
  refine zA M 45 2 rfl ?_
  refine zA M 46 1 rfl ?_
  refine zC M 47 F.h6 fun w11 M => ?_
  refine zW M 0 rfl r4 fun w12 M => ?_
  refine pv 3 (.int .i64 0) ?_
  refine nt ?_
  refine wp_ret ?_
  exact bodyPost_ret (v := .tuple #[.agg (arr 20 r4), .int .i64 0]) (results_cell_tmp Tryz.results34 _ _ g1 60 (arr 20 r4) (0, 0) _ (.int .i64 0) (by kernel_rfl) (by kernel_rfl) (M.get 0 rfl) Tryz.underlying60 rfl (by rw [arr_size]; exact inz60)) (by kernel_rfl) ⟨rfl, M.old⟩

structure decRTF (s : ByteArray) (r2 r3 r4 : Nat → Int) (s1 : ByteArray) : Prop where
  h1 : ∀ w, Calls Tryz.prog 76 #[.string s] w fun r w' => r = .returned (.tuple #[.string s1, .bool true]) ∧ Below w.heap.size w w'
  h2 : ∀ w, Calls Tryz.prog 77 #[.string s1] w fun r w' => r = .returned (.bool true) ∧ Below w.heap.size w w'
  h3 : ∀ w, Calls Tryz.prog 78 #[.string s1] w fun r w' => r = .returned (.tuple #[.agg (arr 5 r2), .int .i64 0]) ∧ Below w.heap.size w w'
  h4 : ∀ w, Calls Tryz.prog 79 #[.agg (arr 5 r2)] w fun r w' => r = .returned (.tuple #[.agg (arr 5 r3), .bool false]) ∧ Below w.heap.size w w'
  h5 : ∀ w, Calls Tryz.prog 80 #[.agg (arr 5 r3)] w fun r w' => r = .returned (.agg (arr 5 r4)) ∧ Below w.heap.size w w'

set_option maxRecDepth 100000 in
set_option maxHeartbeats 4000000 in
theorem decRT_gen (s : ByteArray) (r2 r3 r4 : Nat → Int) (s1 : ByteArray) (w : World) (F : decRTF s r2 r3 r4 s1) (hs : s.size = 32) :
    Calls Tryz.prog 34 #[.string s] w fun r w' => r = .returned (.tuple #[.agg (arr 20 (fun _ => 0)), .int .i64 40]) ∧ Below w.heap.size w w' := by
  go_enter Tryz.func34, Tryz.ntmps34
  have M := Mem.start w
  refine sr ?_
  refine zN M 2 (.cells (arr 20 (fun _ => 0)) 60) fun g1 w1 M => ?_
  refine pv 3 (.int .i64 0) ?_
  refine nt ?_
  refine wp_seq ?_
  refine sr ?_
  refine pv 10 (.string s) ?_
  refine pl_val (want_no rfl) (some 11) rfl (.int .i64 32) (fun w => Eq.trans (b := .ok (.value (.int .i64 (s.size : Int))) w) (by kernel_rfl) (by rw [hs]; rfl)) ?_
  refine pv 12 (.bool false) ?_
  refine nt ?_
  refine wp_cond_false (by kernel_rfl) ?_
  refine wp_skip ?_
  refine au_then ?_
  refine sr ?_
  refine pv 15 (.string s) ?_
  refine zC M 16 F.h1 fun w2 M => ?_
  refine pv 14 (.tuple #[.string s1, .bool true]) ?_
  refine pv 17 (.string s1) ?_
  refine pv 18 (.bool true) ?_
  refine pv 4 (.string s1) ?_
  refine pv 5 (.bool true) ?_
  refine nt ?_
  refine wp_seq ?_
  refine sr ?_
  refine pv 19 (.string s1) ?_
  refine zC M 20 F.h2 fun w3 M => ?_
  refine pv 21 (.bool false) ?_
  refine nt ?_
  refine wp_cond_false (by kernel_rfl) ?_
  refine wp_skip ?_
  refine au_then ?_
  refine sr ?_
  refine pv 24 (.string s1) ?_
  refine zC M 25 F.h3 fun w4 M => ?_
  refine pv 23 (.tuple #[.agg (arr 5 r2), .int .i64 0]) ?_
  refine pv 26 (.agg (arr 5 r2)) ?_
  refine pv 27 (.int .i64 0) ?_
  refine zN M 6 (.cells (arr 5 (fun _ => 0)) 58) fun g2 w5 M => ?_
  refine zW M 1 rfl r2 fun w6 M => ?_
  refine pv 7 (.int .i64 0) ?_
  refine nt ?_
  refine sr ?_
  refine zA M 29 1 rfl ?_
  refine zC M 30 F.h4 fun w7 M => ?_
  refine pv 28 (.tuple #[.agg (arr 5 r3), .bool false]) ?_
  refine pv 31 (.agg (arr 5 r3)) ?_
  refine pv 32 (.bool false) ?_
  refine zN M 8 (.cells (arr 5 (fun _ => 0)) 58) fun g3 w8 M => ?_
  refine zW M 2 rfl r3 fun w9 M => ?_
  refine pv 9 (.bool false) ?_
  refine nt ?_
  refine wp_seq ?_
  refine sr ?_
  refine pv 33 (.bool true) ?_
  refine nt ?_
  refine wp_cond_true (by kernel_rfl) ?_
  refine rg_lit ?_
  refine zA M 34 2 rfl ?_
  refine zC M 35 F.h5 fun w10 M => ?_
  refine zW M 2 rfl r4 fun w11 M => ?_
  refine nt ?_
  refine wp_seq ?_
  refine sr ?_
  refine pv 36 (.bool false) ?_
  refine pv 37 (.bool true) ?_
  refine pv 38 (.bool true) ?_
  refine pl_skip (want_off 2 false rfl 38 rfl (by kernel_rfl)) (some 39) rfl ?_
  refine pl_skip (want_off 2 false rfl 38 rfl (by kernel_rfl)) (some 40) rfl ?_
  refine pl_skip (want_off 2 false rfl 38 rfl (by kernel_rfl)) (some 41) rfl ?_
  refine pl_skip (want_off 2 false rfl 38 rfl (by kernel_rfl)) (some 42) rfl ?_
  refine pv 43 (.bool true) ?_
  refine nt ?_
  refine wp_cond_true (by kernel_rfl) ?_
  refine sr ?_
  refine pv 44 (.agg (arr 20 (fun _ => 0))) ?_
  refine zW M 0 rfl (fun _ => 0) fun w12 M => ?_
  refine pv 3 (.int .i64 40) ?_
  refine nt ?_
  refine wp_ret ?_
  refine au_then_ret ?_
  exact bodyPost_ret (v := .tuple #[.agg (arr 20 (fun _ => 0)), .int .i64 40]) (results_cell_tmp Tryz.results34 _ _ g1 60 (arr 20 (fun _ => 0)) (0, 0) _ (.int .i64 40) (by kernel_rfl) (by kernel_rfl) (M.get 0 rfl) Tryz.underlying60 rfl (by rw [arr_size]; exact inz60)) (by kernel_rfl) ⟨rfl, M.old⟩

structure decOTF (s : ByteArray) (r2 r3 r4 : Nat → Int) (s1 : ByteArray) : Prop where
  h1 : ∀ w, Calls Tryz.prog 76 #[.string s] w fun r w' => r = .returned (.tuple #[.string s1, .bool true]) ∧ Below w.heap.size w w'
  h2 : ∀ w, Calls Tryz.prog 77 #[.string s1] w fun r w' => r = .returned (.bool true) ∧ Below w.heap.size w w'
  h3 : ∀ w, Calls Tryz.prog 78 #[.string s1] w fun r w' => r = .returned (.tuple #[.agg (arr 5 r2), .int .i64 0]) ∧ Below w.heap.size w w'
  h4 : ∀ w, Calls Tryz.prog 79 #[.agg (arr 5 r2)] w fun r w' => r = .returned (.tuple #[.agg (arr 5 r3), .bool true]) ∧ Below w.heap.size w w'
  h5 : ∀ w, Calls Tryz.prog 80 #[.agg (arr 5 r3)] w fun r w' => r = .returned (.agg (arr 5 r4)) ∧ Below w.heap.size w w'
  h6 : ∀ w, Calls Tryz.prog 66 #[.agg (arr 5 r4)] w fun r w' => r = .returned (.bool false) ∧ Below w.heap.size w w'

set_option maxRecDepth 100000 in
set_option maxHeartbeats 4000000 in
theorem decOT_gen (s : ByteArray) (r2 r3 r4 : Nat → Int) (s1 : ByteArray) (w : World) (F : decOTF s r2 r3 r4 s1) (hs : s.size = 32) :
    Calls Tryz.prog 34 #[.string s] w fun r w' => r = .returned (.tuple #[.agg (arr 20 (fun _ => 0)), .int .i64 40]) ∧ Below w.heap.size w w' := by
  go_enter Tryz.func34, Tryz.ntmps34
  have M := Mem.start w
  refine sr ?_
  refine zN M 2 (.cells (arr 20 (fun _ => 0)) 60) fun g1 w1 M => ?_
  refine pv 3 (.int .i64 0) ?_
  refine nt ?_
  refine wp_seq ?_
  refine sr ?_
  refine pv 10 (.string s) ?_
  refine pl_val (want_no rfl) (some 11) rfl (.int .i64 32) (fun w => Eq.trans (b := .ok (.value (.int .i64 (s.size : Int))) w) (by kernel_rfl) (by rw [hs]; rfl)) ?_
  refine pv 12 (.bool false) ?_
  refine nt ?_
  refine wp_cond_false (by kernel_rfl) ?_
  refine wp_skip ?_
  refine au_then ?_
  refine sr ?_
  refine pv 15 (.string s) ?_
  refine zC M 16 F.h1 fun w2 M => ?_
  refine pv 14 (.tuple #[.string s1, .bool true]) ?_
  refine pv 17 (.string s1) ?_
  refine pv 18 (.bool true) ?_
  refine pv 4 (.string s1) ?_
  refine pv 5 (.bool true) ?_
  refine nt ?_
  refine wp_seq ?_
  refine sr ?_
  refine pv 19 (.string s1) ?_
  refine zC M 20 F.h2 fun w3 M => ?_
  refine pv 21 (.bool false) ?_
  refine nt ?_
  refine wp_cond_false (by kernel_rfl) ?_
  refine wp_skip ?_
  refine au_then ?_
  refine sr ?_
  refine pv 24 (.string s1) ?_
  refine zC M 25 F.h3 fun w4 M => ?_
  refine pv 23 (.tuple #[.agg (arr 5 r2), .int .i64 0]) ?_
  refine pv 26 (.agg (arr 5 r2)) ?_
  refine pv 27 (.int .i64 0) ?_
  refine zN M 6 (.cells (arr 5 (fun _ => 0)) 58) fun g2 w5 M => ?_
  refine zW M 1 rfl r2 fun w6 M => ?_
  refine pv 7 (.int .i64 0) ?_
  refine nt ?_
  refine sr ?_
  refine zA M 29 1 rfl ?_
  refine zC M 30 F.h4 fun w7 M => ?_
  refine pv 28 (.tuple #[.agg (arr 5 r3), .bool true]) ?_
  refine pv 31 (.agg (arr 5 r3)) ?_
  refine pv 32 (.bool true) ?_
  refine zN M 8 (.cells (arr 5 (fun _ => 0)) 58) fun g3 w8 M => ?_
  refine zW M 2 rfl r3 fun w9 M => ?_
  refine pv 9 (.bool true) ?_
  refine nt ?_
  refine wp_seq ?_
  refine sr ?_
  refine pv 33 (.bool true) ?_
  refine nt ?_
  refine wp_cond_true (by kernel_rfl) ?_
  refine rg_lit ?_
  refine zA M 34 2 rfl ?_
  refine zC M 35 F.h5 fun w10 M => ?_
  refine zW M 2 rfl r4 fun w11 M => ?_
  refine nt ?_
  refine wp_seq ?_
  refine sr ?_
  refine pv 36 (.bool true) ?_
  refine pv 37 (.bool false) ?_
  refine pv 38 (.bool false) ?_
  refine pl_load M (want_on 2 false rfl 38 rfl (by kernel_rfl)) (some 39) rfl 58 _ rfl 2 g3 0 (by kernel_rfl) 5 58 r4 rfl 5 r4 (Part.all _ _) (by decide) _ Tryz.underlying58 rfl inz58 ?_
  refine pl_call M (want_on 2 false rfl 38 rfl (by kernel_rfl)) (some 40) rfl 66 #[.agg (arr 5 r4)] (.bool false) (fun _ => by kernel_rfl) F.h6 fun w12 M => ?_
  refine pl_val (want_on 2 false rfl 38 rfl (by kernel_rfl)) (some 41) rfl (.bool true) (fun _ => by kernel_rfl) ?_
  refine pl_val (want_on 2 false rfl 38 rfl (by kernel_rfl)) (some 42) rfl (.bool true) (fun _ => by kernel_rfl) ?_
  refine pv 43 (.bool true) ?_
  refine nt ?_
  refine wp_cond_true (by kernel_rfl) ?_
  refine sr ?_
  refine pv 44 (.agg (arr 20 (fun _ => 0))) ?_
  refine zW M 0 rfl (fun _ => 0) fun w13 M => ?_
  refine pv 3 (.int .i64 40) ?_
  refine nt ?_
  refine wp_ret ?_
  refine au_then_ret ?_
  exact bodyPost_ret (v := .tuple #[.agg (arr 20 (fun _ => 0)), .int .i64 40]) (results_cell_tmp Tryz.results34 _ _ g1 60 (arr 20 (fun _ => 0)) (0, 0) _ (.int .i64 40) (by kernel_rfl) (by kernel_rfl) (M.get 0 rfl) Tryz.underlying60 rfl (by rw [arr_size]; exact inz60)) (by kernel_rfl) ⟨rfl, M.old⟩

structure decYTF (s : ByteArray) (r2 r3 r4 r5 : Nat → Int) (s1 : ByteArray) : Prop where
  h1 : ∀ w, Calls Tryz.prog 76 #[.string s] w fun r w' => r = .returned (.tuple #[.string s1, .bool true]) ∧ Below w.heap.size w w'
  h2 : ∀ w, Calls Tryz.prog 77 #[.string s1] w fun r w' => r = .returned (.bool true) ∧ Below w.heap.size w w'
  h3 : ∀ w, Calls Tryz.prog 78 #[.string s1] w fun r w' => r = .returned (.tuple #[.agg (arr 5 r2), .int .i64 0]) ∧ Below w.heap.size w w'
  h4 : ∀ w, Calls Tryz.prog 79 #[.agg (arr 5 r2)] w fun r w' => r = .returned (.tuple #[.agg (arr 5 r3), .bool true]) ∧ Below w.heap.size w w'
  h5 : ∀ w, Calls Tryz.prog 80 #[.agg (arr 5 r3)] w fun r w' => r = .returned (.agg (arr 5 r4)) ∧ Below w.heap.size w w'
  h6 : ∀ w, Calls Tryz.prog 66 #[.agg (arr 5 r4)] w fun r w' => r = .returned (.bool true) ∧ Below w.heap.size w w'
  h7 : ∀ w, Calls Tryz.prog 81 #[.agg (arr 5 r4), .agg (arr 5 r2)] w fun r w' => r = .returned (.agg (arr 20 r5)) ∧ Below w.heap.size w w'

set_option maxRecDepth 100000 in
set_option maxHeartbeats 4000000 in
theorem decYT_gen (s : ByteArray) (r2 r3 r4 r5 : Nat → Int) (s1 : ByteArray) (w : World) (F : decYTF s r2 r3 r4 r5 s1) (hs : s.size = 32) :
    Calls Tryz.prog 34 #[.string s] w fun r w' => r = .returned (.tuple #[.agg (arr 20 r5), .int .i64 0]) ∧ Below w.heap.size w w' := by
  go_enter Tryz.func34, Tryz.ntmps34
  have M := Mem.start w
  refine sr ?_
  refine zN M 2 (.cells (arr 20 (fun _ => 0)) 60) fun g1 w1 M => ?_
  refine pv 3 (.int .i64 0) ?_
  refine nt ?_
  refine wp_seq ?_
  refine sr ?_
  refine pv 10 (.string s) ?_
  refine pl_val (want_no rfl) (some 11) rfl (.int .i64 32) (fun w => Eq.trans (b := .ok (.value (.int .i64 (s.size : Int))) w) (by kernel_rfl) (by rw [hs]; rfl)) ?_
  refine pv 12 (.bool false) ?_
  refine nt ?_
  refine wp_cond_false (by kernel_rfl) ?_
  refine wp_skip ?_
  refine au_then ?_
  refine sr ?_
  refine pv 15 (.string s) ?_
  refine zC M 16 F.h1 fun w2 M => ?_
  refine pv 14 (.tuple #[.string s1, .bool true]) ?_
  refine pv 17 (.string s1) ?_
  refine pv 18 (.bool true) ?_
  refine pv 4 (.string s1) ?_
  refine pv 5 (.bool true) ?_
  refine nt ?_
  refine wp_seq ?_
  refine sr ?_
  refine pv 19 (.string s1) ?_
  refine zC M 20 F.h2 fun w3 M => ?_
  refine pv 21 (.bool false) ?_
  refine nt ?_
  refine wp_cond_false (by kernel_rfl) ?_
  refine wp_skip ?_
  refine au_then ?_
  refine sr ?_
  refine pv 24 (.string s1) ?_
  refine zC M 25 F.h3 fun w4 M => ?_
  refine pv 23 (.tuple #[.agg (arr 5 r2), .int .i64 0]) ?_
  refine pv 26 (.agg (arr 5 r2)) ?_
  refine pv 27 (.int .i64 0) ?_
  refine zN M 6 (.cells (arr 5 (fun _ => 0)) 58) fun g2 w5 M => ?_
  refine zW M 1 rfl r2 fun w6 M => ?_
  refine pv 7 (.int .i64 0) ?_
  refine nt ?_
  refine sr ?_
  refine zA M 29 1 rfl ?_
  refine zC M 30 F.h4 fun w7 M => ?_
  refine pv 28 (.tuple #[.agg (arr 5 r3), .bool true]) ?_
  refine pv 31 (.agg (arr 5 r3)) ?_
  refine pv 32 (.bool true) ?_
  refine zN M 8 (.cells (arr 5 (fun _ => 0)) 58) fun g3 w8 M => ?_
  refine zW M 2 rfl r3 fun w9 M => ?_
  refine pv 9 (.bool true) ?_
  refine nt ?_
  refine wp_seq ?_
  refine sr ?_
  refine pv 33 (.bool true) ?_
  refine nt ?_
  refine wp_cond_true (by kernel_rfl) ?_
  refine rg_lit ?_
  refine zA M 34 2 rfl ?_
  refine zC M 35 F.h5 fun w10 M => ?_
  refine zW M 2 rfl r4 fun w11 M => ?_
  refine nt ?_
  refine wp_seq ?_
  refine sr ?_
  refine pv 36 (.bool true) ?_
  refine pv 37 (.bool false) ?_
  refine pv 38 (.bool false) ?_
  refine pl_load M (want_on 2 false rfl 38 rfl (by kernel_rfl)) (some 39) rfl 58 _ rfl 2 g3 0 (by kernel_rfl) 5 58 r4 rfl 5 r4 (Part.all _ _) (by decide) _ Tryz.underlying58 rfl inz58 ?_
  refine pl_call M (want_on 2 false rfl 38 rfl (by kernel_rfl)) (some 40) rfl 66 #[.agg (arr 5 r4)] (.bool true) (fun _ => by kernel_rfl) F.h6 fun w12 M => ?_
  refine pl_val (want_on 2 false rfl 38 rfl (by kernel_rfl)) (some 41) rfl (.bool true) (fun _ => by kernel_rfl) ?_
  refine pl_val (want_on 2 false rfl 38 rfl (by kernel_rfl)) (some 42) rfl (.bool false) (fun _ => by kernel_rfl) ?_
  refine pv 43 (.bool false) ?_
  refine nt ?_
  refine wp_cond_false (by kernel_rfl) ?_
  refine wp_skip ?_
  refine au_then ?_
  refine sr ?_
  refine zA M 45 2 rfl ?_
  refine zA M 46 1 rfl ?_
  refine zC M 47 F.h7 fun w13 M => ?_
  refine zW M 0 rfl r5 fun w14 M => ?_
  refine pv 3 (.int .i64 0) ?_
  refine nt ?_
  refine wp_ret ?_
  exact bodyPost_ret (v := .tuple #[.agg (arr 20 r5), .int .i64 0]) (results_cell_tmp Tryz.results34 _ _ g1 60 (arr 20 r5) (0, 0) _ (.int .i64 0) (by kernel_rfl) (by kernel_rfl) (M.get 0 rfl) Tryz.underlying60 rfl (by rw [arr_size]; exact inz60)) (by kernel_rfl) ⟨rfl, M.old⟩

structure baseF (r1 : Nat → Int) : Prop where
  h1 : ∀ w, Calls Tryz.prog 57 #[.string s102, .int .i64 31] w fun r w' => r = .returned (.string f31S) ∧ Below w.heap.size w w'
  h2 : ∀ w, Calls Tryz.prog 34 #[.string baseS] w fun r w' => r = .returned (.tuple #[.agg (arr 20 r1), .int .i64 0]) ∧ Below w.heap.size w w'

set_option maxRecDepth 100000 in
set_option maxHeartbeats 4000000 in
theorem base_gen (r1 : Nat → Int) (w : World) (F : baseF r1)  :
    Calls Tryz.prog 25 #[] w fun r w' => r = .returned (.agg (arr 20 r1)) ∧ Below w.heap.size w w' := by
  go_enter Tryz.func25, Tryz.ntmps25
  have M := Mem.start w
  refine sr ?_
  refine zN M 0 (.cells (arr 20 (fun _ => 0)) 60) fun g1 w1 M => ?_
  refine nt ?_
  refine sr ?_
  refine zC M 4 F.h1 fun w2 M => ?_
  refine pv 5 (.string baseS) ?_
  refine zC M 6 F.h2 fun w3 M => ?_
  refine pv 3 (.tuple #[.agg (arr 20 r1), .int .i64 0]) ?_
  refine pv 7 (.agg (arr 20 r1)) ?_
  refine pv 8 (.int .i64 0) ?_
  refine zN M 1 (.cells (arr 20 (fun _ => 0)) 60) fun g2 w4 M => ?_
  refine zW M 1 rfl r1 fun w5 M => ?_
  refine pv 2 (.int .i64 0) ?_
  refine nt ?_
  refine sr ?_
  refine zA M 9 1 rfl ?_
  refine zW M 0 rfl r1 fun w6 M => ?_
  refine nt ?_
  refine wp_ret ?_
  exact bodyPost_ret (v := .agg (arr 20 r1)) (results_cell_row Tryz.results25 _ _ g1 60 (arr 20 r1) (0, 0) _ (by kernel_rfl) (M.get 0 rfl) Tryz.underlying60 rfl (by rw [arr_size]; exact inz60)) (by kernel_rfl) ⟨rfl, M.old⟩

end Go.Proofs.YtmhfmhmpoobmlaaGreatDoor

/- doubled, three times, and the document's base point; told by what their callees hand back. -/
namespace Go.Proofs.YtmhfmhmpoobmlaaGreatDoor
open Go.RowKit

structure dbl3F (p r1 r2 r3 : Nat → Int) : Prop where
  h1 : ∀ w, Calls Tryz.prog 110 #[.agg (arr 20 p)] w fun r w' => r = .returned (.agg (arr 20 r1)) ∧ Below w.heap.size w w'
  h2 : ∀ w, Calls Tryz.prog 110 #[.agg (arr 20 r1)] w fun r w' => r = .returned (.agg (arr 20 r2)) ∧ Below w.heap.size w w'
  h3 : ∀ w, Calls Tryz.prog 110 #[.agg (arr 20 r2)] w fun r w' => r = .returned (.agg (arr 20 r3)) ∧ Below w.heap.size w w'

set_option maxRecDepth 100000 in
set_option maxHeartbeats 4000000 in
theorem dbl3_gen (p r1 r2 r3 : Nat → Int) (w : World) (F : dbl3F p r1 r2 r3)  :
    Calls Tryz.prog 61 #[.agg (arr 20 p), .int .i64 3] w fun r w' => r = .returned (.agg (arr 20 r3)) ∧ Below w.heap.size w w' := by
  go_enter Tryz.func61, Tryz.ntmps61
  have M := Mem.start w
  refine sr ?_
  refine pl_new M (want_no rfl) (some 2) rfl (.cells (arr 20 p) 60) (fun _ => by kernel_rfl) ?_
  intro g1 w1 M
  replace M : Mem w [⟨g1, .cells (arr 20 p) 60⟩] w1 := M
  refine pl_new M (want_no rfl) (some 4) rfl (.cells (arr 20 (fun _ => 0)) 60) (fun _ => by kernel_rfl) ?_
  intro g2 w2 M
  replace M : Mem w [⟨g1, .cells (arr 20 p) 60⟩, ⟨g2, .cells (arr 20 (fun _ => 0)) 60⟩] w2 := M
  refine nt ?_
  refine wp_seq ?_
  refine sr ?_
  refine pv 5 (.int .i64 3) ?_
  refine pv 6 (.int .i64 0) ?_
  refine nt ?_
  refine wp_block ?_
  refine wp_loop_rounds 4 ?_
  refine rounds_go ?_
  refine sr ?_
  refine pv 7 (.bool true) ?_
  refine nt ?_
  refine wp_seq ?_
  refine wp_cond_true (by kernel_rfl) ?_
  refine wp_skip ?_
  refine au_then ?_
  refine wp_seq ?_
  refine wp_block ?_
  refine rg_lit ?_
  refine pl_load M (want_no rfl) (some 8) rfl 60 _ rfl 0 g1 0 (by kernel_rfl) 20 60 p rfl 20 p (Part.all _ _) (by decide) _ Tryz.underlying60 rfl inz60 ?_
  refine pl_call M (want_no rfl) (some 9) rfl 110 #[.agg (arr 20 p)] (.agg (arr 20 r1)) (fun _ => by kernel_rfl) F.h1 ?_
  intro w3 M
  refine pl_put M (want_no rfl) rfl 60 _ _ rfl 0 g1 (by kernel_rfl) 20 60 p r1 rfl (by kernel_rfl) inz60 ?_
  intro w4 M
  replace M : Mem w [⟨g1, .cells (arr 20 r1) 60⟩, ⟨g2, .cells (arr 20 (fun _ => 0)) 60⟩] w4 := M
  refine pl_nil ?_
  refine au_block ?_
  refine au_then ?_
  refine rg_lit ?_
  refine pv 10 (.int .i64 1) ?_
  refine pv 6 (.int .i64 1) ?_
  refine nt ?_
  refine rounds_go ?_
  refine sr ?_
  refine pv 7 (.bool true) ?_
  refine nt ?_
  refine wp_seq ?_
  refine wp_cond_true (by kernel_rfl) ?_
  refine wp_skip ?_
  refine au_then ?_
  refine wp_seq ?_
  refine wp_block ?_
  refine rg_lit ?_
  refine pl_load M (want_no rfl) (some 8) rfl 60 _ rfl 0 g1 0 (by kernel_rfl) 20 60 r1 rfl 20 r1 (Part.all _ _) (by decide) _ Tryz.underlying60 rfl inz60 ?_
  refine pl_call M (want_no rfl) (some 9) rfl 110 #[.agg (arr 20 r1)] (.agg (arr 20 r2)) (fun _ => by kernel_rfl) F.h2 ?_
  intro w5 M
  refine pl_put M (want_no rfl) rfl 60 _ _ rfl 0 g1 (by kernel_rfl) 20 60 r1 r2 rfl (by kernel_rfl) inz60 ?_
  intro w6 M
  replace M : Mem w [⟨g1, .cells (arr 20 r2) 60⟩, ⟨g2, .cells (arr 20 (fun _ => 0)) 60⟩] w6 := M
  refine pl_nil ?_
  refine au_block ?_
  refine au_then ?_
  refine rg_lit ?_
  refine pv 10 (.int .i64 2) ?_
  refine pv 6 (.int .i64 2) ?_
  refine nt ?_
  refine rounds_go ?_
  refine sr ?_
  refine pv 7 (.bool true) ?_
  refine nt ?_
  refine wp_seq ?_
  refine wp_cond_true (by kernel_rfl) ?_
  refine wp_skip ?_
  refine au_then ?_
  refine wp_seq ?_
  refine wp_block ?_
  refine rg_lit ?_
  refine pl_load M (want_no rfl) (some 8) rfl 60 _ rfl 0 g1 0 (by kernel_rfl) 20 60 r2 rfl 20 r2 (Part.all _ _) (by decide) _ Tryz.underlying60 rfl inz60 ?_
  refine pl_call M (want_no rfl) (some 9) rfl 110 #[.agg (arr 20 r2)] (.agg (arr 20 r3)) (fun _ => by kernel_rfl) F.h3 ?_
  intro w7 M
  refine pl_put M (want_no rfl) rfl 60 _ _ rfl 0 g1 (by kernel_rfl) 20 60 r2 r3 rfl (by kernel_rfl) inz60 ?_
  intro w8 M
  replace M : Mem w [⟨g1, .cells (arr 20 r3) 60⟩, ⟨g2, .cells (arr 20 (fun _ => 0)) 60⟩] w8 := M
  refine pl_nil ?_
  refine au_block ?_
  refine au_then ?_
  refine rg_lit ?_
  refine pv 10 (.int .i64 3) ?_
  refine pv 6 (.int .i64 3) ?_
  refine nt ?_
  refine rounds_go ?_
  refine sr ?_
  refine pv 7 (.bool false) ?_
  refine nt ?_
  refine wp_seq ?_
  refine wp_cond_false (by kernel_rfl) ?_
  refine wp_exit ?_
  refine au_then_exit ?_
  refine au_then_exit ?_
  refine au_block_exit ?_
  refine au_then ?_
  refine sr ?_
  refine pl_load M (want_no rfl) (some 11) rfl 60 _ rfl 0 g1 0 (by kernel_rfl) 20 60 r3 rfl 20 r3 (Part.all _ _) (by decide) _ Tryz.underlying60 rfl inz60 ?_
  refine pl_put M (want_no rfl) rfl 60 _ _ rfl 1 g2 (by kernel_rfl) 20 60 (fun _ => 0) r3 rfl (by kernel_rfl) inz60 ?_
  intro w9 M
  replace M : Mem w [⟨g1, .cells (arr 20 r3) 60⟩, ⟨g2, .cells (arr 20 r3) 60⟩] w9 := M
  refine nt ?_
  refine wp_ret ?_
  exact bodyPost_ret (v := .agg (arr 20 r3)) (results_cell_row Tryz.results61 _ _ g2 60 (arr 20 r3) (0, 0) _ (by kernel_rfl) (M.get 1 rfl) Tryz.underlying60 rfl (by rw [arr_size]; exact inz60)) (by kernel_rfl) ⟨rfl, M.old⟩

end Go.Proofs.YtmhfmhmpoobmlaaGreatDoor

/- The contract of the document's bits: the bits of 2^n - k, the highest first, in a slice of its own. -/
namespace Go.Proofs.YtmhfmhmpoobmlaaGreatDoor
open Go.RowKit

/-- Bit i of 2^n - k, the highest first. -/
def xbit (n k i : Nat) : Bool := decide (8 ≤ n - 1 - i) || Nat.testBit (256 - k) (n - 1 - i)
end Go.Proofs.YtmhfmhmpoobmlaaGreatDoor

/- The contract of the document's power. -/
namespace Go.Proofs.YtmhfmhmpoobmlaaGreatDoor
open Go.RowKit

/-- What power has after i bits. -/
def pwm (x : Int) (f : Nat → Bool) : Nat → Int
  | 0 => 1
  | i + 1 => if f i = true then (pwm x f i * pwm x f i % Pm) * x % Pm else pwm x f i * pwm x f i % Pm
theorem pwm_bd (x : Int) (f : Nat → Bool) : ∀ i, 0 ≤ pwm x f i ∧ pwm x f i < Pm
  | 0 => by unfold pwm; exact ⟨by decide, by decide⟩
  | i + 1 => by
    unfold pwm
    have h : ∀ y : Int, 0 ≤ y % Pm ∧ y % Pm < Pm := fun y => ⟨Int.emod_nonneg y (by decide), Int.emod_lt_of_pos y Pm_pos⟩
    split
    · exact h _
    · exact h _
end Go.Proofs.YtmhfmhmpoobmlaaGreatDoor

/- Contracts of the functions of package num on products of two words: Mul64, Add64, product, plus, below, above. -/
namespace Go.Proofs.YtmhfmhmpoobmlaaGreatDoor
open Go.RowKit

theorem maskN (a : Nat) (ha : a < 18446744073709551616) : bits .and .u64 (a : Int) 4294967295 = ((a % 4294967296 : Nat) : Int) := by
  have h := bits_and_u64_nat a 4294967295 ha (by omega)
  have e : a &&& 4294967295 = a % 4294967296 := Nat.and_two_pow_sub_one_eq_mod a 32
  rw [e] at h
  exact h
theorem divN (a : Nat) : (a : Int) / 4294967296 = ((a / 4294967296 : Nat) : Int) := by omega
theorem mulN (a b : Nat) : (a : Int) * (b : Int) = ((a * b : Nat) : Int) := (Int.natCast_mul a b).symm
theorem addN (a b : Nat) : (a : Int) + (b : Int) = ((a + b : Nat) : Int) := (Int.natCast_add a b).symm
theorem wrapN (a : Nat) (ha : a < 18446744073709551616) : IntKind.u64.wrap (a : Int) = (a : Int) := by rw [IntKind.wrap_u64]; omega
theorem wrapM (a : Nat) : IntKind.u64.wrap (a : Int) = ((a % 18446744073709551616 : Nat) : Int) := by rw [IntKind.wrap_u64]; omega

set_option maxHeartbeats 1000000 in
theorem mul64_nat (x y : Nat) (hx : x < 18446744073709551616) (hy : y < 18446744073709551616) (w : World) :
    Calls Tryz.prog 140 #[.int .u64 x, .int .u64 y] w fun e w' => e = .returned (.tuple #[.int .u64 ((x * y / 18446744073709551616 : Nat) : Int), .int .u64 ((x * y % 18446744073709551616 : Nat) : Int)]) ∧ w' = w := by
  obtain ⟨bd, bt, bw, hhi⟩ := Lib.mul64_hi x y hx hy
  have ba := Lib.half_mul_le (a := x / 4294967296) (b := y / 4294967296) (by omega) (by omega)
  have bb := Lib.half_mul_le (a := x / 4294967296) (b := y % 4294967296) (by omega) (by omega)
  have bc := Lib.half_mul_le (a := x % 4294967296) (b := y / 4294967296) (by omega) (by omega)
  have ba' : x / 4294967296 * (y / 4294967296) < 18446744073709551616 := by omega
  have bb' : x / 4294967296 * (y % 4294967296) < 18446744073709551616 := by omega
  have bc' : x % 4294967296 * (y / 4294967296) < 18446744073709551616 := by omega
  have bh1 : x / 4294967296 * (y / 4294967296) + (x / 4294967296 * (y % 4294967296) + x % 4294967296 * (y % 4294967296) / 4294967296) / 4294967296 < 18446744073709551616 := by omega
  have bh : x / 4294967296 * (y / 4294967296) + (x / 4294967296 * (y % 4294967296) + x % 4294967296 * (y % 4294967296) / 4294967296) / 4294967296 + ((x / 4294967296 * (y % 4294967296) + x % 4294967296 * (y % 4294967296) / 4294967296) % 4294967296 + x % 4294967296 * (y / 4294967296)) / 4294967296 < 18446744073709551616 := by omega
  go_enter Tryz.func140, Tryz.ntmps140
  go_wp2
  simp only [maskN x hx, maskN y hy, divN, mulN, addN, wrapN _ bd, wrapN _ bb', wrapN _ bt, maskN _ bt, wrapN _ bc', wrapN _ bw, wrapN _ ba', wrapN _ bh1, wrapN _ bh, wrapM (x * y)]
  rw [hhi]
  go_ret2
  exact ⟨rfl, rfl⟩

theorem add64_run (x y c : Int) (hx : 0 ≤ x) (hy : 0 ≤ y) (hc0 : 0 ≤ c) (hc : c ≤ 1) (w : World) :
    (callFunc 124 #[.int .u64 x, .int .u64 y, .int .u64 c]).run Tryz.prog w =
      .ok (.value (.tuple #[.int .u64 ((x + y + c) % 18446744073709551616), .int .u64 ((x + y + c) / 18446744073709551616)])) w := by
  rw [run_callFunc_extern Tryz.func124 (by kernel_rfl) (by kernel_rfl) (by kernel_rfl) (e := add64Entry) (by kernel_rfl), run_add64 x y c hx hy hc0 hc]
  simp only [Result.andThen]

/-- Two words that make a number. -/
abbrev wd (N : Int) : Value := .agg #[.int .u64 (N / 18446744073709551616), .int .u64 (N % 18446744073709551616)]

set_option maxHeartbeats 400000 in
theorem product_any (x y : Int) (w : World) (hx : W64 x) (hy : W64 y) :
    Calls Tryz.prog 116 #[.int .u64 x, .int .u64 y] w fun r w' => r = .returned (wd (x * y)) ∧ Below w.heap.size w w' := by
  obtain ⟨X, rfl⟩ := Int.eq_ofNat_of_zero_le hx.1
  obtain ⟨Y, rfl⟩ := Int.eq_ofNat_of_zero_le hy.1
  have hX : X < 18446744073709551616 := by have := hx.2; omega
  have hY : Y < 18446744073709551616 := by have := hy.2; omega
  clear hx hy
  go_enter Tryz.func116, Tryz.ntmps116
  go_wp2_with fail
  refine (mul64_nat X Y hX hY _).mono ?_
  rintro _ w1 ⟨rfl, rfl⟩
  go_wp2
  exact bodyPost_ret (v := wd ((X : Int) * (Y : Int))) (by simp [results, Tryz.results116, go_sem]) rfl ⟨rfl, (Below.refl _ _).alloc (Nat.le_refl _) _⟩

theorem plusH {N M : Int} (h0 : 0 ≤ N) (h1 : 0 ≤ M) (hlt : N + M < 340282366920938463463374607431768211456) : (N / 18446744073709551616 + M / 18446744073709551616 + (N % 18446744073709551616 + M % 18446744073709551616) / 18446744073709551616) % 18446744073709551616 = (N + M) / 18446744073709551616 := by omega
theorem plusL {N M : Int} : (N % 18446744073709551616 + M % 18446744073709551616) % 18446744073709551616 = (N + M) % 18446744073709551616 := by omega

set_option maxHeartbeats 400000 in
theorem plus_hl (h l h' l' : Int) (w : World) (a0 : 0 ≤ h) (b0 : 0 ≤ l) (b1 : l < 18446744073709551616) (c0 : 0 ≤ h') (d0 : 0 ≤ l') (d1 : l' < 18446744073709551616) :
    Calls Tryz.prog 117 #[.agg #[.int .u64 h, .int .u64 l], .agg #[.int .u64 h', .int .u64 l']] w fun r w' => r = .returned (.agg #[.int .u64 ((h + h' + (l + l') / 18446744073709551616) % 18446744073709551616), .int .u64 ((l + l') % 18446744073709551616)]) ∧ Below w.heap.size w w' := by
  have r1 := add64_run l l' 0 b0 d0 (by decide) (by decide)
  have r2 := add64_run h h' ((l + l' + 0) / 18446744073709551616) a0 c0 (by omega) (by omega)
  rw [Int.add_zero] at r1 r2
  go_enter Tryz.func117, Tryz.ntmps117
  go_wp2
  exact bodyPost_ret (v := .agg #[.int .u64 ((h + h' + (l + l') / 18446744073709551616) % 18446744073709551616), .int .u64 ((l + l') % 18446744073709551616)]) (by simp [results, Tryz.results117, go_sem]) rfl ⟨rfl, (((Below.refl _ _).alloc (Nat.le_refl _) _).alloc (by simp) _).alloc (by simp; omega) _⟩

theorem plus_any (N M : Int) (w : World) (h0 : 0 ≤ N) (h1 : 0 ≤ M) (hlt : N + M < 340282366920938463463374607431768211456) :
    Calls Tryz.prog 117 #[wd N, wd M] w fun r w' => r = .returned (wd (N + M)) ∧ Below w.heap.size w w' := by
  have := plus_hl (N / 18446744073709551616) (N % 18446744073709551616) (M / 18446744073709551616) (M % 18446744073709551616) w (by omega) (by omega) (by omega) (by omega) (by omega) (by omega)
  rw [plusH h0 h1 hlt, plusL] at this
  exact this

theorem belowR (N : Int) : bits BinOp.and IntKind.u64 (N % 18446744073709551616) 2251799813685247 = N % 2251799813685248 := by
  rw [and51 ⟨by omega, by omega⟩]
  omega

set_option maxHeartbeats 400000 in
theorem below_any (N : Int) (w : World) :
    Calls Tryz.prog 119 #[wd N] w fun r w' => r = .returned (.int .u64 (N % 2251799813685248)) ∧ Below w.heap.size w w' := by
  have e := belowR N
  go_enter Tryz.func119, Tryz.ntmps119
  go_wp2
  go_ret
  exact ⟨rfl, (Below.refl _ _).alloc (Nat.le_refl _) _⟩

theorem aboveR {N : Int} (h0 : 0 ≤ N) (h1 : N < 41538374868278621028243970633760768) : bits BinOp.or IntKind.u64 (IntKind.u64.wrap (N / 18446744073709551616 * 8192)) (N % 18446744073709551616 / 2251799813685248) = N / 2251799813685248 := by
  rw [wrap64u ⟨by omega, by omega⟩, or_join 13 8192 (by decide) ⟨by omega, by omega⟩ ⟨by omega, by omega⟩ (by omega) (by omega)]
  omega

set_option maxHeartbeats 400000 in
theorem above_any (N : Int) (w : World) (h0 : 0 ≤ N) (h1 : N < 41538374868278621028243970633760768) :
    Calls Tryz.prog 120 #[wd N] w fun r w' => r = .returned (.int .u64 (N / 2251799813685248)) ∧ Below w.heap.size w w' := by
  have e := aboveR h0 h1
  clear h0 h1
  go_enter Tryz.func120, Tryz.ntmps120
  go_wp2
  go_ret
  exact ⟨rfl, (Below.refl _ _).alloc (Nat.le_refl _) _⟩

end Go.Proofs.YtmhfmhmpoobmlaaGreatDoor

/- The contract of Mul: the product modulo the prime. -/
namespace Go.Proofs.YtmhfmhmpoobmlaaGreatDoor
open Go.RowKit

theorem E5.Ok.wa {x : E5} (h : x.Ok) : W64 x.a := ⟨h.a0, by have := h.a1; omega⟩
theorem E5.Ok.wb {x : E5} (h : x.Ok) : W64 x.b := ⟨h.b0, by have := h.b1; omega⟩
theorem E5.Ok.vb {x : E5} (h : x.Ok) : W64 (x.b * 19) := ⟨by have := h.b0; omega, by have := h.b1; omega⟩
theorem E5.Ok.wc {x : E5} (h : x.Ok) : W64 x.c := ⟨h.c0, by have := h.c1; omega⟩
theorem E5.Ok.vc {x : E5} (h : x.Ok) : W64 (x.c * 19) := ⟨by have := h.c0; omega, by have := h.c1; omega⟩
theorem E5.Ok.wd {x : E5} (h : x.Ok) : W64 x.d := ⟨h.d0, by have := h.d1; omega⟩
theorem E5.Ok.vd {x : E5} (h : x.Ok) : W64 (x.d * 19) := ⟨by have := h.d0; omega, by have := h.d1; omega⟩
theorem E5.Ok.we {x : E5} (h : x.Ok) : W64 x.e := ⟨h.e0, by have := h.e1; omega⟩
theorem E5.Ok.ve {x : E5} (h : x.Ok) : W64 (x.e * 19) := ⟨by have := h.e0; omega, by have := h.e1; omega⟩

/-- What Mul's own memory is while it works: the result's block, and below it nothing has changed. -/
structure MulW (w W : World) : Prop where
  old : Below w.heap.size w W
  size : w.heap.size + 1 + 1 < W.heap.size
  free : ∀ o, W.frozen? ⟨w.heap.size + 1 + 1, o, none⟩ = false
  c0 : W.cell? ⟨w.heap.size + 1 + 1, 0, none⟩ = some (.int .u64 0)
  c1 : W.cell? ⟨w.heap.size + 1 + 1, 1, none⟩ = some (.int .u64 0)
  c2 : W.cell? ⟨w.heap.size + 1 + 1, 2, none⟩ = some (.int .u64 0)
  c3 : W.cell? ⟨w.heap.size + 1 + 1, 3, none⟩ = some (.int .u64 0)
  c4 : W.cell? ⟨w.heap.size + 1 + 1, 4, none⟩ = some (.int .u64 0)

theorem MulW.keep {w W W' : World} (h : MulW w W) (hb : Below W.heap.size W W') : MulW w W' :=
  ⟨h.old.trans (hb.mono h.old.size), Nat.lt_of_lt_of_le h.size hb.size, fun o => (hb.frozen (p := ⟨_, o, none⟩) h.size).trans (h.free o), (hb.cell (p := ⟨_, 0, none⟩) h.size).trans h.c0, (hb.cell (p := ⟨_, 1, none⟩) h.size).trans h.c1, (hb.cell (p := ⟨_, 2, none⟩) h.size).trans h.c2, (hb.cell (p := ⟨_, 3, none⟩) h.size).trans h.c3, (hb.cell (p := ⟨_, 4, none⟩) h.size).trans h.c4⟩

theorem MulW.start {w W : World} {A B : Obj} {n : Nat}
    (hb : Below ((((w.alloc A).alloc B).alloc (.cells #[.int .u64 0, .int .u64 0, .int .u64 0, .int .u64 0, .int .u64 0] 58)).drewN n).heap.size ((((w.alloc A).alloc B).alloc (.cells #[.int .u64 0, .int .u64 0, .int .u64 0, .int .u64 0, .int .u64 0] 58)).drewN n) W) : MulW w W := by
  refine MulW.keep ?_ hb
  refine ⟨?_, by simp, by simp [go_sem], by simp [go_sem], by simp [go_sem], by simp [go_sem], by simp [go_sem], by simp [go_sem]⟩
  have := (((Below.refl w.heap.size w).alloc (Nat.le_refl _) A).alloc (by simp) B).alloc (by simp; omega) (.cells #[.int .u64 0, .int .u64 0, .int .u64 0, .int .u64 0, .int .u64 0] 58)
  exact ⟨this.os, this.tape, this.output, this.size, this.block⟩

/-- A number of two words lies there. -/
structure At (W : World) (g : Nat) (N : Int) : Prop where
  size : g < W.heap.size
  c0 : W.cell? ⟨g, 0, none⟩ = some (.int .u64 (N / 18446744073709551616))
  c1 : W.cell? ⟨g, 1, none⟩ = some (.int .u64 (N % 18446744073709551616))

theorem At.keep {W W' : World} {g : Nat} {N : Int} (h : At W g N) (hb : Below W.heap.size W W') : At W' g N :=
  ⟨Nat.lt_of_lt_of_le h.size hb.size, (hb.cell (p := ⟨g, 0, none⟩) h.size).trans h.c0, (hb.cell (p := ⟨g, 1, none⟩) h.size).trans h.c1⟩

theorem At.new (W : World) (N : Int) : At (W.alloc (.cells #[.int .u64 (N / 18446744073709551616), .int .u64 (N % 18446744073709551616)] 142)) W.heap.size N :=
  ⟨by simp, by simp [go_sem], by simp [go_sem]⟩

theorem below_new (W : World) (o : Obj) : Below W.heap.size W (W.alloc o) := (Below.refl _ _).alloc (Nat.le_refl _) _

set_option maxRecDepth 100000 in
set_option maxHeartbeats 4000000 in
theorem mul_any (x y : E5) (w : World) (hx : x.Ok) (hy : y.Ok) :
    Calls Tryz.prog 64 #[x.v, y.v] w fun r w' => r = .returned (mulF x y).v ∧ Below w.heap.size w w' := by
  have HB := hide (MB.of hx hy)
  have HS := hide (MS.of hx hy)
  have q0 := hy.b0
  have q1 := hy.b1
  have q2 := hy.c0
  have q3 := hy.c1
  have q4 := hy.d0
  have q5 := hy.d1
  have q6 := hy.e0
  have q7 := hy.e1
  go_enter Tryz.func64, Tryz.ntmps64
  go_wp2_with fail
  go_quiet (fail)
  go_wp2_with fail
  go_quiet (fail)
  go_wp2_with fail
  clear q0 q1 q2 q3 q4 q5 q6 q7
  refine (product_any x.a y.a _ hx.wa hy.wa).mono ?_
  rintro _ wv ⟨rfl, hb⟩
  have M := MulW.start hb
  clear hb
  go_wp2_with fail
  refine (product_any x.b (y.e * 19) _ hx.wb hy.ve).mono ?_
  rintro _ wv ⟨rfl, hb⟩
  replace M := M.keep hb
  clear hb
  go_wp2_with fail
  refine (plus_any (x.a * y.a) (x.b * (y.e * 19)) _ (by have B := HB.out; have := B.aa; have := B.be'; have := B.cd'; have := B.dc'; have := B.eb'; omega) (by have B := HB.out; have := B.aa; have := B.be'; have := B.cd'; have := B.dc'; have := B.eb'; omega) (by have B := HB.out; have := B.aa; have := B.be'; have := B.cd'; have := B.dc'; have := B.eb'; omega)).mono ?_
  rintro _ wv ⟨rfl, hb⟩
  replace M := M.keep hb
  clear hb
  go_wp2_with fail
  refine (product_any x.c (y.d * 19) _ hx.wc hy.vd).mono ?_
  rintro _ wv ⟨rfl, hb⟩
  replace M := M.keep hb
  clear hb
  go_wp2_with fail
  refine (plus_any (x.a * y.a + x.b * (y.e * 19)) (x.c * (y.d * 19)) _ (by have B := HB.out; have := B.aa; have := B.be'; have := B.cd'; have := B.dc'; have := B.eb'; omega) (by have B := HB.out; have := B.aa; have := B.be'; have := B.cd'; have := B.dc'; have := B.eb'; omega) (by have B := HB.out; have := B.aa; have := B.be'; have := B.cd'; have := B.dc'; have := B.eb'; omega)).mono ?_
  rintro _ wv ⟨rfl, hb⟩
  replace M := M.keep hb
  clear hb
  go_wp2_with fail
  refine (product_any x.d (y.c * 19) _ hx.wd hy.vc).mono ?_
  rintro _ wv ⟨rfl, hb⟩
  replace M := M.keep hb
  clear hb
  go_wp2_with fail
  refine (plus_any (x.a * y.a + x.b * (y.e * 19) + x.c * (y.d * 19)) (x.d * (y.c * 19)) _ (by have B := HB.out; have := B.aa; have := B.be'; have := B.cd'; have := B.dc'; have := B.eb'; omega) (by have B := HB.out; have := B.aa; have := B.be'; have := B.cd'; have := B.dc'; have := B.eb'; omega) (by have B := HB.out; have := B.aa; have := B.be'; have := B.cd'; have := B.dc'; have := B.eb'; omega)).mono ?_
  rintro _ wv ⟨rfl, hb⟩
  replace M := M.keep hb
  clear hb
  go_wp2_with fail
  refine (product_any x.e (y.b * 19) _ hx.we hy.vb).mono ?_
  rintro _ wv ⟨rfl, hb⟩
  replace M := M.keep hb
  clear hb
  go_wp2_with fail
  refine (plus_any (x.a * y.a + x.b * (y.e * 19) + x.c * (y.d * 19) + x.d * (y.c * 19)) (x.e * (y.b * 19)) _ (by have B := HB.out; have := B.aa; have := B.be'; have := B.cd'; have := B.dc'; have := B.eb'; omega) (by have B := HB.out; have := B.aa; have := B.be'; have := B.cd'; have := B.dc'; have := B.eb'; omega) (by have B := HB.out; have := B.aa; have := B.be'; have := B.cd'; have := B.dc'; have := B.eb'; omega)).mono ?_
  rintro _ wv ⟨rfl, hb⟩
  replace M := M.keep hb
  clear hb
  rw [show x.a * y.a + x.b * (y.e * 19) + x.c * (y.d * 19) + x.d * (y.c * 19) + x.e * (y.b * 19) = m0 x y from rfl]
  go_wp2_with fail
  refine (product_any x.a y.b _ hx.wa hy.wb).mono ?_
  rintro _ wv ⟨rfl, hb⟩
  replace M := (M.keep (below_new _ _)).keep hb
  have A0 := (At.new _ _).keep hb
  clear hb
  go_wp2_with fail
  refine (product_any x.b y.a _ hx.wb hy.wa).mono ?_
  rintro _ wv ⟨rfl, hb⟩
  replace M := M.keep hb
  replace A0 := A0.keep hb
  clear hb
  go_wp2_with fail
  refine (plus_any (x.a * y.b) (x.b * y.a) _ (by have B := HB.out; have := B.ab; have := B.ba; have := B.ce'; have := B.dd'; have := B.ec'; omega) (by have B := HB.out; have := B.ab; have := B.ba; have := B.ce'; have := B.dd'; have := B.ec'; omega) (by have B := HB.out; have := B.ab; have := B.ba; have := B.ce'; have := B.dd'; have := B.ec'; omega)).mono ?_
  rintro _ wv ⟨rfl, hb⟩
  replace M := M.keep hb
  replace A0 := A0.keep hb
  clear hb
  go_wp2_with fail
  refine (product_any x.c (y.e * 19) _ hx.wc hy.ve).mono ?_
  rintro _ wv ⟨rfl, hb⟩
  replace M := M.keep hb
  replace A0 := A0.keep hb
  clear hb
  go_wp2_with fail
  refine (plus_any (x.a * y.b + x.b * y.a) (x.c * (y.e * 19)) _ (by have B := HB.out; have := B.ab; have := B.ba; have := B.ce'; have := B.dd'; have := B.ec'; omega) (by have B := HB.out; have := B.ab; have := B.ba; have := B.ce'; have := B.dd'; have := B.ec'; omega) (by have B := HB.out; have := B.ab; have := B.ba; have := B.ce'; have := B.dd'; have := B.ec'; omega)).mono ?_
  rintro _ wv ⟨rfl, hb⟩
  replace M := M.keep hb
  replace A0 := A0.keep hb
  clear hb
  go_wp2_with fail
  refine (product_any x.d (y.d * 19) _ hx.wd hy.vd).mono ?_
  rintro _ wv ⟨rfl, hb⟩
  replace M := M.keep hb
  replace A0 := A0.keep hb
  clear hb
  go_wp2_with fail
  refine (plus_any (x.a * y.b + x.b * y.a + x.c * (y.e * 19)) (x.d * (y.d * 19)) _ (by have B := HB.out; have := B.ab; have := B.ba; have := B.ce'; have := B.dd'; have := B.ec'; omega) (by have B := HB.out; have := B.ab; have := B.ba; have := B.ce'; have := B.dd'; have := B.ec'; omega) (by have B := HB.out; have := B.ab; have := B.ba; have := B.ce'; have := B.dd'; have := B.ec'; omega)).mono ?_
  rintro _ wv ⟨rfl, hb⟩
  replace M := M.keep hb
  replace A0 := A0.keep hb
  clear hb
  go_wp2_with fail
  refine (product_any x.e (y.c * 19) _ hx.we hy.vc).mono ?_
  rintro _ wv ⟨rfl, hb⟩
  replace M := M.keep hb
  replace A0 := A0.keep hb
  clear hb
  go_wp2_with fail
  refine (plus_any (x.a * y.b + x.b * y.a + x.c * (y.e * 19) + x.d * (y.d * 19)) (x.e * (y.c * 19)) _ (by have B := HB.out; have := B.ab; have := B.ba; have := B.ce'; have := B.dd'; have := B.ec'; omega) (by have B := HB.out; have := B.ab; have := B.ba; have := B.ce'; have := B.dd'; have := B.ec'; omega) (by have B := HB.out; have := B.ab; have := B.ba; have := B.ce'; have := B.dd'; have := B.ec'; omega)).mono ?_
  rintro _ wv ⟨rfl, hb⟩
  replace M := M.keep hb
  replace A0 := A0.keep hb
  clear hb
  rw [show x.a * y.b + x.b * y.a + x.c * (y.e * 19) + x.d * (y.d * 19) + x.e * (y.c * 19) = m1 x y from rfl]
  go_wp2_with fail
  refine (product_any x.a y.c _ hx.wa hy.wc).mono ?_
  rintro _ wv ⟨rfl, hb⟩
  replace M := (M.keep (below_new _ _)).keep hb
  replace A0 := (A0.keep (below_new _ _)).keep hb
  have A1 := (At.new _ _).keep hb
  clear hb
  go_wp2_with fail
  refine (product_any x.b y.b _ hx.wb hy.wb).mono ?_
  rintro _ wv ⟨rfl, hb⟩
  replace M := M.keep hb
  replace A0 := A0.keep hb
  replace A1 := A1.keep hb
  clear hb
  go_wp2_with fail
  refine (plus_any (x.a * y.c) (x.b * y.b) _ (by have B := HB.out; have := B.ac; have := B.bb; have := B.ca; have := B.de'; have := B.ed'; omega) (by have B := HB.out; have := B.ac; have := B.bb; have := B.ca; have := B.de'; have := B.ed'; omega) (by have B := HB.out; have := B.ac; have := B.bb; have := B.ca; have := B.de'; have := B.ed'; omega)).mono ?_
  rintro _ wv ⟨rfl, hb⟩
  replace M := M.keep hb
  replace A0 := A0.keep hb
  replace A1 := A1.keep hb
  clear hb
  go_wp2_with fail
  refine (product_any x.c y.a _ hx.wc hy.wa).mono ?_
  rintro _ wv ⟨rfl, hb⟩
  replace M := M.keep hb
  replace A0 := A0.keep hb
  replace A1 := A1.keep hb
  clear hb
  go_wp2_with fail
  refine (plus_any (x.a * y.c + x.b * y.b) (x.c * y.a) _ (by have B := HB.out; have := B.ac; have := B.bb; have := B.ca; have := B.de'; have := B.ed'; omega) (by have B := HB.out; have := B.ac; have := B.bb; have := B.ca; have := B.de'; have := B.ed'; omega) (by have B := HB.out; have := B.ac; have := B.bb; have := B.ca; have := B.de'; have := B.ed'; omega)).mono ?_
  rintro _ wv ⟨rfl, hb⟩
  replace M := M.keep hb
  replace A0 := A0.keep hb
  replace A1 := A1.keep hb
  clear hb
  go_wp2_with fail
  refine (product_any x.d (y.e * 19) _ hx.wd hy.ve).mono ?_
  rintro _ wv ⟨rfl, hb⟩
  replace M := M.keep hb
  replace A0 := A0.keep hb
  replace A1 := A1.keep hb
  clear hb
  go_wp2_with fail
  refine (plus_any (x.a * y.c + x.b * y.b + x.c * y.a) (x.d * (y.e * 19)) _ (by have B := HB.out; have := B.ac; have := B.bb; have := B.ca; have := B.de'; have := B.ed'; omega) (by have B := HB.out; have := B.ac; have := B.bb; have := B.ca; have := B.de'; have := B.ed'; omega) (by have B := HB.out; have := B.ac; have := B.bb; have := B.ca; have := B.de'; have := B.ed'; omega)).mono ?_
  rintro _ wv ⟨rfl, hb⟩
  replace M := M.keep hb
  replace A0 := A0.keep hb
  replace A1 := A1.keep hb
  clear hb
  go_wp2_with fail
  refine (product_any x.e (y.d * 19) _ hx.we hy.vd).mono ?_
  rintro _ wv ⟨rfl, hb⟩
  replace M := M.keep hb
  replace A0 := A0.keep hb
  replace A1 := A1.keep hb
  clear hb
  go_wp2_with fail
  refine (plus_any (x.a * y.c + x.b * y.b + x.c * y.a + x.d * (y.e * 19)) (x.e * (y.d * 19)) _ (by have B := HB.out; have := B.ac; have := B.bb; have := B.ca; have := B.de'; have := B.ed'; omega) (by have B := HB.out; have := B.ac; have := B.bb; have := B.ca; have := B.de'; have := B.ed'; omega) (by have B := HB.out; have := B.ac; have := B.bb; have := B.ca; have := B.de'; have := B.ed'; omega)).mono ?_
  rintro _ wv ⟨rfl, hb⟩
  replace M := M.keep hb
  replace A0 := A0.keep hb
  replace A1 := A1.keep hb
  clear hb
  rw [show x.a * y.c + x.b * y.b + x.c * y.a + x.d * (y.e * 19) + x.e * (y.d * 19) = m2 x y from rfl]
  go_wp2_with fail
  refine (product_any x.a y.d _ hx.wa hy.wd).mono ?_
  rintro _ wv ⟨rfl, hb⟩
  replace M := (M.keep (below_new _ _)).keep hb
  replace A0 := (A0.keep (below_new _ _)).keep hb
  replace A1 := (A1.keep (below_new _ _)).keep hb
  have A2 := (At.new _ _).keep hb
  clear hb
  go_wp2_with fail
  refine (product_any x.b y.c _ hx.wb hy.wc).mono ?_
  rintro _ wv ⟨rfl, hb⟩
  replace M := M.keep hb
  replace A0 := A0.keep hb
  replace A1 := A1.keep hb
  replace A2 := A2.keep hb
  clear hb
  go_wp2_with fail
  refine (plus_any (x.a * y.d) (x.b * y.c) _ (by have B := HB.out; have := B.ad; have := B.bc; have := B.cb; have := B.da; have := B.ee'; omega) (by have B := HB.out; have := B.ad; have := B.bc; have := B.cb; have := B.da; have := B.ee'; omega) (by have B := HB.out; have := B.ad; have := B.bc; have := B.cb; have := B.da; have := B.ee'; omega)).mono ?_
  rintro _ wv ⟨rfl, hb⟩
  replace M := M.keep hb
  replace A0 := A0.keep hb
  replace A1 := A1.keep hb
  replace A2 := A2.keep hb
  clear hb
  go_wp2_with fail
  refine (product_any x.c y.b _ hx.wc hy.wb).mono ?_
  rintro _ wv ⟨rfl, hb⟩
  replace M := M.keep hb
  replace A0 := A0.keep hb
  replace A1 := A1.keep hb
  replace A2 := A2.keep hb
  clear hb
  go_wp2_with fail
  refine (plus_any (x.a * y.d + x.b * y.c) (x.c * y.b) _ (by have B := HB.out; have := B.ad; have := B.bc; have := B.cb; have := B.da; have := B.ee'; omega) (by have B := HB.out; have := B.ad; have := B.bc; have := B.cb; have := B.da; have := B.ee'; omega) (by have B := HB.out; have := B.ad; have := B.bc; have := B.cb; have := B.da; have := B.ee'; omega)).mono ?_
  rintro _ wv ⟨rfl, hb⟩
  replace M := M.keep hb
  replace A0 := A0.keep hb
  replace A1 := A1.keep hb
  replace A2 := A2.keep hb
  clear hb
  go_wp2_with fail
  refine (product_any x.d y.a _ hx.wd hy.wa).mono ?_
  rintro _ wv ⟨rfl, hb⟩
  replace M := M.keep hb
  replace A0 := A0.keep hb
  replace A1 := A1.keep hb
  replace A2 := A2.keep hb
  clear hb
  go_wp2_with fail
  refine (plus_any (x.a * y.d + x.b * y.c + x.c * y.b) (x.d * y.a) _ (by have B := HB.out; have := B.ad; have := B.bc; have := B.cb; have := B.da; have := B.ee'; omega) (by have B := HB.out; have := B.ad; have := B.bc; have := B.cb; have := B.da; have := B.ee'; omega) (by have B := HB.out; have := B.ad; have := B.bc; have := B.cb; have := B.da; have := B.ee'; omega)).mono ?_
  rintro _ wv ⟨rfl, hb⟩
  replace M := M.keep hb
  replace A0 := A0.keep hb
  replace A1 := A1.keep hb
  replace A2 := A2.keep hb
  clear hb
  go_wp2_with fail
  refine (product_any x.e (y.e * 19) _ hx.we hy.ve).mono ?_
  rintro _ wv ⟨rfl, hb⟩
  replace M := M.keep hb
  replace A0 := A0.keep hb
  replace A1 := A1.keep hb
  replace A2 := A2.keep hb
  clear hb
  go_wp2_with fail
  refine (plus_any (x.a * y.d + x.b * y.c + x.c * y.b + x.d * y.a) (x.e * (y.e * 19)) _ (by have B := HB.out; have := B.ad; have := B.bc; have := B.cb; have := B.da; have := B.ee'; omega) (by have B := HB.out; have := B.ad; have := B.bc; have := B.cb; have := B.da; have := B.ee'; omega) (by have B := HB.out; have := B.ad; have := B.bc; have := B.cb; have := B.da; have := B.ee'; omega)).mono ?_
  rintro _ wv ⟨rfl, hb⟩
  replace M := M.keep hb
  replace A0 := A0.keep hb
  replace A1 := A1.keep hb
  replace A2 := A2.keep hb
  clear hb
  rw [show x.a * y.d + x.b * y.c + x.c * y.b + x.d * y.a + x.e * (y.e * 19) = m3 x y from rfl]
  go_wp2_with fail
  refine (product_any x.a y.e _ hx.wa hy.we).mono ?_
  rintro _ wv ⟨rfl, hb⟩
  replace M := (M.keep (below_new _ _)).keep hb
  replace A0 := (A0.keep (below_new _ _)).keep hb
  replace A1 := (A1.keep (below_new _ _)).keep hb
  replace A2 := (A2.keep (below_new _ _)).keep hb
  have A3 := (At.new _ _).keep hb
  clear hb
  go_wp2_with fail
  refine (product_any x.b y.d _ hx.wb hy.wd).mono ?_
  rintro _ wv ⟨rfl, hb⟩
  replace M := M.keep hb
  replace A0 := A0.keep hb
  replace A1 := A1.keep hb
  replace A2 := A2.keep hb
  replace A3 := A3.keep hb
  clear hb
  go_wp2_with fail
  refine (plus_any (x.a * y.e) (x.b * y.d) _ (by have B := HB.out; have := B.ae; have := B.bd; have := B.cc; have := B.db; have := B.ea; omega) (by have B := HB.out; have := B.ae; have := B.bd; have := B.cc; have := B.db; have := B.ea; omega) (by have B := HB.out; have := B.ae; have := B.bd; have := B.cc; have := B.db; have := B.ea; omega)).mono ?_
  rintro _ wv ⟨rfl, hb⟩
  replace M := M.keep hb
  replace A0 := A0.keep hb
  replace A1 := A1.keep hb
  replace A2 := A2.keep hb
  replace A3 := A3.keep hb
  clear hb
  go_wp2_with fail
  refine (product_any x.c y.c _ hx.wc hy.wc).mono ?_
  rintro _ wv ⟨rfl, hb⟩
  replace M := M.keep hb
  replace A0 := A0.keep hb
  replace A1 := A1.keep hb
  replace A2 := A2.keep hb
  replace A3 := A3.keep hb
  clear hb
  go_wp2_with fail
  refine (plus_any (x.a * y.e + x.b * y.d) (x.c * y.c) _ (by have B := HB.out; have := B.ae; have := B.bd; have := B.cc; have := B.db; have := B.ea; omega) (by have B := HB.out; have := B.ae; have := B.bd; have := B.cc; have := B.db; have := B.ea; omega) (by have B := HB.out; have := B.ae; have := B.bd; have := B.cc; have := B.db; have := B.ea; omega)).mono ?_
  rintro _ wv ⟨rfl, hb⟩
  replace M := M.keep hb
  replace A0 := A0.keep hb
  replace A1 := A1.keep hb
  replace A2 := A2.keep hb
  replace A3 := A3.keep hb
  clear hb
  go_wp2_with fail
  refine (product_any x.d y.b _ hx.wd hy.wb).mono ?_
  rintro _ wv ⟨rfl, hb⟩
  replace M := M.keep hb
  replace A0 := A0.keep hb
  replace A1 := A1.keep hb
  replace A2 := A2.keep hb
  replace A3 := A3.keep hb
  clear hb
  go_wp2_with fail
  refine (plus_any (x.a * y.e + x.b * y.d + x.c * y.c) (x.d * y.b) _ (by have B := HB.out; have := B.ae; have := B.bd; have := B.cc; have := B.db; have := B.ea; omega) (by have B := HB.out; have := B.ae; have := B.bd; have := B.cc; have := B.db; have := B.ea; omega) (by have B := HB.out; have := B.ae; have := B.bd; have := B.cc; have := B.db; have := B.ea; omega)).mono ?_
  rintro _ wv ⟨rfl, hb⟩
  replace M := M.keep hb
  replace A0 := A0.keep hb
  replace A1 := A1.keep hb
  replace A2 := A2.keep hb
  replace A3 := A3.keep hb
  clear hb
  go_wp2_with fail
  refine (product_any x.e y.a _ hx.we hy.wa).mono ?_
  rintro _ wv ⟨rfl, hb⟩
  replace M := M.keep hb
  replace A0 := A0.keep hb
  replace A1 := A1.keep hb
  replace A2 := A2.keep hb
  replace A3 := A3.keep hb
  clear hb
  go_wp2_with fail
  refine (plus_any (x.a * y.e + x.b * y.d + x.c * y.c + x.d * y.b) (x.e * y.a) _ (by have B := HB.out; have := B.ae; have := B.bd; have := B.cc; have := B.db; have := B.ea; omega) (by have B := HB.out; have := B.ae; have := B.bd; have := B.cc; have := B.db; have := B.ea; omega) (by have B := HB.out; have := B.ae; have := B.bd; have := B.cc; have := B.db; have := B.ea; omega)).mono ?_
  rintro _ wv ⟨rfl, hb⟩
  replace M := M.keep hb
  replace A0 := A0.keep hb
  replace A1 := A1.keep hb
  replace A2 := A2.keep hb
  replace A3 := A3.keep hb
  clear hb
  rw [show x.a * y.e + x.b * y.d + x.c * y.c + x.d * y.b + x.e * y.a = m4 x y from rfl]
  go_wp2_with fail
  have bn := below_new wv (.cells #[.int .u64 (m4 x y / 18446744073709551616), .int .u64 (m4 x y % 18446744073709551616)] 142)
  replace M := M.keep bn
  replace A0 := A0.keep bn
  replace A1 := A1.keep bn
  replace A2 := A2.keep bn
  replace A3 := A3.keep bn
  have A4 := At.new wv (m4 x y)
  clear bn
  obtain ⟨W9, hW9⟩ : ∃ W9, wv.alloc (.cells #[.int .u64 (m4 x y / 18446744073709551616), .int .u64 (m4 x y % 18446744073709551616)] 142) = W9 := ⟨_, rfl⟩
  rw [hW9] at M A0 A1 A2 A3 A4
  rw [hW9]
  clear hW9
  obtain ⟨⟨Z0, Y0⟩, ⟨Z1, Y1⟩, ⟨Z2, Y2⟩, ⟨Z3, Y3⟩, ⟨Z4, Y4⟩⟩ := HS.out
  have HF := hide (show mulF x y = car (m0 x y % 2251799813685248 + m4 x y / 2251799813685248 * 19) (m1 x y % 2251799813685248 + m0 x y / 2251799813685248) (m2 x y % 2251799813685248 + m1 x y / 2251799813685248) (m3 x y % 2251799813685248 + m2 x y / 2251799813685248) (m4 x y % 2251799813685248 + m3 x y / 2251799813685248) from rfl)
  clear HS HB hx hy
  generalize m0 x y = n0 at *
  generalize m1 x y = n1 at *
  generalize m2 x y = n2 at *
  generalize m3 x y = n3 at *
  generalize m4 x y = n4 at *
  have k0 := fun s : KW W9 => (A0.keep s.keep).c0
  have l0 := fun s : KW W9 => (A0.keep s.keep).c1
  have k1 := fun s : KW W9 => (A1.keep s.keep).c0
  have l1 := fun s : KW W9 => (A1.keep s.keep).c1
  have k2 := fun s : KW W9 => (A2.keep s.keep).c0
  have l2 := fun s : KW W9 => (A2.keep s.keep).c1
  have k3 := fun s : KW W9 => (A3.keep s.keep).c0
  have l3 := fun s : KW W9 => (A3.keep s.keep).c1
  have k4 := fun s : KW W9 => (A4.keep s.keep).c0
  have l4 := fun s : KW W9 => (A4.keep s.keep).c1
  clear A0 A1 A2 A3 A4
  have hne : Nonempty (KW W9) := ⟨⟨W9, Below.refl _ _⟩⟩
  refine wp_region_keep_tail 27 (by kernel_rfl) (by kernel_rfl) ?_
  simp only [List.take_succ_cons, List.take_zero, List.drop_succ_cons, List.drop_zero]
  repeat (go_big_quiet_step (first | (go_at_call 119; exact keep_of (below_any _ _)) | (go_at_call 120; exact keep_of (above_any _ _ (by omega) (by omega))) | (go_at_call 118; exact keep_of (carried_any _ _ _ _ _ _ ⟨by omega, by omega⟩ ⟨by omega, by omega⟩ ⟨by omega, by omega⟩ ⟨by omega, by omega⟩ ⟨by omega, by omega⟩))))
  refine wpQuiet_nil ?_
  intro s
  have HE := HF.out
  rw [← HE]
  replace M := M.keep s.keep
  generalize s.w = W' at M ⊢
  generalize hz : mulF x y = z at HE ⊢
  have H := hide hz
  clear HE HF hz k0 k1 k2 k3 k4 l0 l1 l2 l3 l4 hne
  have H3 := hide M.old
  obtain ⟨_, hs, hf, c0, c1, c2, c3, c4⟩ := M
  clear Z0 Z1 Z2 Z3 Z4 Y0 Y1 Y2 Y3 Y4
  go_wp2
  refine bodyPost_ret (v := z.v) (by simp [results, Tryz.results64, go_sem, c0, c1, c2, c3, c4]) rfl ⟨by rw [H.out], ?_⟩
  exact set5 H3.out (by omega)

end Go.Proofs.YtmhfmhmpoobmlaaGreatDoor

/- The contracts of squares and ones: the powers 2^n and 2^n - 1. -/
namespace Go.Proofs.YtmhfmhmpoobmlaaGreatDoor
open Go.RowKit

def squaresF : Nat → E5 → E5
  | 0, x => x
  | n + 1, x => squaresF n (mulF x x)

theorem squaresF_ok : ∀ (n : Nat) {x : E5}, x.Ok → (squaresF n x).Ok
  | 0, _, h => h
  | n + 1, _, h => squaresF_ok n (mulF_ok h h)

set_option maxRecDepth 100000 in
set_option maxHeartbeats 1000000 in
theorem squares_any (n : Nat) : ∀ (x : E5) (w : World), x.Ok → n < 1000000 →
    Calls Tryz.prog 115 #[x.v, .int .u64 n] w fun r w' => r = .returned (squaresF n x).v ∧ Below w.heap.size w w' := by
  induction n with
  | zero =>
    intro x w hx _
    go_enter Tryz.func115, Tryz.ntmps115
    go_wp2
    exact bodyPost_ret (v := x.v) (by simp [results, Tryz.results115, go_sem]) rfl ⟨rfl, ((Below.refl _ _).alloc (Nat.le_refl _) _).alloc (by simp) _⟩
  | succ n ih =>
    intro x w hx hn
    have HI := hide ih
    clear ih
    have h0 : (((n + 1 : Nat) : Int) == 0) = false := beq_eq_false_iff_ne.2 (by omega)
    have e : ((n + 1 : Nat) : Int) = (n : Int) + 1 := by omega
    rw [e] at h0
    rw [e]
    go_enter Tryz.func115, Tryz.ntmps115
    go_wp2_with fail
    have R := Out.start1 w (.cells #[.int .u64 x.a, .int .u64 x.b, .int .u64 x.c, .int .u64 x.d, .int .u64 x.e] 58)
    refine (mul_any x x _ hx hx).mono ?_
    rintro _ w1 ⟨rfl, hb⟩
    replace R := R.keep hb
    clear hb
    go_wp2_with fail
    refine (HI.out (mulF x x) _ (mulF_ok hx hx) (by omega)).mono ?_
    rintro _ w2 ⟨rfl, hb⟩
    replace R := R.keep hb
    clear hb HI
    rw [show squaresF n (mulF x x) = squaresF (n + 1) x from rfl]
    generalize hz : squaresF (n + 1) x = z
    have H := hide hz
    obtain ⟨old, ge, hs, hf, c0, c1, c2, c3, c4⟩ := R
    have O := hide old
    clear old hz
    go_wp2
    refine bodyPost_ret (v := z.v) (by simp [results, Tryz.results115, go_sem, c0, c1, c2, c3, c4]) rfl ⟨by rw [H.out], ?_⟩
    exact five O.out ge

end Go.Proofs.YtmhfmhmpoobmlaaGreatDoor

/- The contract of ones: the power 2^n - 1. -/
namespace Go.Proofs.YtmhfmhmpoobmlaaGreatDoor
open Go.RowKit
attribute [local go_sem] keepOp keepAt keepUpon

/-- By halves; f: how many halvings there may be. -/
def onesF (x : E5) : Nat → Nat → E5
  | 0, _ => smallF 1
  | f + 1, n => if n = 0 then smallF 1 else
    if n % 2 = 0 then mulF (squaresF (n / 2) (onesF x f (n / 2))) (onesF x f (n / 2))
    else mulF (squaresF 1 (mulF (squaresF (n / 2) (onesF x f (n / 2))) (onesF x f (n / 2)))) x

theorem onesF_ok {x : E5} (hx : x.Ok) : ∀ (f n : Nat), (onesF x f n).Ok
  | 0, _ => smallF_ok (by decide) (by decide)
  | f + 1, n => by
    have h := onesF_ok hx f (n / 2)
    unfold onesF
    split
    · exact smallF_ok (by decide) (by decide)
    · split
      · exact mulF_ok (squaresF_ok _ h) h
      · exact mulF_ok (squaresF_ok _ (mulF_ok (squaresF_ok _ h) h)) hx

theorem squares_half (n : Nat) (x : E5) (w : World) (hx : x.Ok) (hn : n < 1000000) :
    Calls Tryz.prog 115 #[x.v, .int .u64 ((n : Int) / 2)] w fun r w' => r = .returned (squaresF (n / 2) x).v ∧ Below w.heap.size w w' := by
  rw [show (n : Int) / 2 = ((n / 2 : Nat) : Int) from by omega]
  exact squares_any (n / 2) x w hx (by omega)

theorem squares_1 (x : E5) (w : World) (hx : x.Ok) : Calls Tryz.prog 115 #[x.v, .int .u64 1] w fun r w' => r = .returned (squaresF 1 x).v ∧ Below w.heap.size w w' := squares_any 1 x w hx (by decide)
theorem squares_3 (x : E5) (w : World) (hx : x.Ok) : Calls Tryz.prog 115 #[x.v, .int .u64 3] w fun r w' => r = .returned (squaresF 3 x).v ∧ Below w.heap.size w w' := squares_any 3 x w hx (by decide)
theorem squares_5 (x : E5) (w : World) (hx : x.Ok) : Calls Tryz.prog 115 #[x.v, .int .u64 5] w fun r w' => r = .returned (squaresF 5 x).v ∧ Below w.heap.size w w' := squares_any 5 x w hx (by decide)

set_option maxRecDepth 100000 in
set_option maxHeartbeats 4000000 in
theorem ones_any (x : E5) (hx : x.Ok) (f : Nat) : ∀ (n : Nat) (w : World), n < 2 ^ f → n < 1000000 →
    Calls Tryz.prog 114 #[x.v, .int .u64 n] w fun r w' => r = .returned (onesF x f n).v ∧ Below w.heap.size w w' := by
  induction f with
  | zero =>
    intro n w hn _
    have e : n = 0 := by omega
    subst e
    go_enter Tryz.func114, Tryz.ntmps114
    go_wp2_with fail
    have R := Out.start1 w (.cells #[.int .u64 x.a, .int .u64 x.b, .int .u64 x.c, .int .u64 x.d, .int .u64 x.e] 58)
    refine (small_any 1 _ (by decide) (by decide)).mono ?_
    rintro _ w1 ⟨rfl, hb⟩
    replace R := R.keep hb
    clear hb
    rw [show smallF 1 = onesF x 0 0 from rfl]
    generalize hz : onesF x 0 0 = z
    have H := hide hz
    obtain ⟨old, ge, hs, hf, c0, c1, c2, c3, c4⟩ := R
    have O := hide old
    clear old hz
    go_wp2
    refine bodyPost_ret (v := z.v) (by simp [results, Tryz.results114, go_sem, c0, c1, c2, c3, c4]) rfl ⟨by rw [H.out], ?_⟩
    exact five O.out ge
  | succ f ih =>
    intro n w hn hlt
    have HI := hide ih
    clear ih
    by_cases h0 : n = 0
    · subst h0
      go_enter Tryz.func114, Tryz.ntmps114
      go_wp2_with fail
      have R := Out.start1 w (.cells #[.int .u64 x.a, .int .u64 x.b, .int .u64 x.c, .int .u64 x.d, .int .u64 x.e] 58)
      refine (small_any 1 _ (by decide) (by decide)).mono ?_
      rintro _ w1 ⟨rfl, hb⟩
      replace R := R.keep hb
      clear hb
      have e : onesF x (f + 1) 0 = smallF 1 := by simp [onesF]
      rw [← e]
      generalize hz : onesF x (f + 1) 0 = z
      have H := hide hz
      obtain ⟨old, ge, hs, hf, c0, c1, c2, c3, c4⟩ := R
      have O := hide old
      clear old hz e
      go_wp2
      refine bodyPost_ret (v := z.v) (by simp [results, Tryz.results114, go_sem, c0, c1, c2, c3, c4]) rfl ⟨by rw [H.out], ?_⟩
      exact five O.out ge
    · have b0 : ((n : Int) == 0) = false := beq_eq_false_iff_ne.2 (by omega)
      have hp : n / 2 < 2 ^ f := by
        have : 2 ^ (f + 1) = 2 * 2 ^ f := by rw [Nat.pow_succ, Nat.mul_comm]
        omega
      have ok := onesF_ok hx f (n / 2)
      by_cases hodd : n % 2 = 0
      all_goals
        go_enter Tryz.func114, Tryz.ntmps114
        go_wp2_with fail
        have R := Out.start1 w (.cells #[.int .u64 x.a, .int .u64 x.b, .int .u64 x.c, .int .u64 x.d, .int .u64 x.e] 58)
        have A := EAt.new1 w x (.cells #[.int .u64 0, .int .u64 0, .int .u64 0, .int .u64 0, .int .u64 0] 58)
        rw [show (n : Int) / 2 = ((n / 2 : Nat) : Int) from by omega]
        refine (HI.out (n / 2) _ hp (by omega)).mono ?_
        rintro _ w1 ⟨rfl, hb⟩
        replace R := R.keep hb
        replace A := A.keep hb
        clear hb HI
        have he : onesF x (f + 1) n = if n % 2 = 0 then mulF (squaresF (n / 2) (onesF x f (n / 2))) (onesF x f (n / 2)) else mulF (squaresF 1 (mulF (squaresF (n / 2) (onesF x f (n / 2))) (onesF x f (n / 2)))) x := by
          rw [onesF, if_neg h0]
        first | rw [if_pos hodd] at he | rw [if_neg hodd] at he
        have HE := hide he
        clear he
        generalize onesF x f (n / 2) = half at *
        go_wp2_with fail
        replace R := R.keep (new_below w1 (.cells #[.int .u64 half.a, .int .u64 half.b, .int .u64 half.c, .int .u64 half.d, .int .u64 half.e] 58))
        replace A := A.keep (new_below w1 (.cells #[.int .u64 half.a, .int .u64 half.b, .int .u64 half.c, .int .u64 half.d, .int .u64 half.e] 58))
        have B := EAt.new w1 half 58
        generalize w1.heap.size = g at *
        generalize w1.alloc (.cells #[.int .u64 half.a, .int .u64 half.b, .int .u64 half.c, .int .u64 half.d, .int .u64 half.e] 58) = W at *
        have hne := KW.some W
        have a0 := B.k0
        have a1 := B.k1
        have a2 := B.k2
        have a3 := B.k3
        have a4 := B.k4
        refine wp_region_keep_alloc (Z := .cells #[.int .u64 0, .int .u64 0, .int .u64 0, .int .u64 0, .int .u64 0] 58) 6 (by kernel_rfl) (by kernel_rfl) rfl rfl (fun _ _ => by kernel_rfl) ?_
        simp only [List.take_succ_cons, List.take_zero, List.drop_succ_cons, List.drop_zero]
        refine wpK_step (fun K hK => ?_)
        go_simp
        refine hK _ ?_
        clear hK K
        refine wpK_step (fun K hK => ?_)
        go_simp
        refine hK _ ?_
        clear hK K
        refine wpK_step (fun K hK => ?_)
        go_simp
        refine hK _ ?_
        clear hK K
        rw [show IntKind.u64.wrap ((n : Int) / 2) = (n : Int) / 2 from wrap64u ⟨by omega, by omega⟩]
        refine wpK_step (fun K hK => ?_)
        go_simp
        refine ⟨_, fun s => squares_half n half _ ok hlt, hK _ ?_⟩
        clear hK K
        refine wpK_step (fun K hK => ?_)
        go_simp
        refine hK _ ?_
        clear hK K
        refine wpK_step (fun K hK => ?_)
        go_simp
        refine ⟨_, fun s => mul_any _ _ _ (squaresF_ok _ ok) ok, hK _ ?_⟩
        clear hK K
        refine wpK_nil ?_
        intro W1 gb hb1 hb2 hb3 a2 ha2
        simp [go_sem] at ha2
        subst ha2
        clear a0 a1 a2 a3 a4 hne
        have sz := A.size
        have sz2 := R.lie.size
        replace R := R.keep hb1
        replace A := A.keep hb1
        have G := EAt.of_zero hb3
        clear B hb1 hb3
        have ok2 := mulF_ok (squaresF_ok (n / 2) ok) ok
        generalize mulF (squaresF (n / 2) half) half = even at *
        have n1 : ¬ w.heap.size + 1 = gb := by omega
        have n2 : ¬ gb = w.heap.size + 1 := by omega
        have GE := G.put even
        obtain ⟨gs, gf, g0, g1, g2, g3, g4⟩ := G
        have ev : ((n : Int) % 2 == 0) = decide (n % 2 = 0) := by rw [Bool.eq_iff_iff]; simp; omega
      · rw [decide_eq_true hodd] at ev
        obtain ⟨old, ge, hs, hf, c0, c1, c2, c3, c4⟩ := R
        have O := hide old
        clear old A GE hn h0 hp
        go_wp2_with fail
        refine bodyPost_ret (v := even.v) (by simp [results, Tryz.results114, go_sem, c0, c1, c2, c3, c4]) rfl ⟨by rw [HE.out], ?_⟩
        exact five (five O.out (by omega)) ge
      · rw [decide_eq_false hodd] at ev
        have RR := hide (R.other (k := gb) (by omega) (by omega) even)
        have AA := hide (A.other (k := gb) (by omega) even)
        have BB := hide GE
        clear A R GE
        go_wp2_with fail
        replace R := RR.out
        replace A := AA.out
        replace B := BB.out
        clear RR AA BB gs gf g0 g1 g2 g3 g4
        obtain ⟨W2, hW2⟩ : ∃ W2, put5 W1 gb even = W2 := ⟨_, rfl⟩
        rw [hW2] at R A B
        rw [show (((((W1.setCell ⟨gb, 0, none⟩ (.int .u64 even.a)).setCell ⟨gb, 1, none⟩ (.int .u64 even.b)).setCell ⟨gb, 2, none⟩ (.int .u64 even.c)).setCell ⟨gb, 3, none⟩ (.int .u64 even.d)).setCell ⟨gb, 4, none⟩ (.int .u64 even.e)) = W2 from hW2]
        clear hW2
        have hne := KW.some W2
        have a0 := B.k0
        have a1 := B.k1
        have a2 := B.k2
        have a3 := B.k3
        have a4 := B.k4
        have b0 := A.k0
        have b1 := A.k1
        have b2 := A.k2
        have b3 := A.k3
        have b4 := A.k4
        clear A B
        refine wp_region_keep_tail 4 (by kernel_rfl) (by kernel_rfl) ?_
        simp only [List.take_succ_cons, List.take_zero, List.drop_succ_cons, List.drop_zero]
        repeat (go_big_quiet_step (first | (go_at_call 115; exact keep_of (squares_1 even _ ok2)) | (go_at_call 64; exact keep_of (mul_any _ _ _ (squaresF_ok _ ok2) hx))))
        refine wpQuiet_nil ?_
        intro s
        clear a0 a1 a2 a3 a4 b0 b1 b2 b3 b4 hne
        replace R := R.keep s.keep
        generalize s.w = W3 at R ⊢
        generalize mulF (squaresF 1 even) x = z at *
        obtain ⟨old, ge, hs, hf, c0, c1, c2, c3, c4⟩ := R
        have O := hide old
        clear old
        go_wp2
        refine bodyPost_ret (v := z.v) (by simp [results, Tryz.results114, go_sem, c0, c1, c2, c3, c4]) rfl ⟨by rw [HE.out], ?_⟩
        exact five O.out ge

end Go.Proofs.YtmhfmhmpoobmlaaGreatDoor

/- The contracts of Inv, anyRoot and Root. -/
namespace Go.Proofs.YtmhfmhmpoobmlaaGreatDoor
open Go.RowKit

theorem ones_250 (x : E5) (w : World) (hx : x.Ok) : Calls Tryz.prog 114 #[x.v, .int .u64 250] w fun r w' => r = .returned (onesF x 8 250).v ∧ Below w.heap.size w w' := ones_any x hx 8 250 w (by decide) (by decide)
theorem ones_251 (x : E5) (w : World) (hx : x.Ok) : Calls Tryz.prog 114 #[x.v, .int .u64 251] w fun r w' => r = .returned (onesF x 8 251).v ∧ Below w.heap.size w w' := ones_any x hx 8 251 w (by decide) (by decide)
theorem ones_2 (x : E5) (w : World) (hx : x.Ok) : Calls Tryz.prog 114 #[x.v, .int .u64 2] w fun r w' => r = .returned (onesF x 8 2).v ∧ Below w.heap.size w w' := ones_any x hx 8 2 w (by decide) (by decide)

def invF (x : E5) : E5 := mulF (mulF (squaresF 5 (onesF x 8 250)) (squaresF 3 x)) (onesF x 8 2)

theorem invF_ok {x : E5} (hx : x.Ok) : (invF x).Ok := mulF_ok (mulF_ok (squaresF_ok _ (onesF_ok hx _ _)) (squaresF_ok _ hx)) (onesF_ok hx _ _)

set_option maxRecDepth 100000 in
set_option maxHeartbeats 1000000 in
theorem inv_any (x : E5) (w : World) (hx : x.Ok) :
    Calls Tryz.prog 63 #[x.v] w fun r w' => r = .returned (invF x).v ∧ Below w.heap.size w w' := by
  have k1 := onesF_ok hx 8 250
  have k2 := onesF_ok hx 8 2
  have HE := hide (show invF x = mulF (mulF (squaresF 5 (onesF x 8 250)) (squaresF 3 x)) (onesF x 8 2) from rfl)
  go_enter Tryz.func63, Tryz.ntmps63
  go_wp2_with fail
  have R := Out.start1 w (.cells #[.int .u64 x.a, .int .u64 x.b, .int .u64 x.c, .int .u64 x.d, .int .u64 x.e] 58)
  have A := EAt.new1 w x (.cells #[.int .u64 0, .int .u64 0, .int .u64 0, .int .u64 0, .int .u64 0] 58)
  generalize (w.alloc (.cells #[.int .u64 x.a, .int .u64 x.b, .int .u64 x.c, .int .u64 x.d, .int .u64 x.e] 58)).alloc (.cells #[.int .u64 0, .int .u64 0, .int .u64 0, .int .u64 0, .int .u64 0] 58) = W at R A ⊢
  have hne := KW.some W
  have a0 := A.k0
  have a1 := A.k1
  have a2 := A.k2
  have a3 := A.k3
  have a4 := A.k4
  clear A
  refine wp_region_keep_tail 9 (by kernel_rfl) (by kernel_rfl) ?_
  simp only [List.take_succ_cons, List.take_zero, List.drop_succ_cons, List.drop_zero]
  iterate 1 go_big_quiet_step (fail)
  go_big_quiet_step ((exact keep_of (ones_250 x _ hx)))
  generalize onesF x 8 250 = y1 at *
  go_big_quiet_step ((exact keep_of (squares_5 y1 _ k1)))
  have k3 := squaresF_ok 5 k1
  generalize squaresF 5 y1 = y2 at *
  go_big_quiet_step (fail)
  go_big_quiet_step ((exact keep_of (squares_3 x _ hx)))
  have k4 := squaresF_ok 3 hx
  generalize squaresF 3 x = y3 at *
  go_big_quiet_step ((exact keep_of (mul_any y2 y3 _ k3 k4)))
  have k5 := mulF_ok k3 k4
  generalize mulF y2 y3 = y4 at *
  go_big_quiet_step (fail)
  go_big_quiet_step ((exact keep_of (ones_2 x _ hx)))
  generalize onesF x 8 2 = y5 at *
  go_big_quiet_step ((exact keep_of (mul_any y4 y5 _ k5 k2)))
  generalize mulF y4 y5 = z at *
  refine wpQuiet_nil ?_
  intro s
  clear a0 a1 a2 a3 a4 hne k1 k2 k3 k4 k5
  replace R := R.keep s.keep
  generalize s.w = W3 at R ⊢
  obtain ⟨old, ge, hs, hf, c0, c1, c2, c3, c4⟩ := R
  have O := hide old
  clear old
  go_wp2
  refine bodyPost_ret (v := z.v) (by simp [results, Tryz.results63, go_sem, c0, c1, c2, c3, c4]) rfl ⟨by rw [HE.out], ?_⟩
  exact five O.out ge

/-- The root of -1 that is written out. -/
def rmo : E5 := ⟨1718705420411056, 234908883556509, 2233514472574048, 2117202627021982, 765476049583133⟩
theorem rmo_ok : rmo.Ok := ⟨by decide, by decide, by decide, by decide, by decide, by decide, by decide, by decide, by decide, by decide⟩

set_option maxHeartbeats 400000 in
theorem rmo_any (w : World) : Calls Tryz.prog 149 #[] w fun r w' => r = .returned rmo.v ∧ Below w.heap.size w w' := by
  go_enter Tryz.func149, Tryz.ntmps149
  go_wp2
  exact bodyPost_ret (v := rmo.v) (by simp [results, Tryz.results149, go_sem, rmo]) rfl ⟨rfl, (Below.refl _ _).alloc (Nat.le_refl _) _⟩

def rootR (x : E5) : E5 := squaresF 1 (onesF x 8 251)
def anyRootF (x : E5) : E5 × Bool :=
  if (mulF (rootR x) (rootR x)).n % Pm == x.n % Pm then (rootR x, true)
  else if (mulF (rootR x) (rootR x)).n % Pm == (negF x).n % Pm then (mulF (rootR x) rmo, true)
  else (zeroE, false)

theorem rootR_ok {x : E5} (hx : x.Ok) : (rootR x).Ok := squaresF_ok _ (onesF_ok hx _ _)
theorem anyRootF_ok {x : E5} (hx : x.Ok) : (anyRootF x).1.Ok := by
  unfold anyRootF
  split
  · exact rootR_ok hx
  · split
    · exact mulF_ok (rootR_ok hx) rmo_ok
    · exact zeroE_ok

set_option maxRecDepth 100000 in
set_option maxHeartbeats 4000000 in
theorem anyRoot_any (x : E5) (w : World) (hx : x.Ok) :
    Calls Tryz.prog 144 #[x.v] w fun r w' => r = .returned (.tuple #[(anyRootF x).1.v, .bool (anyRootF x).2]) ∧ Below w.heap.size w w' := by
  have k1 := onesF_ok hx 8 251
  go_enter Tryz.func144, Tryz.ntmps144
  go_wp2_with fail
  have R := Out.start1 w (.cells #[.int .u64 x.a, .int .u64 x.b, .int .u64 x.c, .int .u64 x.d, .int .u64 x.e] 58)
  have A := EAt.new1 w x (.cells #[.int .u64 0, .int .u64 0, .int .u64 0, .int .u64 0, .int .u64 0] 58)
  refine (ones_251 x _ hx).mono ?_
  rintro _ w1 ⟨rfl, hb⟩
  replace R := R.keep hb
  replace A := A.keep hb
  clear hb
  go_wp2_with fail
  refine (squares_1 (onesF x 8 251) _ k1).mono ?_
  rintro _ w2 ⟨rfl, hb⟩
  replace R := R.keep hb
  replace A := A.keep hb
  clear hb k1
  have HF := hide (show anyRootF x = if (mulF (rootR x) (rootR x)).n % Pm == x.n % Pm then (rootR x, true) else if (mulF (rootR x) (rootR x)).n % Pm == (negF x).n % Pm then (mulF (rootR x) rmo, true) else (zeroE, false) from rfl)
  rw [show squaresF 1 (onesF x 8 251) = rootR x from rfl]
  have kr := rootR_ok hx
  generalize rootR x = r at *
  go_wp2_with fail
  replace R := R.keep (new_below w2 (.cells #[.int .u64 r.a, .int .u64 r.b, .int .u64 r.c, .int .u64 r.d, .int .u64 r.e] 58))
  replace A := A.keep (new_below w2 (.cells #[.int .u64 r.a, .int .u64 r.b, .int .u64 r.c, .int .u64 r.d, .int .u64 r.e] 58))
  have B := EAt.new w2 r 58
  refine (mul_any r r _ kr kr).mono ?_
  rintro _ w3 ⟨rfl, hb⟩
  replace R := R.keep hb
  replace A := A.keep hb
  replace B := B.keep hb
  clear hb
  have kq := mulF_ok kr kr
  generalize mulF r r = q at *
  generalize w2.heap.size = gr at *
  have RR := hide (R.keep (new_below w3 (.cells #[.int .u64 q.a, .int .u64 q.b, .int .u64 q.c, .int .u64 q.d, .int .u64 q.e] 58)))
  have AA := A.keep (new_below w3 (.cells #[.int .u64 q.a, .int .u64 q.b, .int .u64 q.c, .int .u64 q.d, .int .u64 q.e] 58))
  have BB := hide (B.keep (new_below w3 (.cells #[.int .u64 q.a, .int .u64 q.b, .int .u64 q.c, .int .u64 q.d, .int .u64 q.e] 58)))
  have CC := hide (EAt.new w3 q 58)
  obtain ⟨asz, af, a0, a1, a2, a3, a4⟩ := A
  clear R B
  go_wp2_with fail
  refine (same_any q x _ kq hx).mono ?_
  rintro _ w4 ⟨rfl, hb⟩
  have R := RR.out.keep hb
  have A := AA.keep hb
  have B := BB.out.keep hb
  have C := CC.out.keep hb
  clear RR AA BB CC hb asz af a0 a1 a2 a3 a4
  generalize w3.heap.size = gq at *
  by_cases h1 : (q.n % Pm == x.n % Pm) = true
  · have hf := HF.out
    rw [if_pos h1] at hf
    have HR := hide hf
    rw [h1]
    clear hf HF h1 kq A C
    obtain ⟨old, ge, rs, rf, r0, r1, r2, r3, r4⟩ := R
    obtain ⟨bs, bf, b0, b1, b2, b3, b4⟩ := B
    have O := hide old
    clear old
    go_wp2
    refine bodyPost_ret (v := .tuple #[r.v, .bool true]) (by simp [results, Tryz.results144, go_sem, r0, r1, r2, r3, r4]) rfl ⟨by rw [HR.out], ?_⟩
    exact five O.out ge
  · have h1' : (q.n % Pm == x.n % Pm) = false := by simpa using h1
    have hf := HF.out
    rw [if_neg h1] at hf
    have HG := hide hf
    rw [h1']
    clear hf HF h1 h1'
    go_wp2_with fail
    have hne := KW.some w4
    have a0 := A.k0
    have a1 := A.k1
    have a2 := A.k2
    have a3 := A.k3
    have a4 := A.k4
    have c0 := C.k0
    have c1 := C.k1
    have c2 := C.k2
    have c3 := C.k3
    have c4 := C.k4
    refine wp_region_keep (by kernel_rfl) (by kernel_rfl) ?_
    go_big_quiet_step (fail)
    go_big_quiet_step (fail)
    go_big_quiet_step ((exact keep_of (neg_any x _ hx)))
    go_big_quiet_step ((exact keep_of (same_any q (negF x) _ kq (negF_ok hx))))
    go_big_quiet_step (fail)
    refine wpQuiet_nil ?_
    intro s
    clear a0 a1 a2 a3 a4 c0 c1 c2 c3 c4 hne A C
    replace R := R.keep s.keep
    replace B := B.keep s.keep
    generalize s.w = w5 at R B ⊢
    by_cases h2 : (q.n % Pm == (negF x).n % Pm) = true
    · have hf := HG.out
      rw [if_pos h2] at hf
      have HR := hide hf
      rw [h2]
      clear hf HG h2
      go_wp2_with fail
      have hne := KW.some w5
      have b0 := B.k0
      have b1 := B.k1
      have b2 := B.k2
      have b3 := B.k3
      have b4 := B.k4
      refine wp_region_keep_tail 3 (by kernel_rfl) (by kernel_rfl) ?_
      simp only [List.take_succ_cons, List.take_zero, List.drop_succ_cons, List.drop_zero]
      go_big_quiet_step (fail)
      go_big_quiet_step ((exact keep_of (rmo_any _)))
      go_big_quiet_step ((exact keep_of (mul_any r rmo _ kr rmo_ok)))
      refine wpQuiet_nil ?_
      intro s
      clear b0 b1 b2 b3 b4 hne B
      replace R := R.keep s.keep
      generalize s.w = w6 at R ⊢
      generalize mulF r rmo = z at *
      obtain ⟨old, ge, rs, rf, r0, r1, r2, r3, r4⟩ := R
      have O := hide old
      clear old
      go_wp2
      refine bodyPost_ret (v := .tuple #[z.v, .bool true]) (by simp [results, Tryz.results144, go_sem, r0, r1, r2, r3, r4]) rfl ⟨by rw [HR.out], ?_⟩
      exact five O.out ge
    · have h2' : (q.n % Pm == (negF x).n % Pm) = false := by simpa using h2
      have hf := HG.out
      rw [if_neg h2] at hf
      have HR := hide hf
      rw [h2']
      clear hf HG h2 h2' B
      obtain ⟨old, ge, rs, rf, r0, r1, r2, r3, r4⟩ := R
      have O := hide old
      clear old
      go_wp2
      refine bodyPost_ret (v := .tuple #[zeroE.v, .bool false]) (by simp [results, Tryz.results144, go_sem, r0, r1, r2, r3, r4, zeroE]) rfl ⟨by rw [HR.out], ?_⟩
      exact five O.out ge

def rootF (x : E5) : E5 × Bool := (if (anyRootF x).1.n % Pm % 2 == 1 then negF (anyRootF x).1 else (anyRootF x).1, (anyRootF x).2)

theorem ite_ok {c : Prop} [Decidable c] {a b : E5} (ha : a.Ok) (hb : b.Ok) : (if c then a else b).Ok := by split <;> assumption
theorem rootF_ok {x : E5} (hx : x.Ok) : (rootF x).1.Ok := by
  have k := anyRootF_ok hx
  have e : (rootF x).1 = if (anyRootF x).1.n % Pm % 2 == 1 then negF (anyRootF x).1 else (anyRootF x).1 := by simp only [rootF]
  rw [e]
  generalize (anyRootF x).1 = r at *
  exact ite_ok (negF_ok k) k

set_option maxRecDepth 100000 in
set_option maxHeartbeats 4000000 in
theorem root_any (x : E5) (w : World) (hx : x.Ok) :
    Calls Tryz.prog 132 #[x.v] w fun r w' => r = .returned (.tuple #[(rootF x).1.v, .bool (rootF x).2]) ∧ Below w.heap.size w w' := by
  have HF := hide (show rootF x = (if (anyRootF x).1.n % Pm % 2 == 1 then negF (anyRootF x).1 else (anyRootF x).1, (anyRootF x).2) from rfl)
  have kr := anyRootF_ok hx
  go_enter Tryz.func132, Tryz.ntmps132
  go_wp2_with fail
  have R := Out.start1 w (.cells #[.int .u64 x.a, .int .u64 x.b, .int .u64 x.c, .int .u64 x.d, .int .u64 x.e] 58)
  refine (anyRoot_any x _ hx).mono ?_
  rintro _ w1 ⟨rfl, hb⟩
  replace R := R.keep hb
  clear hb
  generalize (anyRootF x).2 = is at *
  generalize (anyRootF x).1 = r at *
  have hge := R.lie.size
  have RR := hide (R.keep (new_below w1 (.cells #[.int .u64 r.a, .int .u64 r.b, .int .u64 r.c, .int .u64 r.d, .int .u64 r.e] 58)))
  have BB := hide (EAt.new w1 r 58)
  clear R
  go_wp2_with fail
  refine (odd_any r _ kr).mono ?_
  rintro _ w2 ⟨rfl, hb⟩
  have R := RR.out.keep hb
  have B := BB.out.keep hb
  clear RR BB hb
  generalize w1.heap.size = gr at *
  by_cases ho : (r.n % Pm % 2 == 1) = true
  · have hf := HF.out
    rw [if_pos ho] at hf
    have HR := hide hf
    rw [ho]
    clear hf HF ho
    obtain ⟨bs, bf, b0, b1, b2, b3, b4⟩ := B
    go_wp2_with fail
    refine (neg_any r _ kr).mono ?_
    rintro _ w3 ⟨rfl, hb⟩
    replace R := R.keep hb
    have B := EAt.keep ⟨bs, bf, b0, b1, b2, b3, b4⟩ hb
    clear hb bs bf b0 b1 b2 b3 b4
    generalize negF r = z at *
    have n1 : ¬ w.heap.size + 1 = gr := by omega
    have n2 : ¬ gr = w.heap.size + 1 := by omega
    obtain ⟨old, ge, rs, rf, r0, r1, r2, r3, r4⟩ := R
    obtain ⟨bs, bf, b0, b1, b2, b3, b4⟩ := B
    have O := hide old
    clear old
    go_wp2
    refine bodyPost_ret (v := .tuple #[z.v, .bool is]) (by simp [results, Tryz.results132, go_sem, r0, r1, r2, r3, r4]) rfl ⟨by rw [HR.out], ?_⟩
    exact five (five O.out (by omega)) ge
  · have ho' : (r.n % Pm % 2 == 1) = false := by simpa using ho
    have hf := HF.out
    rw [if_neg ho] at hf
    have HR := hide hf
    rw [ho']
    clear hf HF ho ho'
    have n1 : ¬ w.heap.size + 1 = gr := by omega
    have n2 : ¬ gr = w.heap.size + 1 := by omega
    obtain ⟨old, ge, rs, rf, r0, r1, r2, r3, r4⟩ := R
    obtain ⟨bs, bf, b0, b1, b2, b3, b4⟩ := B
    have O := hide old
    clear old
    go_wp2
    refine bodyPost_ret (v := .tuple #[r.v, .bool is]) (by simp [results, Tryz.results132, go_sem, r0, r1, r2, r3, r4]) rfl ⟨by rw [HR.out], ?_⟩
    exact five O.out ge

end Go.Proofs.YtmhfmhmpoobmlaaGreatDoor

/- What the powers are as numbers: squares, and rows of bits that are all 1. -/
namespace Go.Proofs.YtmhfmhmpoobmlaaGreatDoor
open Go.RowKit

/-- y, squared n times. -/
def sqz (y : Int) : Nat → Int
  | 0 => y
  | n + 1 => sqz (y * y) n
/-- The power of n bits that are all 1. -/
def onz (x : Int) : Nat → Int
  | 0 => 1
  | k + 1 => onz x k * onz x k * x

theorem sqz_succ (n : Nat) : ∀ y, sqz y (n + 1) = sqz y n * sqz y n := by
  induction n with
  | zero => intro y; rfl
  | succ n ih => intro y; exact ih (y * y)

theorem onz_add (x : Int) (m : Nat) : ∀ k, onz x (m + k) = sqz (onz x m) k * onz x k
  | 0 => by simp [sqz, onz]
  | k + 1 => by
    have ih := onz_add x m k
    rw [← Nat.add_assoc]
    simp only [onz]
    rw [ih, sqz_succ]
    generalize sqz (onz x m) k = a
    generalize onz x k = b
    simp only [Int.mul_assoc, Int.mul_left_comm b a]

theorem sqz_cg {y z : Int} : ∀ {n : Nat}, Cg y z → Cg (sqz y n) (sqz z n) := by
  intro n
  induction n generalizing y z with
  | zero => intro h; exact h
  | succ n ih => intro h; exact ih (h.mul h)

theorem squaresF_n : ∀ (n : Nat) (x : E5), Cg (squaresF n x).n (sqz x.n n)
  | 0, _ => Cg.refl _
  | n + 1, x => (squaresF_n n (mulF x x)).trans (sqz_cg (mulF_n x x))

theorem onesF_n (x : E5) : ∀ (f n : Nat), n < 2 ^ f → Cg (onesF x f n).n (onz x.n n) := by
  intro f
  induction f with
  | zero =>
    intro n h
    have e : n = 0 := by omega
    subst e
    exact smallF_n 1
  | succ f ih =>
    intro n h
    unfold onesF
    by_cases h0 : n = 0
    · rw [if_pos h0]
      subst h0
      exact smallF_n 1
    · rw [if_neg h0]
      have hp : 2 ^ (f + 1) = 2 * 2 ^ f := by rw [Nat.pow_succ, Nat.mul_comm]
      have hh := ih (n / 2) (by omega)
      have he : Cg (mulF (squaresF (n / 2) (onesF x f (n / 2))) (onesF x f (n / 2))).n (onz x.n (n / 2 + n / 2)) := by
        rw [onz_add]
        exact (mulF_n _ _).trans (((squaresF_n _ _).trans (sqz_cg hh)).mul hh)
      by_cases h2 : n % 2 = 0
      · rw [if_pos h2]
        rw [show n / 2 + n / 2 = n by omega] at he
        exact he
      · rw [if_neg h2]
        refine (mulF_n _ _).trans ?_
        have e : onz x.n n = onz x.n (n / 2 + n / 2) * onz x.n (n / 2 + n / 2) * x.n := by
          rw [show onz x.n n = onz x.n (n / 2 + n / 2 + 1) by congr 1; omega]
          rfl
        rw [e]
        exact ((squaresF_n 1 _).trans (he.mul he)).mul (Cg.refl _)

theorem invF_n (x : E5) : Cg (invF x).n (sqz (onz x.n 250) 5 * sqz x.n 3 * onz x.n 2) := by
  unfold invF
  exact (mulF_n _ _).trans (((mulF_n _ _).trans (((squaresF_n 5 _).trans (sqz_cg (onesF_n x 8 250 (by decide)))).mul (squaresF_n 3 x))).mul (onesF_n x 8 2 (by decide)))

theorem rootR_n (x : E5) : Cg (rootR x).n (sqz (onz x.n 251) 1) := by
  unfold rootR
  exact (squaresF_n 1 _).trans (sqz_cg (onesF_n x 8 251 (by decide)))

/-- The same, modulo the prime, to be reckoned. -/
def pQ : Nat := 57896044618658097711785492504343953926634992332820282019728792003956564819948
abbrev pN : Nat := pQ + 1
theorem pN_P : (pN : Int) = Pm := by decide
end Go.Proofs.YtmhfmhmpoobmlaaGreatDoor

/- The document's powers are the program's: both are powers with one exponent; so are the roots. -/
namespace Go.Proofs.YtmhfmhmpoobmlaaGreatDoor
open Go.RowKit

theorem Cg.pow {x y : Int} (h : Cg x y) : ∀ n : Nat, Cg (x ^ n) (y ^ n)
  | 0 => by rw [Int.pow_zero, Int.pow_zero]; exact Cg.refl _
  | n + 1 => by
    rw [Int.pow_succ, Int.pow_succ]
    exact (Cg.pow h n).mul h

theorem sqz_pow : ∀ (n : Nat) (y : Int), sqz y n = y ^ (2 ^ n)
  | 0, y => by simp [sqz, Int.pow_succ]
  | n + 1, y => by
    unfold sqz
    rw [sqz_pow n, Nat.pow_succ, Nat.mul_comm, Int.pow_mul, Int.pow_succ, Int.pow_succ, Int.pow_zero, Int.one_mul]

theorem onz_pow (x : Int) : ∀ n : Nat, onz x n = x ^ (2 ^ n - 1)
  | 0 => by simp [onz]
  | n + 1 => by
    have hp : 0 < 2 ^ n := Nat.two_pow_pos n
    unfold onz
    rw [onz_pow x n, ← Int.pow_add, ← Int.pow_succ]
    congr 1
    rw [Nat.pow_succ]
    omega

/-- The exponent that n bits are. -/
def exf (f : Nat → Bool) : Nat → Nat
  | 0 => 0
  | i + 1 => 2 * exf f i + (f i).toNat

theorem pwm_pow (x : Int) (f : Nat → Bool) : ∀ i, Cg (pwm x f i) (x ^ exf f i)
  | 0 => by simp [pwm, exf]; exact Cg.refl _
  | i + 1 => by
    have ih := pwm_pow x f i
    have h2 : Cg (pwm x f i * pwm x f i % Pm) (x ^ (2 * exf f i)) := by
      refine (cg_emod _).trans ?_
      rw [Nat.two_mul, Int.pow_add]
      exact ih.mul ih
    unfold pwm exf
    cases hf : f i
    · rw [if_neg (by simp)]
      exact h2
    · rw [if_pos rfl]
      refine (cg_emod _).trans ?_
      rw [Bool.toNat_true, Int.pow_succ]
      exact h2.mul (Cg.refl x)

theorem ex255 : exf (xbit 255 21) 255 = 2 ^ 255 - 21 := by decide +kernel
theorem ex252 : exf (xbit 252 2) 252 = 2 ^ 252 - 2 := by decide +kernel
theorem invF_pow (x : E5) : Cg (invF x).n (x.n ^ (2 ^ 255 - 21)) := by
  refine (invF_n x).trans (Cg.of_eq ?_)
  rw [sqz_pow, sqz_pow, onz_pow, onz_pow, ← Int.pow_mul, ← Int.pow_add, ← Int.pow_add]

theorem rootR_pow (x : E5) : Cg (rootR x).n (x.n ^ (2 ^ 252 - 2)) := by
  refine (rootR_n x).trans (Cg.of_eq ?_)
  rw [sqz_pow, onz_pow, ← Int.pow_mul]

theorem rmo_sq : Cg (rmo.n * rmo.n) (-1) := Cg.of_emod (by decide +kernel)

theorem rinv_val {x : E5} {A : Int} (h : Cg x.n A) : Cg (invF x).n (pwm A (xbit 255 21) 255) := by
  refine (invF_pow x).trans ((h.pow _).trans ?_)
  rw [← ex255]
  exact (pwm_pow A _ 255).symm

theorem em (M : Int) : 0 ≤ M % Pm ∧ M % Pm < Pm := ⟨Int.emod_nonneg M (by decide), Int.emod_lt_of_pos M Pm_pos⟩
theorem em_self {M : Int} (h : 0 ≤ M ∧ M < Pm) : M % Pm = M := Int.emod_eq_of_lt h.1 h.2

/-- The document's answer for the root of a number, as a number. -/
def rrF (A : Int) : Int × Bool :=
  let U := pwm A (xbit 252 2) 252
  let V := U * rmo.n % Pm
  if U * U % Pm = A then (if U % 2 = 1 then (- U) % Pm else U, true) else if V * V % Pm = A then (if V % 2 = 1 then (- V) % Pm else V, true) else (0, false)

theorem rrF_bd (A : Int) : 0 ≤ (rrF A).1 ∧ (rrF A).1 < Pm := by
  unfold rrF
  have h1 := pwm_bd A (xbit 252 2) 252
  have h2 := em (pwm A (xbit 252 2) 252 * rmo.n)
  simp only
  generalize pwm A (xbit 252 2) 252 = U at h1 h2 ⊢
  generalize U * rmo.n % Pm = V at h2 ⊢
  have hn : ∀ {U : Int}, 0 ≤ U ∧ U < Pm → 0 ≤ (if U % 2 = 1 then (- U) % Pm else U) ∧ (if U % 2 = 1 then (- U) % Pm else U) < Pm := fun {U} hU => by
    split
    · exact em _
    · exact hU
  by_cases e : U * U % Pm = A
  · rw [if_pos e]
    exact hn h1
  · rw [if_neg e]
    by_cases e2 : V * V % Pm = A
    · rw [if_pos e2]
      exact hn h2
    · rw [if_neg e2]
      exact ⟨Int.le_refl 0, Pm_pos⟩

theorem odd_fix {y : E5} {U : Int} (hU : 0 ≤ U ∧ U < Pm) (h : Cg y.n U) : (if y.n % Pm % 2 == 1 then negF y else y).n % Pm = if U % 2 = 1 then (- U) % Pm else U := by
  have e : y.n % Pm = U := by rw [h.emod, em_self hU]
  rw [e]
  by_cases h2 : U % 2 = 1
  · rw [if_pos h2, if_pos (by simp [h2]), ((negF_n y).trans h.neg).emod]
  · rw [if_neg h2, if_neg (by simp [h2]), e]

theorem root_val {x : E5} {A : Int} (hA : 0 ≤ A ∧ A < Pm) (h : Cg x.n A) : (rootF x).2 = (rrF A).2 ∧ (rootF x).1.n % Pm = (rrF A).1 := by
  have hr : Cg (rootR x).n (pwm A (xbit 252 2) 252) := by
    refine (rootR_pow x).trans ((h.pow _).trans ?_)
    rw [← ex252]
    exact (pwm_pow A _ 252).symm
  have hU := pwm_bd A (xbit 252 2) 252
  have hx : x.n % Pm = A := by rw [h.emod, em_self hA]
  unfold rootF rrF anyRootF
  generalize pwm A (xbit 252 2) 252 = U at *
  generalize rootR x = r at *
  have hrr : (mulF r r).n % Pm = U * U % Pm := ((mulF_n r r).trans (hr.mul hr)).emod
  have hV := em (U * rmo.n)
  have hrm : Cg (mulF r rmo).n (U * rmo.n % Pm) := ((mulF_n r rmo).trans (hr.mul (Cg.refl _))).trans (cg_emod _).symm
  have hVV : Cg ((U * rmo.n % Pm) * (U * rmo.n % Pm)) (- (U * U)) := by
    refine ((cg_emod _).mul (cg_emod _)).trans ?_
    have e : U * rmo.n * (U * rmo.n) = U * U * (rmo.n * rmo.n) := by rw [Int.mul_assoc, Int.mul_assoc, Int.mul_left_comm rmo.n U]
    rw [e]
    have := (Cg.refl (U * U)).mul rmo_sq
    rw [show U * U * -1 = -(U * U) by omega] at this
    exact this
  have hng : (negF x).n % Pm = (- A) % Pm := ((negF_n x).trans h.neg).emod
  simp only
  generalize U * rmo.n % Pm = V at *
  rw [hrr, hx, hng]
  by_cases h1 : U * U % Pm = A
  · rw [if_pos h1]
    have b1 : (U * U % Pm == A) = true := by simp [h1]
    rw [b1]
    exact ⟨rfl, odd_fix hU hr⟩
  · have b1 : (U * U % Pm == A) = false := by simp [h1]
    rw [if_neg h1, b1]
    by_cases h2 : V * V % Pm = A
    · have b2 : (U * U % Pm == (- A) % Pm) = true := by
        rw [beq_iff_eq]
        have := (Cg.of_emod (h2.trans (em_self hA).symm)).symm.trans hVV
        have := this.neg
        rw [Int.neg_neg] at this
        exact this.symm.emod
      rw [if_pos h2, b2]
      exact ⟨rfl, odd_fix hV hrm⟩
    · have b2 : (U * U % Pm == (- A) % Pm) = false := by
        rw [beq_eq_false_iff_ne]
        intro e
        apply h2
        have := (Cg.of_emod e).neg
        rw [Int.neg_neg] at this
        rw [(hVV.trans this).emod, em_self hA]
      rw [if_neg h2, b2]
      refine ⟨rfl, ?_⟩
      show (if zeroE.n % Pm % 2 == 1 then negF zeroE else zeroE).n % Pm = 0
      decide

end Go.Proofs.YtmhfmhmpoobmlaaGreatDoor

/- The document's points as values. -/
namespace Go.Proofs.YtmhfmhmpoobmlaaGreatDoor
open Go.RowKit

abbrev Bd (a : Int) : Prop := 0 ≤ a ∧ a < Pm
def mI (a b : Int) : Int := a * b % Pm
def pI (a b : Int) : Int := (a + b) % Pm
def sI (a b : Int) : Int := (a - b) % Pm
def nI (a : Int) : Int := (-a) % Pm
def vI (a : Int) : Int := pwm a (xbit 255 21) 255
theorem mI_bd (a b : Int) : Bd (mI a b) := em _
theorem nI_bd (a : Int) : Bd (nI a) := em _
/-- The curve's number. -/
def DI : Int := 37095705934669439343138083508754565189542113879843219016388785533085940283555
theorem dBy_val : val dBy % Pm = DI := by decide +kernel
/-- A point of the document: four numbers. -/
structure RQ where
  x : Int
  y : Int
  z : Int
  t : Int
structure RQ.Ok (q : RQ) : Prop where
  x : Bd q.x
  y : Bd q.y
  z : Bd q.z
  t : Bd q.t
def rofV (x y : Int) : RQ := ⟨x, y, 1, mI x y⟩
theorem one_bd : Bd 1 := by decide
theorem zero_bd : Bd 0 := by decide
theorem rofV_ok {x y : Int} (hx : Bd x) (hy : Bd y) : (rofV x y).Ok := ⟨hx, hy, one_bd, mI_bd _ _⟩
def rzeroV : RQ := ⟨0, 1, 1, 0⟩
theorem rzeroV_ok : rzeroV.Ok := ⟨zero_bd, one_bd, one_bd, zero_bd⟩
def rteesV (p q : RQ) : Int := mI (mI DI p.t) q.t
def raddV (p q : RQ) : RQ :=
  let a := pI (mI p.x q.y) (mI p.y q.x)
  let b := pI (mI p.y q.y) (mI p.x q.x)
  let c := rteesV p q
  let d := mI p.z q.z
  ⟨mI a (sI d c), mI (pI d c) b, mI (sI d c) (pI d c), mI a b⟩
theorem raddV_ok (p q : RQ) : (raddV p q).Ok := ⟨mI_bd _ _, mI_bd _ _, mI_bd _ _, mI_bd _ _⟩
def rsameV (p q : RQ) : Bool := (mI p.x q.z == mI q.x p.z) && (mI p.y q.z == mI q.y p.z)
def roct (p : RQ) : RQ := raddV (raddV (raddV p p) (raddV p p)) (raddV (raddV p p) (raddV p p))
def rsmallV (p : RQ) : Bool := rsameV (roct p) rzeroV
end Go.Proofs.YtmhfmhmpoobmlaaGreatDoor

/- The walks of the points, told by what their callees hand back. -/
namespace Go.Proofs.YtmhfmhmpoobmlaaGreatDoor
open Go.RowKit

structure noneF (px py pz pt : Nat → Int) (b1 : Bool) : Prop where
  h1 : ∀ w, Calls Tryz.prog 85 #[.agg (arr 5 pz), .agg (arr 5 (fun _ => 0))] w fun r w' => r = .returned (.bool b1) ∧ Below w.heap.size w w'

set_option maxRecDepth 100000 in
set_option maxHeartbeats 4000000 in
theorem none_gen (px py pz pt : Nat → Int) (b1 : Bool) (w : World) (F : noneF px py pz pt b1)  :
    Calls Tryz.prog 58 #[.agg (arr 20 (p4 5 px py pz pt))] w fun r w' => r = .returned (.bool b1) ∧ Below w.heap.size w w' := by
  go_enter Tryz.func58, Tryz.ntmps58
  have M := Mem.start w
  refine sr ?_
  refine zN M 1 (.cells (arr 20 (p4 5 px py pz pt)) 60) fun g1 w1 M => ?_
  replace M : Mem w [⟨g1, .cells (arr 20 (p4 5 px py pz pt)) 60⟩] w1 := M
  refine pv 2 (.bool false) ?_
  refine nt ?_
  refine sr ?_
  refine pv 3 (.pointer (some ⟨g1, 10, none⟩)) ?_
  refine zL M 4 0 rfl 10 5 (p4_2 5 px py pz pt 10 rfl) ?_
  refine pv 5 (.agg (arr 5 (fun _ => 0))) ?_
  refine zC M 6 F.h1 fun w2 M => ?_
  refine pv 2 (.bool b1) ?_
  refine nt ?_
  refine wp_ret ?_
  exact bodyPost_ret (v := .bool b1) (results_tmp1 Tryz.results58 _ _ _ (by kernel_rfl)) (by kernel_rfl) ⟨rfl, M.old⟩

structure pointOfF (x y r1 r2 : Nat → Int) : Prop where
  h1 : ∀ w, Calls Tryz.prog 109 #[.int .u32 1] w fun r w' => r = .returned (.agg (arr 5 r1)) ∧ Below w.heap.size w w'
  h2 : ∀ w, Calls Tryz.prog 64 #[.agg (arr 5 x), .agg (arr 5 y)] w fun r w' => r = .returned (.agg (arr 5 r2)) ∧ Below w.heap.size w w'

set_option maxRecDepth 100000 in
set_option maxHeartbeats 4000000 in
theorem pointOf_gen (x y r1 r2 : Nat → Int) (w : World) (F : pointOfF x y r1 r2)  :
    Calls Tryz.prog 81 #[.agg (arr 5 x), .agg (arr 5 y)] w fun r w' => r = .returned (.agg (arr 20 (p4 5 x y r1 r2))) ∧ Below w.heap.size w w' := by
  go_enter Tryz.func81, Tryz.ntmps81
  have M := Mem.start w
  refine sr ?_
  refine zN M 2 (.cells (arr 5 x) 58) fun g1 w1 M => ?_
  replace M : Mem w [⟨g1, .cells (arr 5 x) 58⟩] w1 := M
  refine zN M 3 (.cells (arr 5 y) 58) fun g2 w2 M => ?_
  replace M : Mem w [⟨g1, .cells (arr 5 x) 58⟩, ⟨g2, .cells (arr 5 y) 58⟩] w2 := M
  refine zN M 4 (.cells (arr 20 (fun _ => 0)) 60) fun g3 w3 M => ?_
  replace M : Mem w [⟨g1, .cells (arr 5 x) 58⟩, ⟨g2, .cells (arr 5 y) 58⟩, ⟨g3, .cells (arr 20 (fun _ => 0)) 60⟩] w3 := M
  refine nt ?_
  refine wp_seq ?_
  refine rg_tail M 7 (by kernel_rfl) (by kernel_rfl) ?_
  simp only [List.take_succ_cons, List.take_zero]
  refine wA M 5 0 rfl ?_
  refine wA M 6 1 rfl ?_
  refine wC 7 F.h1 ?_
  refine wA M 8 0 rfl ?_
  refine wA M 9 1 rfl ?_
  refine wC 10 F.h2 ?_
  refine kv 11 (.agg (arr 20 (p4 5 x y r1 r2))) ?_
  refine kl_nil fun w4 M => ?_
  replace M : Mem w [⟨g1, .cells (arr 5 x) 58⟩, ⟨g2, .cells (arr 5 y) 58⟩, ⟨g3, .cells (arr 20 (fun _ => 0)) 60⟩] w4 := M
  refine zW M 2 rfl (p4 5 x y r1 r2) fun w5 M => ?_
  replace M : Mem w [⟨g1, .cells (arr 5 x) 58⟩, ⟨g2, .cells (arr 5 y) 58⟩, ⟨g3, .cells (arr 20 (p4 5 x y r1 r2)) 60⟩] w5 := M
  refine nt ?_
  refine wp_ret ?_
  exact bodyPost_ret (v := .agg (arr 20 (p4 5 x y r1 r2))) (results_cell_row Tryz.results81 _ _ g3 60 (arr 20 (p4 5 x y r1 r2)) (0, 0) _ (by kernel_rfl) (M.get 2 rfl) Tryz.underlying60 rfl (by rw [arr_size]; exact inz60)) (by kernel_rfl) ⟨rfl, M.old⟩

structure zeroF (r1 r2 : Nat → Int) : Prop where
  h1 : ∀ w, Calls Tryz.prog 109 #[.int .u32 1] w fun r w' => r = .returned (.agg (arr 5 r1)) ∧ Below w.heap.size w w'
  h2 : ∀ w, Calls Tryz.prog 81 #[.agg (arr 5 (fun _ => 0)), .agg (arr 5 r1)] w fun r w' => r = .returned (.agg (arr 20 r2)) ∧ Below w.heap.size w w'

set_option maxRecDepth 100000 in
set_option maxHeartbeats 4000000 in
theorem zero_gen (r1 r2 : Nat → Int) (w : World) (F : zeroF r1 r2)  :
    Calls Tryz.prog 60 #[] w fun r w' => r = .returned (.agg (arr 20 r2)) ∧ Below w.heap.size w w' := by
  go_enter Tryz.func60, Tryz.ntmps60
  have M := Mem.start w
  refine sr ?_
  refine zN M 0 (.cells (arr 20 (fun _ => 0)) 60) fun g1 w1 M => ?_
  replace M : Mem w [⟨g1, .cells (arr 20 (fun _ => 0)) 60⟩] w1 := M
  refine nt ?_
  refine sr ?_
  refine pv 1 (.agg (arr 5 (fun _ => 0))) ?_
  refine zC M 2 F.h1 fun w2 M => ?_
  refine zC M 3 F.h2 fun w3 M => ?_
  refine zW M 0 rfl r2 fun w4 M => ?_
  replace M : Mem w [⟨g1, .cells (arr 20 r2) 60⟩] w4 := M
  refine nt ?_
  refine wp_ret ?_
  exact bodyPost_ret (v := .agg (arr 20 r2)) (results_cell_row Tryz.results60 _ _ g1 60 (arr 20 r2) (0, 0) _ (by kernel_rfl) (M.get 0 rfl) Tryz.underlying60 rfl (by rw [arr_size]; exact inz60)) (by kernel_rfl) ⟨rfl, M.old⟩

structure plusF (px py pz pt qx qy qz qt r1 r2 r3 r4 r5 r6 r7 r8 r9 r10 r11 r12 r13 r14 r15 r16 r17 r18 r19 r20 : Nat → Int) : Prop where
  h1 : ∀ w, Calls Tryz.prog 111 #[.agg (arr 5 py), .agg (arr 5 px)] w fun r w' => r = .returned (.agg (arr 5 r1)) ∧ Below w.heap.size w w'
  h2 : ∀ w, Calls Tryz.prog 111 #[.agg (arr 5 qy), .agg (arr 5 qx)] w fun r w' => r = .returned (.agg (arr 5 r2)) ∧ Below w.heap.size w w'
  h3 : ∀ w, Calls Tryz.prog 64 #[.agg (arr 5 r1), .agg (arr 5 r2)] w fun r w' => r = .returned (.agg (arr 5 r3)) ∧ Below w.heap.size w w'
  h4 : ∀ w, Calls Tryz.prog 112 #[.agg (arr 5 py), .agg (arr 5 px)] w fun r w' => r = .returned (.agg (arr 5 r4)) ∧ Below w.heap.size w w'
  h5 : ∀ w, Calls Tryz.prog 112 #[.agg (arr 5 qy), .agg (arr 5 qx)] w fun r w' => r = .returned (.agg (arr 5 r5)) ∧ Below w.heap.size w w'
  h6 : ∀ w, Calls Tryz.prog 64 #[.agg (arr 5 r4), .agg (arr 5 r5)] w fun r w' => r = .returned (.agg (arr 5 r6)) ∧ Below w.heap.size w w'
  h7 : ∀ w, Calls Tryz.prog 113 #[] w fun r w' => r = .returned (.agg (arr 5 r7)) ∧ Below w.heap.size w w'
  h8 : ∀ w, Calls Tryz.prog 64 #[.agg (arr 5 r7), .agg (arr 5 pt)] w fun r w' => r = .returned (.agg (arr 5 r8)) ∧ Below w.heap.size w w'
  h9 : ∀ w, Calls Tryz.prog 112 #[.agg (arr 5 qt), .agg (arr 5 qt)] w fun r w' => r = .returned (.agg (arr 5 r9)) ∧ Below w.heap.size w w'
  h10 : ∀ w, Calls Tryz.prog 64 #[.agg (arr 5 r8), .agg (arr 5 r9)] w fun r w' => r = .returned (.agg (arr 5 r10)) ∧ Below w.heap.size w w'
  h11 : ∀ w, Calls Tryz.prog 112 #[.agg (arr 5 qz), .agg (arr 5 qz)] w fun r w' => r = .returned (.agg (arr 5 r11)) ∧ Below w.heap.size w w'
  h12 : ∀ w, Calls Tryz.prog 64 #[.agg (arr 5 pz), .agg (arr 5 r11)] w fun r w' => r = .returned (.agg (arr 5 r12)) ∧ Below w.heap.size w w'
  h13 : ∀ w, Calls Tryz.prog 111 #[.agg (arr 5 r6), .agg (arr 5 r3)] w fun r w' => r = .returned (.agg (arr 5 r13)) ∧ Below w.heap.size w w'
  h14 : ∀ w, Calls Tryz.prog 111 #[.agg (arr 5 r12), .agg (arr 5 r10)] w fun r w' => r = .returned (.agg (arr 5 r14)) ∧ Below w.heap.size w w'
  h15 : ∀ w, Calls Tryz.prog 112 #[.agg (arr 5 r12), .agg (arr 5 r10)] w fun r w' => r = .returned (.agg (arr 5 r15)) ∧ Below w.heap.size w w'
  h16 : ∀ w, Calls Tryz.prog 112 #[.agg (arr 5 r6), .agg (arr 5 r3)] w fun r w' => r = .returned (.agg (arr 5 r16)) ∧ Below w.heap.size w w'
  h17 : ∀ w, Calls Tryz.prog 64 #[.agg (arr 5 r13), .agg (arr 5 r14)] w fun r w' => r = .returned (.agg (arr 5 r17)) ∧ Below w.heap.size w w'
  h18 : ∀ w, Calls Tryz.prog 64 #[.agg (arr 5 r15), .agg (arr 5 r16)] w fun r w' => r = .returned (.agg (arr 5 r18)) ∧ Below w.heap.size w w'
  h19 : ∀ w, Calls Tryz.prog 64 #[.agg (arr 5 r14), .agg (arr 5 r15)] w fun r w' => r = .returned (.agg (arr 5 r19)) ∧ Below w.heap.size w w'
  h20 : ∀ w, Calls Tryz.prog 64 #[.agg (arr 5 r13), .agg (arr 5 r16)] w fun r w' => r = .returned (.agg (arr 5 r20)) ∧ Below w.heap.size w w'

set_option maxRecDepth 100000 in
set_option maxHeartbeats 4000000 in
theorem plus_gen (px py pz pt qx qy qz qt r1 r2 r3 r4 r5 r6 r7 r8 r9 r10 r11 r12 r13 r14 r15 r16 r17 r18 r19 r20 : Nat → Int) (w : World) (F : plusF px py pz pt qx qy qz qt r1 r2 r3 r4 r5 r6 r7 r8 r9 r10 r11 r12 r13 r14 r15 r16 r17 r18 r19 r20)  :
    Calls Tryz.prog 62 #[.agg (arr 20 (p4 5 px py pz pt)), .agg (arr 20 (p4 5 qx qy qz qt))] w fun r w' => r = .returned (.agg (arr 20 (p4 5 r17 r18 r19 r20))) ∧ Below w.heap.size w w' := by
  go_enter Tryz.func62, Tryz.ntmps62
  have M := Mem.start w
  refine sr ?_
  refine zN M 2 (.cells (arr 20 (p4 5 px py pz pt)) 60) fun g1 w1 M => ?_
  replace M : Mem w [⟨g1, .cells (arr 20 (p4 5 px py pz pt)) 60⟩] w1 := M
  refine zN M 3 (.cells (arr 20 (p4 5 qx qy qz qt)) 60) fun g2 w2 M => ?_
  replace M : Mem w [⟨g1, .cells (arr 20 (p4 5 px py pz pt)) 60⟩, ⟨g2, .cells (arr 20 (p4 5 qx qy qz qt)) 60⟩] w2 := M
  refine zN M 4 (.cells (arr 20 (fun _ => 0)) 60) fun g3 w3 M => ?_
  replace M : Mem w [⟨g1, .cells (arr 20 (p4 5 px py pz pt)) 60⟩, ⟨g2, .cells (arr 20 (p4 5 qx qy qz qt)) 60⟩, ⟨g3, .cells (arr 20 (fun _ => 0)) 60⟩] w3 := M
  refine nt ?_
  refine wp_seq ?_
  refine rg_allocs M 11 [(5, 58, 5)] (by kernel_rfl) (by kernel_rfl) ⟨rfl, rfl, fun _ _ => by kernel_rfl, trivial⟩ (by decide) ?_
  simp only [List.take_succ_cons, List.take_zero]
  refine kv 13 (.pointer (some ⟨g1, 5, none⟩)) ?_
  refine wL M 14 0 rfl 5 5 (p4_1 5 px py pz pt 5 rfl) ?_
  refine kv 15 (.pointer (some ⟨g1, 0, none⟩)) ?_
  refine wL M 16 0 rfl 0 5 (p4_0 5 px py pz pt 0 rfl) ?_
  refine wC 17 F.h1 ?_
  refine kv 18 (.pointer (some ⟨g2, 5, none⟩)) ?_
  refine wL M 19 1 rfl 5 5 (p4_1 5 qx qy qz qt 5 rfl) ?_
  refine kv 20 (.pointer (some ⟨g2, 0, none⟩)) ?_
  refine wL M 21 1 rfl 0 5 (p4_0 5 qx qy qz qt 0 rfl) ?_
  refine wC 22 F.h2 ?_
  refine wC 23 F.h3 ?_
  refine kl_nil fun w4 g4 M => ?_
  replace M : Mem w [⟨g1, .cells (arr 20 (p4 5 px py pz pt)) 60⟩, ⟨g2, .cells (arr 20 (p4 5 qx qy qz qt)) 60⟩, ⟨g3, .cells (arr 20 (fun _ => 0)) 60⟩, ⟨g4, .cells (arr 5 (fun _ => 0)) 58⟩] w4 := M
  refine zW M 3 rfl r3 fun w5 M => ?_
  replace M : Mem w [⟨g1, .cells (arr 20 (p4 5 px py pz pt)) 60⟩, ⟨g2, .cells (arr 20 (p4 5 qx qy qz qt)) 60⟩, ⟨g3, .cells (arr 20 (fun _ => 0)) 60⟩, ⟨g4, .cells (arr 5 r3) 58⟩] w5 := M
  refine nt ?_
  refine wp_seq ?_
  refine rg_allocs M 11 [(6, 58, 5)] (by kernel_rfl) (by kernel_rfl) ⟨rfl, rfl, fun _ _ => by kernel_rfl, trivial⟩ (by decide) ?_
  simp only [List.take_succ_cons, List.take_zero]
  refine kv 24 (.pointer (some ⟨g1, 5, none⟩)) ?_
  refine wL M 25 0 rfl 5 5 (p4_1 5 px py pz pt 5 rfl) ?_
  refine kv 26 (.pointer (some ⟨g1, 0, none⟩)) ?_
  refine wL M 27 0 rfl 0 5 (p4_0 5 px py pz pt 0 rfl) ?_
  refine wC 28 F.h4 ?_
  refine kv 29 (.pointer (some ⟨g2, 5, none⟩)) ?_
  refine wL M 30 1 rfl 5 5 (p4_1 5 qx qy qz qt 5 rfl) ?_
  refine kv 31 (.pointer (some ⟨g2, 0, none⟩)) ?_
  refine wL M 32 1 rfl 0 5 (p4_0 5 qx qy qz qt 0 rfl) ?_
  refine wC 33 F.h5 ?_
  refine wC 34 F.h6 ?_
  refine kl_nil fun w6 g5 M => ?_
  replace M : Mem w [⟨g1, .cells (arr 20 (p4 5 px py pz pt)) 60⟩, ⟨g2, .cells (arr 20 (p4 5 qx qy qz qt)) 60⟩, ⟨g3, .cells (arr 20 (fun _ => 0)) 60⟩, ⟨g4, .cells (arr 5 r3) 58⟩, ⟨g5, .cells (arr 5 (fun _ => 0)) 58⟩] w6 := M
  refine zW M 4 rfl r6 fun w7 M => ?_
  replace M : Mem w [⟨g1, .cells (arr 20 (p4 5 px py pz pt)) 60⟩, ⟨g2, .cells (arr 20 (p4 5 qx qy qz qt)) 60⟩, ⟨g3, .cells (arr 20 (fun _ => 0)) 60⟩, ⟨g4, .cells (arr 5 r3) 58⟩, ⟨g5, .cells (arr 5 r6) 58⟩] w7 := M
  refine nt ?_
  refine wp_seq ?_
  refine rg_allocs M 10 [(7, 58, 5)] (by kernel_rfl) (by kernel_rfl) ⟨rfl, rfl, fun _ _ => by kernel_rfl, trivial⟩ (by decide) ?_
  simp only [List.take_succ_cons, List.take_zero]
  refine wC 35 F.h7 ?_
  refine kv 36 (.pointer (some ⟨g1, 15, none⟩)) ?_
  refine wL M 37 0 rfl 15 5 (p4_3 5 px py pz pt 15 rfl) ?_
  refine wC 38 F.h8 ?_
  refine kv 39 (.pointer (some ⟨g2, 15, none⟩)) ?_
  refine wL M 40 1 rfl 15 5 (p4_3 5 qx qy qz qt 15 rfl) ?_
  refine kv 41 (.pointer (some ⟨g2, 15, none⟩)) ?_
  refine wL M 42 1 rfl 15 5 (p4_3 5 qx qy qz qt 15 rfl) ?_
  refine wC 43 F.h9 ?_
  refine wC 44 F.h10 ?_
  refine kl_nil fun w8 g6 M => ?_
  replace M : Mem w [⟨g1, .cells (arr 20 (p4 5 px py pz pt)) 60⟩, ⟨g2, .cells (arr 20 (p4 5 qx qy qz qt)) 60⟩, ⟨g3, .cells (arr 20 (fun _ => 0)) 60⟩, ⟨g4, .cells (arr 5 r3) 58⟩, ⟨g5, .cells (arr 5 r6) 58⟩, ⟨g6, .cells (arr 5 (fun _ => 0)) 58⟩] w8 := M
  refine zW M 5 rfl r10 fun w9 M => ?_
  replace M : Mem w [⟨g1, .cells (arr 20 (p4 5 px py pz pt)) 60⟩, ⟨g2, .cells (arr 20 (p4 5 qx qy qz qt)) 60⟩, ⟨g3, .cells (arr 20 (fun _ => 0)) 60⟩, ⟨g4, .cells (arr 5 r3) 58⟩, ⟨g5, .cells (arr 5 r6) 58⟩, ⟨g6, .cells (arr 5 r10) 58⟩] w9 := M
  refine nt ?_
  refine wp_seq ?_
  refine rg_allocs M 8 [(8, 58, 5)] (by kernel_rfl) (by kernel_rfl) ⟨rfl, rfl, fun _ _ => by kernel_rfl, trivial⟩ (by decide) ?_
  simp only [List.take_succ_cons, List.take_zero]
  refine kv 45 (.pointer (some ⟨g1, 10, none⟩)) ?_
  refine wL M 46 0 rfl 10 5 (p4_2 5 px py pz pt 10 rfl) ?_
  refine kv 47 (.pointer (some ⟨g2, 10, none⟩)) ?_
  refine wL M 48 1 rfl 10 5 (p4_2 5 qx qy qz qt 10 rfl) ?_
  refine kv 49 (.pointer (some ⟨g2, 10, none⟩)) ?_
  refine wL M 50 1 rfl 10 5 (p4_2 5 qx qy qz qt 10 rfl) ?_
  refine wC 51 F.h11 ?_
  refine wC 52 F.h12 ?_
  refine kl_nil fun w10 g7 M => ?_
  replace M : Mem w [⟨g1, .cells (arr 20 (p4 5 px py pz pt)) 60⟩, ⟨g2, .cells (arr 20 (p4 5 qx qy qz qt)) 60⟩, ⟨g3, .cells (arr 20 (fun _ => 0)) 60⟩, ⟨g4, .cells (arr 5 r3) 58⟩, ⟨g5, .cells (arr 5 r6) 58⟩, ⟨g6, .cells (arr 5 r10) 58⟩, ⟨g7, .cells (arr 5 (fun _ => 0)) 58⟩] w10 := M
  refine zW M 6 rfl r12 fun w11 M => ?_
  replace M : Mem w [⟨g1, .cells (arr 20 (p4 5 px py pz pt)) 60⟩, ⟨g2, .cells (arr 20 (p4 5 qx qy qz qt)) 60⟩, ⟨g3, .cells (arr 20 (fun _ => 0)) 60⟩, ⟨g4, .cells (arr 5 r3) 58⟩, ⟨g5, .cells (arr 5 r6) 58⟩, ⟨g6, .cells (arr 5 r10) 58⟩, ⟨g7, .cells (arr 5 r12) 58⟩] w11 := M
  refine nt ?_
  refine wp_seq ?_
  refine rg_allocs M 12 [(9, 58, 5), (10, 58, 5), (11, 58, 5), (12, 58, 5)] (by kernel_rfl) (by kernel_rfl) ⟨rfl, rfl, fun _ _ => by kernel_rfl, rfl, rfl, fun _ _ => by kernel_rfl, rfl, rfl, fun _ _ => by kernel_rfl, rfl, rfl, fun _ _ => by kernel_rfl, trivial⟩ (by decide) ?_
  simp only [List.take_succ_cons, List.take_zero]
  refine wA M 53 4 rfl ?_
  refine wA M 54 3 rfl ?_
  refine wC 55 F.h13 ?_
  refine wA M 56 6 rfl ?_
  refine wA M 57 5 rfl ?_
  refine wC 58 F.h14 ?_
  refine wA M 59 6 rfl ?_
  refine wA M 60 5 rfl ?_
  refine wC 61 F.h15 ?_
  refine wA M 62 4 rfl ?_
  refine wA M 63 3 rfl ?_
  refine wC 64 F.h16 ?_
  refine kl_nil fun w12 g8 g9 g10 g11 M => ?_
  replace M : Mem w [⟨g1, .cells (arr 20 (p4 5 px py pz pt)) 60⟩, ⟨g2, .cells (arr 20 (p4 5 qx qy qz qt)) 60⟩, ⟨g3, .cells (arr 20 (fun _ => 0)) 60⟩, ⟨g4, .cells (arr 5 r3) 58⟩, ⟨g5, .cells (arr 5 r6) 58⟩, ⟨g6, .cells (arr 5 r10) 58⟩, ⟨g7, .cells (arr 5 r12) 58⟩, ⟨g8, .cells (arr 5 (fun _ => 0)) 58⟩, ⟨g9, .cells (arr 5 (fun _ => 0)) 58⟩, ⟨g10, .cells (arr 5 (fun _ => 0)) 58⟩, ⟨g11, .cells (arr 5 (fun _ => 0)) 58⟩] w12 := M
  refine zW M 7 rfl r13 fun w13 M => ?_
  replace M : Mem w [⟨g1, .cells (arr 20 (p4 5 px py pz pt)) 60⟩, ⟨g2, .cells (arr 20 (p4 5 qx qy qz qt)) 60⟩, ⟨g3, .cells (arr 20 (fun _ => 0)) 60⟩, ⟨g4, .cells (arr 5 r3) 58⟩, ⟨g5, .cells (arr 5 r6) 58⟩, ⟨g6, .cells (arr 5 r10) 58⟩, ⟨g7, .cells (arr 5 r12) 58⟩, ⟨g8, .cells (arr 5 r13) 58⟩, ⟨g9, .cells (arr 5 (fun _ => 0)) 58⟩, ⟨g10, .cells (arr 5 (fun _ => 0)) 58⟩, ⟨g11, .cells (arr 5 (fun _ => 0)) 58⟩] w13 := M
  refine zW M 8 rfl r14 fun w14 M => ?_
  replace M : Mem w [⟨g1, .cells (arr 20 (p4 5 px py pz pt)) 60⟩, ⟨g2, .cells (arr 20 (p4 5 qx qy qz qt)) 60⟩, ⟨g3, .cells (arr 20 (fun _ => 0)) 60⟩, ⟨g4, .cells (arr 5 r3) 58⟩, ⟨g5, .cells (arr 5 r6) 58⟩, ⟨g6, .cells (arr 5 r10) 58⟩, ⟨g7, .cells (arr 5 r12) 58⟩, ⟨g8, .cells (arr 5 r13) 58⟩, ⟨g9, .cells (arr 5 r14) 58⟩, ⟨g10, .cells (arr 5 (fun _ => 0)) 58⟩, ⟨g11, .cells (arr 5 (fun _ => 0)) 58⟩] w14 := M
  refine zW M 9 rfl r15 fun w15 M => ?_
  replace M : Mem w [⟨g1, .cells (arr 20 (p4 5 px py pz pt)) 60⟩, ⟨g2, .cells (arr 20 (p4 5 qx qy qz qt)) 60⟩, ⟨g3, .cells (arr 20 (fun _ => 0)) 60⟩, ⟨g4, .cells (arr 5 r3) 58⟩, ⟨g5, .cells (arr 5 r6) 58⟩, ⟨g6, .cells (arr 5 r10) 58⟩, ⟨g7, .cells (arr 5 r12) 58⟩, ⟨g8, .cells (arr 5 r13) 58⟩, ⟨g9, .cells (arr 5 r14) 58⟩, ⟨g10, .cells (arr 5 r15) 58⟩, ⟨g11, .cells (arr 5 (fun _ => 0)) 58⟩] w15 := M
  refine zW M 10 rfl r16 fun w16 M => ?_
  replace M : Mem w [⟨g1, .cells (arr 20 (p4 5 px py pz pt)) 60⟩, ⟨g2, .cells (arr 20 (p4 5 qx qy qz qt)) 60⟩, ⟨g3, .cells (arr 20 (fun _ => 0)) 60⟩, ⟨g4, .cells (arr 5 r3) 58⟩, ⟨g5, .cells (arr 5 r6) 58⟩, ⟨g6, .cells (arr 5 r10) 58⟩, ⟨g7, .cells (arr 5 r12) 58⟩, ⟨g8, .cells (arr 5 r13) 58⟩, ⟨g9, .cells (arr 5 r14) 58⟩, ⟨g10, .cells (arr 5 r15) 58⟩, ⟨g11, .cells (arr 5 r16) 58⟩] w16 := M
  refine nt ?_
  refine wp_seq ?_
  refine rg_tail M 13 (by kernel_rfl) (by kernel_rfl) ?_
  simp only [List.take_succ_cons, List.take_zero]
  refine wA M 65 7 rfl ?_
  refine wA M 66 8 rfl ?_
  refine wC 67 F.h17 ?_
  refine wA M 68 9 rfl ?_
  refine wA M 69 10 rfl ?_
  refine wC 70 F.h18 ?_
  refine wA M 71 8 rfl ?_
  refine wA M 72 9 rfl ?_
  refine wC 73 F.h19 ?_
  refine wA M 74 7 rfl ?_
  refine wA M 75 10 rfl ?_
  refine wC 76 F.h20 ?_
  refine kv 77 (.agg (arr 20 (p4 5 r17 r18 r19 r20))) ?_
  refine kl_nil fun w17 M => ?_
  replace M : Mem w [⟨g1, .cells (arr 20 (p4 5 px py pz pt)) 60⟩, ⟨g2, .cells (arr 20 (p4 5 qx qy qz qt)) 60⟩, ⟨g3, .cells (arr 20 (fun _ => 0)) 60⟩, ⟨g4, .cells (arr 5 r3) 58⟩, ⟨g5, .cells (arr 5 r6) 58⟩, ⟨g6, .cells (arr 5 r10) 58⟩, ⟨g7, .cells (arr 5 r12) 58⟩, ⟨g8, .cells (arr 5 r13) 58⟩, ⟨g9, .cells (arr 5 r14) 58⟩, ⟨g10, .cells (arr 5 r15) 58⟩, ⟨g11, .cells (arr 5 r16) 58⟩] w17 := M
  refine zW M 2 rfl (p4 5 r17 r18 r19 r20) fun w18 M => ?_
  replace M : Mem w [⟨g1, .cells (arr 20 (p4 5 px py pz pt)) 60⟩, ⟨g2, .cells (arr 20 (p4 5 qx qy qz qt)) 60⟩, ⟨g3, .cells (arr 20 (p4 5 r17 r18 r19 r20)) 60⟩, ⟨g4, .cells (arr 5 r3) 58⟩, ⟨g5, .cells (arr 5 r6) 58⟩, ⟨g6, .cells (arr 5 r10) 58⟩, ⟨g7, .cells (arr 5 r12) 58⟩, ⟨g8, .cells (arr 5 r13) 58⟩, ⟨g9, .cells (arr 5 r14) 58⟩, ⟨g10, .cells (arr 5 r15) 58⟩, ⟨g11, .cells (arr 5 r16) 58⟩] w18 := M
  refine nt ?_
  refine wp_ret ?_
  exact bodyPost_ret (v := .agg (arr 20 (p4 5 r17 r18 r19 r20))) (results_cell_row Tryz.results62 _ _ g3 60 (arr 20 (p4 5 r17 r18 r19 r20)) (0, 0) _ (by kernel_rfl) (M.get 2 rfl) Tryz.underlying60 rfl (by rw [arr_size]; exact inz60)) (by kernel_rfl) ⟨rfl, M.old⟩

structure doubleF (px py pz pt r1 r2 r3 r4 r5 r6 r7 r8 r9 r10 r11 r12 r13 r14 : Nat → Int) : Prop where
  h1 : ∀ w, Calls Tryz.prog 64 #[.agg (arr 5 px), .agg (arr 5 px)] w fun r w' => r = .returned (.agg (arr 5 r1)) ∧ Below w.heap.size w w'
  h2 : ∀ w, Calls Tryz.prog 64 #[.agg (arr 5 py), .agg (arr 5 py)] w fun r w' => r = .returned (.agg (arr 5 r2)) ∧ Below w.heap.size w w'
  h3 : ∀ w, Calls Tryz.prog 112 #[.agg (arr 5 pz), .agg (arr 5 pz)] w fun r w' => r = .returned (.agg (arr 5 r3)) ∧ Below w.heap.size w w'
  h4 : ∀ w, Calls Tryz.prog 64 #[.agg (arr 5 pz), .agg (arr 5 r3)] w fun r w' => r = .returned (.agg (arr 5 r4)) ∧ Below w.heap.size w w'
  h5 : ∀ w, Calls Tryz.prog 112 #[.agg (arr 5 px), .agg (arr 5 py)] w fun r w' => r = .returned (.agg (arr 5 r5)) ∧ Below w.heap.size w w'
  h6 : ∀ w, Calls Tryz.prog 112 #[.agg (arr 5 r1), .agg (arr 5 r2)] w fun r w' => r = .returned (.agg (arr 5 r6)) ∧ Below w.heap.size w w'
  h7 : ∀ w, Calls Tryz.prog 111 #[.agg (arr 5 r1), .agg (arr 5 r2)] w fun r w' => r = .returned (.agg (arr 5 r7)) ∧ Below w.heap.size w w'
  h8 : ∀ w, Calls Tryz.prog 64 #[.agg (arr 5 r5), .agg (arr 5 r5)] w fun r w' => r = .returned (.agg (arr 5 r8)) ∧ Below w.heap.size w w'
  h9 : ∀ w, Calls Tryz.prog 111 #[.agg (arr 5 r6), .agg (arr 5 r8)] w fun r w' => r = .returned (.agg (arr 5 r9)) ∧ Below w.heap.size w w'
  h10 : ∀ w, Calls Tryz.prog 112 #[.agg (arr 5 r4), .agg (arr 5 r7)] w fun r w' => r = .returned (.agg (arr 5 r10)) ∧ Below w.heap.size w w'
  h11 : ∀ w, Calls Tryz.prog 64 #[.agg (arr 5 r9), .agg (arr 5 r10)] w fun r w' => r = .returned (.agg (arr 5 r11)) ∧ Below w.heap.size w w'
  h12 : ∀ w, Calls Tryz.prog 64 #[.agg (arr 5 r7), .agg (arr 5 r6)] w fun r w' => r = .returned (.agg (arr 5 r12)) ∧ Below w.heap.size w w'
  h13 : ∀ w, Calls Tryz.prog 64 #[.agg (arr 5 r10), .agg (arr 5 r7)] w fun r w' => r = .returned (.agg (arr 5 r13)) ∧ Below w.heap.size w w'
  h14 : ∀ w, Calls Tryz.prog 64 #[.agg (arr 5 r9), .agg (arr 5 r6)] w fun r w' => r = .returned (.agg (arr 5 r14)) ∧ Below w.heap.size w w'

set_option maxRecDepth 100000 in
set_option maxHeartbeats 4000000 in
theorem double_gen (px py pz pt r1 r2 r3 r4 r5 r6 r7 r8 r9 r10 r11 r12 r13 r14 : Nat → Int) (w : World) (F : doubleF px py pz pt r1 r2 r3 r4 r5 r6 r7 r8 r9 r10 r11 r12 r13 r14)  :
    Calls Tryz.prog 110 #[.agg (arr 20 (p4 5 px py pz pt))] w fun r w' => r = .returned (.agg (arr 20 (p4 5 r11 r12 r13 r14))) ∧ Below w.heap.size w w' := by
  go_enter Tryz.func110, Tryz.ntmps110
  have M := Mem.start w
  refine sr ?_
  refine zN M 1 (.cells (arr 20 (p4 5 px py pz pt)) 60) fun g1 w1 M => ?_
  replace M : Mem w [⟨g1, .cells (arr 20 (p4 5 px py pz pt)) 60⟩] w1 := M
  refine zN M 2 (.cells (arr 20 (fun _ => 0)) 60) fun g2 w2 M => ?_
  replace M : Mem w [⟨g1, .cells (arr 20 (p4 5 px py pz pt)) 60⟩, ⟨g2, .cells (arr 20 (fun _ => 0)) 60⟩] w2 := M
  refine nt ?_
  refine wp_seq ?_
  refine rg_allocs M 10 [(3, 58, 5), (4, 58, 5)] (by kernel_rfl) (by kernel_rfl) ⟨rfl, rfl, fun _ _ => by kernel_rfl, rfl, rfl, fun _ _ => by kernel_rfl, trivial⟩ (by decide) ?_
  simp only [List.take_succ_cons, List.take_zero]
  refine kv 11 (.pointer (some ⟨g1, 0, none⟩)) ?_
  refine wL M 12 0 rfl 0 5 (p4_0 5 px py pz pt 0 rfl) ?_
  refine kv 13 (.pointer (some ⟨g1, 0, none⟩)) ?_
  refine wL M 14 0 rfl 0 5 (p4_0 5 px py pz pt 0 rfl) ?_
  refine wC 15 F.h1 ?_
  refine kv 16 (.pointer (some ⟨g1, 5, none⟩)) ?_
  refine wL M 17 0 rfl 5 5 (p4_1 5 px py pz pt 5 rfl) ?_
  refine kv 18 (.pointer (some ⟨g1, 5, none⟩)) ?_
  refine wL M 19 0 rfl 5 5 (p4_1 5 px py pz pt 5 rfl) ?_
  refine wC 20 F.h2 ?_
  refine kl_nil fun w3 g3 g4 M => ?_
  replace M : Mem w [⟨g1, .cells (arr 20 (p4 5 px py pz pt)) 60⟩, ⟨g2, .cells (arr 20 (fun _ => 0)) 60⟩, ⟨g3, .cells (arr 5 (fun _ => 0)) 58⟩, ⟨g4, .cells (arr 5 (fun _ => 0)) 58⟩] w3 := M
  refine zW M 2 rfl r1 fun w4 M => ?_
  replace M : Mem w [⟨g1, .cells (arr 20 (p4 5 px py pz pt)) 60⟩, ⟨g2, .cells (arr 20 (fun _ => 0)) 60⟩, ⟨g3, .cells (arr 5 r1) 58⟩, ⟨g4, .cells (arr 5 (fun _ => 0)) 58⟩] w4 := M
  refine zW M 3 rfl r2 fun w5 M => ?_
  replace M : Mem w [⟨g1, .cells (arr 20 (p4 5 px py pz pt)) 60⟩, ⟨g2, .cells (arr 20 (fun _ => 0)) 60⟩, ⟨g3, .cells (arr 5 r1) 58⟩, ⟨g4, .cells (arr 5 r2) 58⟩] w5 := M
  refine nt ?_
  refine wp_seq ?_
  refine rg_allocs M 8 [(5, 58, 5)] (by kernel_rfl) (by kernel_rfl) ⟨rfl, rfl, fun _ _ => by kernel_rfl, trivial⟩ (by decide) ?_
  simp only [List.take_succ_cons, List.take_zero]
  refine kv 21 (.pointer (some ⟨g1, 10, none⟩)) ?_
  refine wL M 22 0 rfl 10 5 (p4_2 5 px py pz pt 10 rfl) ?_
  refine kv 23 (.pointer (some ⟨g1, 10, none⟩)) ?_
  refine wL M 24 0 rfl 10 5 (p4_2 5 px py pz pt 10 rfl) ?_
  refine kv 25 (.pointer (some ⟨g1, 10, none⟩)) ?_
  refine wL M 26 0 rfl 10 5 (p4_2 5 px py pz pt 10 rfl) ?_
  refine wC 27 F.h3 ?_
  refine wC 28 F.h4 ?_
  refine kl_nil fun w6 g5 M => ?_
  replace M : Mem w [⟨g1, .cells (arr 20 (p4 5 px py pz pt)) 60⟩, ⟨g2, .cells (arr 20 (fun _ => 0)) 60⟩, ⟨g3, .cells (arr 5 r1) 58⟩, ⟨g4, .cells (arr 5 r2) 58⟩, ⟨g5, .cells (arr 5 (fun _ => 0)) 58⟩] w6 := M
  refine zW M 4 rfl r4 fun w7 M => ?_
  replace M : Mem w [⟨g1, .cells (arr 20 (p4 5 px py pz pt)) 60⟩, ⟨g2, .cells (arr 20 (fun _ => 0)) 60⟩, ⟨g3, .cells (arr 5 r1) 58⟩, ⟨g4, .cells (arr 5 r2) 58⟩, ⟨g5, .cells (arr 5 r4) 58⟩] w7 := M
  refine nt ?_
  refine sr ?_
  refine pv 29 (.pointer (some ⟨g1, 0, none⟩)) ?_
  refine zL M 30 0 rfl 0 5 (p4_0 5 px py pz pt 0 rfl) ?_
  refine pv 31 (.pointer (some ⟨g1, 5, none⟩)) ?_
  refine zL M 32 0 rfl 5 5 (p4_1 5 px py pz pt 5 rfl) ?_
  refine zC M 33 F.h5 fun w8 M => ?_
  refine zN M 6 (.cells (arr 5 (fun _ => 0)) 58) fun g6 w9 M => ?_
  replace M : Mem w [⟨g1, .cells (arr 20 (p4 5 px py pz pt)) 60⟩, ⟨g2, .cells (arr 20 (fun _ => 0)) 60⟩, ⟨g3, .cells (arr 5 r1) 58⟩, ⟨g4, .cells (arr 5 r2) 58⟩, ⟨g5, .cells (arr 5 r4) 58⟩, ⟨g6, .cells (arr 5 (fun _ => 0)) 58⟩] w9 := M
  refine zW M 5 rfl r5 fun w10 M => ?_
  replace M : Mem w [⟨g1, .cells (arr 20 (p4 5 px py pz pt)) 60⟩, ⟨g2, .cells (arr 20 (fun _ => 0)) 60⟩, ⟨g3, .cells (arr 5 r1) 58⟩, ⟨g4, .cells (arr 5 r2) 58⟩, ⟨g5, .cells (arr 5 r4) 58⟩, ⟨g6, .cells (arr 5 r5) 58⟩] w10 := M
  refine nt ?_
  refine wp_seq ?_
  refine rg_allocs M 6 [(7, 58, 5), (8, 58, 5)] (by kernel_rfl) (by kernel_rfl) ⟨rfl, rfl, fun _ _ => by kernel_rfl, rfl, rfl, fun _ _ => by kernel_rfl, trivial⟩ (by decide) ?_
  simp only [List.take_succ_cons, List.take_zero]
  refine wA M 34 2 rfl ?_
  refine wA M 35 3 rfl ?_
  refine wC 36 F.h6 ?_
  refine wA M 37 2 rfl ?_
  refine wA M 38 3 rfl ?_
  refine wC 39 F.h7 ?_
  refine kl_nil fun w11 g7 g8 M => ?_
  replace M : Mem w [⟨g1, .cells (arr 20 (p4 5 px py pz pt)) 60⟩, ⟨g2, .cells (arr 20 (fun _ => 0)) 60⟩, ⟨g3, .cells (arr 5 r1) 58⟩, ⟨g4, .cells (arr 5 r2) 58⟩, ⟨g5, .cells (arr 5 r4) 58⟩, ⟨g6, .cells (arr 5 r5) 58⟩, ⟨g7, .cells (arr 5 (fun _ => 0)) 58⟩, ⟨g8, .cells (arr 5 (fun _ => 0)) 58⟩] w11 := M
  refine zW M 6 rfl r6 fun w12 M => ?_
  replace M : Mem w [⟨g1, .cells (arr 20 (p4 5 px py pz pt)) 60⟩, ⟨g2, .cells (arr 20 (fun _ => 0)) 60⟩, ⟨g3, .cells (arr 5 r1) 58⟩, ⟨g4, .cells (arr 5 r2) 58⟩, ⟨g5, .cells (arr 5 r4) 58⟩, ⟨g6, .cells (arr 5 r5) 58⟩, ⟨g7, .cells (arr 5 r6) 58⟩, ⟨g8, .cells (arr 5 (fun _ => 0)) 58⟩] w12 := M
  refine zW M 7 rfl r7 fun w13 M => ?_
  replace M : Mem w [⟨g1, .cells (arr 20 (p4 5 px py pz pt)) 60⟩, ⟨g2, .cells (arr 20 (fun _ => 0)) 60⟩, ⟨g3, .cells (arr 5 r1) 58⟩, ⟨g4, .cells (arr 5 r2) 58⟩, ⟨g5, .cells (arr 5 r4) 58⟩, ⟨g6, .cells (arr 5 r5) 58⟩, ⟨g7, .cells (arr 5 r6) 58⟩, ⟨g8, .cells (arr 5 r7) 58⟩] w13 := M
  refine nt ?_
  refine wp_seq ?_
  refine rg_allocs M 8 [(9, 58, 5), (10, 58, 5)] (by kernel_rfl) (by kernel_rfl) ⟨rfl, rfl, fun _ _ => by kernel_rfl, rfl, rfl, fun _ _ => by kernel_rfl, trivial⟩ (by decide) ?_
  simp only [List.take_succ_cons, List.take_zero]
  refine wA M 40 6 rfl ?_
  refine wA M 41 5 rfl ?_
  refine wA M 42 5 rfl ?_
  refine wC 43 F.h8 ?_
  refine wC 44 F.h9 ?_
  refine wA M 45 4 rfl ?_
  refine wA M 46 7 rfl ?_
  refine wC 47 F.h10 ?_
  refine kl_nil fun w14 g9 g10 M => ?_
  replace M : Mem w [⟨g1, .cells (arr 20 (p4 5 px py pz pt)) 60⟩, ⟨g2, .cells (arr 20 (fun _ => 0)) 60⟩, ⟨g3, .cells (arr 5 r1) 58⟩, ⟨g4, .cells (arr 5 r2) 58⟩, ⟨g5, .cells (arr 5 r4) 58⟩, ⟨g6, .cells (arr 5 r5) 58⟩, ⟨g7, .cells (arr 5 r6) 58⟩, ⟨g8, .cells (arr 5 r7) 58⟩, ⟨g9, .cells (arr 5 (fun _ => 0)) 58⟩, ⟨g10, .cells (arr 5 (fun _ => 0)) 58⟩] w14 := M
  refine zW M 8 rfl r9 fun w15 M => ?_
  replace M : Mem w [⟨g1, .cells (arr 20 (p4 5 px py pz pt)) 60⟩, ⟨g2, .cells (arr 20 (fun _ => 0)) 60⟩, ⟨g3, .cells (arr 5 r1) 58⟩, ⟨g4, .cells (arr 5 r2) 58⟩, ⟨g5, .cells (arr 5 r4) 58⟩, ⟨g6, .cells (arr 5 r5) 58⟩, ⟨g7, .cells (arr 5 r6) 58⟩, ⟨g8, .cells (arr 5 r7) 58⟩, ⟨g9, .cells (arr 5 r9) 58⟩, ⟨g10, .cells (arr 5 (fun _ => 0)) 58⟩] w15 := M
  refine zW M 9 rfl r10 fun w16 M => ?_
  replace M : Mem w [⟨g1, .cells (arr 20 (p4 5 px py pz pt)) 60⟩, ⟨g2, .cells (arr 20 (fun _ => 0)) 60⟩, ⟨g3, .cells (arr 5 r1) 58⟩, ⟨g4, .cells (arr 5 r2) 58⟩, ⟨g5, .cells (arr 5 r4) 58⟩, ⟨g6, .cells (arr 5 r5) 58⟩, ⟨g7, .cells (arr 5 r6) 58⟩, ⟨g8, .cells (arr 5 r7) 58⟩, ⟨g9, .cells (arr 5 r9) 58⟩, ⟨g10, .cells (arr 5 r10) 58⟩] w16 := M
  refine nt ?_
  refine wp_seq ?_
  refine rg_tail M 13 (by kernel_rfl) (by kernel_rfl) ?_
  simp only [List.take_succ_cons, List.take_zero]
  refine wA M 48 8 rfl ?_
  refine wA M 49 9 rfl ?_
  refine wC 50 F.h11 ?_
  refine wA M 51 7 rfl ?_
  refine wA M 52 6 rfl ?_
  refine wC 53 F.h12 ?_
  refine wA M 54 9 rfl ?_
  refine wA M 55 7 rfl ?_
  refine wC 56 F.h13 ?_
  refine wA M 57 8 rfl ?_
  refine wA M 58 6 rfl ?_
  refine wC 59 F.h14 ?_
  refine kv 60 (.agg (arr 20 (p4 5 r11 r12 r13 r14))) ?_
  refine kl_nil fun w17 M => ?_
  replace M : Mem w [⟨g1, .cells (arr 20 (p4 5 px py pz pt)) 60⟩, ⟨g2, .cells (arr 20 (fun _ => 0)) 60⟩, ⟨g3, .cells (arr 5 r1) 58⟩, ⟨g4, .cells (arr 5 r2) 58⟩, ⟨g5, .cells (arr 5 r4) 58⟩, ⟨g6, .cells (arr 5 r5) 58⟩, ⟨g7, .cells (arr 5 r6) 58⟩, ⟨g8, .cells (arr 5 r7) 58⟩, ⟨g9, .cells (arr 5 r9) 58⟩, ⟨g10, .cells (arr 5 r10) 58⟩] w17 := M
  refine zW M 1 rfl (p4 5 r11 r12 r13 r14) fun w18 M => ?_
  replace M : Mem w [⟨g1, .cells (arr 20 (p4 5 px py pz pt)) 60⟩, ⟨g2, .cells (arr 20 (p4 5 r11 r12 r13 r14)) 60⟩, ⟨g3, .cells (arr 5 r1) 58⟩, ⟨g4, .cells (arr 5 r2) 58⟩, ⟨g5, .cells (arr 5 r4) 58⟩, ⟨g6, .cells (arr 5 r5) 58⟩, ⟨g7, .cells (arr 5 r6) 58⟩, ⟨g8, .cells (arr 5 r7) 58⟩, ⟨g9, .cells (arr 5 r9) 58⟩, ⟨g10, .cells (arr 5 r10) 58⟩] w18 := M
  refine nt ?_
  refine wp_ret ?_
  exact bodyPost_ret (v := .agg (arr 20 (p4 5 r11 r12 r13 r14))) (results_cell_row Tryz.results110 _ _ g2 60 (arr 20 (p4 5 r11 r12 r13 r14)) (0, 0) _ (by kernel_rfl) (M.get 1 rfl) Tryz.underlying60 rfl (by rw [arr_size]; exact inz60)) (by kernel_rfl) ⟨rfl, M.old⟩


end Go.Proofs.YtmhfmhmpoobmlaaGreatDoor

/- More walks of the points, told by what their callees hand back. -/
namespace Go.Proofs.YtmhfmhmpoobmlaaGreatDoor
open Go.RowKit

structure addN1F (px py pz pt qx qy qz qt : Nat → Int) : Prop where
  h1 : ∀ w, Calls Tryz.prog 58 #[.agg (arr 20 (p4 5 px py pz pt))] w fun r w' => r = .returned (.bool true) ∧ Below w.heap.size w w'

set_option maxRecDepth 100000 in
set_option maxHeartbeats 4000000 in
theorem addN1_gen (px py pz pt qx qy qz qt : Nat → Int) (w : World) (F : addN1F px py pz pt qx qy qz qt)  :
    Calls Tryz.prog 39 #[.agg (arr 20 (p4 5 px py pz pt)), .agg (arr 20 (p4 5 qx qy qz qt))] w fun r w' => r = .returned (.agg (arr 20 (fun _ => 0))) ∧ Below w.heap.size w w' := by
  go_enter Tryz.func39, Tryz.ntmps39
  have M := Mem.start w
  refine sr ?_
  refine zN M 2 (.cells (arr 20 (p4 5 px py pz pt)) 60) fun g1 w1 M => ?_
  refine zN M 3 (.cells (arr 20 (p4 5 qx qy qz qt)) 60) fun g2 w2 M => ?_
  refine zN M 4 (.cells (arr 20 (fun _ => 0)) 60) fun g3 w3 M => ?_
  refine nt ?_
  refine wp_seq ?_
  refine sr ?_
  refine zA M 5 0 rfl ?_
  refine zC M 6 F.h1 fun w4 M => ?_
  refine pv 7 (.bool true) ?_
  refine pl_skip (want_off 2 false rfl 7 rfl (by kernel_rfl)) (some 8) rfl ?_
  refine pl_skip (want_off 2 false rfl 7 rfl (by kernel_rfl)) (some 9) rfl ?_
  refine pv 10 (.bool true) ?_
  refine nt ?_
  refine wp_cond_true (by kernel_rfl) ?_
  refine sr ?_
  refine pv 11 (.agg (arr 20 (fun _ => 0))) ?_
  refine zW M 2 rfl (fun _ => 0) fun w5 M => ?_
  refine nt ?_
  refine wp_ret ?_
  refine au_then_ret ?_
  exact bodyPost_ret (v := .agg (arr 20 (fun _ => 0))) (results_cell_row Tryz.results39 _ _ g3 60 (arr 20 (fun _ => 0)) (0, 0) _ (by kernel_rfl) (M.get 2 rfl) Tryz.underlying60 rfl (by rw [arr_size]; exact inz60)) (by kernel_rfl) ⟨rfl, M.old⟩

structure addN2F (px py pz pt qx qy qz qt : Nat → Int) : Prop where
  h1 : ∀ w, Calls Tryz.prog 58 #[.agg (arr 20 (p4 5 px py pz pt))] w fun r w' => r = .returned (.bool false) ∧ Below w.heap.size w w'
  h2 : ∀ w, Calls Tryz.prog 58 #[.agg (arr 20 (p4 5 qx qy qz qt))] w fun r w' => r = .returned (.bool true) ∧ Below w.heap.size w w'

set_option maxRecDepth 100000 in
set_option maxHeartbeats 4000000 in
theorem addN2_gen (px py pz pt qx qy qz qt : Nat → Int) (w : World) (F : addN2F px py pz pt qx qy qz qt)  :
    Calls Tryz.prog 39 #[.agg (arr 20 (p4 5 px py pz pt)), .agg (arr 20 (p4 5 qx qy qz qt))] w fun r w' => r = .returned (.agg (arr 20 (fun _ => 0))) ∧ Below w.heap.size w w' := by
  go_enter Tryz.func39, Tryz.ntmps39
  have M := Mem.start w
  refine sr ?_
  refine zN M 2 (.cells (arr 20 (p4 5 px py pz pt)) 60) fun g1 w1 M => ?_
  refine zN M 3 (.cells (arr 20 (p4 5 qx qy qz qt)) 60) fun g2 w2 M => ?_
  refine zN M 4 (.cells (arr 20 (fun _ => 0)) 60) fun g3 w3 M => ?_
  refine nt ?_
  refine wp_seq ?_
  refine sr ?_
  refine zA M 5 0 rfl ?_
  refine zC M 6 F.h1 fun w4 M => ?_
  refine pv 7 (.bool false) ?_
  refine pl_load M (want_on 2 false rfl 7 rfl (by kernel_rfl)) (some 8) rfl 60 _ rfl 1 g2 0 (by kernel_rfl) 20 60 (p4 5 qx qy qz qt) rfl 20 (p4 5 qx qy qz qt) (Part.all _ _) (by decide) _ Tryz.underlying60 rfl inz60 ?_
  refine pl_call M (want_on 2 false rfl 7 rfl (by kernel_rfl)) (some 9) rfl 58 #[.agg (arr 20 (p4 5 qx qy qz qt))] (.bool true) (fun _ => by kernel_rfl) F.h2 fun w5 M => ?_
  refine pv 10 (.bool true) ?_
  refine nt ?_
  refine wp_cond_true (by kernel_rfl) ?_
  refine sr ?_
  refine pv 11 (.agg (arr 20 (fun _ => 0))) ?_
  refine zW M 2 rfl (fun _ => 0) fun w6 M => ?_
  refine nt ?_
  refine wp_ret ?_
  refine au_then_ret ?_
  exact bodyPost_ret (v := .agg (arr 20 (fun _ => 0))) (results_cell_row Tryz.results39 _ _ g3 60 (arr 20 (fun _ => 0)) (0, 0) _ (by kernel_rfl) (M.get 2 rfl) Tryz.underlying60 rfl (by rw [arr_size]; exact inz60)) (by kernel_rfl) ⟨rfl, M.old⟩

structure addYF (px py pz pt qx qy qz qt r1 : Nat → Int) : Prop where
  h1 : ∀ w, Calls Tryz.prog 58 #[.agg (arr 20 (p4 5 px py pz pt))] w fun r w' => r = .returned (.bool false) ∧ Below w.heap.size w w'
  h2 : ∀ w, Calls Tryz.prog 58 #[.agg (arr 20 (p4 5 qx qy qz qt))] w fun r w' => r = .returned (.bool false) ∧ Below w.heap.size w w'
  h3 : ∀ w, Calls Tryz.prog 62 #[.agg (arr 20 (p4 5 px py pz pt)), .agg (arr 20 (p4 5 qx qy qz qt))] w fun r w' => r = .returned (.agg (arr 20 r1)) ∧ Below w.heap.size w w'

set_option maxRecDepth 100000 in
set_option maxHeartbeats 4000000 in
theorem addY_gen (px py pz pt qx qy qz qt r1 : Nat → Int) (w : World) (F : addYF px py pz pt qx qy qz qt r1)  :
    Calls Tryz.prog 39 #[.agg (arr 20 (p4 5 px py pz pt)), .agg (arr 20 (p4 5 qx qy qz qt))] w fun r w' => r = .returned (.agg (arr 20 r1)) ∧ Below w.heap.size w w' := by
  go_enter Tryz.func39, Tryz.ntmps39
  have M := Mem.start w
  refine sr ?_
  refine zN M 2 (.cells (arr 20 (p4 5 px py pz pt)) 60) fun g1 w1 M => ?_
  refine zN M 3 (.cells (arr 20 (p4 5 qx qy qz qt)) 60) fun g2 w2 M => ?_
  refine zN M 4 (.cells (arr 20 (fun _ => 0)) 60) fun g3 w3 M => ?_
  refine nt ?_
  refine wp_seq ?_
  refine sr ?_
  refine zA M 5 0 rfl ?_
  refine zC M 6 F.h1 fun w4 M => ?_
  refine pv 7 (.bool false) ?_
  refine pl_load M (want_on 2 false rfl 7 rfl (by kernel_rfl)) (some 8) rfl 60 _ rfl 1 g2 0 (by kernel_rfl) 20 60 (p4 5 qx qy qz qt) rfl 20 (p4 5 qx qy qz qt) (Part.all _ _) (by decide) _ Tryz.underlying60 rfl inz60 ?_
  refine pl_call M (want_on 2 false rfl 7 rfl (by kernel_rfl)) (some 9) rfl 58 #[.agg (arr 20 (p4 5 qx qy qz qt))] (.bool false) (fun _ => by kernel_rfl) F.h2 fun w5 M => ?_
  refine pv 10 (.bool false) ?_
  refine nt ?_
  refine wp_cond_false (by kernel_rfl) ?_
  refine wp_skip ?_
  refine au_then ?_
  refine sr ?_
  refine zA M 12 0 rfl ?_
  refine zA M 13 1 rfl ?_
  refine zC M 14 F.h3 fun w6 M => ?_
  refine zW M 2 rfl r1 fun w7 M => ?_
  refine nt ?_
  refine wp_ret ?_
  exact bodyPost_ret (v := .agg (arr 20 r1)) (results_cell_row Tryz.results39 _ _ g3 60 (arr 20 r1) (0, 0) _ (by kernel_rfl) (M.get 2 rfl) Tryz.underlying60 rfl (by rw [arr_size]; exact inz60)) (by kernel_rfl) ⟨rfl, M.old⟩

structure sameN1F (px py pz pt qx qy qz qt : Nat → Int) : Prop where
  h1 : ∀ w, Calls Tryz.prog 58 #[.agg (arr 20 (p4 5 px py pz pt))] w fun r w' => r = .returned (.bool true) ∧ Below w.heap.size w w'

set_option maxRecDepth 100000 in
set_option maxHeartbeats 4000000 in
theorem sameN1_gen (px py pz pt qx qy qz qt : Nat → Int) (w : World) (F : sameN1F px py pz pt qx qy qz qt)  :
    Calls Tryz.prog 38 #[.agg (arr 20 (p4 5 px py pz pt)), .agg (arr 20 (p4 5 qx qy qz qt))] w fun r w' => r = .returned (.bool false) ∧ Below w.heap.size w w' := by
  go_enter Tryz.func38, Tryz.ntmps38
  have M := Mem.start w
  refine sr ?_
  refine zN M 2 (.cells (arr 20 (p4 5 px py pz pt)) 60) fun g1 w1 M => ?_
  refine zN M 3 (.cells (arr 20 (p4 5 qx qy qz qt)) 60) fun g2 w2 M => ?_
  refine pv 4 (.bool false) ?_
  refine nt ?_
  refine wp_seq ?_
  refine sr ?_
  refine zA M 5 0 rfl ?_
  refine zC M 6 F.h1 fun w3 M => ?_
  refine pv 7 (.bool true) ?_
  refine pl_skip (want_off 2 false rfl 7 rfl (by kernel_rfl)) (some 8) rfl ?_
  refine pl_skip (want_off 2 false rfl 7 rfl (by kernel_rfl)) (some 9) rfl ?_
  refine pv 10 (.bool true) ?_
  refine nt ?_
  refine wp_cond_true (by kernel_rfl) ?_
  refine sr ?_
  refine pv 4 (.bool false) ?_
  refine nt ?_
  refine wp_ret ?_
  refine au_then_ret ?_
  exact bodyPost_ret (v := .bool false) (results_tmp1 Tryz.results38 _ _ _ (by kernel_rfl)) (by kernel_rfl) ⟨rfl, M.old⟩

structure sameN2F (px py pz pt qx qy qz qt : Nat → Int) : Prop where
  h1 : ∀ w, Calls Tryz.prog 58 #[.agg (arr 20 (p4 5 px py pz pt))] w fun r w' => r = .returned (.bool false) ∧ Below w.heap.size w w'
  h2 : ∀ w, Calls Tryz.prog 58 #[.agg (arr 20 (p4 5 qx qy qz qt))] w fun r w' => r = .returned (.bool true) ∧ Below w.heap.size w w'

set_option maxRecDepth 100000 in
set_option maxHeartbeats 4000000 in
theorem sameN2_gen (px py pz pt qx qy qz qt : Nat → Int) (w : World) (F : sameN2F px py pz pt qx qy qz qt)  :
    Calls Tryz.prog 38 #[.agg (arr 20 (p4 5 px py pz pt)), .agg (arr 20 (p4 5 qx qy qz qt))] w fun r w' => r = .returned (.bool false) ∧ Below w.heap.size w w' := by
  go_enter Tryz.func38, Tryz.ntmps38
  have M := Mem.start w
  refine sr ?_
  refine zN M 2 (.cells (arr 20 (p4 5 px py pz pt)) 60) fun g1 w1 M => ?_
  refine zN M 3 (.cells (arr 20 (p4 5 qx qy qz qt)) 60) fun g2 w2 M => ?_
  refine pv 4 (.bool false) ?_
  refine nt ?_
  refine wp_seq ?_
  refine sr ?_
  refine zA M 5 0 rfl ?_
  refine zC M 6 F.h1 fun w3 M => ?_
  refine pv 7 (.bool false) ?_
  refine pl_load M (want_on 2 false rfl 7 rfl (by kernel_rfl)) (some 8) rfl 60 _ rfl 1 g2 0 (by kernel_rfl) 20 60 (p4 5 qx qy qz qt) rfl 20 (p4 5 qx qy qz qt) (Part.all _ _) (by decide) _ Tryz.underlying60 rfl inz60 ?_
  refine pl_call M (want_on 2 false rfl 7 rfl (by kernel_rfl)) (some 9) rfl 58 #[.agg (arr 20 (p4 5 qx qy qz qt))] (.bool true) (fun _ => by kernel_rfl) F.h2 fun w4 M => ?_
  refine pv 10 (.bool true) ?_
  refine nt ?_
  refine wp_cond_true (by kernel_rfl) ?_
  refine sr ?_
  refine pv 4 (.bool false) ?_
  refine nt ?_
  refine wp_ret ?_
  refine au_then_ret ?_
  exact bodyPost_ret (v := .bool false) (results_tmp1 Tryz.results38 _ _ _ (by kernel_rfl)) (by kernel_rfl) ⟨rfl, M.old⟩

structure sameFF (px py pz pt qx qy qz qt r1 r2 : Nat → Int) : Prop where
  h1 : ∀ w, Calls Tryz.prog 58 #[.agg (arr 20 (p4 5 px py pz pt))] w fun r w' => r = .returned (.bool false) ∧ Below w.heap.size w w'
  h2 : ∀ w, Calls Tryz.prog 58 #[.agg (arr 20 (p4 5 qx qy qz qt))] w fun r w' => r = .returned (.bool false) ∧ Below w.heap.size w w'
  h3 : ∀ w, Calls Tryz.prog 64 #[.agg (arr 5 px), .agg (arr 5 qz)] w fun r w' => r = .returned (.agg (arr 5 r1)) ∧ Below w.heap.size w w'
  h4 : ∀ w, Calls Tryz.prog 64 #[.agg (arr 5 qx), .agg (arr 5 pz)] w fun r w' => r = .returned (.agg (arr 5 r2)) ∧ Below w.heap.size w w'
  h5 : ∀ w, Calls Tryz.prog 85 #[.agg (arr 5 r1), .agg (arr 5 r2)] w fun r w' => r = .returned (.bool false) ∧ Below w.heap.size w w'

set_option maxRecDepth 100000 in
set_option maxHeartbeats 4000000 in
theorem sameF_gen (px py pz pt qx qy qz qt r1 r2 : Nat → Int) (w : World) (F : sameFF px py pz pt qx qy qz qt r1 r2)  :
    Calls Tryz.prog 38 #[.agg (arr 20 (p4 5 px py pz pt)), .agg (arr 20 (p4 5 qx qy qz qt))] w fun r w' => r = .returned (.bool false) ∧ Below w.heap.size w w' := by
  go_enter Tryz.func38, Tryz.ntmps38
  have M := Mem.start w
  refine sr ?_
  refine zN M 2 (.cells (arr 20 (p4 5 px py pz pt)) 60) fun g1 w1 M => ?_
  refine zN M 3 (.cells (arr 20 (p4 5 qx qy qz qt)) 60) fun g2 w2 M => ?_
  refine pv 4 (.bool false) ?_
  refine nt ?_
  refine wp_seq ?_
  refine sr ?_
  refine zA M 5 0 rfl ?_
  refine zC M 6 F.h1 fun w3 M => ?_
  refine pv 7 (.bool false) ?_
  refine pl_load M (want_on 2 false rfl 7 rfl (by kernel_rfl)) (some 8) rfl 60 _ rfl 1 g2 0 (by kernel_rfl) 20 60 (p4 5 qx qy qz qt) rfl 20 (p4 5 qx qy qz qt) (Part.all _ _) (by decide) _ Tryz.underlying60 rfl inz60 ?_
  refine pl_call M (want_on 2 false rfl 7 rfl (by kernel_rfl)) (some 9) rfl 58 #[.agg (arr 20 (p4 5 qx qy qz qt))] (.bool false) (fun _ => by kernel_rfl) F.h2 fun w4 M => ?_
  refine pv 10 (.bool false) ?_
  refine nt ?_
  refine wp_cond_false (by kernel_rfl) ?_
  refine wp_skip ?_
  refine au_then ?_
  refine wp_seq ?_
  refine rg_tail M 24 (by kernel_rfl) (by kernel_rfl) ?_
  simp only [List.take_succ_cons, List.take_zero]
  refine kv 11 (.pointer (some ⟨g1, 0, none⟩)) ?_
  refine wL M 12 0 rfl 0 5 (p4_0 5 px py pz pt 0 rfl) ?_
  refine kv 13 (.pointer (some ⟨g2, 10, none⟩)) ?_
  refine wL M 14 1 rfl 10 5 (p4_2 5 qx qy qz qt 10 rfl) ?_
  refine wC 15 F.h3 ?_
  refine kv 16 (.pointer (some ⟨g2, 0, none⟩)) ?_
  refine wL M 17 1 rfl 0 5 (p4_0 5 qx qy qz qt 0 rfl) ?_
  refine kv 18 (.pointer (some ⟨g1, 10, none⟩)) ?_
  refine wL M 19 0 rfl 10 5 (p4_2 5 px py pz pt 10 rfl) ?_
  refine wC 20 F.h4 ?_
  refine wC 21 F.h5 ?_
  refine kv 22 (.bool false) ?_
  refine k_skip (want_off 11 true rfl 22 rfl (by kernel_rfl)) (some 23) rfl ?_
  refine k_skip (want_off 11 true rfl 22 rfl (by kernel_rfl)) (some 24) rfl ?_
  refine k_skip (want_off 11 true rfl 22 rfl (by kernel_rfl)) (some 25) rfl ?_
  refine k_skip (want_off 11 true rfl 22 rfl (by kernel_rfl)) (some 26) rfl ?_
  refine k_skip (want_off 11 true rfl 22 rfl (by kernel_rfl)) (some 27) rfl ?_
  refine k_skip (want_off 11 true rfl 22 rfl (by kernel_rfl)) (some 28) rfl ?_
  refine k_skip (want_off 11 true rfl 22 rfl (by kernel_rfl)) (some 29) rfl ?_
  refine k_skip (want_off 11 true rfl 22 rfl (by kernel_rfl)) (some 30) rfl ?_
  refine k_skip (want_off 11 true rfl 22 rfl (by kernel_rfl)) (some 31) rfl ?_
  refine k_skip (want_off 11 true rfl 22 rfl (by kernel_rfl)) (some 32) rfl ?_
  refine k_skip (want_off 11 true rfl 22 rfl (by kernel_rfl)) (some 33) rfl ?_
  refine kv 34 (.bool false) ?_
  refine kl_nil fun w5 M => ?_
  refine pv 4 (.bool false) ?_
  refine nt ?_
  refine wp_ret ?_
  exact bodyPost_ret (v := .bool false) (results_tmp1 Tryz.results38 _ _ _ (by kernel_rfl)) (by kernel_rfl) ⟨rfl, M.old⟩

structure sameTF (px py pz pt qx qy qz qt r1 r2 r3 r4 : Nat → Int) (b5 : Bool) : Prop where
  h1 : ∀ w, Calls Tryz.prog 58 #[.agg (arr 20 (p4 5 px py pz pt))] w fun r w' => r = .returned (.bool false) ∧ Below w.heap.size w w'
  h2 : ∀ w, Calls Tryz.prog 58 #[.agg (arr 20 (p4 5 qx qy qz qt))] w fun r w' => r = .returned (.bool false) ∧ Below w.heap.size w w'
  h3 : ∀ w, Calls Tryz.prog 64 #[.agg (arr 5 px), .agg (arr 5 qz)] w fun r w' => r = .returned (.agg (arr 5 r1)) ∧ Below w.heap.size w w'
  h4 : ∀ w, Calls Tryz.prog 64 #[.agg (arr 5 qx), .agg (arr 5 pz)] w fun r w' => r = .returned (.agg (arr 5 r2)) ∧ Below w.heap.size w w'
  h5 : ∀ w, Calls Tryz.prog 85 #[.agg (arr 5 r1), .agg (arr 5 r2)] w fun r w' => r = .returned (.bool true) ∧ Below w.heap.size w w'
  h6 : ∀ w, Calls Tryz.prog 64 #[.agg (arr 5 py), .agg (arr 5 qz)] w fun r w' => r = .returned (.agg (arr 5 r3)) ∧ Below w.heap.size w w'
  h7 : ∀ w, Calls Tryz.prog 64 #[.agg (arr 5 qy), .agg (arr 5 pz)] w fun r w' => r = .returned (.agg (arr 5 r4)) ∧ Below w.heap.size w w'
  h8 : ∀ w, Calls Tryz.prog 85 #[.agg (arr 5 r3), .agg (arr 5 r4)] w fun r w' => r = .returned (.bool b5) ∧ Below w.heap.size w w'

set_option maxRecDepth 100000 in
set_option maxHeartbeats 4000000 in
theorem sameT_gen (px py pz pt qx qy qz qt r1 r2 r3 r4 : Nat → Int) (b5 : Bool) (w : World) (F : sameTF px py pz pt qx qy qz qt r1 r2 r3 r4 b5)  :
    Calls Tryz.prog 38 #[.agg (arr 20 (p4 5 px py pz pt)), .agg (arr 20 (p4 5 qx qy qz qt))] w fun r w' => r = .returned (.bool b5) ∧ Below w.heap.size w w' := by
  go_enter Tryz.func38, Tryz.ntmps38
  have M := Mem.start w
  refine sr ?_
  refine zN M 2 (.cells (arr 20 (p4 5 px py pz pt)) 60) fun g1 w1 M => ?_
  refine zN M 3 (.cells (arr 20 (p4 5 qx qy qz qt)) 60) fun g2 w2 M => ?_
  refine pv 4 (.bool false) ?_
  refine nt ?_
  refine wp_seq ?_
  refine sr ?_
  refine zA M 5 0 rfl ?_
  refine zC M 6 F.h1 fun w3 M => ?_
  refine pv 7 (.bool false) ?_
  refine pl_load M (want_on 2 false rfl 7 rfl (by kernel_rfl)) (some 8) rfl 60 _ rfl 1 g2 0 (by kernel_rfl) 20 60 (p4 5 qx qy qz qt) rfl 20 (p4 5 qx qy qz qt) (Part.all _ _) (by decide) _ Tryz.underlying60 rfl inz60 ?_
  refine pl_call M (want_on 2 false rfl 7 rfl (by kernel_rfl)) (some 9) rfl 58 #[.agg (arr 20 (p4 5 qx qy qz qt))] (.bool false) (fun _ => by kernel_rfl) F.h2 fun w4 M => ?_
  refine pv 10 (.bool false) ?_
  refine nt ?_
  refine wp_cond_false (by kernel_rfl) ?_
  refine wp_skip ?_
  refine au_then ?_
  refine wp_seq ?_
  refine rg_tail M 24 (by kernel_rfl) (by kernel_rfl) ?_
  simp only [List.take_succ_cons, List.take_zero]
  refine kv 11 (.pointer (some ⟨g1, 0, none⟩)) ?_
  refine wL M 12 0 rfl 0 5 (p4_0 5 px py pz pt 0 rfl) ?_
  refine kv 13 (.pointer (some ⟨g2, 10, none⟩)) ?_
  refine wL M 14 1 rfl 10 5 (p4_2 5 qx qy qz qt 10 rfl) ?_
  refine wC 15 F.h3 ?_
  refine kv 16 (.pointer (some ⟨g2, 0, none⟩)) ?_
  refine wL M 17 1 rfl 0 5 (p4_0 5 qx qy qz qt 0 rfl) ?_
  refine kv 18 (.pointer (some ⟨g1, 10, none⟩)) ?_
  refine wL M 19 0 rfl 10 5 (p4_2 5 px py pz pt 10 rfl) ?_
  refine wC 20 F.h4 ?_
  refine wC 21 F.h5 ?_
  refine kv 22 (.bool true) ?_
  refine k_val (want_on 11 true rfl 22 rfl (by kernel_rfl)) (some 23) rfl (.pointer (some ⟨g1, 5, none⟩)) (fun _ => by kernel_rfl) ?_
  refine k_load M (want_on 11 true rfl 22 rfl (by kernel_rfl)) (some 24) rfl 58 _ rfl 0 g1 5 (by kernel_rfl) 20 60 (p4 5 px py pz pt) rfl 5 py (p4_1 5 px py pz pt 5 rfl) (by decide) _ Tryz.underlying58 rfl inz58 ?_
  refine k_val (want_on 11 true rfl 22 rfl (by kernel_rfl)) (some 25) rfl (.pointer (some ⟨g2, 10, none⟩)) (fun _ => by kernel_rfl) ?_
  refine k_load M (want_on 11 true rfl 22 rfl (by kernel_rfl)) (some 26) rfl 58 _ rfl 1 g2 10 (by kernel_rfl) 20 60 (p4 5 qx qy qz qt) rfl 5 qz (p4_2 5 qx qy qz qt 10 rfl) (by decide) _ Tryz.underlying58 rfl inz58 ?_
  refine k_call (want_on 11 true rfl 22 rfl (by kernel_rfl)) (some 27) rfl 64 #[.agg (arr 5 py), .agg (arr 5 qz)] (.agg (arr 5 r3)) (fun _ => by kernel_rfl) F.h6 ?_
  refine k_val (want_on 11 true rfl 22 rfl (by kernel_rfl)) (some 28) rfl (.pointer (some ⟨g2, 5, none⟩)) (fun _ => by kernel_rfl) ?_
  refine k_load M (want_on 11 true rfl 22 rfl (by kernel_rfl)) (some 29) rfl 58 _ rfl 1 g2 5 (by kernel_rfl) 20 60 (p4 5 qx qy qz qt) rfl 5 qy (p4_1 5 qx qy qz qt 5 rfl) (by decide) _ Tryz.underlying58 rfl inz58 ?_
  refine k_val (want_on 11 true rfl 22 rfl (by kernel_rfl)) (some 30) rfl (.pointer (some ⟨g1, 10, none⟩)) (fun _ => by kernel_rfl) ?_
  refine k_load M (want_on 11 true rfl 22 rfl (by kernel_rfl)) (some 31) rfl 58 _ rfl 0 g1 10 (by kernel_rfl) 20 60 (p4 5 px py pz pt) rfl 5 pz (p4_2 5 px py pz pt 10 rfl) (by decide) _ Tryz.underlying58 rfl inz58 ?_
  refine k_call (want_on 11 true rfl 22 rfl (by kernel_rfl)) (some 32) rfl 64 #[.agg (arr 5 qy), .agg (arr 5 pz)] (.agg (arr 5 r4)) (fun _ => by kernel_rfl) F.h7 ?_
  refine k_call (want_on 11 true rfl 22 rfl (by kernel_rfl)) (some 33) rfl 85 #[.agg (arr 5 r3), .agg (arr 5 r4)] (.bool b5) (fun _ => by kernel_rfl) F.h8 ?_
  refine kv 34 (.bool b5) ?_
  refine kl_nil fun w5 M => ?_
  refine pv 4 (.bool b5) ?_
  refine nt ?_
  refine wp_ret ?_
  exact bodyPost_ret (v := .bool b5) (results_tmp1 Tryz.results38 _ _ _ (by kernel_rfl)) (by kernel_rfl) ⟨rfl, M.old⟩

structure smallNF (px py pz pt : Nat → Int) : Prop where
  h1 : ∀ w, Calls Tryz.prog 58 #[.agg (arr 20 (p4 5 px py pz pt))] w fun r w' => r = .returned (.bool true) ∧ Below w.heap.size w w'

set_option maxRecDepth 100000 in
set_option maxHeartbeats 4000000 in
theorem smallN_gen (px py pz pt : Nat → Int) (w : World) (F : smallNF px py pz pt)  :
    Calls Tryz.prog 35 #[.agg (arr 20 (p4 5 px py pz pt))] w fun r w' => r = .returned (.bool false) ∧ Below w.heap.size w w' := by
  go_enter Tryz.func35, Tryz.ntmps35
  have M := Mem.start w
  refine sr ?_
  refine zN M 1 (.cells (arr 20 (p4 5 px py pz pt)) 60) fun g1 w1 M => ?_
  refine pv 2 (.bool false) ?_
  refine nt ?_
  refine sr ?_
  refine zA M 3 0 rfl ?_
  refine zC M 4 F.h1 fun w2 M => ?_
  refine pv 5 (.bool false) ?_
  refine pv 6 (.bool false) ?_
  refine pl_skip (want_off 3 true rfl 6 rfl (by kernel_rfl)) (some 7) rfl ?_
  refine pl_skip (want_off 3 true rfl 6 rfl (by kernel_rfl)) (some 8) rfl ?_
  refine pl_skip (want_off 3 true rfl 6 rfl (by kernel_rfl)) (some 9) rfl ?_
  refine pl_skip (want_off 3 true rfl 6 rfl (by kernel_rfl)) (some 10) rfl ?_
  refine pv 11 (.bool false) ?_
  refine pv 2 (.bool false) ?_
  refine nt ?_
  refine wp_ret ?_
  exact bodyPost_ret (v := .bool false) (results_tmp1 Tryz.results35 _ _ _ (by kernel_rfl)) (by kernel_rfl) ⟨rfl, M.old⟩

structure smallYF (px py pz pt r1 r2 : Nat → Int) (b3 : Bool) : Prop where
  h1 : ∀ w, Calls Tryz.prog 58 #[.agg (arr 20 (p4 5 px py pz pt))] w fun r w' => r = .returned (.bool false) ∧ Below w.heap.size w w'
  h2 : ∀ w, Calls Tryz.prog 61 #[.agg (arr 20 (p4 5 px py pz pt)), .int .i64 3] w fun r w' => r = .returned (.agg (arr 20 r1)) ∧ Below w.heap.size w w'
  h3 : ∀ w, Calls Tryz.prog 60 #[] w fun r w' => r = .returned (.agg (arr 20 r2)) ∧ Below w.heap.size w w'
  h4 : ∀ w, Calls Tryz.prog 38 #[.agg (arr 20 r1), .agg (arr 20 r2)] w fun r w' => r = .returned (.bool b3) ∧ Below w.heap.size w w'

set_option maxRecDepth 100000 in
set_option maxHeartbeats 4000000 in
theorem smallY_gen (px py pz pt r1 r2 : Nat → Int) (b3 : Bool) (w : World) (F : smallYF px py pz pt r1 r2 b3)  :
    Calls Tryz.prog 35 #[.agg (arr 20 (p4 5 px py pz pt))] w fun r w' => r = .returned (.bool b3) ∧ Below w.heap.size w w' := by
  go_enter Tryz.func35, Tryz.ntmps35
  have M := Mem.start w
  refine sr ?_
  refine zN M 1 (.cells (arr 20 (p4 5 px py pz pt)) 60) fun g1 w1 M => ?_
  refine pv 2 (.bool false) ?_
  refine nt ?_
  refine sr ?_
  refine zA M 3 0 rfl ?_
  refine zC M 4 F.h1 fun w2 M => ?_
  refine pv 5 (.bool true) ?_
  refine pv 6 (.bool true) ?_
  refine pl_load M (want_on 3 true rfl 6 rfl (by kernel_rfl)) (some 7) rfl 60 _ rfl 0 g1 0 (by kernel_rfl) 20 60 (p4 5 px py pz pt) rfl 20 (p4 5 px py pz pt) (Part.all _ _) (by decide) _ Tryz.underlying60 rfl inz60 ?_
  refine pl_call M (want_on 3 true rfl 6 rfl (by kernel_rfl)) (some 8) rfl 61 #[.agg (arr 20 (p4 5 px py pz pt)), .int .i64 3] (.agg (arr 20 r1)) (fun _ => by kernel_rfl) F.h2 fun w3 M => ?_
  refine pl_call M (want_on 3 true rfl 6 rfl (by kernel_rfl)) (some 9) rfl 60 #[] (.agg (arr 20 r2)) (fun _ => by kernel_rfl) F.h3 fun w4 M => ?_
  refine pl_call M (want_on 3 true rfl 6 rfl (by kernel_rfl)) (some 10) rfl 38 #[.agg (arr 20 r1), .agg (arr 20 r2)] (.bool b3) (fun _ => by kernel_rfl) F.h4 fun w5 M => ?_
  refine pv 11 (.bool b3) ?_
  refine pv 2 (.bool b3) ?_
  refine nt ?_
  refine wp_ret ?_
  exact bodyPost_ret (v := .bool b3) (results_tmp1 Tryz.results35 _ _ _ (by kernel_rfl)) (by kernel_rfl) ⟨rfl, M.old⟩


end Go.Proofs.YtmhfmhmpoobmlaaGreatDoor

/- The contract of Canonical: which bytes are a number's below the prime. -/
namespace Go.Proofs.YtmhfmhmpoobmlaaGreatDoor
open Go.RowKit

theorem by16_bd (f : Nat → Int) (i : Nat) : 0 ≤ by16 f i ∧ by16 f i < 256 := by unfold by16; omega

theorem by16_pt (s : ByteArray) (i : Nat) (hi : i < 32) : by16 (pt s 32) i = bt s i := by
  have hc : (∃ j, i = 2 * j) ∨ ∃ j, i = 2 * j + 1 := by
    have : i % 2 = 0 ∨ i % 2 = 1 := by omega
    rcases this with h | h
    · exact .inl ⟨i / 2, by omega⟩
    · exact .inr ⟨i / 2, by omega⟩
  rcases hc with ⟨j, rfl⟩ | ⟨j, rfl⟩
  · have h0 := bt_bd s (2 * j)
    have h1 := bt_bd s (2 * j + 1)
    unfold by16 pt
    rw [show 2 * j / 2 = j by omega, show 2 * j % 2 = 0 by omega, if_pos (by omega), if_pos (by omega)]
    simp
    omega
  · have h0 := bt_bd s (2 * j)
    have h1 := bt_bd s (2 * j + 1)
    unfold by16 pt
    rw [show (2 * j + 1) / 2 = j by omega, show (2 * j + 1) % 2 = 1 by omega, if_pos (by omega), if_pos (by omega)]
    simp
    omega

theorem rb_get (f : Nat → Int) (i : Nat) (hi : i < 32) : (rb f 32)[i]? = some (by16 f i) := by
  simp [rb, hi]

theorem bs_get (l : List Int) (i : Nat) : (bs l).data[i]? = l[i]?.map fun n => UInt8.ofNat n.toNat := by
  simp [bs]

theorem rb_val (s : ByteArray) (hs : s.size = 32) : bs (rb (pt s 32) 32) = s := by
  have hd : (bs (rb (pt s 32) 32)).data = s.data := by
    apply Array.ext_getElem?
    intro i
    rw [bs_get]
    have hs' : s.data.size = 32 := hs
    by_cases hi : i < 32
    · rw [rb_get _ i hi, by16_pt s i hi, Array.getElem?_eq_getElem (by omega)]
      simp only [Option.map_some, bt]
      rw [Array.getElem?_eq_getElem (by omega)]
      simp
    · rw [List.getElem?_eq_none (by rw [rb_len]; omega), Array.getElem?_eq_none (by omega)]
      rfl
  cases s
  unfold bs at *
  simp only at hd
  rw [hd]

theorem u8_inj {a b : Int} (ha : 0 ≤ a ∧ a < 256) (hb : 0 ≤ b ∧ b < 256) (h : UInt8.ofNat a.toNat = UInt8.ofNat b.toNat) : a = b := by
  have h2 := congrArg UInt8.toNat h
  simp only [UInt8.toNat_ofNat'] at h2
  omega

theorem rb_inj {f g : Nat → Int} (hf : Dig f 16) (hg : Dig g 16) (h : bs (rb f 32) = bs (rb g 32)) : S f 16 = S g 16 := by
  have hb : ∀ i, i < 32 → by16 f i = by16 g i := fun i hi => by
    have e := congrArg (fun s : ByteArray => s.data[i]?) h
    simp only [bs_get, rb_get _ i hi, Option.map_some, Option.some.injEq] at e
    exact u8_inj (by16_bd f i) (by16_bd g i) e
  refine S_congr fun j hj => ?_
  have a := hf j hj
  have b := hg j hj
  have h0 := hb (2 * j) (by omega)
  have h1 := hb (2 * j + 1) (by omega)
  unfold by16 at h0 h1
  rw [show 2 * j / 2 = j by omega, show 2 * j % 2 = 0 by omega] at h0
  rw [show (2 * j + 1) / 2 = j by omega, show (2 * j + 1) % 2 = 1 by omega] at h1
  simp at h0 h1
  omega

theorem canonR (s : ByteArray) (hs : s.size = 32) : ((lebytes ((ofF s).n % Pm)).toList == s.toList) = decide (val s < Pm) := by
  have hC := (ofF_n s).emod
  rw [hC]
  have hN0 : 0 ≤ val s % Pm := Int.emod_nonneg _ (by decide)
  have hN1 : val s % Pm < Pm := Int.emod_lt_of_pos _ (by decide)
  have hP : Pm < 65536 ^ 16 := by decide
  have e1 : S (d16 (val s % Pm)) 16 = val s % Pm := by rw [d16_S _ hN0, Int.emod_eq_of_lt hN0 (by omega)]
  have e2 : lebytes (val s % Pm) = bs (rb (d16 (val s % Pm)) 32) := by rw [← lebytes_S (d16_dig _ 16), e1]
  rw [Bool.eq_iff_iff, beq_iff_eq, decide_eq_true_eq]
  constructor
  · intro h
    have h' : lebytes (val s % Pm) = s := by
      rw [ByteArray.toList_eq, ByteArray.toList_eq] at h
      have h3 : (lebytes (val s % Pm)).data = s.data := Array.toList_inj.1 h
      generalize lebytes (val s % Pm) = L at *
      cases L
      cases s
      simp only at h3
      rw [h3]
    rw [e2] at h'
    have h4 := rb_inj (d16_dig _ 16) (pt_dig s 32) (h'.trans (rb_val s hs).symm)
    rw [e1, pt_S] at h4
    omega
  · intro h
    have hv : 0 ≤ val s := by rw [← pt_S]; exact (S_bd (pt_dig s 32)).1
    rw [Int.emod_eq_of_lt hv h, ← pt_S, lebytes_S (pt_dig s 32), rb_val s hs]

set_option maxRecDepth 100000 in
set_option maxHeartbeats 1000000 in
theorem canon_yes (s : ByteArray) (w : World) (hs : s.size = 32) :
    Calls Tryz.prog 77 #[.string s] w fun r w' => r = .returned (.bool (decide (val s < Pm))) ∧ Below w.heap.size w w' := by
  have HR := hide (canonR s hs)
  go_enter Tryz.func77, Tryz.ntmps77
  go_wp2_with fail
  refine (of_yes s _ hs).mono ?_
  rintro _ w1 ⟨rfl, O⟩
  have kx := ofF_ok s
  generalize ofF s = x at *
  have O' := hide (O.trans ((new_below w1 (.cells #[.int .u64 x.a, .int .u64 x.b, .int .u64 x.c, .int .u64 x.d, .int .u64 x.e] 58)).mono O.size))
  clear O
  go_wp2_with fail
  refine (bytes_any x _ kx).mono ?_
  rintro _ w2 ⟨rfl, hb⟩
  have O := O'.out.trans (hb.mono O'.out.size)
  clear hb O'
  generalize lebytes (x.n % Pm) = B at *
  generalize hd : decide (val s < Pm) = d at *
  have HD := hide hd
  clear hd
  have e := HR.out
  clear HR
  go_wp2
  go_ret
  exact ⟨by rw [HD.out]; rfl, O⟩

end Go.Proofs.YtmhfmhmpoobmlaaGreatDoor

/- What strings.Repeat hands back of one byte, 31 times. -/
namespace Go.Proofs.YtmhfmhmpoobmlaaGreatDoor
open Go.Shelf Go.RowKit
def repRen : Go.Shelf.Ren := ⟨fun | 105 => 57 | 212 => 103 | 99 => 104 | 165 => 105 | 166 => 106 | 170 => 107 | 169 => 108 | 263 => 139 | 264 => 140 | 206 => 141 | 240 => 142 | 241 => 143 | 276 => 147 | 277 => 148 | n => n, fun | 9 => 9 | 3 => 3 | 4 => 4 | 20 => 20 | 0 => 0 | 46 => 39 | 109 => 128 | 5 => 5 | 72 => 132 | 76 => 136 | 51 => 113 | 146 => 162 | 53 => 34 | 148 => 150 | 70 => 130 | 37 => 32 | 75 => 135 | 127 => 165 | 164 => 168 | 80 => 40 | n => n, fun | n => n⟩
theorem repLays : Go.Proofs.Lays.n105 Tryz.prog repRen := {
  mixed := by kernel_rfl
  f99 := Tryz.func104.trans (congrArg some (by kernel_rfl))
  f105 := Tryz.func57.trans (congrArg some (by kernel_rfl))
  f165 := Tryz.func105.trans (congrArg some (by kernel_rfl))
  f166 := Tryz.func106.trans (congrArg some (by kernel_rfl))
  f169 := Tryz.func108.trans (congrArg some (by kernel_rfl))
  f170 := Tryz.func107.trans (congrArg some (by kernel_rfl))
  f206 := Tryz.func141.trans (congrArg some (by kernel_rfl))
  f212 := Tryz.func103.trans (congrArg some (by kernel_rfl))
  f240 := Tryz.func142.trans (congrArg some (by kernel_rfl))
  f241 := Tryz.func143.trans (congrArg some (by kernel_rfl))
  f263 := Tryz.func139.trans (congrArg some (by kernel_rfl))
  f264 := Tryz.func140.trans (congrArg some (by kernel_rfl))
  f276 := Tryz.func147.trans (congrArg some (by kernel_rfl))
  f277 := Tryz.func148.trans (congrArg some (by kernel_rfl))
  t0 := Tryz.underlying0
  a0 := Tryz.isAgg0
  z0 := Tryz.sizeOf0
  v0 := Tryz.zeroValue0
  t3 := Tryz.underlying3
  a3 := Tryz.isAgg3
  z3 := Tryz.sizeOf3
  v3 := Tryz.zeroValue3
  t4 := Tryz.underlying4
  a4 := Tryz.isAgg4
  z4 := Tryz.sizeOf4
  v4 := Tryz.zeroValue4
  t5 := Tryz.underlying5
  a5 := Tryz.isAgg5
  z5 := Tryz.sizeOf5
  v5 := Tryz.zeroValue5
  t9 := Tryz.underlying9
  a9 := Tryz.isAgg9
  z9 := Tryz.sizeOf9
  v9 := Tryz.zeroValue9
  t20 := Tryz.underlying20
  a20 := Tryz.isAgg20
  z20 := Tryz.sizeOf20
  v20 := Tryz.zeroValue20
  t37 := Tryz.underlying32
  a37 := Tryz.isAgg32
  z37 := Tryz.sizeOf32
  v37 := Tryz.zeroValue32
  t46 := Tryz.underlying39
  a46 := Tryz.isAgg39
  z46 := Tryz.sizeOf39
  v46 := Tryz.zeroValue39
  t51 := Tryz.underlying113
  a51 := Tryz.isAgg113
  z51 := Tryz.sizeOf113
  v51 := Tryz.zeroValue113
  t53 := Tryz.underlying34
  a53 := Tryz.isAgg34
  z53 := Tryz.sizeOf34
  v53 := Tryz.zeroValue34
  t70 := Tryz.underlying130
  a70 := Tryz.isAgg130
  z70 := Tryz.sizeOf130
  v70 := Tryz.zeroValue130
  t72 := Tryz.underlying132
  a72 := Tryz.isAgg132
  z72 := Tryz.sizeOf132
  v72 := Tryz.zeroValue132
  t75 := Tryz.underlying135
  a75 := Tryz.isAgg135
  z75 := Tryz.sizeOf135
  v75 := Tryz.zeroValue135
  t76 := Tryz.underlying136
  a76 := Tryz.isAgg136
  z76 := Tryz.sizeOf136
  v76 := Tryz.zeroValue136
  t109 := Tryz.underlying128
  a109 := Tryz.isAgg128
  z109 := Tryz.sizeOf128
  v109 := Tryz.zeroValue128
  t127 := Tryz.underlying165
  a127 := Tryz.isAgg165
  z127 := Tryz.sizeOf165
  v127 := Tryz.zeroValue165
  t146 := Tryz.underlying162
  a146 := Tryz.isAgg162
  z146 := Tryz.sizeOf162
  v146 := Tryz.zeroValue162
  t148 := Tryz.underlying150
  a148 := Tryz.isAgg150
  z148 := Tryz.sizeOf150
  v148 := Tryz.zeroValue150
  t164 := Tryz.underlying168
  a164 := Tryz.isAgg168
  z164 := Tryz.sizeOf168
  v164 := Tryz.zeroValue168 }
theorem repExtra : Builder.Extra Tryz.prog repRen := {
  sizeBuilder := by kernel_rfl
  liesBuilder := by kernel_rfl
  t5 := Tryz.underlying5
  a5 := Tryz.isAgg5
  z5 := Tryz.sizeOf5
  v5 := Tryz.zeroValue5
  infoByte := by kernel_rfl
  cellsByte := by kernel_rfl
  sizeByte := by kernel_rfl
  neB5 := by decide }

theorem rep_31 (w : World) : Calls Tryz.prog 57 #[.string s102, .int .i64 31] w fun r w' => r = .returned (.string f31S) ∧ Below w.heap.size w w' := by
  have h := Any.strings_Repeat_main repLays repExtra s102 31 w (by decide) (by decide) (by decide) (by decide)
  have e : (⟨(Lib.repeatL s102.data.toList 31).toArray⟩ : ByteArray) = f31S := by decide +kernel
  rw [e] at h
  exact h

end Go.Proofs.YtmhfmhmpoobmlaaGreatDoor

/- The points of the program as values: the contracts of plus, double and pointOf. -/
namespace Go.Proofs.YtmhfmhmpoobmlaaGreatDoor
open Go.RowKit

/-- A number's words, by their places. -/
def E5.f (x : E5) : Nat → Int := fun i => [x.a, x.b, x.c, x.d, x.e].getD i 0
/-- A point: four numbers. -/
structure P5 where
  x : E5
  y : E5
  z : E5
  t : E5
def P5.f (p : P5) : Nat → Int := p4 5 p.x.f p.y.f p.z.f p.t.f
structure P5.Ok (p : P5) : Prop where
  x : p.x.Ok
  y : p.y.Ok
  z : p.z.Ok
  t : p.t.Ok
def none5 : P5 := ⟨zeroE, zeroE, zeroE, zeroE⟩
def dF : E5 := ofF dBy
theorem dF_ok : dF.Ok := ofF_ok _
theorem dBy_size : dBy.size = 32 := by decide
theorem c_factor (w : World) : Calls Tryz.prog 113 #[] w fun r w' => r = .returned (.agg (arr 5 dF.f)) ∧ Below w.heap.size w w' :=
  factor_gen dF.f w ⟨fun w => of_yes dBy w dBy_size⟩

def pointF (x y : E5) : P5 := ⟨x, y, smallF 1, mulF x y⟩
def zero5 : P5 := pointF zeroE (smallF 1)
def sumF (p q : P5) : P5 :=
  let a := mulF (subF p.y p.x) (subF q.y q.x)
  let b := mulF (addF p.y p.x) (addF q.y q.x)
  let c := mulF (mulF dF p.t) (addF q.t q.t)
  let d := mulF p.z (addF q.z q.z)
  ⟨mulF (subF b a) (subF d c), mulF (addF d c) (addF b a), mulF (subF d c) (addF d c), mulF (subF b a) (addF b a)⟩
def dblF (p : P5) : P5 :=
  let a := mulF p.x p.x
  let b := mulF p.y p.y
  let c := mulF p.z (addF p.z p.z)
  let s := addF p.x p.y
  let h := addF a b
  let g := subF a b
  let e := subF h (mulF s s)
  let f := addF c g
  ⟨mulF e f, mulF g h, mulF f g, mulF e h⟩
theorem one_ok : (smallF 1).Ok := smallF_ok (by decide) (by decide)
theorem pointF_ok {x y : E5} (hx : x.Ok) (hy : y.Ok) : (pointF x y).Ok := ⟨hx, hy, one_ok, mulF_ok hx hy⟩
theorem zero5_ok : zero5.Ok := pointF_ok zeroE_ok one_ok
theorem sumF_ok {p q : P5} (hp : p.Ok) (hq : q.Ok) : (sumF p q).Ok := by
  have a := mulF_ok (subF_ok hp.y hp.x) (subF_ok hq.y hq.x)
  have b := mulF_ok (addF_ok hp.y hp.x) (addF_ok hq.y hq.x)
  have c := mulF_ok (mulF_ok dF_ok hp.t) (addF_ok hq.t hq.t)
  have d := mulF_ok hp.z (addF_ok hq.z hq.z)
  exact ⟨mulF_ok (subF_ok b a) (subF_ok d c), mulF_ok (addF_ok d c) (addF_ok b a), mulF_ok (subF_ok d c) (addF_ok d c), mulF_ok (subF_ok b a) (addF_ok b a)⟩
theorem dblF_ok {p : P5} (hp : p.Ok) : (dblF p).Ok := by
  have a := mulF_ok hp.x hp.x
  have b := mulF_ok hp.y hp.y
  have c := mulF_ok hp.z (addF_ok hp.z hp.z)
  have s := addF_ok hp.x hp.y
  have h := addF_ok a b
  have g := subF_ok a b
  have e := subF_ok h (mulF_ok s s)
  have f := addF_ok c g
  exact ⟨mulF_ok e f, mulF_ok g h, mulF_ok f g, mulF_ok e h⟩

theorem c_plus (p q : P5) (w : World) (hp : p.Ok) (hq : q.Ok) : Calls Tryz.prog 62 #[.agg (arr 20 p.f), .agg (arr 20 q.f)] w fun r w' => r = .returned (.agg (arr 20 (sumF p q).f)) ∧ Below w.heap.size w w' :=
  plus_gen p.x.f p.y.f p.z.f p.t.f q.x.f q.y.f q.z.f q.t.f (subF p.y p.x).f (subF q.y q.x).f (mulF (subF p.y p.x) (subF q.y q.x)).f (addF p.y p.x).f (addF q.y q.x).f (mulF (addF p.y p.x) (addF q.y q.x)).f dF.f (mulF dF p.t).f (addF q.t q.t).f (mulF (mulF dF p.t) (addF q.t q.t)).f (addF q.z q.z).f (mulF p.z (addF q.z q.z)).f (subF (mulF (addF p.y p.x) (addF q.y q.x)) (mulF (subF p.y p.x) (subF q.y q.x))).f (subF (mulF p.z (addF q.z q.z)) (mulF (mulF dF p.t) (addF q.t q.t))).f (addF (mulF p.z (addF q.z q.z)) (mulF (mulF dF p.t) (addF q.t q.t))).f (addF (mulF (addF p.y p.x) (addF q.y q.x)) (mulF (subF p.y p.x) (subF q.y q.x))).f (mulF (subF (mulF (addF p.y p.x) (addF q.y q.x)) (mulF (subF p.y p.x) (subF q.y q.x))) (subF (mulF p.z (addF q.z q.z)) (mulF (mulF dF p.t) (addF q.t q.t)))).f (mulF (addF (mulF p.z (addF q.z q.z)) (mulF (mulF dF p.t) (addF q.t q.t))) (addF (mulF (addF p.y p.x) (addF q.y q.x)) (mulF (subF p.y p.x) (subF q.y q.x)))).f (mulF (subF (mulF p.z (addF q.z q.z)) (mulF (mulF dF p.t) (addF q.t q.t))) (addF (mulF p.z (addF q.z q.z)) (mulF (mulF dF p.t) (addF q.t q.t)))).f (mulF (subF (mulF (addF p.y p.x) (addF q.y q.x)) (mulF (subF p.y p.x) (subF q.y q.x))) (addF (mulF (addF p.y p.x) (addF q.y q.x)) (mulF (subF p.y p.x) (subF q.y q.x)))).f w { h1 := fun w => sub_any p.y p.x w hp.y hp.x, h2 := fun w => sub_any q.y q.x w hq.y hq.x, h3 := fun w => mul_any (subF p.y p.x) (subF q.y q.x) w (subF_ok hp.y hp.x) (subF_ok hq.y hq.x), h4 := fun w => add_any p.y p.x w hp.y hp.x, h5 := fun w => add_any q.y q.x w hq.y hq.x, h6 := fun w => mul_any (addF p.y p.x) (addF q.y q.x) w (addF_ok hp.y hp.x) (addF_ok hq.y hq.x), h7 := fun w => c_factor w, h8 := fun w => mul_any dF p.t w dF_ok hp.t, h9 := fun w => add_any q.t q.t w hq.t hq.t, h10 := fun w => mul_any (mulF dF p.t) (addF q.t q.t) w (mulF_ok dF_ok hp.t) (addF_ok hq.t hq.t), h11 := fun w => add_any q.z q.z w hq.z hq.z, h12 := fun w => mul_any p.z (addF q.z q.z) w hp.z (addF_ok hq.z hq.z), h13 := fun w => sub_any (mulF (addF p.y p.x) (addF q.y q.x)) (mulF (subF p.y p.x) (subF q.y q.x)) w (mulF_ok (addF_ok hp.y hp.x) (addF_ok hq.y hq.x)) (mulF_ok (subF_ok hp.y hp.x) (subF_ok hq.y hq.x)), h14 := fun w => sub_any (mulF p.z (addF q.z q.z)) (mulF (mulF dF p.t) (addF q.t q.t)) w (mulF_ok hp.z (addF_ok hq.z hq.z)) (mulF_ok (mulF_ok dF_ok hp.t) (addF_ok hq.t hq.t)), h15 := fun w => add_any (mulF p.z (addF q.z q.z)) (mulF (mulF dF p.t) (addF q.t q.t)) w (mulF_ok hp.z (addF_ok hq.z hq.z)) (mulF_ok (mulF_ok dF_ok hp.t) (addF_ok hq.t hq.t)), h16 := fun w => add_any (mulF (addF p.y p.x) (addF q.y q.x)) (mulF (subF p.y p.x) (subF q.y q.x)) w (mulF_ok (addF_ok hp.y hp.x) (addF_ok hq.y hq.x)) (mulF_ok (subF_ok hp.y hp.x) (subF_ok hq.y hq.x)), h17 := fun w => mul_any (subF (mulF (addF p.y p.x) (addF q.y q.x)) (mulF (subF p.y p.x) (subF q.y q.x))) (subF (mulF p.z (addF q.z q.z)) (mulF (mulF dF p.t) (addF q.t q.t))) w (subF_ok (mulF_ok (addF_ok hp.y hp.x) (addF_ok hq.y hq.x)) (mulF_ok (subF_ok hp.y hp.x) (subF_ok hq.y hq.x))) (subF_ok (mulF_ok hp.z (addF_ok hq.z hq.z)) (mulF_ok (mulF_ok dF_ok hp.t) (addF_ok hq.t hq.t))), h18 := fun w => mul_any (addF (mulF p.z (addF q.z q.z)) (mulF (mulF dF p.t) (addF q.t q.t))) (addF (mulF (addF p.y p.x) (addF q.y q.x)) (mulF (subF p.y p.x) (subF q.y q.x))) w (addF_ok (mulF_ok hp.z (addF_ok hq.z hq.z)) (mulF_ok (mulF_ok dF_ok hp.t) (addF_ok hq.t hq.t))) (addF_ok (mulF_ok (addF_ok hp.y hp.x) (addF_ok hq.y hq.x)) (mulF_ok (subF_ok hp.y hp.x) (subF_ok hq.y hq.x))), h19 := fun w => mul_any (subF (mulF p.z (addF q.z q.z)) (mulF (mulF dF p.t) (addF q.t q.t))) (addF (mulF p.z (addF q.z q.z)) (mulF (mulF dF p.t) (addF q.t q.t))) w (subF_ok (mulF_ok hp.z (addF_ok hq.z hq.z)) (mulF_ok (mulF_ok dF_ok hp.t) (addF_ok hq.t hq.t))) (addF_ok (mulF_ok hp.z (addF_ok hq.z hq.z)) (mulF_ok (mulF_ok dF_ok hp.t) (addF_ok hq.t hq.t))), h20 := fun w => mul_any (subF (mulF (addF p.y p.x) (addF q.y q.x)) (mulF (subF p.y p.x) (subF q.y q.x))) (addF (mulF (addF p.y p.x) (addF q.y q.x)) (mulF (subF p.y p.x) (subF q.y q.x))) w (subF_ok (mulF_ok (addF_ok hp.y hp.x) (addF_ok hq.y hq.x)) (mulF_ok (subF_ok hp.y hp.x) (subF_ok hq.y hq.x))) (addF_ok (mulF_ok (addF_ok hp.y hp.x) (addF_ok hq.y hq.x)) (mulF_ok (subF_ok hp.y hp.x) (subF_ok hq.y hq.x))) }
theorem c_double (p : P5) (w : World) (hp : p.Ok) : Calls Tryz.prog 110 #[.agg (arr 20 p.f)] w fun r w' => r = .returned (.agg (arr 20 (dblF p).f)) ∧ Below w.heap.size w w' :=
  double_gen p.x.f p.y.f p.z.f p.t.f (mulF p.x p.x).f (mulF p.y p.y).f (addF p.z p.z).f (mulF p.z (addF p.z p.z)).f (addF p.x p.y).f (addF (mulF p.x p.x) (mulF p.y p.y)).f (subF (mulF p.x p.x) (mulF p.y p.y)).f (mulF (addF p.x p.y) (addF p.x p.y)).f (subF (addF (mulF p.x p.x) (mulF p.y p.y)) (mulF (addF p.x p.y) (addF p.x p.y))).f (addF (mulF p.z (addF p.z p.z)) (subF (mulF p.x p.x) (mulF p.y p.y))).f (mulF (subF (addF (mulF p.x p.x) (mulF p.y p.y)) (mulF (addF p.x p.y) (addF p.x p.y))) (addF (mulF p.z (addF p.z p.z)) (subF (mulF p.x p.x) (mulF p.y p.y)))).f (mulF (subF (mulF p.x p.x) (mulF p.y p.y)) (addF (mulF p.x p.x) (mulF p.y p.y))).f (mulF (addF (mulF p.z (addF p.z p.z)) (subF (mulF p.x p.x) (mulF p.y p.y))) (subF (mulF p.x p.x) (mulF p.y p.y))).f (mulF (subF (addF (mulF p.x p.x) (mulF p.y p.y)) (mulF (addF p.x p.y) (addF p.x p.y))) (addF (mulF p.x p.x) (mulF p.y p.y))).f w { h1 := fun w => mul_any p.x p.x w hp.x hp.x, h2 := fun w => mul_any p.y p.y w hp.y hp.y, h3 := fun w => add_any p.z p.z w hp.z hp.z, h4 := fun w => mul_any p.z (addF p.z p.z) w hp.z (addF_ok hp.z hp.z), h5 := fun w => add_any p.x p.y w hp.x hp.y, h6 := fun w => add_any (mulF p.x p.x) (mulF p.y p.y) w (mulF_ok hp.x hp.x) (mulF_ok hp.y hp.y), h7 := fun w => sub_any (mulF p.x p.x) (mulF p.y p.y) w (mulF_ok hp.x hp.x) (mulF_ok hp.y hp.y), h8 := fun w => mul_any (addF p.x p.y) (addF p.x p.y) w (addF_ok hp.x hp.y) (addF_ok hp.x hp.y), h9 := fun w => sub_any (addF (mulF p.x p.x) (mulF p.y p.y)) (mulF (addF p.x p.y) (addF p.x p.y)) w (addF_ok (mulF_ok hp.x hp.x) (mulF_ok hp.y hp.y)) (mulF_ok (addF_ok hp.x hp.y) (addF_ok hp.x hp.y)), h10 := fun w => add_any (mulF p.z (addF p.z p.z)) (subF (mulF p.x p.x) (mulF p.y p.y)) w (mulF_ok hp.z (addF_ok hp.z hp.z)) (subF_ok (mulF_ok hp.x hp.x) (mulF_ok hp.y hp.y)), h11 := fun w => mul_any (subF (addF (mulF p.x p.x) (mulF p.y p.y)) (mulF (addF p.x p.y) (addF p.x p.y))) (addF (mulF p.z (addF p.z p.z)) (subF (mulF p.x p.x) (mulF p.y p.y))) w (subF_ok (addF_ok (mulF_ok hp.x hp.x) (mulF_ok hp.y hp.y)) (mulF_ok (addF_ok hp.x hp.y) (addF_ok hp.x hp.y))) (addF_ok (mulF_ok hp.z (addF_ok hp.z hp.z)) (subF_ok (mulF_ok hp.x hp.x) (mulF_ok hp.y hp.y))), h12 := fun w => mul_any (subF (mulF p.x p.x) (mulF p.y p.y)) (addF (mulF p.x p.x) (mulF p.y p.y)) w (subF_ok (mulF_ok hp.x hp.x) (mulF_ok hp.y hp.y)) (addF_ok (mulF_ok hp.x hp.x) (mulF_ok hp.y hp.y)), h13 := fun w => mul_any (addF (mulF p.z (addF p.z p.z)) (subF (mulF p.x p.x) (mulF p.y p.y))) (subF (mulF p.x p.x) (mulF p.y p.y)) w (addF_ok (mulF_ok hp.z (addF_ok hp.z hp.z)) (subF_ok (mulF_ok hp.x hp.x) (mulF_ok hp.y hp.y))) (subF_ok (mulF_ok hp.x hp.x) (mulF_ok hp.y hp.y)), h14 := fun w => mul_any (subF (addF (mulF p.x p.x) (mulF p.y p.y)) (mulF (addF p.x p.y) (addF p.x p.y))) (addF (mulF p.x p.x) (mulF p.y p.y)) w (subF_ok (addF_ok (mulF_ok hp.x hp.x) (mulF_ok hp.y hp.y)) (mulF_ok (addF_ok hp.x hp.y) (addF_ok hp.x hp.y))) (addF_ok (mulF_ok hp.x hp.x) (mulF_ok hp.y hp.y)) }
theorem c_pointOf (x y : E5) (w : World) (hx : x.Ok) (hy : y.Ok) : Calls Tryz.prog 81 #[.agg (arr 5 x.f), .agg (arr 5 y.f)] w fun r w' => r = .returned (.agg (arr 20 (pointF x y).f)) ∧ Below w.heap.size w w' :=
  pointOf_gen x.f y.f (smallF 1).f (mulF x y).f w { h1 := fun w => small_any 1 w (by decide) (by decide), h2 := fun w => mul_any x y w hx hy }
theorem c_zero (w : World) : Calls Tryz.prog 60 #[] w fun r w' => r = .returned (.agg (arr 20 zero5.f)) ∧ Below w.heap.size w w' :=
  zero_gen (smallF 1).f zero5.f w { h1 := fun w => small_any 1 w (by decide) (by decide), h2 := fun w => c_pointOf zeroE (smallF 1) w zeroE_ok one_ok }
def noneB (p : P5) : Bool := p.z.n % Pm == 0
theorem c_none (p : P5) (w : World) (hp : p.Ok) : Calls Tryz.prog 58 #[.agg (arr 20 p.f)] w fun r w' => r = .returned (.bool (noneB p)) ∧ Below w.heap.size w w' :=
  none_gen p.x.f p.y.f p.z.f p.t.f _ w ⟨fun w => by
    have h := same_any p.z zeroE w hp.z zeroE_ok
    rw [zeroE_n] at h
    exact h⟩
theorem none_b {p : P5} (hp : p.Ok) {b : Bool} (h : noneB p = b) : ∀ w, Calls Tryz.prog 58 #[.agg (arr 20 (p4 5 p.x.f p.y.f p.z.f p.t.f))] w fun r w' => r = .returned (.bool b) ∧ Below w.heap.size w w' := fun w => by
  subst h
  exact c_none p w hp

/-- What the exported calls answer. -/
def addV (p q : P5) : P5 := if noneB p then none5 else if noneB q then none5 else sumF p q
def eqE (x y : E5) : Bool := x.n % Pm == y.n % Pm
def sameV (p q : P5) : Bool := !noneB p && (!noneB q && (eqE (mulF p.x q.z) (mulF q.x p.z) && eqE (mulF p.y q.z) (mulF q.y p.z)))
theorem same_b {x y : E5} (hx : x.Ok) (hy : y.Ok) {b : Bool} (h : eqE x y = b) : ∀ w, Calls Tryz.prog 85 #[.agg (arr 5 x.f), .agg (arr 5 y.f)] w fun r w' => r = .returned (.bool b) ∧ Below w.heap.size w w' := fun w => by
  subst h
  exact same_any x y w hx hy
theorem c_add (p q : P5) (w : World) (hp : p.Ok) (hq : q.Ok) : Calls Tryz.prog 39 #[.agg (arr 20 p.f), .agg (arr 20 q.f)] w fun r w' => r = .returned (.agg (arr 20 (addV p q).f)) ∧ Below w.heap.size w w' := by
  unfold addV
  cases h1 : noneB p
  · cases h2 : noneB q
    · exact addY_gen _ _ _ _ _ _ _ _ _ w { h1 := none_b hp h1, h2 := none_b hq h2, h3 := fun w => c_plus p q w hp hq }
    · exact addN2_gen _ _ _ _ _ _ _ _ w { h1 := none_b hp h1, h2 := none_b hq h2 }
  · exact addN1_gen _ _ _ _ q.x.f q.y.f q.z.f q.t.f w { h1 := none_b hp h1 }
theorem c_same (p q : P5) (w : World) (hp : p.Ok) (hq : q.Ok) : Calls Tryz.prog 38 #[.agg (arr 20 p.f), .agg (arr 20 q.f)] w fun r w' => r = .returned (.bool (sameV p q)) ∧ Below w.heap.size w w' := by
  unfold sameV
  cases h1 : noneB p
  · cases h2 : noneB q
    · cases h3 : eqE (mulF p.x q.z) (mulF q.x p.z)
      · exact sameF_gen p.x.f p.y.f p.z.f p.t.f q.x.f q.y.f q.z.f q.t.f (mulF p.x q.z).f (mulF q.x p.z).f w { h1 := none_b hp h1, h2 := none_b hq h2, h3 := fun w => mul_any p.x q.z w hp.x hq.z, h4 := fun w => mul_any q.x p.z w hq.x hp.z, h5 := same_b (mulF_ok hp.x hq.z) (mulF_ok hq.x hp.z) h3 }
      · exact sameT_gen p.x.f p.y.f p.z.f p.t.f q.x.f q.y.f q.z.f q.t.f (mulF p.x q.z).f (mulF q.x p.z).f (mulF p.y q.z).f (mulF q.y p.z).f _ w { h1 := none_b hp h1, h2 := none_b hq h2, h3 := fun w => mul_any p.x q.z w hp.x hq.z, h4 := fun w => mul_any q.x p.z w hq.x hp.z, h5 := same_b (mulF_ok hp.x hq.z) (mulF_ok hq.x hp.z) h3, h6 := fun w => mul_any p.y q.z w hp.y hq.z, h7 := fun w => mul_any q.y p.z w hq.y hp.z, h8 := same_b (mulF_ok hp.y hq.z) (mulF_ok hq.y hp.z) rfl }
    · exact sameN2_gen _ _ _ _ _ _ _ _ w { h1 := none_b hp h1, h2 := none_b hq h2 }
  · exact sameN1_gen _ _ _ _ q.x.f q.y.f q.z.f q.t.f w { h1 := none_b hp h1 }

end Go.Proofs.YtmhfmhmpoobmlaaGreatDoor

/- Decode, Bytes, Base and Small of the program as values. -/
namespace Go.Proofs.YtmhfmhmpoobmlaaGreatDoor
open Go.RowKit

/-- The bytes without the highest bit, and whether that is set. -/
def cutF (s : ByteArray) : Nat → Int := upd (bt s) 31 (bits .andNot .u8 (bt s 31) 128)
def cutS (s : ByteArray) : ByteArray := bs ((List.range 32).map (cutF s))
def oddB (s : ByteArray) : Bool := !(decide (bits .and .u8 (bt s 31) 128 = 0))
theorem bits_bd {x : Int} (h0 : 0 ≤ x) (h1 : x < 256) : (0 ≤ bits .andNot .u8 x 128 ∧ bits .andNot .u8 x 128 < 256) ∧ (0 ≤ bits .or .u8 x 128 ∧ bits .or .u8 x 128 < 256) ∧ (0 ≤ bits .and .u8 x 127 ∧ bits .and .u8 x 127 < 256) ∧ bits .or .u8 x 0 = x ∧ bits .andNot .u8 x 128 = x % 128 ∧ bits .and .u8 x 127 = x % 128 ∧ (bits .and .u8 x 128 = 0 ↔ x / 128 = 0) ∧ (x < 128 → bits .or .u8 x 128 = x + 128) := by
  obtain ⟨X, rfl⟩ := Int.eq_ofNat_of_zero_le h0
  have hX : X < 256 := by omega
  have h : ∀ n : Fin 256, (0 ≤ bits .andNot .u8 ((n.val : Nat) : Int) 128 ∧ bits .andNot .u8 ((n.val : Nat) : Int) 128 < 256) ∧ (0 ≤ bits .or .u8 ((n.val : Nat) : Int) 128 ∧ bits .or .u8 ((n.val : Nat) : Int) 128 < 256) ∧ (0 ≤ bits .and .u8 ((n.val : Nat) : Int) 127 ∧ bits .and .u8 ((n.val : Nat) : Int) 127 < 256) ∧ bits .or .u8 ((n.val : Nat) : Int) 0 = ((n.val : Nat) : Int) ∧ bits .andNot .u8 ((n.val : Nat) : Int) 128 = ((n.val : Nat) : Int) % 128 ∧ bits .and .u8 ((n.val : Nat) : Int) 127 = ((n.val : Nat) : Int) % 128 ∧ (bits .and .u8 ((n.val : Nat) : Int) 128 = 0 ↔ ((n.val : Nat) : Int) / 128 = 0) ∧ (((n.val : Nat) : Int) < 128 → bits .or .u8 ((n.val : Nat) : Int) 128 = ((n.val : Nat) : Int) + 128) := by decide +kernel
  exact h ⟨X, hX⟩
theorem upd_bd {s : ByteArray} {v : Int} (hv : 0 ≤ v ∧ v < 256) (i : Nat) : 0 ≤ upd (bt s) 31 v i ∧ upd (bt s) 31 v i < 256 := by
  unfold upd
  split
  · exact hv
  · exact bt_bd s i
theorem c_parted (s : ByteArray) (w : World) (hs : s.size = 32) : Calls Tryz.prog 76 #[.string s] w fun r w' => r = .returned (.tuple #[.string (cutS s), .bool (oddB s)]) ∧ Below w.heap.size w w' :=
  parted_gen s w ⟨trivial⟩ hs fun i _ => upd_bd (bits_bd (bt_bd s 31).1 (bt_bd s 31).2).1 i

/-- The x that is not odd of the points that have this y. -/
def besE (y : E5) : E5 := mulF (subF (mulF y y) (smallF 1)) (invF (addF (mulF dF (mulF y y)) (smallF 1)))
theorem besE_ok {y : E5} (hy : y.Ok) : (besE y).Ok := mulF_ok (subF_ok (mulF_ok hy hy) one_ok) (invF_ok (addF_ok (mulF_ok dF_ok (mulF_ok hy hy)) one_ok))
theorem c_besides (y : E5) (w : World) (hy : y.Ok) : Calls Tryz.prog 79 #[.agg (arr 5 y.f)] w fun r w' => r = .returned (.tuple #[.agg (arr 5 (rootF (besE y)).1.f), .bool (rootF (besE y)).2]) ∧ Below w.heap.size w w' :=
  besides_gen y.f (smallF 1).f (mulF y y).f (subF (mulF y y) (smallF 1)).f dF.f (mulF dF (mulF y y)).f (addF (mulF dF (mulF y y)) (smallF 1)).f (invF (addF (mulF dF (mulF y y)) (smallF 1))).f (besE y).f (rootF (besE y)).1.f (rootF (besE y)).2 w
    { h1 := fun w => small_any 1 w (by decide) (by decide)
      h2 := fun w => mul_any y y w hy hy
      h3 := fun w => sub_any (mulF y y) (smallF 1) w (mulF_ok hy hy) one_ok
      h4 := fun w => c_factor w
      h5 := fun w => mul_any dF (mulF y y) w dF_ok (mulF_ok hy hy)
      h6 := fun w => add_any (mulF dF (mulF y y)) (smallF 1) w (mulF_ok dF_ok (mulF_ok hy hy)) one_ok
      h7 := fun w => inv_any (addF (mulF dF (mulF y y)) (smallF 1)) w (addF_ok (mulF_ok dF_ok (mulF_ok hy hy)) one_ok)
      h8 := fun w => mul_any (subF (mulF y y) (smallF 1)) (invF (addF (mulF dF (mulF y y)) (smallF 1))) w (subF_ok (mulF_ok hy hy) one_ok) (invF_ok (addF_ok (mulF_ok dF_ok (mulF_ok hy hy)) one_ok))
      h9 := fun w => root_any (besE y) w (besE_ok hy) }

theorem cutS_size (s : ByteArray) : (cutS s).size = 32 := by unfold cutS; rw [bs_size]; simp
def decY (s : ByteArray) : E5 := ofF (cutS s)
def decX (s : ByteArray) : E5 := if oddB s then negF (rootF (besE (decY s))).1 else (rootF (besE (decY s))).1
def oddE (x : E5) : Bool := x.n % Pm % 2 == 1
theorem decY_ok (s : ByteArray) : (decY s).Ok := ofF_ok _
theorem decX_ok (s : ByteArray) : (decX s).Ok := by
  unfold decX
  split
  · exact negF_ok (rootF_ok (besE_ok (decY_ok s)))
  · exact rootF_ok (besE_ok (decY_ok s))
/-- Is it a point's bytes? -/
def decB (s : ByteArray) : Bool := decide (val (cutS s) < Pm) && ((rootF (besE (decY s))).2 && (oddE (decX s) == oddB s))
def decP (s : ByteArray) : P5 := if s.size = 32 then if decB s then pointF (decX s) (decY s) else none5 else none5
def decC (s : ByteArray) : Int := if s.size = 32 then if decB s then 0 else 40 else 2
theorem odd_b {x : E5} (hx : x.Ok) {b : Bool} (h : oddE x = b) : ∀ w, Calls Tryz.prog 66 #[.agg (arr 5 x.f)] w fun r w' => r = .returned (.bool b) ∧ Below w.heap.size w w' := fun w => by
  subst h
  exact odd_any x w hx
theorem neg_f (x : E5) (w : World) (hx : x.Ok) : Calls Tryz.prog 80 #[.agg (arr 5 x.f)] w fun r w' => r = .returned (.agg (arr 5 (negF x).f)) ∧ Below w.heap.size w w' := neg_any x w hx
theorem of_f (s : ByteArray) (w : World) (hs : s.size = 32) (y : E5) (hy : y = ofF s) : Calls Tryz.prog 78 #[.string s] w fun r w' => r = .returned (.tuple #[.agg (arr 5 y.f), .int .i64 0]) ∧ Below w.heap.size w w' := by
  subst hy
  exact of_yes s w hs
theorem c_decode (s : ByteArray) (w : World) : Calls Tryz.prog 34 #[.string s] w fun r w' => r = .returned (.tuple #[.agg (arr 20 (decP s).f), .int .i64 (decC s)]) ∧ Below w.heap.size w w' := by
  unfold decP decC
  by_cases hs : s.size = 32
  · rw [if_pos hs, if_pos hs]
    have hp : ∀ {b : Bool}, oddB s = b → ∀ w, Calls Tryz.prog 76 #[.string s] w fun r w' => r = .returned (.tuple #[.string (cutS s), .bool b]) ∧ Below w.heap.size w w' := fun {b} h w => by
      subst h
      exact c_parted s w hs
    have hc : ∀ {b : Bool}, decide (val (cutS s) < Pm) = b → ∀ w, Calls Tryz.prog 77 #[.string (cutS s)] w fun r w' => r = .returned (.bool b) ∧ Below w.heap.size w w' := fun {b} h w => by
      subst h
      exact canon_yes (cutS s) w (cutS_size s)
    have hb : ∀ {b : Bool}, (rootF (besE (decY s))).2 = b → ∀ w, Calls Tryz.prog 79 #[.agg (arr 5 (decY s).f)] w fun r w' => r = .returned (.tuple #[.agg (arr 5 (rootF (besE (decY s))).1.f), .bool b]) ∧ Below w.heap.size w w' := fun {b} h w => by
      subst h
      exact c_besides (decY s) w (decY_ok s)
    have ho : ∀ w, Calls Tryz.prog 78 #[.string (cutS s)] w fun r w' => r = .returned (.tuple #[.agg (arr 5 (decY s).f), .int .i64 0]) ∧ Below w.heap.size w w' := fun w => of_f (cutS s) w (cutS_size s) (decY s) rfl
    have hr := rootF_ok (besE_ok (decY_ok s))
    have hx := decX_ok s
    have no : ∀ h : decB s = false, (if decB s = true then pointF (decX s) (decY s) else none5) = none5 ∧ (if decB s = true then (0 : Int) else 40) = 40 := fun h => by
      rw [h]
      exact ⟨if_neg Bool.false_ne_true, if_neg Bool.false_ne_true⟩
    have yes : ∀ h : decB s = true, (if decB s = true then pointF (decX s) (decY s) else none5) = pointF (decX s) (decY s) ∧ (if decB s = true then (0 : Int) else 40) = 0 := fun h => by
      rw [h]
      exact ⟨if_pos rfl, if_pos rfl⟩
    cases h1 : decide (val (cutS s) < Pm)
    · have hB : decB s = false := by unfold decB; rw [h1]; rfl
      rw [(no hB).1, (no hB).2]
      exact decC_gen s _ _ w { h1 := hp rfl, h2 := hc h1 } hs
    · cases h2 : (rootF (besE (decY s))).2
      · have hB : decB s = false := by unfold decB; rw [h1, h2]; rfl
        rw [(no hB).1, (no hB).2]
        cases h0 : oddB s
        · exact decRF_gen s _ _ _ w { h1 := hp h0, h2 := hc h1, h3 := ho, h4 := hb h2 } hs
        · exact decRT_gen s _ _ (negF (rootF (besE (decY s))).1).f _ w { h1 := hp h0, h2 := hc h1, h3 := ho, h4 := hb h2, h5 := fun w => neg_f _ w hr } hs
      · cases h0 : oddB s
        · have hX : decX s = (rootF (besE (decY s))).1 := by unfold decX; rw [h0]; exact if_neg Bool.false_ne_true
          rw [hX] at hx
          cases h3 : oddE (rootF (besE (decY s))).1
          · have hB : decB s = true := by unfold decB; rw [h1, h2, hX, h3, h0]; rfl
            rw [(yes hB).1, (yes hB).2, hX]
            exact decYF_gen s _ _ (pointF (rootF (besE (decY s))).1 (decY s)).f _ w { h1 := hp h0, h2 := hc h1, h3 := ho, h4 := hb h2, h5 := odd_b hx h3, h6 := fun w => c_pointOf _ _ w hx (decY_ok s) } hs
          · have hB : decB s = false := by unfold decB; rw [h1, h2, hX, h3, h0]; rfl
            rw [(no hB).1, (no hB).2]
            exact decOF_gen s _ _ _ w { h1 := hp h0, h2 := hc h1, h3 := ho, h4 := hb h2, h5 := odd_b hx h3 } hs
        · have hX : decX s = negF (rootF (besE (decY s))).1 := by unfold decX; rw [h0]; exact if_pos rfl
          rw [hX] at hx
          cases h3 : oddE (negF (rootF (besE (decY s))).1)
          · have hB : decB s = false := by unfold decB; rw [h1, h2, hX, h3, h0]; rfl
            rw [(no hB).1, (no hB).2]
            exact decOT_gen s _ _ (negF (rootF (besE (decY s))).1).f _ w { h1 := hp h0, h2 := hc h1, h3 := ho, h4 := hb h2, h5 := fun w => neg_f _ w hr, h6 := odd_b hx h3 } hs
          · have hB : decB s = true := by unfold decB; rw [h1, h2, hX, h3, h0]; rfl
            rw [(yes hB).1, (yes hB).2, hX]
            exact decYT_gen s _ _ (negF (rootF (besE (decY s))).1).f (pointF (negF (rootF (besE (decY s))).1) (decY s)).f _ w { h1 := hp h0, h2 := hc h1, h3 := ho, h4 := hb h2, h5 := fun w => neg_f _ w hr, h6 := odd_b hx h3, h7 := fun w => c_pointOf _ _ w hx (decY_ok s) } hs
  · rw [if_neg hs, if_neg hs]
    exact decL_gen s w ⟨trivial⟩ (fun h => hs (by omega))

/-- The bytes of a number, with the highest bit set or not. -/
def encF (o : Bool) (s : ByteArray) : Nat → Int := if o then upd (bt s) 31 (bits .or .u8 (bt s 31) 128) else bt s
def encS (o : Bool) (s : ByteArray) : ByteArray := bs ((List.range 32).map (encF o s))
def bytesV (p : P5) : ByteArray := if noneB p then ⟨#[]⟩ else encS (oddE (mulF p.x (invF p.z))) (lebytes ((mulF p.y (invF p.z)).n % Pm))
theorem leb_size (n : Int) : (lebytes n).size = 32 := by unfold lebytes; rw [bs_size]; simp [digs]
theorem c_bytes (p : P5) (w : World) (hp : p.Ok) : Calls Tryz.prog 27 #[.agg (arr 20 p.f)] w fun r w' => r = .returned (.string (bytesV p)) ∧ Below w.heap.size w w' := by
  unfold bytesV
  have hi := invF_ok hp.z
  have hy := mulF_ok hp.y hi
  have hx := mulF_ok hp.x hi
  have hl := leb_size ((mulF p.y (invF p.z)).n % Pm)
  cases h1 : noneB p
  · simp only [Bool.false_eq_true, if_false]
    cases h2 : oddE (mulF p.x (invF p.z))
    · exact bytesF_gen p.x.f p.y.f p.z.f p.t.f (invF p.z).f (mulF p.y (invF p.z)).f (mulF p.x (invF p.z)).f _ w { h1 := none_b hp h1, h2 := fun w => inv_any p.z w hp.z, h3 := fun w => mul_any p.y (invF p.z) w hp.y hi, h4 := fun w => bytes_any (mulF p.y (invF p.z)) w hy, h5 := fun w => mul_any p.x (invF p.z) w hp.x hi, h6 := odd_b hx h2 } hl (fun i _ => bt_bd _ i)
    · exact bytesT_gen p.x.f p.y.f p.z.f p.t.f (invF p.z).f (mulF p.y (invF p.z)).f (mulF p.x (invF p.z)).f _ w { h1 := none_b hp h1, h2 := fun w => inv_any p.z w hp.z, h3 := fun w => mul_any p.y (invF p.z) w hp.y hi, h4 := fun w => bytes_any (mulF p.y (invF p.z)) w hy, h5 := fun w => mul_any p.x (invF p.z) w hp.x hi, h6 := odd_b hx h2 } hl (fun i _ => upd_bd (bits_bd (bt_bd _ 31).1 (bt_bd _ 31).2).2.1 i)
  · exact bytesN_gen p.x.f p.y.f p.z.f p.t.f w { h1 := none_b hp h1 }

def base5 : P5 := decP baseS
theorem c_base_of (base_c : decC baseS = 0) (w : World) : Calls Tryz.prog 25 #[] w fun r w' => r = .returned (.agg (arr 20 base5.f)) ∧ Below w.heap.size w w' :=
  base_gen base5.f w ⟨rep_31, fun w => by
    have h := c_decode baseS w
    rw [base_c] at h
    exact h⟩
/-- Three times doubled. -/
def oct (p : P5) : P5 := dblF (dblF (dblF p))
theorem oct_ok {p : P5} (hp : p.Ok) : (oct p).Ok := dblF_ok (dblF_ok (dblF_ok hp))
def smallV (p : P5) : Bool := !noneB p && sameV (oct p) zero5
theorem c_oct (p : P5) (w : World) (hp : p.Ok) : Calls Tryz.prog 61 #[.agg (arr 20 p.f), .int .i64 3] w fun r w' => r = .returned (.agg (arr 20 (oct p).f)) ∧ Below w.heap.size w w' :=
  dbl3_gen p.f (dblF p).f (dblF (dblF p)).f (oct p).f w { h1 := fun w => c_double p w hp, h2 := fun w => c_double _ w (dblF_ok hp), h3 := fun w => c_double _ w (dblF_ok (dblF_ok hp)) }
theorem c_small (p : P5) (w : World) (hp : p.Ok) : Calls Tryz.prog 35 #[.agg (arr 20 p.f)] w fun r w' => r = .returned (.bool (smallV p)) ∧ Below w.heap.size w w' := by
  unfold smallV
  cases h1 : noneB p
  · exact smallY_gen p.x.f p.y.f p.z.f p.t.f (oct p).f zero5.f _ w { h1 := none_b hp h1, h2 := fun w => c_oct p w hp, h3 := c_zero, h4 := fun w => c_same (oct p) zero5 w (oct_ok hp) zero5_ok }
  · exact smallN_gen p.x.f p.y.f p.z.f p.t.f w { h1 := none_b hp h1 }

end Go.Proofs.YtmhfmhmpoobmlaaGreatDoor

/- The document's Bytes and Decode as values. -/
namespace Go.Proofs.YtmhfmhmpoobmlaaGreatDoor
open Go.RowKit

/- The document's Bytes and Decode. -/
theorem odd_eq (s : ByteArray) : decide (bt s 31 / 128 = 1) = oddB s := by
  have h := bits_bd (bt_bd s 31).1 (bt_bd s 31).2
  have hb := bt_bd s 31
  unfold oddB
  by_cases e : bt s 31 / 128 = 1
  · have e2 : ¬ bits .and .u8 (bt s 31) 128 = 0 := fun h2 => by
      have := h.2.2.2.2.2.2.1.1 h2
      omega
    rw [decide_eq_true e, decide_eq_false e2]
    rfl
  · have e2 : bits .and .u8 (bt s 31) 128 = 0 := h.2.2.2.2.2.2.1.2 (by omega)
    rw [decide_eq_false e, decide_eq_true e2]
    rfl
def rbytesV (p : RQ) : ByteArray := encS (mI p.x (vI p.z) % 2 == 1) (lebytes (mI p.y (vI p.z)))
/-- What Decode takes the root of. -/
def aI (Y : Int) : Int := mI (sI (mI Y Y) 1) (vI (pI (mI DI (mI Y Y)) 1))
theorem aI_bd (Y : Int) : Bd (aI Y) := by
  unfold aI
  exact mI_bd _ _
def rY (s : ByteArray) : Int := val (cutS s) % Pm
/-- The root, not to be laid open. -/
theorem rrP_eq : (fun _ : Int × Bool => True ∧ True) = fun _ => True := funext fun _ => propext ⟨fun _ => trivial, fun _ => ⟨trivial, trivial⟩⟩
theorem cast_val {α : Type} {P Q : α → Prop} (h : P = Q) (x : α) (p : P x) : (cast (congrArg Subtype h) ⟨x, p⟩ : Subtype Q).1 = x := by
  subst h
  rfl
def rr (A : Int) : Int × Bool := (cast (congrArg Subtype rrP_eq) ⟨rrF A, trivial, trivial⟩ : {_q : Int × Bool // True}).1
theorem rr_eq (A : Int) : rr A = rrF A := cast_val rrP_eq _ _
theorem rr_bd (A : Int) : Bd (rr A).1 := by
  rw [rr_eq]
  exact rrF_bd A
def rX (s : ByteArray) : Int := (rr (aI (rY s))).1
def rdecB (s : ByteArray) : Bool := decide (val (cutS s) < Pm) && ((rr (aI (rY s))).2 && !((rX s == 0) && oddB s))
def rdecX (s : ByteArray) : Int := if oddB s then nI (rX s) else rX s
def rnone : RQ := ⟨0, 0, 0, 0⟩
def rdecP (s : ByteArray) : RQ := if s.size = 32 then if rdecB s then rofV (rdecX s) (rY s) else rnone else rnone
theorem rY_bd (s : ByteArray) : Bd (rY s) := by
  unfold rY
  exact em (val (cutS s))
theorem rX_bd (s : ByteArray) : Bd (rX s) := rr_bd _
theorem rdecX_bd (s : ByteArray) : Bd (rdecX s) := by
  unfold rdecX
  split
  · exact nI_bd _
  · exact rX_bd s
end Go.Proofs.YtmhfmhmpoobmlaaGreatDoor

/- Numbers modulo a prime are the powers of one of them: shown by the factors of the prime without 1.
   2^255 - 19 is a prime, and each number modulo it but 0 is a power of 2. The order of the base point is a prime. -/
namespace Go.Proofs.YtmhfmhmpoobmlaaGreatDoor

def IsP (p : Nat) : Prop := 1 < p ∧ ∀ d, d ∣ p → d = 1 ∨ d = p

/-- Powers modulo m, by squares; f bits. -/
def pmf (m : Nat) : Nat → Nat → Nat → Nat
  | 0, _, _ => 1 % m
  | f + 1, a, e => pmf m f (a * a % m) (e / 2) * a ^ (e % 2) % m

theorem pmf_eq (m : Nat) : ∀ (f a e : Nat), e < 2 ^ f → pmf m f a e = a ^ e % m
  | 0, a, e, h => by
    have : e = 0 := by simp at h; exact h
    subst this
    rfl
  | f + 1, a, e, h => by
    have h2 : e / 2 < 2 ^ f := by rw [Nat.pow_succ] at h; omega
    unfold pmf
    rw [pmf_eq m f _ _ h2, ← Nat.pow_mod, Nat.mod_mul_mod, ← Nat.pow_two, ← Nat.pow_mul, ← Nat.pow_add, show 2 * (e / 2) + e % 2 = e by omega]

theorem one_pow_mod {n x : Nat} (hn : 1 < n) (h : x % n = 1) (k : Nat) : x ^ k % n = 1 := by
  rw [Nat.pow_mod, h, Nat.one_pow, Nat.mod_eq_of_lt hn]

theorem mul_one_mod {n x y : Nat} (h : x % n = 1) : x * y % n = y % n := by
  rw [Nat.mul_mod, h, Nat.one_mul, Nat.mod_mod]

theorem pow_gcd {n g : Nat} (hn : 1 < n) (d e : Nat) : g ^ d % n = 1 → g ^ e % n = 1 → g ^ Nat.gcd d e % n = 1 := by
  induction d, e using Nat.gcd.induction with
  | H0 e => intro _ h; rwa [Nat.gcd_zero_left]
  | H1 d e _ ih =>
    intro h1 h2
    rw [Nat.gcd_rec]
    refine ih ?_ h1
    have e1 : g ^ e = (g ^ d) ^ (e / d) * g ^ (e % d) := by rw [← Nat.pow_mul, ← Nat.pow_add, Nat.div_add_mod]
    rw [e1, mul_one_mod (one_pow_mod hn h1 _)] at h2
    exact h2

def prod : List Nat → Nat
  | [] => 1
  | x :: l => x * prod l

theorem prod_coprime {m : Nat} : ∀ (l : List Nat), (∀ x ∈ l, Nat.Coprime x m) → Nat.Coprime (prod l) m
  | [], _ => Nat.coprime_one_left m
  | x :: l, h => Nat.Coprime.mul_left (h x (List.mem_cons_self)) (prod_coprime l fun y hy => h y (List.mem_cons_of_mem _ hy))

theorem divides_part {d N : Nat} (l : List Nat) (hl : ∀ x ∈ l, IsP x) (hN : prod l = N) (hd : d ∣ N) (hne : d ≠ N) : ∃ x ∈ l, d ∣ N / x := by
  obtain ⟨m, hm⟩ := hd
  by_cases h : ∃ x ∈ l, x ∣ m
  · obtain ⟨x, hx, y, hy⟩ := h
    refine ⟨x, hx, y, ?_⟩
    have hx0 : 0 < x := by have := (hl x hx).1; omega
    rw [hm, hy, Nat.mul_left_comm, Nat.mul_div_cancel_left _ hx0]
  · exfalso
    have hc : ∀ x ∈ l, Nat.Coprime x m := fun x hx => by
      rcases (hl x hx).2 _ (Nat.gcd_dvd_left x m) with h1 | h1
      · exact h1
      · exact absurd ⟨x, hx, h1 ▸ Nat.gcd_dvd_right x m⟩ h
    have hp := prod_coprime l hc
    rw [hN] at hp
    have : m ∣ Nat.gcd N m := Nat.dvd_gcd ⟨d, by rw [hm, Nat.mul_comm]⟩ (Nat.dvd_refl m)
    rw [hp] at this
    have m1 : m = 1 := Nat.dvd_one.1 this
    rw [m1, Nat.mul_one] at hm
    exact hne hm.symm

theorem pigeon : ∀ (n : Nat) (f : Nat → Nat), (∀ i, i < n → f i < n) → (∀ i j, i < n → j < n → f i = f j → i = j) → ∀ y, y < n → ∃ i, i < n ∧ f i = y
  | 0, _, _, _, y, hy => by omega
  | n + 1, f, hf, hi, y, hy => by
    by_cases hl : ∃ i, i < n ∧ f i = n
    · obtain ⟨i0, hi0, he0⟩ := hl
      have hfn : f n < n := by
        have h1 := hf n (by omega)
        have h2 : f n ≠ n := fun h => by
          have := hi n i0 (by omega) (by omega) (h.trans he0.symm)
          omega
        omega
      have ih := pigeon n (fun i => if i = i0 then f n else f i) (fun i h => by
        by_cases e : i = i0
        · simp only [e, if_true]; exact hfn
        · simp only [e, if_false]
          have h1 := hf i (by omega)
          have h2 : f i ≠ n := fun h3 => e (hi i i0 (by omega) (by omega) (h3.trans he0.symm))
          omega) (fun i j h1 h2 h3 => by
        by_cases e1 : i = i0
        · by_cases e2 : j = i0
          · omega
          · simp only [e1, e2, if_true, if_false] at h3
            have := hi n j (by omega) (by omega) h3
            omega
        · by_cases e2 : j = i0
          · simp only [e1, e2, if_true, if_false] at h3
            have := hi i n (by omega) (by omega) h3
            omega
          · simp only [e1, e2, if_false] at h3
            exact hi i j (by omega) (by omega) h3)
      by_cases hyn : y = n
      · exact ⟨i0, by omega, by omega⟩
      · obtain ⟨i, h1, h2⟩ := ih y (by omega)
        by_cases e : i = i0
        · simp only [e, if_true] at h2
          exact ⟨n, by omega, h2⟩
        · simp only [e, if_false] at h2
          exact ⟨i, by omega, h2⟩
    · have ih := pigeon n f (fun i h => by
        have h1 := hf i (by omega)
        have h2 : f i ≠ n := fun h3 => hl ⟨i, h, h3⟩
        omega) (fun i j h1 h2 h3 => hi i j (by omega) (by omega) h3)
      by_cases hfn : f n = n
      · by_cases hyn : y = n
        · exact ⟨n, by omega, by omega⟩
        · obtain ⟨i, h1, h2⟩ := ih y (by omega)
          exact ⟨i, by omega, h2⟩
      · obtain ⟨i, h1, h2⟩ := ih (f n) (by have := hf n (by omega); omega)
        have := hi i n (by omega) (by omega) h2
        omega

/-- Each number below n but 0 is a power of g. -/
structure Gen (n g : Nat) : Prop where
  gt : 1 < n
  per : g ^ (n - 1) % n = 1
  all : ∀ a, 0 < a → a < n → ∃ i, g ^ i % n = a

theorem gen_of {n g : Nat} (hn : 1 < n) (l : List Nat) (hl : ∀ x ∈ l, IsP x) (hN : prod l = n - 1) (hg : g ^ (n - 1) % n = 1) (ho : ∀ x ∈ l, g ^ ((n - 1) / x) % n ≠ 1) : Gen n g := by
  have hord : ∀ k, 0 < k → k < n - 1 → g ^ k % n ≠ 1 := by
    intro k h0 hk he
    have h1 := pow_gcd hn k (n - 1) he hg
    have h2 : Nat.gcd k (n - 1) ∣ n - 1 := Nat.gcd_dvd_right _ _
    have h3 : Nat.gcd k (n - 1) ≤ k := Nat.le_of_dvd h0 (Nat.gcd_dvd_left _ _)
    obtain ⟨x, hx, y, hy⟩ := divides_part l hl hN h2 (by omega)
    refine ho x hx ?_
    rw [hy, Nat.pow_mul]
    exact one_pow_mod hn h1 y
  have hinj : ∀ i j, i < j → j < n - 1 → g ^ i % n ≠ g ^ j % n := by
    intro i j hij hj he
    refine hord (j - i) (by omega) (by omega) ?_
    have e1 : g ^ i * g ^ (n - 1 - i) % n = 1 := by rw [← Nat.pow_add, show i + (n - 1 - i) = n - 1 by omega, hg]
    have e2 : g ^ j * g ^ (n - 1 - i) % n = g ^ (j - i) % n := by
      rw [← Nat.pow_add, show j + (n - 1 - i) = (n - 1) + (j - i) by omega, Nat.pow_add, mul_one_mod hg]
    rw [← e2, Nat.mul_mod, ← he, ← Nat.mul_mod, e1]
  have hpos : ∀ i, i < n - 1 → 0 < g ^ i % n := by
    intro i hi
    apply Nat.pos_of_ne_zero
    intro h0
    have e1 : g ^ i * g ^ (n - 1 - i) % n = 1 := by rw [← Nat.pow_add, show i + (n - 1 - i) = n - 1 by omega, hg]
    rw [Nat.mul_mod, h0, Nat.zero_mul, Nat.zero_mod] at e1
    cases e1
  refine ⟨hn, hg, fun a h0 ha => ?_⟩
  obtain ⟨i, h1, h2⟩ := pigeon (n - 1) (fun i => g ^ i % n - 1) (fun i hi => by
    have := hpos i hi
    have := Nat.mod_lt (g ^ i) (show 0 < n by omega)
    show g ^ i % n - 1 < n - 1
    omega) (fun i j hi hj he => by
    have h1 := hpos i hi
    have h2 := hpos j hj
    have he2 : g ^ i % n - 1 = g ^ j % n - 1 := he
    have he' : g ^ i % n = g ^ j % n := by omega
    by_cases e : i = j
    · exact e
    · exfalso
      by_cases hlt : i < j
      · exact hinj i j hlt hj he'
      · exact hinj j i (by omega) hi he'.symm) (a - 1) (by omega)
  refine ⟨i, ?_⟩
  have := hpos i h1
  have h3 : g ^ i % n - 1 = a - 1 := h2
  omega

theorem Gen.isP {n g : Nat} (h : Gen n g) : IsP n := by
  obtain ⟨hn, hg, ha⟩ := h
  refine ⟨hn, fun d hd => ?_⟩
  by_cases e : d = n
  · exact .inr e
  · left
    have hle := Nat.le_of_dvd (by omega) hd
    have h0 : 0 < d := Nat.pos_of_ne_zero fun h => by
      subst h
      have := Nat.eq_zero_of_zero_dvd hd
      omega
    obtain ⟨i, hi⟩ := ha d h0 (by omega)
    have e1 : g ^ i * g ^ ((n - 1) * (i + 1) - i) % n = 1 := by
      have h2 : i ≤ (n - 1) * (i + 1) := by
        have : 1 * (i + 1) ≤ (n - 1) * (i + 1) := Nat.mul_le_mul_right _ (by omega)
        omega
      rw [← Nat.pow_add, show i + ((n - 1) * (i + 1) - i) = (n - 1) * (i + 1) by omega, Nat.pow_mul]
      exact one_pow_mod hn hg _
    have e2 : d ∣ g ^ i * g ^ ((n - 1) * (i + 1) - i) := by
      refine Nat.dvd_trans ?_ (Nat.dvd_mul_right _ _)
      rw [← Nat.div_add_mod (g ^ i) n, hi]
      exact (Nat.dvd_add_right (Nat.dvd_trans hd (Nat.dvd_mul_right _ _))).2 (Nat.dvd_refl d)
    have e3 : d ∣ 1 := by
      rw [← e1]
      exact (Nat.dvd_mod_iff hd).2 e2
    exact Nat.dvd_one.1 e3

theorem gen_by {n g : Nat} (f : Nat) (l : List Nat) (hn : 1 < n) (hl : ∀ x ∈ l, IsP x) (hN : prod l = n - 1) (hf : n - 1 < 2 ^ f) (hg : pmf n f g (n - 1) = 1) (ho : (l.all fun x => !Nat.beq (pmf n f g ((n - 1) / x)) 1) = true) : Gen n g := by
  refine gen_of hn l hl hN (by rw [← pmf_eq n f g _ hf]; exact hg) fun x hx he => ?_
  have h := List.all_eq_true.1 ho x hx
  rw [pmf_eq n f g _ (Nat.lt_of_le_of_lt (Nat.div_le_self _ _) hf), he] at h
  cases h

theorem isP2 : IsP 2 := ⟨by decide, fun d h => by
  have := Nat.le_of_dvd (by decide) h
  have : d ≠ 0 := fun e => by subst e; have := Nat.eq_zero_of_zero_dvd h; omega
  omega⟩
theorem all_nil {Q : Nat → Prop} : ∀ x ∈ ([] : List Nat), Q x := fun _ h => by cases h
theorem all_cons {Q : Nat → Prop} {a : Nat} {l : List Nat} (h : Q a) (hl : ∀ x ∈ l, Q x) : ∀ x ∈ a :: l, Q x := fun x hx => by
  rcases List.mem_cons.1 hx with e | e
  · rw [e]; exact h
  · exact hl x e

theorem pr {n : Nat} (g f : Nat) (l : List Nat) (hl : ∀ x ∈ l, IsP x) (hn : 1 < n := by decide +kernel) (hN : prod l = n - 1 := by decide +kernel) (hf : n - 1 < 2 ^ f := by decide +kernel) (hg : pmf n f g (n - 1) = 1 := by decide +kernel) (ho : (l.all fun x => !Nat.beq (pmf n f g ((n - 1) / x)) 1) = true := by decide +kernel) : Gen n g := gen_by f l hn hl hN hf hg ho
theorem k_ {x : Nat} {l : List Nat} (h : IsP x) (t : ∀ y ∈ l, IsP y) : ∀ y ∈ x :: l, IsP y := all_cons h t
theorem pq1 : IsP 3 := (pr 2 2 [2] (k_ isP2 all_nil)).isP
theorem pq2 : IsP 17 := (pr 3 5 [2, 2, 2, 2] (k_ isP2 (k_ isP2 (k_ isP2 (k_ isP2 all_nil))))).isP
theorem pq3 : IsP 7 := (pr 3 3 [2, 3] (k_ isP2 (k_ pq1 all_nil))).isP
theorem pq4 : IsP 239 := (pr 7 8 [2, 7, 17] (k_ isP2 (k_ pq3 (k_ pq2 all_nil)))).isP
theorem pq5 : IsP 479 := (pr 13 9 [2, 239] (k_ isP2 (k_ pq4 all_nil))).isP
theorem pq6 : IsP 32573 := (pr 2 15 [2, 2, 17, 479] (k_ isP2 (k_ isP2 (k_ pq2 (k_ pq5 all_nil))))).isP
theorem pq7 : IsP 65147 := (pr 2 16 [2, 32573] (k_ isP2 (k_ pq6 all_nil))).isP
theorem pq8 : IsP 5 := (pr 2 3 [2, 2] (k_ isP2 (k_ isP2 all_nil))).isP
theorem pq9 : IsP 11 := (pr 2 4 [2, 5] (k_ isP2 (k_ pq8 all_nil))).isP
theorem pq10 : IsP 353 := (pr 3 9 [2, 2, 2, 2, 2, 11] (k_ isP2 (k_ isP2 (k_ isP2 (k_ isP2 (k_ isP2 (k_ pq9 all_nil))))))).isP
theorem pq11 : IsP 29 := (pr 2 5 [2, 2, 7] (k_ isP2 (k_ isP2 (k_ pq3 all_nil)))).isP
theorem pq12 : IsP 59 := (pr 2 6 [2, 29] (k_ isP2 (k_ pq11 all_nil))).isP
theorem pq13 : IsP 487 := (pr 3 9 [2, 3, 3, 3, 3, 3] (k_ isP2 (k_ pq1 (k_ pq1 (k_ pq1 (k_ pq1 (k_ pq1 all_nil))))))).isP
theorem pq14 : IsP 57467 := (pr 2 16 [2, 59, 487] (k_ isP2 (k_ pq12 (k_ pq13 all_nil)))).isP
theorem pq15 : IsP 13 := (pr 2 4 [2, 2, 3] (k_ isP2 (k_ isP2 (k_ pq1 all_nil)))).isP
theorem pq16 : IsP 131 := (pr 2 8 [2, 5, 13] (k_ isP2 (k_ pq8 (k_ pq15 all_nil)))).isP
theorem pq17 : IsP 132049 := (pr 26 18 [2, 2, 2, 2, 3, 3, 7, 131] (k_ isP2 (k_ isP2 (k_ isP2 (k_ isP2 (k_ pq1 (k_ pq1 (k_ pq3 (k_ pq16 all_nil))))))))).isP
theorem pq18 : IsP 43 := (pr 3 6 [2, 3, 7] (k_ isP2 (k_ pq1 (k_ pq3 all_nil)))).isP
theorem pq19 : IsP 23 := (pr 5 5 [2, 11] (k_ isP2 (k_ pq9 all_nil))).isP
theorem pq20 : IsP 3727 := (pr 3 12 [2, 3, 3, 3, 3, 23] (k_ isP2 (k_ pq1 (k_ pq1 (k_ pq1 (k_ pq1 (k_ pq19 all_nil))))))).isP
theorem pq21 : IsP 1923133 := (pr 2 21 [2, 2, 3, 43, 3727] (k_ isP2 (k_ isP2 (k_ pq1 (k_ pq18 (k_ pq20 all_nil)))))).isP
theorem pq22 : IsP 31 := (pr 3 5 [2, 3, 5] (k_ isP2 (k_ pq1 (k_ pq8 all_nil)))).isP
theorem pq23 : IsP 53 := (pr 2 6 [2, 2, 13] (k_ isP2 (k_ isP2 (k_ pq15 all_nil)))).isP
theorem pq24 : IsP 107 := (pr 2 7 [2, 53] (k_ isP2 (k_ pq23 all_nil))).isP
theorem pq25 : IsP 37 := (pr 2 6 [2, 2, 3, 3] (k_ isP2 (k_ isP2 (k_ pq1 (k_ pq1 all_nil))))).isP
theorem pq26 : IsP 223 := (pr 3 8 [2, 3, 37] (k_ isP2 (k_ pq1 (k_ pq25 all_nil)))).isP
theorem pq27 : IsP 173 := (pr 2 8 [2, 2, 43] (k_ isP2 (k_ isP2 (k_ pq18 all_nil)))).isP
theorem pq28 : IsP 4153 := (pr 5 13 [2, 2, 2, 3, 173] (k_ isP2 (k_ isP2 (k_ isP2 (k_ pq1 (k_ pq27 all_nil)))))).isP
theorem pq29 : IsP 41 := (pr 6 6 [2, 2, 2, 5] (k_ isP2 (k_ isP2 (k_ isP2 (k_ pq8 all_nil))))).isP
theorem pq30 : IsP 1723 := (pr 3 11 [2, 3, 7, 41] (k_ isP2 (k_ pq1 (k_ pq3 (k_ pq29 all_nil))))).isP
theorem pq31 : IsP 430751 := (pr 17 19 [2, 5, 5, 5, 1723] (k_ isP2 (k_ pq8 (k_ pq8 (k_ pq8 (k_ pq30 all_nil)))))).isP
theorem pq32 : IsP 31757755568855353 := (pr 10 55 [2, 2, 2, 3, 31, 107, 223, 4153, 430751] (k_ isP2 (k_ isP2 (k_ isP2 (k_ pq1 (k_ pq22 (k_ pq24 (k_ pq26 (k_ pq28 (k_ pq31 all_nil)))))))))).isP
theorem pq33 : IsP 19 := (pr 2 5 [2, 3, 3] (k_ isP2 (k_ pq1 (k_ pq1 all_nil)))).isP
theorem pq34 : IsP 83 := (pr 2 7 [2, 41] (k_ isP2 (k_ pq29 all_nil))).isP
theorem pq35 : IsP 9463 := (pr 3 14 [2, 3, 19, 83] (k_ isP2 (k_ pq1 (k_ pq33 (k_ pq34 all_nil))))).isP
theorem pq36 : IsP 37853 := (pr 2 16 [2, 2, 9463] (k_ isP2 (k_ isP2 (k_ pq35 all_nil)))).isP
theorem pq37 : IsP 75707 := (pr 2 17 [2, 37853] (k_ isP2 (k_ pq36 all_nil))).isP
theorem pq38 : IsP 47 := (pr 5 6 [2, 23] (k_ isP2 (k_ pq19 all_nil))).isP
theorem pq39 : IsP 127 := (pr 3 7 [2, 3, 3, 7] (k_ isP2 (k_ pq1 (k_ pq1 (k_ pq3 all_nil))))).isP
theorem pq40 : IsP 103 := (pr 5 7 [2, 3, 17] (k_ isP2 (k_ pq1 (k_ pq2 all_nil)))).isP
theorem pq41 : IsP 991 := (pr 6 10 [2, 3, 3, 5, 11] (k_ isP2 (k_ pq1 (k_ pq1 (k_ pq8 (k_ pq9 all_nil)))))).isP
theorem pq42 : IsP 8574133 := (pr 2 24 [2, 2, 3, 7, 103, 991] (k_ isP2 (k_ isP2 (k_ pq1 (k_ pq3 (k_ pq40 (k_ pq41 all_nil))))))).isP
theorem pq43 : IsP 1919519569386763 := (pr 2 51 [2, 3, 7, 19, 47, 47, 127, 8574133] (k_ isP2 (k_ pq1 (k_ pq3 (k_ pq33 (k_ pq38 (k_ pq38 (k_ pq39 (k_ pq42 all_nil))))))))).isP
theorem pq44 : IsP 2437 := (pr 2 12 [2, 2, 3, 7, 29] (k_ isP2 (k_ isP2 (k_ pq1 (k_ pq3 (k_ pq11 all_nil)))))).isP
theorem pq45 : IsP 97 := (pr 5 7 [2, 2, 2, 2, 2, 3] (k_ isP2 (k_ isP2 (k_ isP2 (k_ isP2 (k_ isP2 (k_ pq1 all_nil))))))).isP
theorem pq46 : IsP 419 := (pr 2 9 [2, 11, 19] (k_ isP2 (k_ pq9 (k_ pq33 all_nil)))).isP
theorem pq47 : IsP 569003 := (pr 2 20 [2, 7, 97, 419] (k_ isP2 (k_ pq3 (k_ pq45 (k_ pq46 all_nil))))).isP
theorem pq48 : IsP 2773320623 := (pr 5 32 [2, 2437, 569003] (k_ isP2 (k_ pq44 (k_ pq47 all_nil)))).isP
theorem pq49 : IsP 72106336199 := (pr 7 37 [2, 13, 2773320623] (k_ isP2 (k_ pq15 (k_ pq48 all_nil)))).isP
theorem pq50 : IsP 75445702479781427272750846543864801 := (pr 7 116 [2, 2, 2, 2, 2, 3, 3, 5, 5, 75707, 1919519569386763, 72106336199] (k_ isP2 (k_ isP2 (k_ isP2 (k_ isP2 (k_ isP2 (k_ pq1 (k_ pq1 (k_ pq8 (k_ pq8 (k_ pq37 (k_ pq43 (k_ pq49 all_nil))))))))))))).isP
theorem pq51 : IsP 74058212732561358302231226437062788676166966415465897661863160754340907 := (pr 2 236 [2, 3, 353, 57467, 132049, 1923133, 31757755568855353, 75445702479781427272750846543864801] (k_ isP2 (k_ pq1 (k_ pq10 (k_ pq14 (k_ pq17 (k_ pq21 (k_ pq32 (k_ pq50 all_nil))))))))).isP
theorem pq52 : IsP 34123 := (pr 2 16 [2, 3, 11, 11, 47] (k_ isP2 (k_ pq1 (k_ pq9 (k_ pq9 (k_ pq38 all_nil)))))).isP
theorem pq53 : IsP 409477 := (pr 2 19 [2, 2, 3, 34123] (k_ isP2 (k_ isP2 (k_ pq1 (k_ pq52 all_nil))))).isP
theorem pq54 : IsP 14741173 := (pr 2 24 [2, 2, 3, 3, 409477] (k_ isP2 (k_ isP2 (k_ pq1 (k_ pq1 (k_ pq53 all_nil)))))).isP
theorem pq55 : IsP 58964693 := (pr 2 26 [2, 2, 14741173] (k_ isP2 (k_ isP2 (k_ pq54 all_nil)))).isP
theorem pq56 : IsP 30703 := (pr 3 15 [2, 3, 7, 17, 43] (k_ isP2 (k_ pq1 (k_ pq3 (k_ pq2 (k_ pq18 all_nil)))))).isP
theorem pq57 : IsP 79 := (pr 3 7 [2, 3, 13] (k_ isP2 (k_ pq1 (k_ pq15 all_nil)))).isP
theorem pq58 : IsP 41081 := (pr 3 16 [2, 2, 2, 5, 13, 79] (k_ isP2 (k_ isP2 (k_ isP2 (k_ pq8 (k_ pq15 (k_ pq57 all_nil))))))).isP
theorem pq59 : IsP 82163 := (pr 2 17 [2, 41081] (k_ isP2 (k_ pq58 all_nil))).isP
theorem pq60 : IsP 17231 := (pr 13 15 [2, 5, 1723] (k_ isP2 (k_ pq8 (k_ pq30 all_nil)))).isP
theorem pq61 : IsP 137849 := (pr 3 18 [2, 2, 2, 17231] (k_ isP2 (k_ isP2 (k_ isP2 (k_ pq60 all_nil))))).isP
theorem pq62 : IsP 67 := (pr 2 7 [2, 3, 11] (k_ isP2 (k_ pq1 (k_ pq9 all_nil)))).isP
theorem pq63 : IsP 22111 := (pr 6 15 [2, 3, 5, 11, 67] (k_ isP2 (k_ pq1 (k_ pq8 (k_ pq9 (k_ pq62 all_nil)))))).isP
theorem pq64 : IsP 132667 := (pr 5 18 [2, 3, 22111] (k_ isP2 (k_ pq1 (k_ pq63 all_nil)))).isP
theorem pq65 : IsP 3044861653679985063343 := (pr 5 72 [2, 3, 11, 30703, 82163, 137849, 132667] (k_ isP2 (k_ pq1 (k_ pq9 (k_ pq56 (k_ pq59 (k_ pq61 (k_ pq64 all_nil)))))))).isP
theorem pq66 : IsP 198211423230930754013084525763697 := (pr 5 108 [2, 2, 2, 2, 3, 23, 58964693, 3044861653679985063343] (k_ isP2 (k_ isP2 (k_ isP2 (k_ isP2 (k_ pq1 (k_ pq19 (k_ pq55 (k_ pq65 all_nil))))))))).isP
theorem pq67 : IsP 269 := (pr 2 9 [2, 2, 67] (k_ isP2 (k_ isP2 (k_ pq62 all_nil)))).isP
theorem pq68 : IsP 73 := (pr 5 7 [2, 2, 2, 3, 3] (k_ isP2 (k_ isP2 (k_ isP2 (k_ pq1 (k_ pq1 all_nil)))))).isP
theorem pq69 : IsP 307 := (pr 5 9 [2, 3, 3, 17] (k_ isP2 (k_ pq1 (k_ pq1 (k_ pq2 all_nil))))).isP
theorem pq70 : IsP 113 := (pr 3 7 [2, 2, 2, 2, 7] (k_ isP2 (k_ isP2 (k_ isP2 (k_ isP2 (k_ pq3 all_nil)))))).isP
theorem pq71 : IsP 2939 := (pr 2 12 [2, 13, 113] (k_ isP2 (k_ pq15 (k_ pq70 all_nil)))).isP
theorem pq72 : IsP 5879 := (pr 11 13 [2, 2939] (k_ isP2 (k_ pq71 all_nil))).isP
theorem pq73 : IsP 292386187 := (pr 2 29 [2, 3, 3, 3, 3, 307, 5879] (k_ isP2 (k_ pq1 (k_ pq1 (k_ pq1 (k_ pq1 (k_ pq69 (k_ pq72 all_nil)))))))).isP
theorem pq74 : IsP 213441916511 := (pr 13 38 [2, 5, 73, 292386187] (k_ isP2 (k_ pq8 (k_ pq68 (k_ pq73 all_nil))))).isP
theorem pq75 : IsP 1361 := (pr 3 11 [2, 2, 2, 2, 5, 17] (k_ isP2 (k_ isP2 (k_ isP2 (k_ isP2 (k_ pq8 (k_ pq2 all_nil))))))).isP
theorem pq76 : IsP 2851 := (pr 2 12 [2, 3, 5, 5, 19] (k_ isP2 (k_ pq1 (k_ pq8 (k_ pq8 (k_ pq33 all_nil)))))).isP
theorem pq77 : IsP 2551 := (pr 6 12 [2, 3, 5, 5, 17] (k_ isP2 (k_ pq1 (k_ pq8 (k_ pq8 (k_ pq2 all_nil)))))).isP
theorem pq78 : IsP 1224481 := (pr 13 21 [2, 2, 2, 2, 2, 3, 5, 2551] (k_ isP2 (k_ isP2 (k_ isP2 (k_ isP2 (k_ isP2 (k_ pq1 (k_ pq8 (k_ pq77 all_nil))))))))).isP
theorem pq79 : IsP 3797 := (pr 2 12 [2, 2, 13, 73] (k_ isP2 (k_ isP2 (k_ pq15 (k_ pq68 all_nil))))).isP
theorem pq80 : IsP 531581 := (pr 2 20 [2, 2, 5, 7, 3797] (k_ isP2 (k_ isP2 (k_ pq8 (k_ pq3 (k_ pq79 all_nil)))))).isP
theorem pq81 : IsP 1257559732178653 := (pr 2 51 [2, 2, 3, 7, 23, 1224481, 531581] (k_ isP2 (k_ isP2 (k_ pq1 (k_ pq3 (k_ pq19 (k_ pq78 (k_ pq80 all_nil)))))))).isP
theorem pq82 : IsP 4434155615661930479 := (pr 17 62 [2, 41, 43, 1257559732178653] (k_ isP2 (k_ pq29 (k_ pq18 (k_ pq81 all_nil))))).isP
theorem pq83 : IsP 172054593956031949258510691 := (pr 2 88 [2, 5, 1361, 2851, 4434155615661930479] (k_ isP2 (k_ pq8 (k_ pq75 (k_ pq76 (k_ pq82 all_nil)))))).isP
theorem pq84 : IsP 19757330305831588566944191468367130476339 := (pr 2 134 [2, 269, 213441916511, 172054593956031949258510691] (k_ isP2 (k_ pq67 (k_ pq74 (k_ pq83 all_nil))))).isP
theorem pq85 : IsP 276602624281642239937218680557139826668747 := (pr 2 138 [2, 7, 19757330305831588566944191468367130476339] (k_ isP2 (k_ pq3 (k_ pq84 all_nil)))).isP
theorem genP : Gen 57896044618658097711785492504343953926634992332820282019728792003956564819949 2 := pr 2 255 [2, 2, 3, 65147, 74058212732561358302231226437062788676166966415465897661863160754340907] (k_ isP2 (k_ isP2 (k_ pq1 (k_ pq7 (k_ pq51 all_nil)))))
theorem isL : IsP 7237005577332262213973186563042994240857116359379907606001950938285454250989 := (pr 2 253 [2, 2, 3, 11, 198211423230930754013084525763697, 276602624281642239937218680557139826668747] (k_ isP2 (k_ isP2 (k_ pq1 (k_ pq9 (k_ pq66 (k_ pq85 all_nil))))))).isP

end Go.Proofs.YtmhfmhmpoobmlaaGreatDoor
