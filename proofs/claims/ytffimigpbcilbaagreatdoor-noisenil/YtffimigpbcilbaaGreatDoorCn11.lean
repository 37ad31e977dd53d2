/- Part 11 of the walks and facts. -/
import Derived.Test.YtffimigpbcilbaaGreatDoorCnDef
import Derived.Test.YtffimigpbcilbaaGreatDoorCn1
import Derived.Test.YtffimigpbcilbaaGreatDoorCn2
import Derived.Test.YtffimigpbcilbaaGreatDoorCn3
import Derived.Test.YtffimigpbcilbaaGreatDoorCn4
import Derived.Test.YtffimigpbcilbaaGreatDoorCn5
import Derived.Test.YtffimigpbcilbaaGreatDoorCn6
import Derived.Test.YtffimigpbcilbaaGreatDoorCn7
import Derived.Test.YtffimigpbcilbaaGreatDoorCn8
import Derived.Test.YtffimigpbcilbaaGreatDoorCn9
import Derived.Test.YtffimigpbcilbaaGreatDoorCn10
import Derived.Laws.StructEq
import Derived.RegionTactic
set_option maxHeartbeats 16000000
set_option maxRecDepth 100000
namespace Go.Proofs.YtffimigpbcilbaaGreatDoor
open Go.RowKit
def ls (l : List Value) : Nat → Value := fun i => l.getD i undef
theorem getD_app (l : List Value) (j : Nat) : l.getD j undef = l[j]?.getD undef := by simp
theorem put_ls (l : List Value) (k : Nat) (v : Value) (l' : List Value) (h : l.set k v = l') {n : Nat} (j : Nat) (hj : j < n) (hl : n ≤ l.length := by exact Nat.le_of_ble_eq_true rfl) : (if j = k then v else ls l j) = ls l' j := by
 subst h
 unfold ls
 rw [getD_app, getD_app, List.getElem?_set]
 by_cases e : k = j
 ·subst e
  rw [if_pos rfl, if_pos rfl, if_pos (by omega)]
  rfl
 ·rw [if_neg (fun h => e h.symm), if_neg e]
theorem one_ls (l : List Value) (h : l.all (·.oneCell') = true) {n : Nat} (hn : n ≤ l.length := by exact Nat.le_of_ble_eq_true rfl) (j : Nat) (hj : j < n) : (ls l j).oneCell' = true := by
 unfold ls
 rw [getD_app, List.getElem?_eq_getElem (by omega)]
 exact List.all_eq_true.1 h _ (List.getElem_mem _)
theorem seq_pos {a b : ByteArray} (h : a = b) : (a.toList == b.toList) = true := by rw [h, beq_self_eq_true]
theorem seq_neg {a b : ByteArray} (h : ¬ a = b) : (a.toList == b.toList) = false := by
 rw [beq_eq_false_iff_ne]
 intro e
 rw [ByteArray.toList_eq, ByteArray.toList_eq] at e
 exact h (ByteArray.ext (Array.toList_inj.1 e))
theorem ro_below1 {w w' : World} {g : Nat} {Z : Obj} (h : Grw w w' [g]) (h0 : w.heap[g]? = some Z) (h1 : w'.heap[g]? = some Z) : Below w.heap.size w w' := ⟨h.os, h.tape, h.output, h.size, fun k hk => by
 by_cases e : k = g
 ·subst e
  rw [h0, h1]
 ·exact h.block k hk (by simpa using e)⟩
theorem results_t3 {P : Program} {fn : Func} {p q r : Tmp} (h : fn.results = #[.tmp p, .tmp q, .tmp r]) (tmps : Array Value) (w : World) (v u x : Value) (hp : tmps.getD p undef = v) (hq : tmps.getD q undef = u) (hr : tmps.getD r undef = x) : (results fn tmps).run P w = .ok (.tuple #[v, u, x]) w := by
 subst hp hq hr
 simp [results, h]
theorem results_tct {P : Program} {fn : Func} {p q r : Tmp} {ty : TypeId} (h : fn.results = #[.tmp p, .cell q ty, .tmp r]) (tmps : Array Value) (w : World) (g : Nat) (t : TypeId) (cs : Array Value) (fr : Nat × Nat) (d : TypeDesc) (v x : Value) (hp : tmps.getD p undef = v) (hq : tmps.getD q undef = .pointer (some ⟨g, 0, none⟩)) (hr : tmps.getD r undef = x) (hg : w.heap[g]? = some (.cells cs t fr))
  (hu : P.underlying ty = some d) (hd : (match d with | .struct _ | .array _ _ => true | _ => false) = true) (hi : (P.info? ty).map (·.size) = some cs.size) : (results fn tmps).run P w = .ok (.tuple #[v, .agg cs, x]) w := by
 subst hp hr
 have hp' : tmps[q]?.getD undef = .pointer (some ⟨g, 0, none⟩) := by simpa using hq
 simp [results, h, hp', asAddr, run_loadVar_row w g t ty cs fr d hg hu hd hi]
theorem inz41 : (Tryz.prog.info? 41).map (·.size) = some 5 := by kernel_rfl
theorem inz64 : (Tryz.prog.info? 64).map (·.size) = some 4 := by kernel_rfl
structure St where
 h : ByteArray
 c : ByteArray
 k : ByteArray
 e : Int
def stL (s : St) (R : List Value) : Nat → Value := ls (.string s.h :: .string s.c :: .string s.k :: .int .i64 s.e :: R)
theorem put_st0 (s : St) (R : List Value) (x : ByteArray) (j : Nat) : (if j = 0 then .string x else stL s R j) = stL ⟨x, s.c, s.k, s.e⟩ R j := by
 rcases j with _ | _ | _ | _ | j <;> first | rfl | (rw [if_neg (by omega)]; rfl)
theorem put_st1 (s : St) (R : List Value) (x : ByteArray) (j : Nat) : (if j = 1 then .string x else stL s R j) = stL ⟨s.h, x, s.k, s.e⟩ R j := by
 rcases j with _ | _ | _ | _ | j <;> first | rfl | (rw [if_neg (by omega)]; rfl)
theorem put_st2 (s : St) (R : List Value) (x : ByteArray) (j : Nat) : (if j = 2 then .string x else stL s R j) = stL ⟨s.h, s.c, x, s.e⟩ R j := by
 rcases j with _ | _ | _ | _ | j <;> first | rfl | (rw [if_neg (by omega)]; rfl)
theorem put_st3 (s : St) (R : List Value) (x : Int) (j : Nat) : (if j = 3 then .int .i64 x else stL s R j) = stL ⟨s.h, s.c, s.k, x⟩ R j := by
 rcases j with _ | _ | _ | _ | j <;> first | rfl | (rw [if_neg (by omega)]; rfl)
theorem part_st (s : St) (R : List Value) (j : Nat) (h : j < 4) : stL s R (0 + j) = stL s [] j := by
 rcases j with _ | _ | _ | _ | j <;> first | rfl | omega
theorem one_st (s : St) (j : Nat) (h : j < 4) : (stL s [] j).oneCell' = true := by
 rcases j with _ | _ | _ | _ | j <;> first | rfl | omega
def Bh (t : ByteArray) : ByteArray := Bla.blV 32 Bla.strE t
theorem Bh_size (t : ByteArray) : (Bh t).size = 32 := Bla.bl_size t
theorem c_Bh (t : ByteArray) (w : World) (hL : Laid w) : Cs 45 #[.string t] w (.string (Bh t)) := Bla.c_of t w hL
def nameS : ByteArray := ⟨#[78, 111, 105, 115, 101, 95, 73, 75, 95, 50, 53, 53, 49, 57, 95, 67, 104, 97, 67, 104, 97, 80, 111, 108, 121, 95, 66, 76, 65, 75, 69, 50, 115]⟩
def shN (x y : ByteArray) : Int := Mon.shV (Mon.clS x) (Mon.val (Mon.mkS y) % Mon.Pm)
def puV (x : ByteArray) : ByteArray := Mon.lebytes (Mon.shV (Mon.clS x) 9)
theorem puV_size (x : ByteArray) : (puV x).size = 32 := Mon.leb_size _
def nxA (c t : ByteArray) : ByteArray := Bla.txt c t 0
def nxB (c t : ByteArray) : ByteArray := Bla.txt c t 1
def n0 : ByteArray := nS 0
def mixF (s : St) (t : ByteArray) : St := ⟨Bh (s.h ++ t), s.c, s.k, s.e⟩
def beginF (pr pu : ByteArray) (s : St) : St := mixF (mixF ⟨Bh nameS, Bh nameS, s.k, s.e⟩ pr) pu
def pubF (s : St) (x : ByteArray) : ByteArray := if s.e = 0 then puV x else ⟨#[]⟩
def addF (s : St) (x y : ByteArray) : St := if s.e = 0 then (if shN x y = 0 then ⟨s.h, s.c, s.k, 30⟩ else ⟨s.h, nxA s.c (Mon.lebytes (shN x y)), nxB s.c (Mon.lebytes (shN x y)), s.e⟩) else s
def sealV (s : St) (t : ByteArray) : ByteArray := if s.e = 0 then sealS s.k n0 s.h t else ⟨#[]⟩
def sealF (s : St) (t : ByteArray) : St := if s.e = 0 then mixF ⟨s.h, s.c, s.k, 0⟩ (sealS s.k n0 s.h t) else s
def openV (s : St) (t : ByteArray) : ByteArray := if s.e = 0 then (if tgX s.k n0 s.h t = t.extract (t.size - 16) t.size then opS s.k n0 t else ⟨#[]⟩) else ⟨#[]⟩
def openF (s : St) (t : ByteArray) : St := if s.e = 0 then (if tgX s.k n0 s.h t = t.extract (t.size - 16) t.size then mixF ⟨s.h, s.c, s.k, 0⟩ t else mixF ⟨s.h, s.c, s.k, 100⟩ t) else s
theorem st_eq {a b : St} (h1 : a.h = b.h) (h2 : a.c = b.c) (h3 : a.k = b.k) (h4 : a.e = b.e) : a = b := by
 cases a; cases b
 simp only at h1 h2 h3 h4
 subst h1 h2 h3 h4
 rfl
theorem c_shZ (x y : ByteArray) (hx : x.size = 32) (hy : y.size = 32) (h : shN x y = 0) (w : World) : Cs 46 #[.string x, .string y] w (.tuple #[.string ⟨#[]⟩, .int .i64 30]) := Mon.sh_any x y w 0 hx hy h
theorem c_shN (x y : ByteArray) (hx : x.size = 32) (hy : y.size = 32) (h : ¬ shN x y = 0) (w : World) : Cs 46 #[.string x, .string y] w (.tuple #[.string (Mon.lebytes (shN x y)), .int .i64 0]) := by
 have h1 := Mon.sh_any x y w (shN x y) hx hy rfl
 rwa [Mon.sS_ne h, Mon.sC_ne h] at h1
theorem nxB_size (c t : ByteArray) : (nxB c t).size = 32 := Bla.tg_size _ _ _
theorem n0_size : n0.size = 12 := nS_size 0
theorem sf_seal {k h t : ByteArray} (hk : k.size = 32) (hh : h.size = 32) (ht : t.size ≤ 65536) : sf k n0 h t 0 = 0 := sf_ok ⟨hk, n0_size⟩ (by omega) (by omega) (Nat.zero_le _)
theorem sf_open {k h t : ByteArray} (hk : k.size = 32) (hh : h.size = 32) (ht : t.size ≤ 65536) (h6 : 16 ≤ t.size) : sf k n0 h t 16 = 0 := sf_ok ⟨hk, n0_size⟩ (by omega) (by omega) h6
def endF (s : St) : St := ⟨s.h, s.c, ⟨#[]⟩, s.e⟩
open Go.RowKit
theorem c_mixS (g n T : Nat) (hn : 4 ≤ n) (s : St) (R : List Value) (t : ByteArray) (hs : s.h.size + t.size < 1000000) (w : World) (hL : Laid w)  (hg : w.heap[g]? = some (.cells (av n (stL s R)) T)) (h0 : 2 < g) :
  Calls Tryz.prog 31 #[.pointer (some ⟨g, 0, none⟩), .string t] w fun r w' => r = .returned (.tuple #[]) ∧ Grw w w' [g] ∧ w'.heap[g]? = some (.cells (av n (stL (mixF s t) R)) T) := by
 go_enter Tryz.func31, Tryz.ntmps31
 have M := Mem.startp hL hg h0
 refine rg_lit ?_
 refine rV 4 <| ZE M 8 0 0 <| rV 1 ?_
 refine pH 10 (.string (s.h ++ t)) (run_cat 9 9 _ _ rfl s.h t (by kernel_rfl) (by kernel_rfl) (by (try simp only [ByteArray.size_append, ByteArray.size_extract]); omega)) ?_
 refine ZC M 11 (fun w M => c_Bh (s.h ++ t) w M.laid) fun u1 M => ?_
 refine rV 2 ?_
 refine pP M 0 rfl 0 (.string (Bh (s.h ++ t))) (stL ⟨(Bh (s.h ++ t)), s.c, s.k, s.e⟩ R) (by omega) (fun j _ => put_st0 _ _ _ j) fun u2 M => ?_
 refine pl_nil ?_
 have e0 : mixF s t = ⟨(Bh (s.h ++ t)), s.c, s.k, s.e⟩ := rfl
 exact bodyPost_end (v := .tuple #[]) (results_none Tryz.results31 _ _) (by kernel_rfl) ⟨rfl, M.old, by rw [e0]; exact M.get 0 rfl⟩
theorem c_begin (g n T : Nat) (hn : 4 ≤ n) (s : St) (R : List Value) (pr pu : ByteArray) (hp : pr.size ≤ 5000) (hq : pu.size ≤ 5000) (w : World) (hL : Laid w)  (hg : w.heap[g]? = some (.cells (av n (stL s R)) T)) (h0 : 2 < g) :
  Calls Tryz.prog 21 #[.pointer (some ⟨g, 0, none⟩), .string pr, .string pu] w fun r w' => r = .returned (.tuple #[]) ∧ Grw w w' [g] ∧ w'.heap[g]? = some (.cells (av n (stL (beginF pr pu s) R)) T) := by
 go_enter Tryz.func21, Tryz.ntmps21
 have M := Mem.startp hL hg h0
 refine sR <| rV 1 ?_
 refine ZC M 7 (fun w M => c_Bh nameS w M.laid) fun u1 M => ?_
 refine rV 2 ?_
 refine pP M 0 rfl 0 (.string (Bh nameS)) (stL ⟨(Bh nameS), s.c, s.k, s.e⟩ R) (by omega) (fun j _ => put_st0 _ _ _ j) fun u2 M => ?_
 refine nT <| sR <| rV 4 <| ZE M 14 0 0 <| rV 2 ?_
 refine pP M 0 rfl 1 (.string (Bh nameS)) (stL ⟨(Bh nameS), (Bh nameS), s.k, s.e⟩ R) (by omega) (fun j _ => put_st1 _ _ _ j) fun u3 M => ?_
 refine nT <| sR <| rV 2 ?_
 refine pl_callp M (want_no rfl) (some 19) rfl 31 #[.pointer (some ⟨g, 0, none⟩), .string pr] (.tuple #[]) 0 g (.cells (av n (stL ⟨(Bh nameS), (Bh nameS), s.k, s.e⟩ R)) T) (.cells (av n (stL (mixF ⟨(Bh nameS), (Bh nameS), s.k, s.e⟩ pr) R)) T) rfl (fun _ => by kernel_rfl) (fun w M => c_mixS g n T (by omega) ⟨(Bh nameS), (Bh nameS), s.k, s.e⟩ R pr (by show (Bh _).size + _ < _; rw [Bh_size]; omega) w M.laid (M.get 0 rfl) (M.ne0 0 rfl)) fun u4 M => ?_
 refine nT ?_
 refine rg_lit ?_
 refine rV 2 ?_
 refine pl_callp M (want_no rfl) (some 22) rfl 31 #[.pointer (some ⟨g, 0, none⟩), .string pu] (.tuple #[]) 0 g (.cells (av n (stL (mixF ⟨(Bh nameS), (Bh nameS), s.k, s.e⟩ pr) R)) T) (.cells (av n (stL (mixF (mixF ⟨(Bh nameS), (Bh nameS), s.k, s.e⟩ pr) pu) R)) T) rfl (fun _ => by kernel_rfl) (fun w M => c_mixS g n T (by omega) (mixF ⟨(Bh nameS), (Bh nameS), s.k, s.e⟩ pr) R pu (by show (Bh _).size + _ < _; rw [Bh_size]; omega) w M.laid (M.get 0 rfl) (M.ne0 0 rfl)) fun u5 M => ?_
 refine pl_nil ?_
 have e0 : beginF pr pu s = (mixF (mixF ⟨(Bh nameS), (Bh nameS), s.k, s.e⟩ pr) pu) := rfl
 exact bodyPost_end (v := .tuple #[]) (results_none Tryz.results21 _ _) (by kernel_rfl) ⟨rfl, M.old, by rw [e0]; exact M.get 0 rfl⟩
theorem c_made (g n T : Nat) (hn : 4 ≤ n) (s : St) (R : List Value) (hs : s.h.size = 32) (w : World) (hL : Laid w)  (hg : w.heap[g]? = some (.cells (av n (stL s R)) T)) (h0 : 2 < g) : Cs 34 #[.pointer (some ⟨g, 0, none⟩)] w (.bool true) := by
 go_enter Tryz.func34, Tryz.ntmps34
 have M := Mem.startp hL hg h0
 refine sq <| sR <| rV 3 <| ZE M 6 0 0 ?_
 by_cases c0 : s.h = (⟨#[]⟩ : ByteArray)
 ·exact absurd hs (by rw [c0]; decide)
 ·refine pH 7 (.bool true) (fun w => Eq.trans (b := .ok (.value (.bool (!(s.h.toList == (⟨#[]⟩ : ByteArray).toList)))) w) (by kernel_rfl) (by rw [seq_neg c0]; rfl)) ?_
  refine rV 1 <| nT <| wp_ret ?_
  exact bodyPost_ret (v := .bool true) (results_tmp1 Tryz.results34 _ _ _ (by kernel_rfl)) (by kernel_rfl) ⟨rfl, ro_below1 M.old hg (M.get 0 rfl)⟩
theorem c_public (g n T : Nat) (hn : 4 ≤ n) (s : St) (R : List Value) (x : ByteArray) (hx : x.size = 32) (w : World) (hL : Laid w)  (hg : w.heap[g]? = some (.cells (av n (stL s R)) T)) (h0 : 2 < g) :
  Calls Tryz.prog 25 #[.pointer (some ⟨g, 0, none⟩), .string x] w fun r w' => r = .returned (.string (pubF s x)) ∧ Grw w w' [g] ∧ w'.heap[g]? = some (.cells (av n (stL (s) R)) T) := by
 go_enter Tryz.func25, Tryz.ntmps25
 have M := Mem.startp hL hg h0
 refine sq <| wp_seq <| sR <| rV 3 <| ZE M 8 0 3 ?_
 by_cases c0 : s.e = 0
 ·refine pH 9 (.bool true) (jT (s.e = 0) (c0)) ?_
  refine nT <| cT ?_
  refine rg_lit ?_
  refine rV 2 ?_
  refine pC M 13 49 #[.string x] (.tuple #[.string (puV x), .int .i64 0]) (fun w M => Mon.pub_tells x hx w) fun u1 M => ?_
  refine rV 6 ?_
  refine pP M 0 rfl 3 (.int .i64 0) (stL ⟨s.h, s.c, s.k, 0⟩ R) (by omega) (fun j _ => put_st3 _ _ _ j) fun u2 M => ?_
  refine nT <| sq <| wp_ret ?_
  have e0 : s = ⟨s.h, s.c, s.k, 0⟩ := st_eq rfl rfl rfl c0
  have e1 : (pubF s x) = (puV x) := by simp only [pubF, if_pos c0]
  exact bodyPost_ret (v := .string (puV x)) (results_tmp1 Tryz.results25 _ _ _ (by kernel_rfl)) (by kernel_rfl) ⟨by rw [e1], M.old, by rw [e0]; exact M.get 0 rfl⟩
 ·refine pH 9 (.bool false) (jF (s.e = 0) (c0)) ?_
  refine nT <| cF <| wp_skip <| au_then <| sq ?_
  refine wp_ret ?_
  have e1 : (pubF s x) = ⟨#[]⟩ := by simp only [pubF, if_neg c0]
  exact bodyPost_ret (v := .string ⟨#[]⟩) (results_tmp1 Tryz.results25 _ _ _ (by kernel_rfl)) (by kernel_rfl) ⟨by rw [e1], M.old, M.get 0 rfl⟩
theorem pubF_le (s : St) (x : ByteArray) : (pubF s x).size ≤ 32 := by
 unfold pubF
 split
 ·rw [puV_size]; exact Nat.le_refl _
 ·exact Nat.zero_le _
theorem c_show (g n T : Nat) (hn : 4 ≤ n) (s : St) (R : List Value) (x : ByteArray) (hx : x.size = 32) (hs : s.h.size ≤ 32) (w : World) (hL : Laid w)  (hg : w.heap[g]? = some (.cells (av n (stL s R)) T)) (h0 : 2 < g) :
  Calls Tryz.prog 22 #[.pointer (some ⟨g, 0, none⟩), .string x] w fun r w' => r = .returned (.string (pubF s x)) ∧ Grw w w' [g] ∧ w'.heap[g]? = some (.cells (av n (stL (mixF s (pubF s x)) R)) T) := by
 go_enter Tryz.func22, Tryz.ntmps22
 have M := Mem.startp hL hg h0
 refine sq <| sR <| rV 2 ?_
 refine pl_callp M (want_no rfl) (some 8) rfl 25 #[.pointer (some ⟨g, 0, none⟩), .string x] (.string (pubF s x)) 0 g (.cells (av n (stL s R)) T) (.cells (av n (stL s R)) T) rfl (fun _ => by kernel_rfl) (fun w M => c_public g n T (by omega) s R x (hx) w M.laid (M.get 0 rfl) (M.ne0 0 rfl)) fun u1 M => ?_
 refine rV 1 <| nT <| sR <| rV 2 ?_
 refine pl_callp M (want_no rfl) (some 11) rfl 31 #[.pointer (some ⟨g, 0, none⟩), .string (pubF s x)] (.tuple #[]) 0 g (.cells (av n (stL s R)) T) (.cells (av n (stL (mixF s (pubF s x)) R)) T) rfl (fun _ => by kernel_rfl) (fun w M => c_mixS g n T (by omega) s R (pubF s x) (by have := pubF_le s x; omega) w M.laid (M.get 0 rfl) (M.ne0 0 rfl)) fun u2 M => ?_
 refine nT <| sq <| wp_ret ?_
 have e0 : mixF s (pubF s x) = (mixF s (pubF s x)) := rfl
 exact bodyPost_ret (v := .string (pubF s x)) (results_tmp1 Tryz.results22 _ _ _ (by kernel_rfl)) (by kernel_rfl) ⟨rfl, M.old, by rw [e0]; exact M.get 0 rfl⟩
theorem c_next (g n T : Nat) (hn : 4 ≤ n) (s : St) (R : List Value) (t : ByteArray) (ht : t.size < 10000) (w : World) (hL : Laid w)  (hg : w.heap[g]? = some (.cells (av n (stL s R)) T)) (h0 : 2 < g) : Cs 35 #[.pointer (some ⟨g, 0, none⟩), .string t] w (.tuple #[.string (nxA s.c t), .string (nxB s.c t)]) := by
 go_enter Tryz.func35, Tryz.ntmps35
 have M := Mem.startp hL hg h0
 refine sq <| sR <| rV 3 <| ZE M 12 0 1 <| rV 1 ?_
 refine pl_calln M (want_no rfl) (some 14) rfl 56 #[.string s.c, .string t, .int .i64 2] (fun g1 => .tuple #[.slice (some ⟨g1, 0, none⟩) 2 2, .int .i64 0]) (.cells (av 2 (Bla.ws (Bla.txt s.c t))) 9) (fun _ => by kernel_rfl) (fun w M => Bla.c_ch s.c t ht 2 (by decide) (by decide) w M.laid) fun g1 u1 M => ?_
 refine rV 5 <| nT <| wp_seq ?_
 refine rg_held M [⟨g, .cells (av n (stL s R)) T⟩, ⟨g1, .cells (av 2 (Bla.ws (Bla.txt s.c t))) 9⟩] 7 rfl (by kernel_rfl) (by kernel_rfl) (fun _ _ d _ _ h => by cases d <;> exact h) fun u2 M => ?_
 refine qV M 0 17 (.slice (some ⟨g1, 0, none⟩) 2 2) ?_
 refine qV M 1 18 (.pointer (some ⟨g1, 0, none⟩)) ?_
 refine hl_cell M 2 rfl (by decide) (by kernel_rfl) (by kernel_rfl) (want_no rfl) (some 19) rfl 9 _ rfl g1 0 (by kernel_rfl) (.string (nxA s.c t)) (fun _ => by kernel_rfl) (fun w M => M.cell 1 rfl (by decide) rfl) ?_
 refine qV M 3 20 (.slice (some ⟨g1, 0, none⟩) 2 2) ?_
 refine qV M 4 21 (.pointer (some ⟨g1, 1, none⟩)) ?_
 refine hl_cell M 5 rfl (by decide) (by kernel_rfl) (by kernel_rfl) (want_no rfl) (some 22) rfl 9 _ rfl g1 1 (by kernel_rfl) (.string (nxB s.c t)) (fun _ => by kernel_rfl) (fun w M => M.cell 1 rfl (by decide) rfl) ?_
 refine qV M 6 4 (.string (nxA s.c t)) ?_
 refine hl_end (by kernel_rfl) (by kernel_rfl) rfl ?_
 refine rV 1 <| nT <| au_then <| wp_ret ?_
 exact bodyPost_ret (v := .tuple #[.string (nxA s.c t), .string (nxB s.c t)]) (results_tmp2 Tryz.results35 _ _ _ _ (by kernel_rfl) (by kernel_rfl)) (by kernel_rfl) ⟨rfl, ro_below1 M.old hg (M.get 0 rfl)⟩
theorem c_add (g n T : Nat) (hn : 4 ≤ n) (s : St) (R : List Value) (x y : ByteArray) (hx : x.size = 32) (hy : s.e = 0 → y.size = 32) (w : World) (hL : Laid w)  (hg : w.heap[g]? = some (.cells (av n (stL s R)) T)) (h0 : 2 < g) :
  Calls Tryz.prog 23 #[.pointer (some ⟨g, 0, none⟩), .string x, .string y] w fun r w' => r = .returned (.tuple #[]) ∧ Grw w w' [g] ∧ w'.heap[g]? = some (.cells (av n (stL (addF s x y) R)) T) := by
 go_enter Tryz.func23, Tryz.ntmps23
 have M := Mem.startp hL hg h0
 refine wp_seq <| sR <| rV 3 <| ZE M 11 0 3 ?_
 by_cases c0 : s.e = 0
 ·refine pH 12 (.bool false) (jD (s.e = 0) (c0)) ?_
  refine nT <| cF <| wp_skip <| au_then <| sR ?_
  refine rV 2 ?_
  by_cases c1 : shN x y = 0
  ·refine ZC M 16 (fun w M => c_shZ x y hx (hy c0) c1 w) fun u1 M => ?_
   refine rV 5 <| nT <| wp_seq <| sq <| cT ?_
   refine sR <| rV 4 ?_
   refine pP M 0 rfl 3 (.int .i64 30) (stL ⟨s.h, s.c, s.k, 30⟩ R) (by omega) (fun j _ => put_st3 _ _ _ j) fun u2 M => ?_
   refine nT <| wp_ret <| au_then_ret ?_
   have e0 : addF s x y = ⟨s.h, s.c, s.k, 30⟩ := by simp only [addF, if_pos c0, if_pos c1]
   exact bodyPost_ret (v := .tuple #[]) (results_none Tryz.results23 _ _) (by kernel_rfl) ⟨rfl, M.old, by rw [e0]; exact M.get 0 rfl⟩
  ·refine ZC M 16 (fun w M => c_shN x y hx (hy c0) c1 w) fun u1 M => ?_
   refine rV 5 <| nT <| wp_seq <| sq <| cF ?_
   refine wp_skip <| au_then ?_
   refine rg_lit ?_
   refine rV 4 ?_
   refine ZC M 30 (fun w M => c_next g n T (by omega) s R (Mon.lebytes (shN x y)) (by rw [Mon.leb_size]; decide) w M.laid (M.get 0 rfl) (M.ne0 0 rfl)) fun u2 M => ?_
   refine rV 5 ?_
   refine pP M 0 rfl 1 (.string (nxA s.c (Mon.lebytes (shN x y)))) (stL ⟨s.h, (nxA s.c (Mon.lebytes (shN x y))), s.k, s.e⟩ R) (by omega) (fun j _ => put_st1 _ _ _ j) fun u3 M => ?_
   refine rV 2 ?_
   refine pP M 0 rfl 2 (.string (nxB s.c (Mon.lebytes (shN x y)))) (stL ⟨s.h, (nxA s.c (Mon.lebytes (shN x y))), (nxB s.c (Mon.lebytes (shN x y))), s.e⟩ R) (by omega) (fun j _ => put_st2 _ _ _ j) fun u4 M => ?_
   refine pl_nil ?_
   have e0 : addF s x y = ⟨s.h, (nxA s.c (Mon.lebytes (shN x y))), (nxB s.c (Mon.lebytes (shN x y))), s.e⟩ := by simp only [addF, if_pos c0, if_neg c1]
   exact bodyPost_end (v := .tuple #[]) (results_none Tryz.results23 _ _) (by kernel_rfl) ⟨rfl, M.old, by rw [e0]; exact M.get 0 rfl⟩
 ·refine pH 12 (.bool true) (jU (s.e = 0) (c0)) ?_
  refine nT <| cT <| wp_ret <| au_then_ret ?_
  have e0 : addF s x y = s := by simp only [addF, if_neg c0]
  exact bodyPost_ret (v := .tuple #[]) (results_none Tryz.results23 _ _) (by kernel_rfl) ⟨rfl, M.old, by rw [e0]; exact M.get 0 rfl⟩
theorem c_seal (g n T : Nat) (hn : 4 ≤ n) (s : St) (R : List Value) (t : ByteArray) (hs : s.h.size = 32) (hk : s.e = 0 → s.k.size = 32) (ht : t.size ≤ 5000) (w : World) (hL : Laid w)  (hg : w.heap[g]? = some (.cells (av n (stL s R)) T)) (h0 : 2 < g) :
  Calls Tryz.prog 24 #[.pointer (some ⟨g, 0, none⟩), .string t] w fun r w' => r = .returned (.string (sealV s t)) ∧ Grw w w' [g] ∧ w'.heap[g]? = some (.cells (av n (stL (sealF s t) R)) T) := by
 go_enter Tryz.func24, Tryz.ntmps24
 have M := Mem.startp hL hg h0
 refine sq <| wp_seq <| sR <| rV 3 <| ZE M 8 0 3 ?_
 by_cases c0 : s.e = 0
 ·refine pH 9 (.bool true) (jT (s.e = 0) (c0)) ?_
  refine nT <| cT <| wp_seq ?_
  refine rg_held M [⟨g, .cells (av n (stL s R)) T⟩] 18 rfl (by kernel_rfl) (by kernel_rfl) (fun _ _ d _ _ h => by cases d <;> exact h) fun u1 M => ?_
  refine qV M 0 11 (.pointer (some ⟨g, 0, none⟩)) ?_
  refine qV M 1 12 (.pointer (some ⟨g, 0, none⟩)) ?_
  refine qV M 2 13 (.pointer (some ⟨g, 0, none⟩)) ?_
  refine qV M 3 14 (.pointer (some ⟨g, 2, none⟩)) ?_
  refine hl_cell M 4 rfl (by decide) (by kernel_rfl) (by kernel_rfl) (want_no rfl) (some 15) rfl 9 _ rfl g 2 (by kernel_rfl) (.string s.k) (fun _ => by kernel_rfl) (fun w M => M.cell 0 rfl (by omega) rfl) ?_
  refine qV M 6 17 (.pointer (some ⟨g, 0, none⟩)) ?_
  refine qV M 7 18 (.pointer (some ⟨g, 0, none⟩)) ?_
  refine qV M 8 19 (.pointer (some ⟨g, 0, none⟩)) ?_
  refine hl_cell M 9 rfl (by decide) (by kernel_rfl) (by kernel_rfl) (want_no rfl) (some 20) rfl 9 _ rfl g 0 (by kernel_rfl) (.string s.h) (fun _ => by kernel_rfl) (fun w M => M.cell 0 rfl (by omega) rfl) ?_
  refine qV M 10 21 (.string t) ?_
  refine hl_one 5 (by decide) (by kernel_rfl) rfl ?_
  refine ZC M 16 (fun w M => c_Nonce 0 w M.laid) fun u2 M => ?_
  refine nT ?_
  refine ⟨M, ?_⟩
  refine hl_one 11 (by decide) (by kernel_rfl) rfl ?_
  refine pC M 22 47 #[.string s.k, .string n0, .string s.h, .string t] (.tuple #[.string (sealS s.k n0 s.h t), .int .i64 0]) (fun w M => c_SealA _ _ _ t (sf_seal (hk c0) hs (by omega)) w M.laid) fun u3 M => ?_
  refine nT ?_
  refine ⟨M, ?_⟩
  refine qV M 12 10 (.tuple #[.string (sealS s.k n0 s.h t), .int .i64 0]) ?_
  refine qV M 13 23 (.string (sealS s.k n0 s.h t)) ?_
  refine qV M 14 24 (.int .i64 0) ?_
  refine qV M 15 4 (.string (sealS s.k n0 s.h t)) ?_
  refine qV M 16 25 (.pointer (some ⟨g, 0, none⟩)) ?_
  refine qV M 17 26 (.pointer (some ⟨g, 3, none⟩)) ?_
  refine hl_end (by kernel_rfl) (by kernel_rfl) rfl ?_
  refine pP M 0 rfl 3 (.int .i64 0) (stL ⟨s.h, s.c, s.k, 0⟩ R) (by omega) (fun j _ => put_st3 _ _ _ j) fun u4 M => ?_
  refine nT <| au_then ?_
  refine rg_lit ?_
  refine rV 2 ?_
  refine pl_callp M (want_no rfl) (some 29) rfl 31 #[.pointer (some ⟨g, 0, none⟩), .string (sealS s.k n0 s.h t)] (.tuple #[]) 0 g (.cells (av n (stL ⟨s.h, s.c, s.k, 0⟩ R)) T) (.cells (av n (stL (mixF ⟨s.h, s.c, s.k, 0⟩ (sealS s.k n0 s.h t)) R)) T) rfl (fun _ => by kernel_rfl) (fun w M => c_mixS g n T (by omega) ⟨s.h, s.c, s.k, 0⟩ R (sealS s.k n0 s.h t) (by show s.h.size + _ < _; rw [sealS_size]; omega) w M.laid (M.get 0 rfl) (M.ne0 0 rfl)) fun u5 M => ?_
  refine nT <| sq <| wp_ret ?_
  have e0 : sealF s t = (mixF ⟨s.h, s.c, s.k, 0⟩ (sealS s.k n0 s.h t)) := by simp only [sealF, if_pos c0]
  have e1 : (sealV s t) = (sealS s.k n0 s.h t) := by simp only [sealV, if_pos c0]
  exact bodyPost_ret (v := .string (sealS s.k n0 s.h t)) (results_tmp1 Tryz.results24 _ _ _ (by kernel_rfl)) (by kernel_rfl) ⟨by rw [e1], M.old, by rw [e0]; exact M.get 0 rfl⟩
 ·refine pH 9 (.bool false) (jF (s.e = 0) (c0)) ?_
  refine nT <| cF <| wp_skip <| au_then <| sq ?_
  refine wp_ret ?_
  have e0 : sealF s t = s := by simp only [sealF, if_neg c0]
  have e1 : (sealV s t) = ⟨#[]⟩ := by simp only [sealV, if_neg c0]
  exact bodyPost_ret (v := .string ⟨#[]⟩) (results_tmp1 Tryz.results24 _ _ _ (by kernel_rfl)) (by kernel_rfl) ⟨by rw [e1], M.old, by rw [e0]; exact M.get 0 rfl⟩
theorem c_open (g n T : Nat) (hn : 4 ≤ n) (s : St) (R : List Value) (t : ByteArray) (hs : s.h.size = 32) (hk : s.e = 0 → s.k.size = 32) (ht : t.size ≤ 5000) (h6 : 16 ≤ t.size) (w : World) (hL : Laid w)  (hg : w.heap[g]? = some (.cells (av n (stL s R)) T)) (h0 : 2 < g) :
  Calls Tryz.prog 32 #[.pointer (some ⟨g, 0, none⟩), .string t] w fun r w' => r = .returned (.string (openV s t)) ∧ Grw w w' [g] ∧ w'.heap[g]? = some (.cells (av n (stL (openF s t) R)) T) := by
 go_enter Tryz.func32, Tryz.ntmps32
 have M := Mem.startp hL hg h0
 refine sq <| wp_seq <| sR <| rV 3 <| ZE M 8 0 3 ?_
 by_cases c0 : s.e = 0
 ·refine pH 9 (.bool true) (jT (s.e = 0) (c0)) ?_
  refine nT <| cT <| wp_seq ?_
  refine rg_held M [⟨g, .cells (av n (stL s R)) T⟩] 18 rfl (by kernel_rfl) (by kernel_rfl) (fun _ _ d _ _ h => by cases d <;> exact h) fun u1 M => ?_
  refine qV M 0 11 (.pointer (some ⟨g, 0, none⟩)) ?_
  refine qV M 1 12 (.pointer (some ⟨g, 0, none⟩)) ?_
  refine qV M 2 13 (.pointer (some ⟨g, 0, none⟩)) ?_
  refine qV M 3 14 (.pointer (some ⟨g, 2, none⟩)) ?_
  refine hl_cell M 4 rfl (by decide) (by kernel_rfl) (by kernel_rfl) (want_no rfl) (some 15) rfl 9 _ rfl g 2 (by kernel_rfl) (.string s.k) (fun _ => by kernel_rfl) (fun w M => M.cell 0 rfl (by omega) rfl) ?_
  refine qV M 6 17 (.pointer (some ⟨g, 0, none⟩)) ?_
  refine qV M 7 18 (.pointer (some ⟨g, 0, none⟩)) ?_
  refine qV M 8 19 (.pointer (some ⟨g, 0, none⟩)) ?_
  refine hl_cell M 9 rfl (by decide) (by kernel_rfl) (by kernel_rfl) (want_no rfl) (some 20) rfl 9 _ rfl g 0 (by kernel_rfl) (.string s.h) (fun _ => by kernel_rfl) (fun w M => M.cell 0 rfl (by omega) rfl) ?_
  refine qV M 10 21 (.string t) ?_
  refine hl_one 5 (by decide) (by kernel_rfl) rfl ?_
  refine ZC M 16 (fun w M => c_Nonce 0 w M.laid) fun u2 M => ?_
  refine nT ?_
  refine ⟨M, ?_⟩
  refine hl_one 11 (by decide) (by kernel_rfl) rfl ?_
  by_cases c1 : tgX s.k n0 s.h t = t.extract (t.size - 16) t.size
  ·refine pC M 22 54 #[.string s.k, .string n0, .string s.h, .string t] (.tuple #[.string (opS s.k n0 t), .int .i64 0]) (fun w M => c_OpenA _ _ _ t (sf_open (hk c0) hs (by omega) h6) c1 w M.laid) fun u3 M => ?_
   refine nT ?_
   refine ⟨M, ?_⟩
   refine qV M 12 10 (.tuple #[.string (opS s.k n0 t), .int .i64 0]) ?_
   refine qV M 13 23 (.string (opS s.k n0 t)) ?_
   refine qV M 14 24 (.int .i64 0) ?_
   refine qV M 15 4 (.string (opS s.k n0 t)) ?_
   refine qV M 16 25 (.pointer (some ⟨g, 0, none⟩)) ?_
   refine qV M 17 26 (.pointer (some ⟨g, 3, none⟩)) ?_
   refine hl_end (by kernel_rfl) (by kernel_rfl) rfl ?_
   refine pP M 0 rfl 3 (.int .i64 0) (stL ⟨s.h, s.c, s.k, 0⟩ R) (by omega) (fun j _ => put_st3 _ _ _ j) fun u4 M => ?_
   refine nT <| au_then ?_
   refine rg_lit ?_
   refine rV 2 ?_
   refine pl_callp M (want_no rfl) (some 29) rfl 31 #[.pointer (some ⟨g, 0, none⟩), .string t] (.tuple #[]) 0 g (.cells (av n (stL ⟨s.h, s.c, s.k, 0⟩ R)) T) (.cells (av n (stL (mixF ⟨s.h, s.c, s.k, 0⟩ t) R)) T) rfl (fun _ => by kernel_rfl) (fun w M => c_mixS g n T (by omega) ⟨s.h, s.c, s.k, 0⟩ R t (by show s.h.size + t.size < _; omega) w M.laid (M.get 0 rfl) (M.ne0 0 rfl)) fun u5 M => ?_
   refine nT <| sq <| wp_ret ?_
   have e0 : openF s t = (mixF ⟨s.h, s.c, s.k, 0⟩ t) := by simp only [openF, if_pos c0, if_pos c1]
   have e1 : (openV s t) = (opS s.k n0 t) := by simp only [openV, if_pos c0, if_pos c1]
   exact bodyPost_ret (v := .string (opS s.k n0 t)) (results_tmp1 Tryz.results32 _ _ _ (by kernel_rfl)) (by kernel_rfl) ⟨by rw [e1], M.old, by rw [e0]; exact M.get 0 rfl⟩
  ·refine pC M 22 54 #[.string s.k, .string n0, .string s.h, .string t] (.tuple #[.string ⟨#[]⟩, .int .i64 100]) (fun w M => c_OpenB _ _ _ t (sf_open (hk c0) hs (by omega) h6) c1 w M.laid) fun u3 M => ?_
   refine nT ?_
   refine ⟨M, ?_⟩
   refine qV M 12 10 (.tuple #[.string ⟨#[]⟩, .int .i64 100]) ?_
   refine qV M 13 23 (.string ⟨#[]⟩) ?_
   refine qV M 14 24 (.int .i64 100) ?_
   refine qV M 15 4 (.string ⟨#[]⟩) ?_
   refine qV M 16 25 (.pointer (some ⟨g, 0, none⟩)) ?_
   refine qV M 17 26 (.pointer (some ⟨g, 3, none⟩)) ?_
   refine hl_end (by kernel_rfl) (by kernel_rfl) rfl ?_
   refine pP M 0 rfl 3 (.int .i64 100) (stL ⟨s.h, s.c, s.k, 100⟩ R) (by omega) (fun j _ => put_st3 _ _ _ j) fun u4 M => ?_
   refine nT <| au_then ?_
   refine rg_lit ?_
   refine rV 2 ?_
   refine pl_callp M (want_no rfl) (some 29) rfl 31 #[.pointer (some ⟨g, 0, none⟩), .string t] (.tuple #[]) 0 g (.cells (av n (stL ⟨s.h, s.c, s.k, 100⟩ R)) T) (.cells (av n (stL (mixF ⟨s.h, s.c, s.k, 100⟩ t) R)) T) rfl (fun _ => by kernel_rfl) (fun w M => c_mixS g n T (by omega) ⟨s.h, s.c, s.k, 100⟩ R t (by show s.h.size + t.size < _; omega) w M.laid (M.get 0 rfl) (M.ne0 0 rfl)) fun u5 M => ?_
   refine nT <| sq <| wp_ret ?_
   have e0 : openF s t = (mixF ⟨s.h, s.c, s.k, 100⟩ t) := by simp only [openF, if_pos c0, if_neg c1]
   have e1 : (openV s t) = ⟨#[]⟩ := by simp only [openV, if_pos c0, if_neg c1]
   exact bodyPost_ret (v := .string ⟨#[]⟩) (results_tmp1 Tryz.results32 _ _ _ (by kernel_rfl)) (by kernel_rfl) ⟨by rw [e1], M.old, by rw [e0]; exact M.get 0 rfl⟩
 ·refine pH 9 (.bool false) (jF (s.e = 0) (c0)) ?_
  refine nT <| cF <| wp_skip <| au_then <| sq ?_
  refine wp_ret ?_
  have e0 : openF s t = s := by simp only [openF, if_neg c0]
  have e1 : (openV s t) = ⟨#[]⟩ := by simp only [openV, if_neg c0]
  exact bodyPost_ret (v := .string ⟨#[]⟩) (results_tmp1 Tryz.results32 _ _ _ (by kernel_rfl)) (by kernel_rfl) ⟨by rw [e1], M.old, by rw [e0]; exact M.get 0 rfl⟩
theorem c_end (g n T : Nat) (hn : 4 ≤ n) (s : St) (R : List Value)  (w : World) (hL : Laid w)  (hg : w.heap[g]? = some (.cells (av n (stL s R)) T)) (h0 : 2 < g) :
  Calls Tryz.prog 26 #[.pointer (some ⟨g, 0, none⟩)] w fun r w' => r = .returned (.int .i64 s.e) ∧ Grw w w' [g] ∧ w'.heap[g]? = some (.cells (av n (stL (endF s) R)) T) := by
 go_enter Tryz.func26, Tryz.ntmps26
 have M := Mem.startp hL hg h0
 refine sq <| sR <| rV 3 ?_
 refine pP M 0 rfl 2 (.string ⟨#[]⟩) (stL ⟨s.h, s.c, ⟨#[]⟩, s.e⟩ R) (by omega) (fun j _ => put_st2 _ _ _ j) fun u1 M => ?_
 refine nT <| sR <| rV 3 <| ZE M 9 0 3 <| rV 1 ?_
 refine nT <| wp_ret ?_
 have e0 : endF s = ⟨s.h, s.c, ⟨#[]⟩, s.e⟩ := rfl
 exact bodyPost_ret (v := .int .i64 s.e) (results_tmp1 Tryz.results26 _ _ _ (by kernel_rfl)) (by kernel_rfl) ⟨rfl, M.old, by rw [e0]; exact M.get 0 rfl⟩
open Go.RowKit
def z0 : St := ⟨⟨#[]⟩, ⟨#[]⟩, ⟨#[]⟩, 0⟩
def adN (s : St) (V : Int) : St := ⟨s.h, nxA s.c (Mon.lebytes V), nxB s.c (Mon.lebytes V), 0⟩
abbrev tagOk (s : St) (t : ByteArray) : Prop := tgX s.k n0 s.h t = t.extract (t.size - 16) t.size
theorem mixF_e {s : St} {t : ByteArray} {n : Int} (h : s.e = n) : (mixF s t).e = n := by
 unfold mixF
 exact h
theorem mixF_h (s : St) (t : ByteArray) : (mixF s t).h.size = 32 := Bh_size _
theorem beginF_h (pr pu : ByteArray) (s : St) : (beginF pr pu s).h.size = 32 := mixF_h _ _
theorem addF_h (s : St) (x y : ByteArray) : (addF s x y).h = s.h := by
 unfold addF
 split
 ·split <;> rfl
 ·rfl
theorem addF_k {s : St} {x y : ByteArray} (h : (addF s x y).e = 0) : (addF s x y).k.size = 32 := by
 unfold addF at h ⊢
 split
 ·rename_i h0
  rw [if_pos h0] at h
  split
  ·rename_i h1
   rw [if_pos h1] at h
   cases h
  ·exact nxB_size _ _
 ·rename_i h0
  rw [if_neg h0] at h
  exact absurd h h0
theorem addF_ok {s : St} {x y : ByteArray} (h : s.e = 0) (hn : ¬ shN x y = 0) : addF s x y = adN s (shN x y) := by
 unfold addF adN
 rw [if_pos h, if_neg hn, h]
theorem addF_z {s : St} {x y : ByteArray} (h : s.e = 0) (hn : shN x y = 0) : (addF s x y).e = 30 := by
 unfold addF
 rw [if_pos h, if_pos hn]
theorem addF_no {s : St} {x y : ByteArray} (h : ¬ s.e = 0) : addF s x y = s := if_neg h
theorem sealF_ok {s : St} {t : ByteArray} (h : s.e = 0) : sealF s t = mixF s (sealS s.k n0 s.h t) := by
 unfold sealF
 rw [if_pos h, st_eq (a := ⟨s.h, s.c, s.k, 0⟩) (b := s) rfl rfl rfl h.symm]
theorem sealF_h {s : St} {t : ByteArray} (h : s.h.size = 32) : (sealF s t).h.size = 32 := by
 unfold sealF
 split
 ·exact mixF_h _ _
 ·exact h
theorem sealF_e (s : St) (t : ByteArray) : (sealF s t).e = s.e := by
 unfold sealF
 split
 ·rename_i h
  exact h.symm
 ·rfl
theorem openF_ok {s : St} {t : ByteArray} (h : s.e = 0) (ht : tagOk s t) : openF s t = mixF s t := by
 unfold openF
 rw [if_pos h, if_pos ht, st_eq (a := ⟨s.h, s.c, s.k, 0⟩) (b := s) rfl rfl rfl h.symm]
theorem openF_bad {s : St} {t : ByteArray} (h : s.e = 0) (ht : ¬ tagOk s t) : (openF s t).e = 100 := by
 unfold openF
 rw [if_pos h, if_neg ht]
 rfl
theorem openF_no {s : St} {t : ByteArray} (h : ¬ s.e = 0) : openF s t = s := if_neg h
theorem openF_h {s : St} {t : ByteArray} (h : s.h.size = 32) : (openF s t).h.size = 32 := by
 unfold openF
 split
 ·split <;> exact mixF_h _ _
 ·exact h
theorem openV_ok {s : St} {t : ByteArray} (h : s.e = 0) (ht : tagOk s t) : openV s t = opS s.k n0 t := by
 unfold openV
 rw [if_pos h, if_pos ht]
theorem opS_size (k n t : ByteArray) : (opS k n t).size = t.size - 16 := by
 unfold opS
 rw [tn_size, cx_size]
theorem openV_size {s : St} {t : ByteArray} (h : (openF s t).e = 0) : (openV s t).size = t.size - 16 := by
 by_cases h0 : s.e = 0
 ·by_cases h1 : tagOk s t
  ·rw [openV_ok h0 h1, opS_size]
  ·rw [openF_bad h0 h1] at h
   cases h
 ·rw [openF_no h0] at h
  exact absurd h h0
theorem sealV_le (s : St) (t : ByteArray) : (sealV s t).size ≤ t.size + 16 := by
 unfold sealV
 split
 ·rw [sealS_size]; exact Nat.le_refl _
 ·exact Nat.zero_le _
theorem pubF_ok {s : St} {x : ByteArray} (h : s.e = 0) : pubF s x = puV x := if_pos h
def bS0 (b pr : ByteArray) : St := beginF pr b z0
def bS1 (b e pr : ByteArray) : St := mixF (bS0 b pr) (pubF (bS0 b pr) e)
def bS2 (b e pr : ByteArray) : St := addF (bS1 b e pr) e b
def bS3 (a b e pr : ByteArray) : St := sealF (bS2 b e pr) (pubF (bS2 b e pr) a)
def bS4 (a b e pr : ByteArray) : St := addF (bS3 a b e pr) a b
def bS5 (a b e pr pl : ByteArray) : St := sealF (bS4 a b e pr) pl
def bMs (a b e pr pl : ByteArray) : ByteArray := pubF (bS0 b pr) e ++ sealV (bS2 b e pr) (pubF (bS2 b e pr) a) ++ sealV (bS4 a b e pr) pl
def bgE (a b e pr pl : ByteArray) : Int := if (a.size : Int) = 32 then (if (b.size : Int) = 32 then (if (e.size : Int) = 32 then (if 4096 < (pr.size : Int) then 4 else if 4096 < (pl.size : Int) then 4 else (bS5 a b e pr pl).e) else 2) else 2) else 2
def tS1 (b e pr : ByteArray) : St := mixF (bS0 b pr) (puV e)
def tS2 (b e pr : ByteArray) : St := adN (tS1 b e pr) (shN e b)
def tX1 (a b e pr : ByteArray) : ByteArray := sealS (tS2 b e pr).k n0 (tS2 b e pr).h (puV a)
def tS3 (a b e pr : ByteArray) : St := mixF (tS2 b e pr) (tX1 a b e pr)
def tS4 (a b e pr : ByteArray) : St := adN (tS3 a b e pr) (shN a b)
def tX2 (a b e pr pl : ByteArray) : ByteArray := sealS (tS4 a b e pr).k n0 (tS4 a b e pr).h pl
def tS5 (a b e pr pl : ByteArray) : St := mixF (tS4 a b e pr) (tX2 a b e pr pl)
def tMs (a b e pr pl : ByteArray) : ByteArray := puV e ++ tX1 a b e pr ++ tX2 a b e pr pl
theorem bS2_t {b e pr : ByteArray} (h : ¬ shN e b = 0) : bS2 b e pr = tS2 b e pr := addF_ok rfl h
theorem bS3_t {a b e pr : ByteArray} (h : ¬ shN e b = 0) : bS3 a b e pr = tS3 a b e pr := by
 unfold bS3
 rw [bS2_t h]
 exact sealF_ok rfl
theorem bS4_t {a b e pr : ByteArray} (h : ¬ shN e b = 0) (h2 : ¬ shN a b = 0) : bS4 a b e pr = tS4 a b e pr := by
 unfold bS4
 rw [bS3_t h]
 exact addF_ok rfl h2
theorem bS5_t {a b e pr pl : ByteArray} (h : ¬ shN e b = 0) (h2 : ¬ shN a b = 0) : bS5 a b e pr pl = tS5 a b e pr pl := by
 unfold bS5
 rw [bS4_t h h2]
 exact sealF_ok rfl
theorem bMs_t {a b e pr pl : ByteArray} (h : ¬ shN e b = 0) (h2 : ¬ shN a b = 0) : bMs a b e pr pl = tMs a b e pr pl := by
 unfold bMs
 rw [bS4_t h h2, bS2_t h]
 rfl
theorem bS5_e (a b e pr pl : ByteArray) : (bS5 a b e pr pl).e = if shN e b = 0 then 30 else if shN a b = 0 then 30 else 0 := by
 unfold bS5
 rw [sealF_e]
 by_cases h : shN e b = 0
 ·have h1 : (bS2 b e pr).e = 30 := addF_z rfl h
  have h2 : (bS3 a b e pr).e = 30 := by unfold bS3; rw [sealF_e, h1]
  have h3 : bS4 a b e pr = bS3 a b e pr := addF_no (by rw [h2]; decide)
  rw [h3, h2, if_pos h]
 ·rw [if_neg h]
  by_cases h2 : shN a b = 0
  ·rw [if_pos h2]
   unfold bS4
   rw [bS3_t h]
   exact addF_z rfl h2
  ·rw [if_neg h2, bS4_t h h2]
   rfl
def rE (m : ByteArray) : ByteArray := m.extract 0 32
def rC1 (m : ByteArray) : ByteArray := m.extract 32 80
def rC2 (m : ByteArray) : ByteArray := m.extract 80 m.size
def rS0 (b pr : ByteArray) : St := beginF pr (pubF z0 b) z0
def rS1 (b pr m : ByteArray) : St := mixF (rS0 b pr) (rE m)
def rS2 (b pr m : ByteArray) : St := addF (rS1 b pr m) b (rE m)
def rF (b pr m : ByteArray) : ByteArray := openV (rS2 b pr m) (rC1 m)
def rS3 (b pr m : ByteArray) : St := openF (rS2 b pr m) (rC1 m)
def rS4 (b pr m : ByteArray) : St := addF (rS3 b pr m) b (rF b pr m)
def rP (b pr m : ByteArray) : ByteArray := openV (rS4 b pr m) (rC2 m)
def rS5 (b pr m : ByteArray) : St := openF (rS4 b pr m) (rC2 m)
def rdE (b pr m : ByteArray) : Int := if (b.size : Int) = 32 then (if 4096 < (pr.size : Int) then 4 else if 4192 < (m.size : Int) then 4 else if (m.size : Int) < 96 then 7 else (rS5 b pr m).e) else 2
def uS2 (b pr m : ByteArray) : St := adN (rS1 b pr m) (shN b (rE m))
def uF (b pr m : ByteArray) : ByteArray := opS (uS2 b pr m).k n0 (rC1 m)
def uS3 (b pr m : ByteArray) : St := mixF (uS2 b pr m) (rC1 m)
def uS4 (b pr m : ByteArray) : St := adN (uS3 b pr m) (shN b (uF b pr m))
def uP (b pr m : ByteArray) : ByteArray := opS (uS4 b pr m).k n0 (rC2 m)
def uS5 (b pr m : ByteArray) : St := mixF (uS4 b pr m) (rC2 m)
theorem rS2_u {b pr m : ByteArray} (h : ¬ shN b (rE m) = 0) : rS2 b pr m = uS2 b pr m := addF_ok rfl h
theorem rS3_u {b pr m : ByteArray} (h : ¬ shN b (rE m) = 0) (h1 : tagOk (uS2 b pr m) (rC1 m)) : rS3 b pr m = uS3 b pr m := by
 unfold rS3
 rw [rS2_u h]
 exact openF_ok rfl h1
theorem rF_u {b pr m : ByteArray} (h : ¬ shN b (rE m) = 0) (h1 : tagOk (uS2 b pr m) (rC1 m)) : rF b pr m = uF b pr m := by
 unfold rF
 rw [rS2_u h]
 exact openV_ok rfl h1
theorem rS4_u {b pr m : ByteArray} (h : ¬ shN b (rE m) = 0) (h1 : tagOk (uS2 b pr m) (rC1 m)) (h2 : ¬ shN b (uF b pr m) = 0) : rS4 b pr m = uS4 b pr m := by
 unfold rS4
 rw [rS3_u h h1, rF_u h h1]
 exact addF_ok rfl h2
theorem rS5_u {b pr m : ByteArray} (h : ¬ shN b (rE m) = 0) (h1 : tagOk (uS2 b pr m) (rC1 m)) (h2 : ¬ shN b (uF b pr m) = 0) (h3 : tagOk (uS4 b pr m) (rC2 m)) : rS5 b pr m = uS5 b pr m := by
 unfold rS5
 rw [rS4_u h h1 h2]
 exact openF_ok rfl h3
theorem rP_u {b pr m : ByteArray} (h : ¬ shN b (rE m) = 0) (h1 : tagOk (uS2 b pr m) (rC1 m)) (h2 : ¬ shN b (uF b pr m) = 0) (h3 : tagOk (uS4 b pr m) (rC2 m)) : rP b pr m = uP b pr m := by
 unfold rP
 rw [rS4_u h h1 h2]
 exact openV_ok rfl h3
theorem rS5_e (b pr m : ByteArray) : (rS5 b pr m).e = if shN b (rE m) = 0 then 30 else if tagOk (uS2 b pr m) (rC1 m) then (if shN b (uF b pr m) = 0 then 30 else if tagOk (uS4 b pr m) (rC2 m) then 0 else 100) else 100 := by
 have no : ∀ {n : Int}, n ≠ 0 → (rS3 b pr m).e = n → (rS5 b pr m).e = n := fun hn h => by
  have h4 : rS4 b pr m = rS3 b pr m := addF_no (by rw [h]; exact hn)
  unfold rS5
  rw [h4, openF_no (by rw [h]; exact hn), h]
 by_cases h : shN b (rE m) = 0
 ·rw [if_pos h]
  have h2 : (rS2 b pr m).e = 30 := addF_z rfl h
  exact no (by decide) (by unfold rS3; rw [openF_no (by rw [h2]; decide), h2])
 ·rw [if_neg h]
  by_cases h1 : tagOk (uS2 b pr m) (rC1 m)
  ·rw [if_pos h1]
   by_cases h2 : shN b (uF b pr m) = 0
   ·rw [if_pos h2]
    have h4 : (rS4 b pr m).e = 30 := by
     unfold rS4
     rw [rS3_u h h1, rF_u h h1]
     exact addF_z rfl h2
    unfold rS5
    rw [openF_no (by rw [h4]; decide), h4]
   ·rw [if_neg h2]
    by_cases h3 : tagOk (uS4 b pr m) (rC2 m)
    ·rw [if_pos h3, rS5_u h h1 h2 h3]
     rfl
    ·rw [if_neg h3]
     unfold rS5
     rw [rS4_u h h1 h2]
     exact openF_bad rfl h3
  ·rw [if_neg h1]
   refine no (by decide) ?_
   unfold rS3
   rw [rS2_u h]
   exact openF_bad rfl h1
def aS1 (s : St) (e : ByteArray) : St := mixF s (pubF s e)
def aS2 (s : St) (x e : ByteArray) : St := addF (aS1 s e) e x
def aS3 (s : St) (f x e : ByteArray) : St := addF (aS2 s x e) e f
def aS4 (s : St) (f x e pl : ByteArray) : St := sealF (aS3 s f x e) pl
def aRp (s : St) (f x e pl : ByteArray) : ByteArray := pubF s e ++ sealV (aS3 s f x e) pl
def anE (s : St) (f x e pl : ByteArray) : Int := if (e.size : Int) = 32 then (if 4096 < (pl.size : Int) then 4 else (aS4 s f x e pl).e) else 2
def vS2 (s : St) (x e : ByteArray) : St := adN (mixF s (puV e)) (shN e x)
def vS3 (s : St) (f x e : ByteArray) : St := adN (vS2 s x e) (shN e f)
def vX (s : St) (f x e pl : ByteArray) : ByteArray := sealS (vS3 s f x e).k n0 (vS3 s f x e).h pl
def vS4 (s : St) (f x e pl : ByteArray) : St := mixF (vS3 s f x e) (vX s f x e pl)
def vRp (s : St) (f x e pl : ByteArray) : ByteArray := puV e ++ vX s f x e pl
theorem aS2_v {s : St} {x e : ByteArray} (h0 : s.e = 0) (h : ¬ shN e x = 0) : aS2 s x e = vS2 s x e := by
 unfold aS2 aS1
 rw [pubF_ok h0]
 exact addF_ok (mixF_e h0) h
theorem aS3_v {s : St} {f x e : ByteArray} (h0 : s.e = 0) (h : ¬ shN e x = 0) (h1 : ¬ shN e f = 0) : aS3 s f x e = vS3 s f x e := by
 unfold aS3
 rw [aS2_v h0 h]
 exact addF_ok rfl h1
theorem aS4_v {s : St} {f x e pl : ByteArray} (h0 : s.e = 0) (h : ¬ shN e x = 0) (h1 : ¬ shN e f = 0) : aS4 s f x e pl = vS4 s f x e pl := by
 unfold aS4
 rw [aS3_v h0 h h1]
 exact sealF_ok rfl
theorem aRp_v {s : St} {f x e pl : ByteArray} (h0 : s.e = 0) (h : ¬ shN e x = 0) (h1 : ¬ shN e f = 0) : aRp s f x e pl = vRp s f x e pl := by
 unfold aRp
 rw [aS3_v h0 h h1, pubF_ok h0]
 rfl
theorem aS4_e {s : St} (f x e pl : ByteArray) (h0 : s.e = 0) : (aS4 s f x e pl).e = if shN e x = 0 then 30 else if shN e f = 0 then 30 else 0 := by
 unfold aS4
 rw [sealF_e]
 by_cases h : shN e x = 0
 ·have h1 : (aS2 s x e).e = 30 := addF_z (mixF_e h0) h
  have h3 : aS3 s f x e = aS2 s x e := addF_no (by rw [h1]; decide)
  rw [h3, h1, if_pos h]
 ·rw [if_neg h]
  by_cases h2 : shN e f = 0
  ·rw [if_pos h2]
   unfold aS3
   rw [aS2_v h0 h]
   exact addF_z rfl h2
  ·rw [if_neg h2, aS3_v h0 h h2]
   rfl
def fC (r : ByteArray) : ByteArray := r.extract 32 r.size
def fS1 (s : St) (r : ByteArray) : St := mixF s (rE r)
def fS2 (s : St) (e r : ByteArray) : St := addF (fS1 s r) e (rE r)
def fS3 (s : St) (a e r : ByteArray) : St := addF (fS2 s e r) a (rE r)
def fP (s : St) (a e r : ByteArray) : ByteArray := openV (fS3 s a e r) (fC r)
def fS4 (s : St) (a e r : ByteArray) : St := openF (fS3 s a e r) (fC r)
def fiE (s : St) (a e r : ByteArray) : Int := if 4144 < (r.size : Int) then 4 else if (r.size : Int) < 48 then 7 else (fS4 s a e r).e
def gS2 (s : St) (e r : ByteArray) : St := adN (fS1 s r) (shN e (rE r))
def gS3 (s : St) (a e r : ByteArray) : St := adN (gS2 s e r) (shN a (rE r))
def gP (s : St) (a e r : ByteArray) : ByteArray := opS (gS3 s a e r).k n0 (fC r)
def gS4 (s : St) (a e r : ByteArray) : St := mixF (gS3 s a e r) (fC r)
theorem fS2_g {s : St} {e r : ByteArray} (h0 : s.e = 0) (h : ¬ shN e (rE r) = 0) : fS2 s e r = gS2 s e r := addF_ok (mixF_e h0) h
theorem fS3_g {s : St} {a e r : ByteArray} (h0 : s.e = 0) (h : ¬ shN e (rE r) = 0) (h1 : ¬ shN a (rE r) = 0) : fS3 s a e r = gS3 s a e r := by
 unfold fS3
 rw [fS2_g h0 h]
 exact addF_ok rfl h1
theorem fS4_g {s : St} {a e r : ByteArray} (h0 : s.e = 0) (h : ¬ shN e (rE r) = 0) (h1 : ¬ shN a (rE r) = 0) (h2 : tagOk (gS3 s a e r) (fC r)) : fS4 s a e r = gS4 s a e r := by
 unfold fS4
 rw [fS3_g h0 h h1]
 exact openF_ok rfl h2
theorem fP_g {s : St} {a e r : ByteArray} (h0 : s.e = 0) (h : ¬ shN e (rE r) = 0) (h1 : ¬ shN a (rE r) = 0) (h2 : tagOk (gS3 s a e r) (fC r)) : fP s a e r = gP s a e r := by
 unfold fP
 rw [fS3_g h0 h h1]
 exact openV_ok rfl h2
theorem fS4_e {s : St} (a e r : ByteArray) (h0 : s.e = 0) : (fS4 s a e r).e = if shN e (rE r) = 0 then 30 else if shN a (rE r) = 0 then 30 else if tagOk (gS3 s a e r) (fC r) then 0 else 100 := by
 have no : ∀ {n : Int}, n ≠ 0 → (fS3 s a e r).e = n → (fS4 s a e r).e = n := fun hn h => by
  unfold fS4
  rw [openF_no (by rw [h]; exact hn), h]
 by_cases h : shN e (rE r) = 0
 ·have h1 : (fS2 s e r).e = 30 := addF_z (mixF_e h0) h
  rw [if_pos h]
  exact no (by decide) (by unfold fS3; rw [addF_no (by rw [h1]; decide), h1])
 ·rw [if_neg h]
  by_cases h1 : shN a (rE r) = 0
  ·rw [if_pos h1]
   refine no (by decide) ?_
   unfold fS3
   rw [fS2_g h0 h]
   exact addF_z rfl h1
  ·rw [if_neg h1]
   by_cases h2 : tagOk (gS3 s a e r) (fC r)
   ·rw [if_pos h2, fS4_g h0 h h1 h2]
    rfl
   ·rw [if_neg h2]
    unfold fS4
    rw [fS3_g h0 h h1]
    exact openF_bad rfl h2
open Go.RowKit
theorem Mem.geAt {w : World} {L : List Blk} {W : World} (M : Mem ⟨w, []⟩ L W) (i : Nat) {b : Blk} (hi : L[i]? = some b) : w.heap.size ≤ b.g := (M.ge b (List.mem_of_getElem? hi)).resolve_right (by simp)
theorem bS2_h (b e pr : ByteArray) : (bS2 b e pr).h.size = 32 := by
 unfold bS2
 rw [addF_h]
 exact mixF_h _ _
theorem bS3_h (a b e pr : ByteArray) : (bS3 a b e pr).h.size = 32 := sealF_h (bS2_h b e pr)
theorem bS4_h (a b e pr : ByteArray) : (bS4 a b e pr).h.size = 32 := by
 unfold bS4
 rw [addF_h]
 exact bS3_h _ _ _ _
theorem rS2_h (b pr m : ByteArray) : (rS2 b pr m).h.size = 32 := by
 unfold rS2
 rw [addF_h]
 exact mixF_h _ _
theorem rS3_h (b pr m : ByteArray) : (rS3 b pr m).h.size = 32 := openF_h (rS2_h b pr m)
theorem rS4_h (b pr m : ByteArray) : (rS4 b pr m).h.size = 32 := by
 unfold rS4
 rw [addF_h]
 exact rS3_h _ _ _
theorem rC1_size {m : ByteArray} (h : 96 ≤ m.size) : (rC1 m).size = 48 := by
 unfold rC1
 rw [ByteArray.size_extract]
 omega
theorem rC2_size {m : ByteArray} (h : 96 ≤ m.size) : (rC2 m).size = m.size - 80 := by
 unfold rC2
 rw [ByteArray.size_extract]
 omega
theorem rE_size {m : ByteArray} (h : 32 ≤ m.size) : (rE m).size = 32 := by
 unfold rE
 rw [ByteArray.size_extract]
 omega
theorem rF_size {b pr m : ByteArray} (hm : 96 ≤ m.size) (h : (rS3 b pr m).e = 0) : (rF b pr m).size = 32 := by
 unfold rF
 rw [openV_size h, rC1_size hm]
theorem c_Begin (sa ob ep pr pl : ByteArray) (w : World) (hL : Laid w)  :
  Calls Tryz.prog 10 #[.string sa, .string ob, .string ep, .string pr, .string pl] w fun r w' => Below w.heap.size w w' ∧ ((bgE sa ob ep pr pl ≠ 0 ∧ r = .returned (.tuple #[.pointer none, .string ⟨#[]⟩, .int .i64 (bgE sa ob ep pr pl)])) ∨ (bgE sa ob ep pr pl = 0 ∧ ∃ g, r = .returned (.tuple #[.pointer (some ⟨g, 0, none⟩), .string (bMs sa ob ep pr pl), .int .i64 0]) ∧ w.heap.size ≤ g ∧ w'.heap[g]? = some (.cells (av 7 (stL (endF (bS5 sa ob ep pr pl)) [.string sa, .string ep, .string ob])) 66))) := by
 go_enter Tryz.func10, Tryz.ntmps10
 have M := Mem.start hL
 refine sq <| wp_seq ?_
 refine wp_block ?_
 refine wp_seq <| sR <| rV 2 ?_
 by_cases c0 : (sa.size : Int) = 32
 ·refine pH 19 (.bool false) (jD ((sa.size : Int) = 32) (c0)) ?_
  refine rV 1 <| nT <| cF <| sR <| rV 2 ?_
  by_cases c1 : (ob.size : Int) = 32
  ·refine pH 22 (.bool false) (jD ((ob.size : Int) = 32) (c1)) ?_
   refine rV 1 <| nT <| cF ?_
   refine rg_lit ?_
   refine rV 2 ?_
   by_cases c2 : (ep.size : Int) = 32
   ·refine pH 25 (.bool false) (jD ((ep.size : Int) = 32) (c2)) ?_
    refine rV 1 <| nT <| cF <| wp_seq <| sR ?_
    refine rV 2 ?_
    by_cases c3 : 4096 < (pr.size : Int)
    ·refine pH 29 (.bool true) (jT (4096 < (pr.size : Int)) (c3)) ?_
     refine rV 1 <| nT <| cT <| wp_skip <| au_then ?_
     refine cT <| sq <| wp_ret ?_
     refine au_block_ret ?_
     refine au_then_ret ?_
     have e0 : bgE sa ob ep pr pl = 4 := by simp only [bgE, if_pos c0, if_pos c1, if_pos c2, if_pos c3]
     exact bodyPost_ret (v := .tuple #[.pointer none, .string ⟨#[]⟩, .int .i64 4]) (results_t3 Tryz.results10 _ _ _ _ _ (by kernel_rfl) (by kernel_rfl) (by kernel_rfl)) (by kernel_rfl) ⟨below_grown M.old, .inl ⟨by rw [e0]; decide, by rw [e0]⟩⟩
    ·refine pH 29 (.bool false) (jF (4096 < (pr.size : Int)) (c3)) ?_
     refine rV 1 <| nT <| cF ?_
     refine rg_lit ?_
     refine rV 2 ?_
     by_cases c4 : 4096 < (pl.size : Int)
     ·refine pH 32 (.bool true) (jT (4096 < (pl.size : Int)) (c4)) ?_
      refine rV 1 <| nT <| cT <| sq <| wp_ret ?_
      refine au_block_ret ?_
      refine au_then_ret ?_
      have e0 : bgE sa ob ep pr pl = 4 := by simp only [bgE, if_pos c0, if_pos c1, if_pos c2, if_neg c3, if_pos c4]
      exact bodyPost_ret (v := .tuple #[.pointer none, .string ⟨#[]⟩, .int .i64 4]) (results_t3 Tryz.results10 _ _ _ _ _ (by kernel_rfl) (by kernel_rfl) (by kernel_rfl)) (by kernel_rfl) ⟨below_grown M.old, .inl ⟨by rw [e0]; decide, by rw [e0]⟩⟩
     ·refine pH 32 (.bool false) (jF (4096 < (pl.size : Int)) (c4)) ?_
      refine rV 1 <| nT <| cF <| wp_skip ?_
      refine au_block ?_
      refine au_then <| sR <| rV 4 ?_
      refine pN M 37 (.cells (av 7 (stL ⟨⟨#[]⟩, ⟨#[]⟩, ⟨#[]⟩, 0⟩ [.string sa, .string ep, .string ob])) 66) fun g1 u1 M => ?_
      refine rV 1 <| nT <| sR <| rV 5 ?_
      refine pl_callp M (want_no rfl) (some 43) rfl 21 #[.pointer (some ⟨g1, 0, none⟩), .string pr, .string ob] (.tuple #[]) 0 g1 (.cells (av 7 (stL ⟨⟨#[]⟩, ⟨#[]⟩, ⟨#[]⟩, 0⟩ [.string sa, .string ep, .string ob])) 66) (.cells (av 7 (stL (bS0 ob pr) [.string sa, .string ep, .string ob])) 66) rfl (fun _ => by kernel_rfl) (fun w M => c_begin g1 7 66 (by omega) ⟨⟨#[]⟩, ⟨#[]⟩, ⟨#[]⟩, 0⟩ [.string sa, .string ep, .string ob] pr ob (by omega) (by omega) w M.laid (M.get 0 rfl) (M.ne0 0 rfl)) fun u2 M => ?_
      refine nT <| sR <| rV 4 ?_
      refine pl_callp M (want_no rfl) (some 48) rfl 22 #[.pointer (some ⟨g1, 0, none⟩), .string ep] (.string (pubF (bS0 ob pr) ep)) 0 g1 (.cells (av 7 (stL (bS0 ob pr) [.string sa, .string ep, .string ob])) 66) (.cells (av 7 (stL (bS1 ob ep pr) [.string sa, .string ep, .string ob])) 66) rfl (fun _ => by kernel_rfl) (fun w M => c_show g1 7 66 (by omega) (bS0 ob pr) [.string sa, .string ep, .string ob] ep (by omega) (Nat.le_of_eq (beginF_h _ _ _)) w M.laid (M.get 0 rfl) (M.ne0 0 rfl)) fun u3 M => ?_
      refine rV 1 <| nT <| sR <| rV 5 ?_
      refine pl_callp M (want_no rfl) (some 54) rfl 23 #[.pointer (some ⟨g1, 0, none⟩), .string ep, .string ob] (.tuple #[]) 0 g1 (.cells (av 7 (stL (bS1 ob ep pr) [.string sa, .string ep, .string ob])) 66) (.cells (av 7 (stL (bS2 ob ep pr) [.string sa, .string ep, .string ob])) 66) rfl (fun _ => by kernel_rfl) (fun w M => c_add g1 7 66 (by omega) (bS1 ob ep pr) [.string sa, .string ep, .string ob] ep ob (by omega) (fun _ => by omega) w M.laid (M.get 0 rfl) (M.ne0 0 rfl)) fun u4 M => ?_
      refine nT <| wp_seq ?_
      refine rg_held M [] 11 rfl (by kernel_rfl) (by kernel_rfl) (fun _ _ d _ _ h => by cases d <;> exact h) fun u5 M => ?_
      refine qV (M.drop (.cons _ (.slnil))) 0 55 (.string (pubF (bS0 ob pr) ep)) ?_
      refine qV (M.drop (.cons _ (.slnil))) 1 56 (.pointer (some ⟨g1, 0, none⟩)) ?_
      refine qV (M.drop (.cons _ (.slnil))) 2 57 (.pointer (some ⟨g1, 0, none⟩)) ?_
      refine qV (M.drop (.cons _ (.slnil))) 3 58 (.pointer (some ⟨g1, 0, none⟩)) ?_
      refine qV (M.drop (.cons _ (.slnil))) 4 59 (.pointer (some ⟨g1, 0, none⟩)) ?_
      refine qV (M.drop (.cons _ (.slnil))) 5 60 (.pointer (some ⟨g1, 0, none⟩)) ?_
      refine qV (M.drop (.cons _ (.slnil))) 6 61 (.pointer (some ⟨g1, 0, none⟩)) ?_
      refine qV (M.drop (.cons _ (.slnil))) 7 62 (.string sa) ?_
      refine hl_one 8 (by decide) (by kernel_rfl) rfl ?_
      refine pl_callp M (want_no rfl) (some 63) rfl 25 #[.pointer (some ⟨g1, 0, none⟩), .string sa] (.string (pubF (bS2 ob ep pr) sa)) 0 g1 (.cells (av 7 (stL (bS2 ob ep pr) [.string sa, .string ep, .string ob])) 66) (.cells (av 7 (stL (bS2 ob ep pr) [.string sa, .string ep, .string ob])) 66) rfl (fun _ => by kernel_rfl) (fun w M => c_public g1 7 66 (by omega) (bS2 ob ep pr) [.string sa, .string ep, .string ob] sa (by omega) w M.laid (M.get 0 rfl) (M.ne0 0 rfl)) fun u6 M => ?_
      refine nT ?_
      refine ⟨(M.drop (.cons _ (.slnil))), ?_⟩
      refine hl_one 9 (by decide) (by kernel_rfl) rfl ?_
      refine pl_callp M (want_no rfl) (some 64) rfl 24 #[.pointer (some ⟨g1, 0, none⟩), .string (pubF (bS2 ob ep pr) sa)] (.string (sealV (bS2 ob ep pr) (pubF (bS2 ob ep pr) sa))) 0 g1 (.cells (av 7 (stL (bS2 ob ep pr) [.string sa, .string ep, .string ob])) 66) (.cells (av 7 (stL (bS3 sa ob ep pr) [.string sa, .string ep, .string ob])) 66) rfl (fun _ => by kernel_rfl) (fun w M => c_seal g1 7 66 (by omega) (bS2 ob ep pr) [.string sa, .string ep, .string ob] (pubF (bS2 ob ep pr) sa) (bS2_h _ _ _) (fun h => addF_k h) (Nat.le_trans (pubF_le _ _) (by decide)) w M.laid (M.get 0 rfl) (M.ne0 0 rfl)) fun u7 M => ?_
      refine nT ?_
      refine ⟨(M.drop (.cons _ (.slnil))), ?_⟩
      refine hl_val (M.drop (.cons _ (.slnil))) 10 rfl (by decide) (by kernel_rfl) (by kernel_rfl) (want_no rfl) (some 65) rfl (.string ((pubF (bS0 ob pr) ep) ++ (sealV (bS2 ob ep pr) (pubF (bS2 ob ep pr) sa)))) (fun w _ => (run_cat 9 9 _ _ rfl (pubF (bS0 ob pr) ep) (sealV (bS2 ob ep pr) (pubF (bS2 ob ep pr) sa)) (by kernel_rfl) (by kernel_rfl) (by have h1 := pubF_le (bS0 ob pr) ep; have h2 := sealV_le (bS2 ob ep pr) (pubF (bS2 ob ep pr) sa); have h3 := pubF_le (bS2 ob ep pr) sa; have h4 := sealV_le (bS4 sa ob ep pr) pl; (try simp only [ByteArray.size_append]); omega)) w) ?_
      refine hl_end (by kernel_rfl) (by kernel_rfl) rfl ?_
      refine rV 1 <| nT <| au_then <| sR <| rV 5 ?_
      refine pl_callp M (want_no rfl) (some 71) rfl 23 #[.pointer (some ⟨g1, 0, none⟩), .string sa, .string ob] (.tuple #[]) 0 g1 (.cells (av 7 (stL (bS3 sa ob ep pr) [.string sa, .string ep, .string ob])) 66) (.cells (av 7 (stL (bS4 sa ob ep pr) [.string sa, .string ep, .string ob])) 66) rfl (fun _ => by kernel_rfl) (fun w M => c_add g1 7 66 (by omega) (bS3 sa ob ep pr) [.string sa, .string ep, .string ob] sa ob (by omega) (fun _ => by omega) w M.laid (M.get 0 rfl) (M.ne0 0 rfl)) fun u8 M => ?_
      refine nT <| sR <| rV 5 ?_
      refine pl_callp M (want_no rfl) (some 77) rfl 24 #[.pointer (some ⟨g1, 0, none⟩), .string pl] (.string (sealV (bS4 sa ob ep pr) pl)) 0 g1 (.cells (av 7 (stL (bS4 sa ob ep pr) [.string sa, .string ep, .string ob])) 66) (.cells (av 7 (stL (bS5 sa ob ep pr pl) [.string sa, .string ep, .string ob])) 66) rfl (fun _ => by kernel_rfl) (fun w M => c_seal g1 7 66 (by omega) (bS4 sa ob ep pr) [.string sa, .string ep, .string ob] pl (bS4_h _ _ _ _) (fun h => addF_k h) (by omega) w M.laid (M.get 0 rfl) (M.ne0 0 rfl)) fun u9 M => ?_
      refine pH 78 (.string (((pubF (bS0 ob pr) ep) ++ (sealV (bS2 ob ep pr) (pubF (bS2 ob ep pr) sa))) ++ (sealV (bS4 sa ob ep pr) pl))) (run_cat 9 9 _ _ rfl ((pubF (bS0 ob pr) ep) ++ (sealV (bS2 ob ep pr) (pubF (bS2 ob ep pr) sa))) (sealV (bS4 sa ob ep pr) pl) (by kernel_rfl) (by kernel_rfl) (by have h1 := pubF_le (bS0 ob pr) ep; have h2 := sealV_le (bS2 ob ep pr) (pubF (bS2 ob ep pr) sa); have h3 := pubF_le (bS2 ob ep pr) sa; have h4 := sealV_le (bS4 sa ob ep pr) pl; (try simp only [ByteArray.size_append]); omega)) ?_
      refine rV 1 <| nT <| wp_seq <| sR <| rV 3 ?_
      refine pl_callp M (want_no rfl) (some 82) rfl 26 #[.pointer (some ⟨g1, 0, none⟩)] (.int .i64 (bS5 sa ob ep pr pl).e) 0 g1 (.cells (av 7 (stL (bS5 sa ob ep pr pl) [.string sa, .string ep, .string ob])) 66) (.cells (av 7 (stL (endF (bS5 sa ob ep pr pl)) [.string sa, .string ep, .string ob])) 66) rfl (fun _ => by kernel_rfl) (fun w M => c_end g1 7 66 (by omega) (bS5 sa ob ep pr pl) [.string sa, .string ep, .string ob] w M.laid (M.get 0 rfl) (M.ne0 0 rfl)) fun u10 M => ?_
      refine rV 1 <| nT <| sR <| rV 1 ?_
      by_cases c5 : ((bS5 sa ob ep pr pl).e) = 0
      ·refine pH 84 (.bool false) (jD (((bS5 sa ob ep pr pl).e) = 0) (c5)) ?_
       refine nT <| cF <| wp_skip <| au_then <| sq ?_
       refine wp_ret ?_
       have e0 : bgE sa ob ep pr pl = 0 := by simp only [bgE, if_pos c0, if_pos c1, if_pos c2, if_neg c3, if_neg c4, if_pos c5, c5]
       exact bodyPost_ret (v := .tuple #[.pointer (some ⟨g1, 0, none⟩), .string (((pubF (bS0 ob pr) ep) ++ (sealV (bS2 ob ep pr) (pubF (bS2 ob ep pr) sa))) ++ (sealV (bS4 sa ob ep pr) pl)), .int .i64 0]) (results_t3 Tryz.results10 _ _ _ _ _ (by kernel_rfl) (by kernel_rfl) (by kernel_rfl)) (by kernel_rfl) ⟨below_grown M.old, .inr ⟨e0, g1, rfl, M.geAt 0 rfl, M.get 0 rfl⟩⟩
      ·refine pH 84 (.bool true) (jU (((bS5 sa ob ep pr pl).e) = 0) (c5)) ?_
       refine nT <| cT <| sq <| wp_ret <| au_then_ret ?_
       have e0 : bgE sa ob ep pr pl = (bS5 sa ob ep pr pl).e := by simp only [bgE, if_pos c0, if_pos c1, if_pos c2, if_neg c3, if_neg c4, if_neg c5]
       exact bodyPost_ret (v := .tuple #[.pointer none, .string ⟨#[]⟩, .int .i64 (bS5 sa ob ep pr pl).e]) (results_t3 Tryz.results10 _ _ _ _ _ (by kernel_rfl) (by kernel_rfl) (by kernel_rfl)) (by kernel_rfl) ⟨below_grown M.old, .inl ⟨by rw [e0]; exact c5, by rw [e0]⟩⟩
   ·refine pH 25 (.bool true) (jU ((ep.size : Int) = 32) (c2)) ?_
    refine rV 1 <| nT <| cT <| sq <| wp_ret ?_
    refine au_block_ret ?_
    refine au_then_ret ?_
    have e0 : bgE sa ob ep pr pl = 2 := by simp only [bgE, if_pos c0, if_pos c1, if_neg c2]
    exact bodyPost_ret (v := .tuple #[.pointer none, .string ⟨#[]⟩, .int .i64 2]) (results_t3 Tryz.results10 _ _ _ _ _ (by kernel_rfl) (by kernel_rfl) (by kernel_rfl)) (by kernel_rfl) ⟨below_grown M.old, .inl ⟨by rw [e0]; decide, by rw [e0]⟩⟩
  ·refine pH 22 (.bool true) (jU ((ob.size : Int) = 32) (c1)) ?_
   refine rV 1 <| nT <| cT <| wp_skip <| au_then ?_
   refine cT <| sq <| wp_ret ?_
   refine au_block_ret ?_
   refine au_then_ret ?_
   have e0 : bgE sa ob ep pr pl = 2 := by simp only [bgE, if_pos c0, if_neg c1]
   exact bodyPost_ret (v := .tuple #[.pointer none, .string ⟨#[]⟩, .int .i64 2]) (results_t3 Tryz.results10 _ _ _ _ _ (by kernel_rfl) (by kernel_rfl) (by kernel_rfl)) (by kernel_rfl) ⟨below_grown M.old, .inl ⟨by rw [e0]; decide, by rw [e0]⟩⟩
 ·refine pH 19 (.bool true) (jU ((sa.size : Int) = 32) (c0)) ?_
  refine rV 1 <| nT <| cT <| wp_skip <| au_then ?_
  refine cT <| sq <| wp_ret ?_
  refine au_block_ret ?_
  refine au_then_ret ?_
  have e0 : bgE sa ob ep pr pl = 2 := by simp only [bgE, if_neg c0]
  exact bodyPost_ret (v := .tuple #[.pointer none, .string ⟨#[]⟩, .int .i64 2]) (results_t3 Tryz.results10 _ _ _ _ _ (by kernel_rfl) (by kernel_rfl) (by kernel_rfl)) (by kernel_rfl) ⟨below_grown M.old, .inl ⟨by rw [e0]; decide, by rw [e0]⟩⟩
theorem c_Read (sb pr m : ByteArray) (w : World) (hL : Laid w)  :
  Calls Tryz.prog 13 #[.string sb, .string pr, .string m] w fun r w' => Below w.heap.size w w' ∧ ((rdE sb pr m ≠ 0 ∧ r = .returned (.tuple #[.pointer none, .agg (av 5 (ls [.string ⟨#[]⟩, .string ⟨#[]⟩, .string ⟨#[]⟩, .string ⟨#[]⟩, .string ⟨#[]⟩])), .int .i64 (rdE sb pr m)])) ∨ (rdE sb pr m = 0 ∧ ∃ g, r = .returned (.tuple #[.pointer (some ⟨g, 0, none⟩), .agg (av 5 (ls [.string (rF sb pr m), .string (rP sb pr m), .string ⟨#[]⟩, .string ⟨#[]⟩, .string ⟨#[]⟩])), .int .i64 0]) ∧ w.heap.size ≤ g ∧ w'.heap[g]? = some (.cells (av 6 (stL (endF (rS5 sb pr m)) [.string (rF sb pr m), .string (rE m)])) 77))) := by
 go_enter Tryz.func13, Tryz.ntmps13
 have M := Mem.start hL
 refine sR <| rV 1 ?_
 refine pN M 7 (.cells (av 5 (ls [.string ⟨#[]⟩, .string ⟨#[]⟩, .string ⟨#[]⟩, .string ⟨#[]⟩, .string ⟨#[]⟩])) 41) fun g1 u1 M => ?_
 refine rV 1 <| nT <| wp_seq ?_
 refine wp_block ?_
 refine sR <| rV 2 ?_
 by_cases c0 : (sb.size : Int) = 32
 ·refine pH 15 (.bool false) (jD ((sb.size : Int) = 32) (c0)) ?_
  refine rV 1 <| nT <| cF <| wp_seq <| sR ?_
  refine rV 2 ?_
  by_cases c1 : 4096 < (pr.size : Int)
  ·refine pH 20 (.bool true) (jT (4096 < (pr.size : Int)) (c1)) ?_
   refine rV 1 <| nT <| cT <| wp_skip <| au_then ?_
   refine cT <| sR <| rV 2 ?_
   refine pl_put M (want_no rfl) rfl 41 _ _ rfl 0 g1 0 (by kernel_rfl) 5 41 (ls [.string ⟨#[]⟩, .string ⟨#[]⟩, .string ⟨#[]⟩, .string ⟨#[]⟩, .string ⟨#[]⟩]) rfl 5 (ls [.string ⟨#[]⟩, .string ⟨#[]⟩, .string ⟨#[]⟩, .string ⟨#[]⟩, .string ⟨#[]⟩]) (ls [.string ⟨#[]⟩, .string ⟨#[]⟩, .string ⟨#[]⟩, .string ⟨#[]⟩, .string ⟨#[]⟩]) (by kernel_rfl) inz41 (by decide) (one_ls _ rfl) (fun j hj => by rw [if_pos (by omega), Nat.sub_zero]) fun u2 M => ?_
   refine rV 1 <| nT <| wp_ret ?_
   refine au_block_ret ?_
   refine au_then_ret ?_
   have e0 : rdE sb pr m = 4 := by simp only [rdE, if_pos c0, if_pos c1]
   exact bodyPost_ret (v := .tuple #[.pointer none, .agg (av 5 (ls [.string ⟨#[]⟩, .string ⟨#[]⟩, .string ⟨#[]⟩, .string ⟨#[]⟩, .string ⟨#[]⟩])), .int .i64 4]) (results_tct Tryz.results13 _ _ g1 41 (av 5 (ls [.string ⟨#[]⟩, .string ⟨#[]⟩, .string ⟨#[]⟩, .string ⟨#[]⟩, .string ⟨#[]⟩])) (0, 0) _ _ _ (by kernel_rfl) (by kernel_rfl) (by kernel_rfl) (M.get 0 rfl) Tryz.underlying41 rfl (by rw [av_size]; kernel_rfl)) (by kernel_rfl) ⟨below_grown M.old, .inl ⟨by rw [e0]; decide, by rw [e0]⟩⟩
  ·refine pH 20 (.bool false) (jF (4096 < (pr.size : Int)) (c1)) ?_
   refine rV 1 <| nT <| cF ?_
   refine rg_lit ?_
   refine rV 2 ?_
   by_cases c2 : 4192 < (m.size : Int)
   ·refine pH 23 (.bool true) (jT (4192 < (m.size : Int)) (c2)) ?_
    refine rV 1 <| nT <| cT <| sR <| rV 2 ?_
    refine pl_put M (want_no rfl) rfl 41 _ _ rfl 0 g1 0 (by kernel_rfl) 5 41 (ls [.string ⟨#[]⟩, .string ⟨#[]⟩, .string ⟨#[]⟩, .string ⟨#[]⟩, .string ⟨#[]⟩]) rfl 5 (ls [.string ⟨#[]⟩, .string ⟨#[]⟩, .string ⟨#[]⟩, .string ⟨#[]⟩, .string ⟨#[]⟩]) (ls [.string ⟨#[]⟩, .string ⟨#[]⟩, .string ⟨#[]⟩, .string ⟨#[]⟩, .string ⟨#[]⟩]) (by kernel_rfl) inz41 (by decide) (one_ls _ rfl) (fun j hj => by rw [if_pos (by omega), Nat.sub_zero]) fun u2 M => ?_
    refine rV 1 <| nT <| wp_ret ?_
    refine au_block_ret ?_
    refine au_then_ret ?_
    have e0 : rdE sb pr m = 4 := by simp only [rdE, if_pos c0, if_neg c1, if_pos c2]
    exact bodyPost_ret (v := .tuple #[.pointer none, .agg (av 5 (ls [.string ⟨#[]⟩, .string ⟨#[]⟩, .string ⟨#[]⟩, .string ⟨#[]⟩, .string ⟨#[]⟩])), .int .i64 4]) (results_tct Tryz.results13 _ _ g1 41 (av 5 (ls [.string ⟨#[]⟩, .string ⟨#[]⟩, .string ⟨#[]⟩, .string ⟨#[]⟩, .string ⟨#[]⟩])) (0, 0) _ _ _ (by kernel_rfl) (by kernel_rfl) (by kernel_rfl) (M.get 0 rfl) Tryz.underlying41 rfl (by rw [av_size]; kernel_rfl)) (by kernel_rfl) ⟨below_grown M.old, .inl ⟨by rw [e0]; decide, by rw [e0]⟩⟩
   ·refine pH 23 (.bool false) (jF (4192 < (m.size : Int)) (c2)) ?_
    refine rV 1 <| nT <| cF <| sR <| rV 2 ?_
    by_cases c3 : (m.size : Int) < 96
    ·refine pH 28 (.bool true) (jT ((m.size : Int) < 96) (c3)) ?_
     refine rV 1 <| nT <| cT <| sR <| rV 2 ?_
     refine pl_put M (want_no rfl) rfl 41 _ _ rfl 0 g1 0 (by kernel_rfl) 5 41 (ls [.string ⟨#[]⟩, .string ⟨#[]⟩, .string ⟨#[]⟩, .string ⟨#[]⟩, .string ⟨#[]⟩]) rfl 5 (ls [.string ⟨#[]⟩, .string ⟨#[]⟩, .string ⟨#[]⟩, .string ⟨#[]⟩, .string ⟨#[]⟩]) (ls [.string ⟨#[]⟩, .string ⟨#[]⟩, .string ⟨#[]⟩, .string ⟨#[]⟩, .string ⟨#[]⟩]) (by kernel_rfl) inz41 (by decide) (one_ls _ rfl) (fun j hj => by rw [if_pos (by omega), Nat.sub_zero]) fun u2 M => ?_
     refine rV 1 <| nT <| wp_ret ?_
     refine au_block_ret ?_
     refine au_then_ret ?_
     have e0 : rdE sb pr m = 7 := by simp only [rdE, if_pos c0, if_neg c1, if_neg c2, if_pos c3]
     exact bodyPost_ret (v := .tuple #[.pointer none, .agg (av 5 (ls [.string ⟨#[]⟩, .string ⟨#[]⟩, .string ⟨#[]⟩, .string ⟨#[]⟩, .string ⟨#[]⟩])), .int .i64 7]) (results_tct Tryz.results13 _ _ g1 41 (av 5 (ls [.string ⟨#[]⟩, .string ⟨#[]⟩, .string ⟨#[]⟩, .string ⟨#[]⟩, .string ⟨#[]⟩])) (0, 0) _ _ _ (by kernel_rfl) (by kernel_rfl) (by kernel_rfl) (M.get 0 rfl) Tryz.underlying41 rfl (by rw [av_size]; kernel_rfl)) (by kernel_rfl) ⟨below_grown M.old, .inl ⟨by rw [e0]; decide, by rw [e0]⟩⟩
    ·refine pH 28 (.bool false) (jF ((m.size : Int) < 96) (c3)) ?_
     refine rV 1 <| nT <| cF <| wp_skip ?_
     refine au_block ?_
     refine au_then <| sR <| rV 1 ?_
     refine pH 31 (.string (rE m)) (run_strh 9 Tryz.underlying9 _ _ rfl m (by kernel_rfl) .i64 32 (by kernel_rfl) (by omega) _ rfl) ?_
     refine rV 1 ?_
     refine pN M 33 (.cells (av 6 (stL ⟨⟨#[]⟩, ⟨#[]⟩, ⟨#[]⟩, 0⟩ [.string ⟨#[]⟩, .string (rE m)])) 77) fun g2 u2 M => ?_
     refine rV 1 <| nT <| wp_seq ?_
     refine rg_held M [⟨g1, .cells (av 5 (ls [.string ⟨#[]⟩, .string ⟨#[]⟩, .string ⟨#[]⟩, .string ⟨#[]⟩, .string ⟨#[]⟩])) 41⟩] 9 rfl (by kernel_rfl) (by kernel_rfl) (fun _ _ d _ _ h => by cases d <;> exact h) fun u3 M => ?_
     refine qV (M.drop (.cons_cons _ (.cons _ (.slnil)))) 0 34 (.pointer (some ⟨g2, 0, none⟩)) ?_
     refine qV (M.drop (.cons_cons _ (.cons _ (.slnil)))) 1 35 (.pointer (some ⟨g2, 0, none⟩)) ?_
     refine qV (M.drop (.cons_cons _ (.cons _ (.slnil)))) 2 36 (.pointer (some ⟨g2, 0, none⟩)) ?_
     refine qV (M.drop (.cons_cons _ (.cons _ (.slnil)))) 3 37 (.string pr) ?_
     refine qV (M.drop (.cons_cons _ (.cons _ (.slnil)))) 4 38 (.pointer (some ⟨g2, 0, none⟩)) ?_
     refine qV (M.drop (.cons_cons _ (.cons _ (.slnil)))) 5 39 (.pointer (some ⟨g2, 0, none⟩)) ?_
     refine qV (M.drop (.cons_cons _ (.cons _ (.slnil)))) 6 40 (.pointer (some ⟨g2, 0, none⟩)) ?_
     refine qV (M.drop (.cons_cons _ (.cons _ (.slnil)))) 7 41 (.string sb) ?_
     refine hl_one 8 (by decide) (by kernel_rfl) rfl ?_
     refine pl_callp M (want_no rfl) (some 42) rfl 25 #[.pointer (some ⟨g2, 0, none⟩), .string sb] (.string (pubF ⟨⟨#[]⟩, ⟨#[]⟩, ⟨#[]⟩, 0⟩ sb)) 1 g2 (.cells (av 6 (stL ⟨⟨#[]⟩, ⟨#[]⟩, ⟨#[]⟩, 0⟩ [.string ⟨#[]⟩, .string (rE m)])) 77) (.cells (av 6 (stL ⟨⟨#[]⟩, ⟨#[]⟩, ⟨#[]⟩, 0⟩ [.string ⟨#[]⟩, .string (rE m)])) 77) rfl (fun _ => by kernel_rfl) (fun w M => c_public g2 6 77 (by omega) ⟨⟨#[]⟩, ⟨#[]⟩, ⟨#[]⟩, 0⟩ [.string ⟨#[]⟩, .string (rE m)] sb (by omega) w M.laid (M.get 1 rfl) (M.ne0 1 rfl)) fun u4 M => ?_
     refine nT ?_
     refine ⟨(M.drop (.cons_cons _ (.cons _ (.slnil)))), ?_⟩
     refine hl_end (by kernel_rfl) (by kernel_rfl) rfl ?_
     refine pl_callp M (want_no rfl) (some 43) rfl 21 #[.pointer (some ⟨g2, 0, none⟩), .string pr, .string (pubF ⟨⟨#[]⟩, ⟨#[]⟩, ⟨#[]⟩, 0⟩ sb)] (.tuple #[]) 1 g2 (.cells (av 6 (stL ⟨⟨#[]⟩, ⟨#[]⟩, ⟨#[]⟩, 0⟩ [.string ⟨#[]⟩, .string (rE m)])) 77) (.cells (av 6 (stL (rS0 sb pr) [.string ⟨#[]⟩, .string (rE m)])) 77) rfl (fun _ => by kernel_rfl) (fun w M => c_begin g2 6 77 (by omega) ⟨⟨#[]⟩, ⟨#[]⟩, ⟨#[]⟩, 0⟩ [.string ⟨#[]⟩, .string (rE m)] pr (pubF ⟨⟨#[]⟩, ⟨#[]⟩, ⟨#[]⟩, 0⟩ sb) (by omega) (Nat.le_trans (pubF_le _ _) (by decide)) w M.laid (M.get 1 rfl) (M.ne0 1 rfl)) fun u5 M => ?_
     refine nT <| au_then <| wp_seq ?_
     refine rg_held M [⟨g1, .cells (av 5 (ls [.string ⟨#[]⟩, .string ⟨#[]⟩, .string ⟨#[]⟩, .string ⟨#[]⟩, .string ⟨#[]⟩])) 41⟩, ⟨g2, .cells (av 6 (stL (rS0 sb pr) [.string ⟨#[]⟩, .string (rE m)])) 77⟩] 7 rfl (by kernel_rfl) (by kernel_rfl) (fun _ _ d _ _ h => by cases d <;> exact h) fun u6 M => ?_
     refine qV M 0 44 (.pointer (some ⟨g2, 0, none⟩)) ?_
     refine qV M 1 45 (.pointer (some ⟨g2, 0, none⟩)) ?_
     refine qV M 2 46 (.pointer (some ⟨g2, 0, none⟩)) ?_
     refine qV M 3 47 (.pointer (some ⟨g2, 0, none⟩)) ?_
     refine qV M 4 48 (.pointer (some ⟨g2, 0, none⟩)) ?_
     refine qV M 5 49 (.pointer (some ⟨g2, 5, none⟩)) ?_
     refine hl_cell M 6 rfl (by decide) (by kernel_rfl) (by kernel_rfl) (want_no rfl) (some 50) rfl 9 _ rfl g2 5 (by kernel_rfl) (.string (rE m)) (fun _ => by kernel_rfl) (fun w M => M.cell 1 rfl (by decide) rfl) ?_
     refine hl_end (by kernel_rfl) (by kernel_rfl) rfl ?_
     refine pl_callp M (want_no rfl) (some 51) rfl 31 #[.pointer (some ⟨g2, 0, none⟩), .string (rE m)] (.tuple #[]) 1 g2 (.cells (av 6 (stL (rS0 sb pr) [.string ⟨#[]⟩, .string (rE m)])) 77) (.cells (av 6 (stL (rS1 sb pr m) [.string ⟨#[]⟩, .string (rE m)])) 77) rfl (fun _ => by kernel_rfl) (fun w M => c_mixS g2 6 77 (by omega) (rS0 sb pr) [.string ⟨#[]⟩, .string (rE m)] (rE m) (by rw [show (rS0 sb pr).h.size = 32 from beginF_h _ _ _, rE_size (by omega)]; decide) w M.laid (M.get 1 rfl) (M.ne0 1 rfl)) fun u7 M => ?_
     refine nT <| au_then <| wp_seq ?_
     refine rg_held M [⟨g1, .cells (av 5 (ls [.string ⟨#[]⟩, .string ⟨#[]⟩, .string ⟨#[]⟩, .string ⟨#[]⟩, .string ⟨#[]⟩])) 41⟩, ⟨g2, .cells (av 6 (stL (rS1 sb pr m) [.string ⟨#[]⟩, .string (rE m)])) 77⟩] 8 rfl (by kernel_rfl) (by kernel_rfl) (fun _ _ d _ _ h => by cases d <;> exact h) fun u8 M => ?_
     refine qV M 0 52 (.pointer (some ⟨g2, 0, none⟩)) ?_
     refine qV M 1 53 (.pointer (some ⟨g2, 0, none⟩)) ?_
     refine qV M 2 54 (.pointer (some ⟨g2, 0, none⟩)) ?_
     refine qV M 3 55 (.string sb) ?_
     refine qV M 4 56 (.pointer (some ⟨g2, 0, none⟩)) ?_
     refine qV M 5 57 (.pointer (some ⟨g2, 0, none⟩)) ?_
     refine qV M 6 58 (.pointer (some ⟨g2, 5, none⟩)) ?_
     refine hl_cell M 7 rfl (by decide) (by kernel_rfl) (by kernel_rfl) (want_no rfl) (some 59) rfl 9 _ rfl g2 5 (by kernel_rfl) (.string (rE m)) (fun _ => by kernel_rfl) (fun w M => M.cell 1 rfl (by decide) rfl) ?_
     refine hl_end (by kernel_rfl) (by kernel_rfl) rfl ?_
     refine pl_callp M (want_no rfl) (some 60) rfl 23 #[.pointer (some ⟨g2, 0, none⟩), .string sb, .string (rE m)] (.tuple #[]) 1 g2 (.cells (av 6 (stL (rS1 sb pr m) [.string ⟨#[]⟩, .string (rE m)])) 77) (.cells (av 6 (stL (rS2 sb pr m) [.string ⟨#[]⟩, .string (rE m)])) 77) rfl (fun _ => by kernel_rfl) (fun w M => c_add g2 6 77 (by omega) (rS1 sb pr m) [.string ⟨#[]⟩, .string (rE m)] sb (rE m) (by omega) (fun _ => rE_size (by omega)) w M.laid (M.get 1 rfl) (M.ne0 1 rfl)) fun u9 M => ?_
     refine nT <| au_then <| wp_seq ?_
     refine rg_held M [⟨g1, .cells (av 5 (ls [.string ⟨#[]⟩, .string ⟨#[]⟩, .string ⟨#[]⟩, .string ⟨#[]⟩, .string ⟨#[]⟩])) 41⟩] 9 rfl (by kernel_rfl) (by kernel_rfl) (fun _ _ d _ _ h => by cases d <;> exact h) fun u10 M => ?_
     refine qV (M.drop (.cons_cons _ (.cons _ (.slnil)))) 0 61 (.pointer (some ⟨g2, 0, none⟩)) ?_
     refine qV (M.drop (.cons_cons _ (.cons _ (.slnil)))) 1 62 (.pointer (some ⟨g2, 0, none⟩)) ?_
     refine qV (M.drop (.cons_cons _ (.cons _ (.slnil)))) 2 63 (.pointer (some ⟨g2, 0, none⟩)) ?_
     refine qV (M.drop (.cons_cons _ (.cons _ (.slnil)))) 3 64 (.pointer (some ⟨g2, 0, none⟩)) ?_
     refine qV (M.drop (.cons_cons _ (.cons _ (.slnil)))) 4 65 (.string m) ?_
     refine hl_val (M.drop (.cons_cons _ (.cons _ (.slnil)))) 5 rfl (by decide) (by kernel_rfl) (by kernel_rfl) (want_no rfl) (some 66) rfl (.string (rC1 m)) (fun w _ => (run_strlh 9 Tryz.underlying9 _ _ _ rfl m (by kernel_rfl) .i64 .i64 32 80 (by kernel_rfl) (by kernel_rfl) (by omega) (by omega)) w) ?_
     refine hl_one 6 (by decide) (by kernel_rfl) rfl ?_
     refine pl_callp M (want_no rfl) (some 67) rfl 32 #[.pointer (some ⟨g2, 0, none⟩), .string (rC1 m)] (.string (rF sb pr m)) 1 g2 (.cells (av 6 (stL (rS2 sb pr m) [.string ⟨#[]⟩, .string (rE m)])) 77) (.cells (av 6 (stL (rS3 sb pr m) [.string ⟨#[]⟩, .string (rE m)])) 77) rfl (fun _ => by kernel_rfl) (fun w M => c_open g2 6 77 (by omega) (rS2 sb pr m) [.string ⟨#[]⟩, .string (rE m)] (rC1 m) (rS2_h _ _ _) (fun h => addF_k h) (by rw [rC1_size (by omega)]; omega) (by rw [rC1_size (by omega)]; omega) w M.laid (M.get 1 rfl) (M.ne0 1 rfl)) fun u11 M => ?_
     refine nT ?_
     refine ⟨(M.drop (.cons_cons _ (.cons _ (.slnil)))), ?_⟩
     refine qV (M.drop (.cons_cons _ (.cons _ (.slnil)))) 7 68 (.pointer (some ⟨g2, 0, none⟩)) ?_
     refine qV (M.drop (.cons_cons _ (.cons _ (.slnil)))) 8 69 (.pointer (some ⟨g2, 4, none⟩)) ?_
     refine hl_end (by kernel_rfl) (by kernel_rfl) rfl ?_
     refine pP M 1 rfl 4 (.string (rF sb pr m)) (stL (rS3 sb pr m) [.string (rF sb pr m), .string (rE m)]) (by decide) (put_ls _ 4 _ _ rfl) fun u12 M => ?_
     refine nT <| au_then <| wp_seq ?_
     refine rg_held M [⟨g1, .cells (av 5 (ls [.string ⟨#[]⟩, .string ⟨#[]⟩, .string ⟨#[]⟩, .string ⟨#[]⟩, .string ⟨#[]⟩])) 41⟩, ⟨g2, .cells (av 6 (stL (rS3 sb pr m) [.string (rF sb pr m), .string (rE m)])) 77⟩] 8 rfl (by kernel_rfl) (by kernel_rfl) (fun _ _ d _ _ h => by cases d <;> exact h) fun u13 M => ?_
     refine qV M 0 70 (.pointer (some ⟨g2, 0, none⟩)) ?_
     refine qV M 1 71 (.pointer (some ⟨g2, 0, none⟩)) ?_
     refine qV M 2 72 (.pointer (some ⟨g2, 0, none⟩)) ?_
     refine qV M 3 73 (.string sb) ?_
     refine qV M 4 74 (.pointer (some ⟨g2, 0, none⟩)) ?_
     refine qV M 5 75 (.pointer (some ⟨g2, 0, none⟩)) ?_
     refine qV M 6 76 (.pointer (some ⟨g2, 4, none⟩)) ?_
     refine hl_cell M 7 rfl (by decide) (by kernel_rfl) (by kernel_rfl) (want_no rfl) (some 77) rfl 9 _ rfl g2 4 (by kernel_rfl) (.string (rF sb pr m)) (fun _ => by kernel_rfl) (fun w M => M.cell 1 rfl (by decide) rfl) ?_
     refine hl_end (by kernel_rfl) (by kernel_rfl) rfl ?_
     refine pl_callp M (want_no rfl) (some 78) rfl 23 #[.pointer (some ⟨g2, 0, none⟩), .string sb, .string (rF sb pr m)] (.tuple #[]) 1 g2 (.cells (av 6 (stL (rS3 sb pr m) [.string (rF sb pr m), .string (rE m)])) 77) (.cells (av 6 (stL (rS4 sb pr m) [.string (rF sb pr m), .string (rE m)])) 77) rfl (fun _ => by kernel_rfl) (fun w M => c_add g2 6 77 (by omega) (rS3 sb pr m) [.string (rF sb pr m), .string (rE m)] sb (rF sb pr m) (by omega) (fun h => rF_size (by omega) h) w M.laid (M.get 1 rfl) (M.ne0 1 rfl)) fun u14 M => ?_
     refine nT <| au_then <| wp_seq ?_
     refine rg_held M [⟨g1, .cells (av 5 (ls [.string ⟨#[]⟩, .string ⟨#[]⟩, .string ⟨#[]⟩, .string ⟨#[]⟩, .string ⟨#[]⟩])) 41⟩] 6 rfl (by kernel_rfl) (by kernel_rfl) (fun _ _ d _ _ h => by cases d <;> exact h) fun u15 M => ?_
     refine qV (M.drop (.cons_cons _ (.cons _ (.slnil)))) 0 79 (.pointer (some ⟨g2, 0, none⟩)) ?_
     refine qV (M.drop (.cons_cons _ (.cons _ (.slnil)))) 1 80 (.pointer (some ⟨g2, 0, none⟩)) ?_
     refine qV (M.drop (.cons_cons _ (.cons _ (.slnil)))) 2 81 (.pointer (some ⟨g2, 0, none⟩)) ?_
     refine qV (M.drop (.cons_cons _ (.cons _ (.slnil)))) 3 82 (.string m) ?_
     refine hl_val (M.drop (.cons_cons _ (.cons _ (.slnil)))) 4 rfl (by decide) (by kernel_rfl) (by kernel_rfl) (want_no rfl) (some 83) rfl (.string (rC2 m)) (fun w _ => (run_strl 9 Tryz.underlying9 _ _ rfl m (by kernel_rfl) .i64 80 (by kernel_rfl) (by omega) _ rfl) w) ?_
     refine hl_one 5 (by decide) (by kernel_rfl) rfl ?_
     refine pl_callp M (want_no rfl) (some 84) rfl 32 #[.pointer (some ⟨g2, 0, none⟩), .string (rC2 m)] (.string (rP sb pr m)) 1 g2 (.cells (av 6 (stL (rS4 sb pr m) [.string (rF sb pr m), .string (rE m)])) 77) (.cells (av 6 (stL (rS5 sb pr m) [.string (rF sb pr m), .string (rE m)])) 77) rfl (fun _ => by kernel_rfl) (fun w M => c_open g2 6 77 (by omega) (rS4 sb pr m) [.string (rF sb pr m), .string (rE m)] (rC2 m) (rS4_h _ _ _) (fun h => addF_k h) (by rw [rC2_size (by omega)]; omega) (by rw [rC2_size (by omega)]; omega) w M.laid (M.get 1 rfl) (M.ne0 1 rfl)) fun u16 M => ?_
     refine nT ?_
     refine ⟨(M.drop (.cons_cons _ (.cons _ (.slnil)))), ?_⟩
     refine hl_end (by kernel_rfl) (by kernel_rfl) rfl ?_
     refine rV 1 <| nT <| au_then <| wp_seq <| sR ?_
     refine rV 3 ?_
     refine pl_callp M (want_no rfl) (some 88) rfl 26 #[.pointer (some ⟨g2, 0, none⟩)] (.int .i64 (rS5 sb pr m).e) 1 g2 (.cells (av 6 (stL (rS5 sb pr m) [.string (rF sb pr m), .string (rE m)])) 77) (.cells (av 6 (stL (endF (rS5 sb pr m)) [.string (rF sb pr m), .string (rE m)])) 77) rfl (fun _ => by kernel_rfl) (fun w M => c_end g2 6 77 (by omega) (rS5 sb pr m) [.string (rF sb pr m), .string (rE m)] w M.laid (M.get 1 rfl) (M.ne0 1 rfl)) fun u17 M => ?_
     refine rV 1 <| nT <| sR <| rV 1 ?_
     by_cases c4 : ((rS5 sb pr m).e) = 0
     ·refine pH 90 (.bool false) (jD (((rS5 sb pr m).e) = 0) (c4)) ?_
      refine nT <| cF <| wp_skip <| au_then <| wp_seq ?_
      refine rg_held M [⟨g2, .cells (av 6 (stL (endF (rS5 sb pr m)) [.string (rF sb pr m), .string (rE m)])) 77⟩] 9 rfl (by kernel_rfl) (by kernel_rfl) (fun _ _ d _ _ h => by cases d <;> exact h) fun u18 M => ?_
      refine qV (M.drop (.cons _ (.cons_cons _ (.slnil)))) 0 93 (.pointer (some ⟨g2, 0, none⟩)) ?_
      refine qV (M.drop (.cons _ (.cons_cons _ (.slnil)))) 1 94 (.pointer (some ⟨g2, 0, none⟩)) ?_
      refine qV (M.drop (.cons _ (.cons_cons _ (.slnil)))) 2 95 (.pointer (some ⟨g2, 0, none⟩)) ?_
      refine qV (M.drop (.cons _ (.cons_cons _ (.slnil)))) 3 96 (.pointer (some ⟨g2, 4, none⟩)) ?_
      refine hl_cell (M.drop (.cons _ (.cons_cons _ (.slnil)))) 4 rfl (by decide) (by kernel_rfl) (by kernel_rfl) (want_no rfl) (some 97) rfl 9 _ rfl g2 4 (by kernel_rfl) (.string (rF sb pr m)) (fun _ => by kernel_rfl) (fun w M => M.cell 0 rfl (by decide) rfl) ?_
      refine qV (M.drop (.cons _ (.cons_cons _ (.slnil)))) 5 98 (.string (rP sb pr m)) ?_
      refine qV (M.drop (.cons _ (.cons_cons _ (.slnil)))) 6 99 (.agg (av 5 (ls [.string (rF sb pr m), .string (rP sb pr m), .string ⟨#[]⟩, .string ⟨#[]⟩, .string ⟨#[]⟩]))) ?_
      refine qV (M.drop (.cons _ (.cons_cons _ (.slnil)))) 7 6 (.pointer (some ⟨g2, 0, none⟩)) ?_
      refine hl_one 8 (by decide) (by kernel_rfl) rfl ?_
      refine pl_put M (want_no rfl) rfl 41 _ _ rfl 0 g1 0 (by kernel_rfl) 5 41 (ls [.string ⟨#[]⟩, .string ⟨#[]⟩, .string ⟨#[]⟩, .string ⟨#[]⟩, .string ⟨#[]⟩]) rfl 5 (ls [.string (rF sb pr m), .string (rP sb pr m), .string ⟨#[]⟩, .string ⟨#[]⟩, .string ⟨#[]⟩]) (ls [.string (rF sb pr m), .string (rP sb pr m), .string ⟨#[]⟩, .string ⟨#[]⟩, .string ⟨#[]⟩]) (by kernel_rfl) inz41 (by decide) (one_ls _ rfl) (fun j hj => by rw [if_pos (by omega), Nat.sub_zero]) fun u19 M => ?_
      refine nT ?_
      refine ⟨(M.drop (.cons _ (.cons_cons _ (.slnil)))), ?_⟩
      refine hl_end (by kernel_rfl) (by kernel_rfl) rfl ?_
      refine rV 1 <| nT <| au_then <| wp_ret ?_
      have e0 : rdE sb pr m = 0 := by simp only [rdE, if_pos c0, if_neg c1, if_neg c2, if_neg c3, if_pos c4, c4]
      exact bodyPost_ret (v := .tuple #[.pointer (some ⟨g2, 0, none⟩), .agg (av 5 (ls [.string (rF sb pr m), .string (rP sb pr m), .string ⟨#[]⟩, .string ⟨#[]⟩, .string ⟨#[]⟩])), .int .i64 0]) (results_tct Tryz.results13 _ _ g1 41 (av 5 (ls [.string (rF sb pr m), .string (rP sb pr m), .string ⟨#[]⟩, .string ⟨#[]⟩, .string ⟨#[]⟩])) (0, 0) _ _ _ (by kernel_rfl) (by kernel_rfl) (by kernel_rfl) (M.get 0 rfl) Tryz.underlying41 rfl (by rw [av_size]; kernel_rfl)) (by kernel_rfl) ⟨below_grown M.old, .inr ⟨e0, g2, rfl, M.geAt 1 rfl, M.get 1 rfl⟩⟩
     ·refine pH 90 (.bool true) (jU (((rS5 sb pr m).e) = 0) (c4)) ?_
      refine nT <| cT <| sR <| rV 3 ?_
      refine pl_put M (want_no rfl) rfl 41 _ _ rfl 0 g1 0 (by kernel_rfl) 5 41 (ls [.string ⟨#[]⟩, .string ⟨#[]⟩, .string ⟨#[]⟩, .string ⟨#[]⟩, .string ⟨#[]⟩]) rfl 5 (ls [.string ⟨#[]⟩, .string ⟨#[]⟩, .string ⟨#[]⟩, .string ⟨#[]⟩, .string ⟨#[]⟩]) (ls [.string ⟨#[]⟩, .string ⟨#[]⟩, .string ⟨#[]⟩, .string ⟨#[]⟩, .string ⟨#[]⟩]) (by kernel_rfl) inz41 (by decide) (one_ls _ rfl) (fun j hj => by rw [if_pos (by omega), Nat.sub_zero]) fun u18 M => ?_
      refine rV 1 <| nT <| wp_ret <| au_then_ret ?_
      have e0 : rdE sb pr m = (rS5 sb pr m).e := by simp only [rdE, if_pos c0, if_neg c1, if_neg c2, if_neg c3, if_neg c4]
      exact bodyPost_ret (v := .tuple #[.pointer none, .agg (av 5 (ls [.string ⟨#[]⟩, .string ⟨#[]⟩, .string ⟨#[]⟩, .string ⟨#[]⟩, .string ⟨#[]⟩])), .int .i64 (rS5 sb pr m).e]) (results_tct Tryz.results13 _ _ g1 41 (av 5 (ls [.string ⟨#[]⟩, .string ⟨#[]⟩, .string ⟨#[]⟩, .string ⟨#[]⟩, .string ⟨#[]⟩])) (0, 0) _ _ _ (by kernel_rfl) (by kernel_rfl) (by kernel_rfl) (M.get 0 rfl) Tryz.underlying41 rfl (by rw [av_size]; kernel_rfl)) (by kernel_rfl) ⟨below_grown M.old, .inl ⟨by rw [e0]; exact c4, by rw [e0]⟩⟩
 ·refine pH 15 (.bool true) (jU ((sb.size : Int) = 32) (c0)) ?_
  refine rV 1 <| nT <| cT <| sR <| rV 2 ?_
  refine pl_put M (want_no rfl) rfl 41 _ _ rfl 0 g1 0 (by kernel_rfl) 5 41 (ls [.string ⟨#[]⟩, .string ⟨#[]⟩, .string ⟨#[]⟩, .string ⟨#[]⟩, .string ⟨#[]⟩]) rfl 5 (ls [.string ⟨#[]⟩, .string ⟨#[]⟩, .string ⟨#[]⟩, .string ⟨#[]⟩, .string ⟨#[]⟩]) (ls [.string ⟨#[]⟩, .string ⟨#[]⟩, .string ⟨#[]⟩, .string ⟨#[]⟩, .string ⟨#[]⟩]) (by kernel_rfl) inz41 (by decide) (one_ls _ rfl) (fun j hj => by rw [if_pos (by omega), Nat.sub_zero]) fun u2 M => ?_
  refine rV 1 <| nT <| wp_ret ?_
  refine au_block_ret ?_
  refine au_then_ret ?_
  have e0 : rdE sb pr m = 2 := by simp only [rdE, if_neg c0]
  exact bodyPost_ret (v := .tuple #[.pointer none, .agg (av 5 (ls [.string ⟨#[]⟩, .string ⟨#[]⟩, .string ⟨#[]⟩, .string ⟨#[]⟩, .string ⟨#[]⟩])), .int .i64 2]) (results_tct Tryz.results13 _ _ g1 41 (av 5 (ls [.string ⟨#[]⟩, .string ⟨#[]⟩, .string ⟨#[]⟩, .string ⟨#[]⟩, .string ⟨#[]⟩])) (0, 0) _ _ _ (by kernel_rfl) (by kernel_rfl) (by kernel_rfl) (M.get 0 rfl) Tryz.underlying41 rfl (by rw [av_size]; kernel_rfl)) (by kernel_rfl) ⟨below_grown M.old, .inl ⟨by rw [e0]; decide, by rw [e0]⟩⟩
open Go.RowKit
theorem aS3_h (s : St) (f x e : ByteArray) : (aS3 s f x e).h.size = 32 := by
 unfold aS3 aS2
 rw [addF_h, addF_h]
 exact mixF_h _ _
theorem fS3_h (s : St) (a e r : ByteArray) : (fS3 s a e r).h.size = 32 := by
 unfold fS3 fS2
 rw [addF_h, addF_h]
 exact mixF_h _ _
theorem fC_size {r : ByteArray} (h : 48 ≤ r.size) : (fC r).size = r.size - 32 := by
 unfold fC
 rw [ByteArray.size_extract]
 omega
theorem c_Answer (g : Nat) (s : St) (f x ep pl : ByteArray) (hs : s.h.size = 32) (hf : f.size = 32) (hx : x.size = 32) (w : World) (hL : Laid w)  (hg : w.heap[g]? = some (.cells (av 6 (stL s [.string f, .string x])) 77)) (h0 : 2 < g) :
  Calls Tryz.prog 15 #[.pointer (some ⟨g, 0, none⟩), .string ep, .string pl] w fun r w' => Below w.heap.size w w' ∧ ((anE s f x ep pl ≠ 0 ∧ r = .returned (.tuple #[.string ⟨#[]⟩, .agg (av 5 (ls [.string ⟨#[]⟩, .string ⟨#[]⟩, .string ⟨#[]⟩, .string ⟨#[]⟩, .string ⟨#[]⟩])), .int .i64 (anE s f x ep pl)])) ∨ (anE s f x ep pl = 0 ∧ r = .returned (.tuple #[.string (aRp s f x ep pl), .agg (av 5 (ls [.string f, .string ⟨#[]⟩, .string (nxB (aS4 s f x ep pl).c ⟨#[]⟩), .string (nxA (aS4 s f x ep pl).c ⟨#[]⟩), .string (aS4 s f x ep pl).h])), .int .i64 0]))) := by
 go_enter Tryz.func15, Tryz.ntmps15
 have M := Mem.startp hL hg h0
 refine sR <| rV 1 ?_
 refine pN M 7 (.cells (av 5 (ls [.string ⟨#[]⟩, .string ⟨#[]⟩, .string ⟨#[]⟩, .string ⟨#[]⟩, .string ⟨#[]⟩])) 41) fun g1 u1 M => ?_
 refine rV 1 <| nT <| wp_seq ?_
 refine wp_block ?_
 refine sR <| rV 6 ?_
 refine pl_call M (want_on 2 false rfl 17 rfl (by kernel_rfl)) (some 21) rfl 34 #[.pointer (some ⟨g, 0, none⟩)] (.bool true) (fun _ => by kernel_rfl) (fun w M => c_made g 6 77 (by omega) s [.string f, .string x] hs w M.laid (M.get 0 rfl) (M.ne0 0 rfl)) fun u2 M => ?_
 refine rV 3 <| nT <| cF <| sR <| rV 2 ?_
 by_cases c0 : (ep.size : Int) = 32
 ·refine pH 28 (.bool false) (jD ((ep.size : Int) = 32) (c0)) ?_
  refine rV 1 <| nT <| cF <| sR <| rV 2 ?_
  by_cases c1 : 4096 < (pl.size : Int)
  ·refine pH 33 (.bool true) (jT (4096 < (pl.size : Int)) (c1)) ?_
   refine rV 1 <| nT <| cT <| sR <| rV 2 ?_
   refine pl_put M (want_no rfl) rfl 41 _ _ rfl 1 g1 0 (by kernel_rfl) 5 41 (ls [.string ⟨#[]⟩, .string ⟨#[]⟩, .string ⟨#[]⟩, .string ⟨#[]⟩, .string ⟨#[]⟩]) rfl 5 (ls [.string ⟨#[]⟩, .string ⟨#[]⟩, .string ⟨#[]⟩, .string ⟨#[]⟩, .string ⟨#[]⟩]) (ls [.string ⟨#[]⟩, .string ⟨#[]⟩, .string ⟨#[]⟩, .string ⟨#[]⟩, .string ⟨#[]⟩]) (by kernel_rfl) inz41 (by decide) (one_ls _ rfl) (fun j hj => by rw [if_pos (by omega), Nat.sub_zero]) fun u3 M => ?_
   refine rV 1 <| nT <| wp_ret ?_
   refine au_block_ret ?_
   refine au_then_ret ?_
   have e0 : anE s f x ep pl = 4 := by simp only [anE, if_pos c0, if_pos c1]
   exact bodyPost_ret (v := .tuple #[.string ⟨#[]⟩, .agg (av 5 (ls [.string ⟨#[]⟩, .string ⟨#[]⟩, .string ⟨#[]⟩, .string ⟨#[]⟩, .string ⟨#[]⟩])), .int .i64 4]) (results_tct Tryz.results15 _ _ g1 41 (av 5 (ls [.string ⟨#[]⟩, .string ⟨#[]⟩, .string ⟨#[]⟩, .string ⟨#[]⟩, .string ⟨#[]⟩])) (0, 0) _ _ _ (by kernel_rfl) (by kernel_rfl) (by kernel_rfl) (M.get 1 rfl) Tryz.underlying41 rfl (by rw [av_size]; kernel_rfl)) (by kernel_rfl) ⟨ro_below1 M.old hg (M.get 0 rfl), .inl ⟨by rw [e0]; decide, by rw [e0]⟩⟩
  ·refine pH 33 (.bool false) (jF (4096 < (pl.size : Int)) (c1)) ?_
   refine rV 1 <| nT <| cF <| wp_skip ?_
   refine au_block ?_
   refine au_then <| sR <| rV 3 ?_
   refine pl_load M (want_no rfl) (some 38) rfl 64 _ rfl 0 g 0 (by kernel_rfl) 6 77 (stL s [.string f, .string x]) rfl 4 (stL s []) (part_st _ _) (by omega) _ Tryz.underlying64 rfl inz64 ?_
   refine pN M 9 (.cells (av 4 (stL ⟨⟨#[]⟩, ⟨#[]⟩, ⟨#[]⟩, 0⟩ [])) 64) fun g2 u3 M => ?_
   refine pl_put M (want_no rfl) rfl 64 _ _ rfl 2 g2 0 (by kernel_rfl) 4 64 (stL ⟨⟨#[]⟩, ⟨#[]⟩, ⟨#[]⟩, 0⟩ []) rfl 4 (stL s []) (stL s []) (by kernel_rfl) inz64 (by decide) (one_st _) (fun j hj => by rw [if_pos (by omega), Nat.sub_zero]) fun u4 M => ?_
   refine nT <| sR <| rV 1 ?_
   refine pl_callp M (want_no rfl) (some 40) rfl 22 #[.pointer (some ⟨g2, 0, none⟩), .string ep] (.string (pubF s ep)) 2 g2 (.cells (av 4 (stL s [])) 64) (.cells (av 4 (stL (aS1 s ep) [])) 64) rfl (fun _ => by kernel_rfl) (fun w M => c_show g2 4 64 (by omega) s [] ep (by omega) (Nat.le_of_eq (hs)) w M.laid (M.get 2 rfl) (M.ne0 2 rfl)) fun u5 M => ?_
   refine rV 1 <| nT <| sR <| rV 4 <| ZE M 45 0 5 ?_
   refine pl_callp M (want_no rfl) (some 46) rfl 23 #[.pointer (some ⟨g2, 0, none⟩), .string ep, .string x] (.tuple #[]) 2 g2 (.cells (av 4 (stL (aS1 s ep) [])) 64) (.cells (av 4 (stL (aS2 s x ep) [])) 64) rfl (fun _ => by kernel_rfl) (fun w M => c_add g2 4 64 (by omega) (aS1 s ep) [] ep x (by omega) (fun _ => by omega) w M.laid (M.get 2 rfl) (M.ne0 2 rfl)) fun u6 M => ?_
   refine nT <| sR <| rV 4 <| ZE M 51 0 4 ?_
   refine pl_callp M (want_no rfl) (some 52) rfl 23 #[.pointer (some ⟨g2, 0, none⟩), .string ep, .string f] (.tuple #[]) 2 g2 (.cells (av 4 (stL (aS2 s x ep) [])) 64) (.cells (av 4 (stL (aS3 s f x ep) [])) 64) rfl (fun _ => by kernel_rfl) (fun w M => c_add g2 4 64 (by omega) (aS2 s x ep) [] ep f (by omega) (fun _ => by omega) w M.laid (M.get 2 rfl) (M.ne0 2 rfl)) fun u7 M => ?_
   refine nT <| sR <| rV 2 ?_
   refine pl_callp M (want_no rfl) (some 55) rfl 24 #[.pointer (some ⟨g2, 0, none⟩), .string pl] (.string (sealV (aS3 s f x ep) pl)) 2 g2 (.cells (av 4 (stL (aS3 s f x ep) [])) 64) (.cells (av 4 (stL (aS4 s f x ep pl) [])) 64) rfl (fun _ => by kernel_rfl) (fun w M => c_seal g2 4 64 (by omega) (aS3 s f x ep) [] pl (aS3_h _ _ _ _) (fun h => addF_k h) (by omega) w M.laid (M.get 2 rfl) (M.ne0 2 rfl)) fun u8 M => ?_
   refine pH 56 (.string ((pubF s ep) ++ (sealV (aS3 s f x ep) pl))) (run_cat 9 9 _ _ rfl (pubF s ep) (sealV (aS3 s f x ep) pl) (by kernel_rfl) (by kernel_rfl) (by have h1 := pubF_le s ep; have h2 := sealV_le (aS3 s f x ep) pl; (try simp only [ByteArray.size_append]); omega)) ?_
   refine rV 1 <| nT <| sR ?_
   refine ZC M 58 (fun w M => c_next g2 4 64 (by omega) (aS4 s f x ep pl) [] ⟨#[]⟩ (by decide) w M.laid (M.get 2 rfl) (M.ne0 2 rfl)) fun u9 M => ?_
   refine rV 5 <| nT <| wp_seq <| sR ?_
   refine pl_callp M (want_no rfl) (some 61) rfl 26 #[.pointer (some ⟨g2, 0, none⟩)] (.int .i64 (aS4 s f x ep pl).e) 2 g2 (.cells (av 4 (stL (aS4 s f x ep pl) [])) 64) (.cells (av 4 (stL (endF (aS4 s f x ep pl)) [])) 64) rfl (fun _ => by kernel_rfl) (fun w M => c_end g2 4 64 (by omega) (aS4 s f x ep pl) [] w M.laid (M.get 2 rfl) (M.ne0 2 rfl)) fun u10 M => ?_
   refine rV 1 <| nT <| sR <| rV 1 ?_
   by_cases c2 : ((aS4 s f x ep pl).e) = 0
   ·refine pH 63 (.bool false) (jD (((aS4 s f x ep pl).e) = 0) (c2)) ?_
    refine nT <| cF <| wp_skip <| au_then <| wp_seq ?_
    refine rg_held M [⟨g, .cells (av 6 (stL s [.string f, .string x])) 77⟩, ⟨g2, .cells (av 4 (stL (endF (aS4 s f x ep pl)) [])) 64⟩] 12 rfl (by kernel_rfl) (by kernel_rfl) (fun _ _ d _ _ h => by cases d <;> exact h) fun u11 M => ?_
    refine qV (M.drop (.cons_cons _ (.cons _ (.cons_cons _ (.slnil))))) 0 66 (.string ((pubF s ep) ++ (sealV (aS3 s f x ep) pl))) ?_
    refine qV (M.drop (.cons_cons _ (.cons _ (.cons_cons _ (.slnil))))) 1 67 (.pointer (some ⟨g, 0, none⟩)) ?_
    refine qV (M.drop (.cons_cons _ (.cons _ (.cons_cons _ (.slnil))))) 2 68 (.pointer (some ⟨g, 0, none⟩)) ?_
    refine qV (M.drop (.cons_cons _ (.cons _ (.cons_cons _ (.slnil))))) 3 69 (.pointer (some ⟨g, 4, none⟩)) ?_
    refine hl_cell (M.drop (.cons_cons _ (.cons _ (.cons_cons _ (.slnil))))) 4 rfl (by decide) (by kernel_rfl) (by kernel_rfl) (want_no rfl) (some 70) rfl 9 _ rfl g 4 (by kernel_rfl) (.string f) (fun _ => by kernel_rfl) (fun w M => M.cell 0 rfl (by decide) rfl) ?_
    refine qV (M.drop (.cons_cons _ (.cons _ (.cons_cons _ (.slnil))))) 5 71 (.string (nxB ((aS4 s f x ep pl).c) ⟨#[]⟩)) ?_
    refine qV (M.drop (.cons_cons _ (.cons _ (.cons_cons _ (.slnil))))) 6 72 (.string (nxA ((aS4 s f x ep pl).c) ⟨#[]⟩)) ?_
    refine qV (M.drop (.cons_cons _ (.cons _ (.cons_cons _ (.slnil))))) 7 73 (.pointer (some ⟨g2, 0, none⟩)) ?_
    refine hl_cell (M.drop (.cons_cons _ (.cons _ (.cons_cons _ (.slnil))))) 8 rfl (by decide) (by kernel_rfl) (by kernel_rfl) (want_no rfl) (some 74) rfl 9 _ rfl g2 0 (by kernel_rfl) (.string (endF (aS4 s f x ep pl)).h) (fun _ => by kernel_rfl) (fun w M => M.cell 1 rfl (by decide) rfl) ?_
    refine qV (M.drop (.cons_cons _ (.cons _ (.cons_cons _ (.slnil))))) 9 75 (.agg (av 5 (ls [.string f, .string ⟨#[]⟩, .string (nxB ((aS4 s f x ep pl).c) ⟨#[]⟩), .string (nxA ((aS4 s f x ep pl).c) ⟨#[]⟩), .string (endF (aS4 s f x ep pl)).h]))) ?_
    refine qV (M.drop (.cons_cons _ (.cons _ (.cons_cons _ (.slnil))))) 10 6 (.string ((pubF s ep) ++ (sealV (aS3 s f x ep) pl))) ?_
    refine hl_one 11 (by decide) (by kernel_rfl) rfl ?_
    refine pl_put M (want_no rfl) rfl 41 _ _ rfl 1 g1 0 (by kernel_rfl) 5 41 (ls [.string ⟨#[]⟩, .string ⟨#[]⟩, .string ⟨#[]⟩, .string ⟨#[]⟩, .string ⟨#[]⟩]) rfl 5 (ls [.string f, .string ⟨#[]⟩, .string (nxB ((aS4 s f x ep pl).c) ⟨#[]⟩), .string (nxA ((aS4 s f x ep pl).c) ⟨#[]⟩), .string (endF (aS4 s f x ep pl)).h]) (ls [.string f, .string ⟨#[]⟩, .string (nxB ((aS4 s f x ep pl).c) ⟨#[]⟩), .string (nxA ((aS4 s f x ep pl).c) ⟨#[]⟩), .string (endF (aS4 s f x ep pl)).h]) (by kernel_rfl) inz41 (by decide) (one_ls _ rfl) (fun j hj => by rw [if_pos (by omega), Nat.sub_zero]) fun u12 M => ?_
    refine nT ?_
    refine ⟨(M.drop (.cons_cons _ (.cons _ (.cons_cons _ (.slnil))))), ?_⟩
    refine hl_end (by kernel_rfl) (by kernel_rfl) rfl ?_
    refine rV 1 <| nT <| au_then <| wp_ret ?_
    have e0 : anE s f x ep pl = 0 := by simp only [anE, if_pos c0, if_neg c1, if_pos c2, c2]
    exact bodyPost_ret (v := .tuple #[.string ((pubF s ep) ++ (sealV (aS3 s f x ep) pl)), .agg (av 5 (ls [.string f, .string ⟨#[]⟩, .string (nxB ((aS4 s f x ep pl).c) ⟨#[]⟩), .string (nxA ((aS4 s f x ep pl).c) ⟨#[]⟩), .string (endF (aS4 s f x ep pl)).h])), .int .i64 0]) (results_tct Tryz.results15 _ _ g1 41 (av 5 (ls [.string f, .string ⟨#[]⟩, .string (nxB ((aS4 s f x ep pl).c) ⟨#[]⟩), .string (nxA ((aS4 s f x ep pl).c) ⟨#[]⟩), .string (endF (aS4 s f x ep pl)).h])) (0, 0) _ _ _ (by kernel_rfl) (by kernel_rfl) (by kernel_rfl) (M.get 1 rfl) Tryz.underlying41 rfl (by rw [av_size]; kernel_rfl)) (by kernel_rfl) ⟨ro_below1 M.old hg (M.get 0 rfl), .inr ⟨e0, rfl⟩⟩
   ·refine pH 63 (.bool true) (jU (((aS4 s f x ep pl).e) = 0) (c2)) ?_
    refine nT <| cT <| sR <| rV 3 ?_
    refine pl_put M (want_no rfl) rfl 41 _ _ rfl 1 g1 0 (by kernel_rfl) 5 41 (ls [.string ⟨#[]⟩, .string ⟨#[]⟩, .string ⟨#[]⟩, .string ⟨#[]⟩, .string ⟨#[]⟩]) rfl 5 (ls [.string ⟨#[]⟩, .string ⟨#[]⟩, .string ⟨#[]⟩, .string ⟨#[]⟩, .string ⟨#[]⟩]) (ls [.string ⟨#[]⟩, .string ⟨#[]⟩, .string ⟨#[]⟩, .string ⟨#[]⟩, .string ⟨#[]⟩]) (by kernel_rfl) inz41 (by decide) (one_ls _ rfl) (fun j hj => by rw [if_pos (by omega), Nat.sub_zero]) fun u11 M => ?_
    refine rV 1 <| nT <| wp_ret <| au_then_ret ?_
    have e0 : anE s f x ep pl = (aS4 s f x ep pl).e := by simp only [anE, if_pos c0, if_neg c1, if_neg c2]
    exact bodyPost_ret (v := .tuple #[.string ⟨#[]⟩, .agg (av 5 (ls [.string ⟨#[]⟩, .string ⟨#[]⟩, .string ⟨#[]⟩, .string ⟨#[]⟩, .string ⟨#[]⟩])), .int .i64 (aS4 s f x ep pl).e]) (results_tct Tryz.results15 _ _ g1 41 (av 5 (ls [.string ⟨#[]⟩, .string ⟨#[]⟩, .string ⟨#[]⟩, .string ⟨#[]⟩, .string ⟨#[]⟩])) (0, 0) _ _ _ (by kernel_rfl) (by kernel_rfl) (by kernel_rfl) (M.get 1 rfl) Tryz.underlying41 rfl (by rw [av_size]; kernel_rfl)) (by kernel_rfl) ⟨ro_below1 M.old hg (M.get 0 rfl), .inl ⟨by rw [e0]; exact c2, by rw [e0]⟩⟩
 ·refine pH 28 (.bool true) (jU ((ep.size : Int) = 32) (c0)) ?_
  refine rV 1 <| nT <| cT <| sR <| rV 2 ?_
  refine pl_put M (want_no rfl) rfl 41 _ _ rfl 1 g1 0 (by kernel_rfl) 5 41 (ls [.string ⟨#[]⟩, .string ⟨#[]⟩, .string ⟨#[]⟩, .string ⟨#[]⟩, .string ⟨#[]⟩]) rfl 5 (ls [.string ⟨#[]⟩, .string ⟨#[]⟩, .string ⟨#[]⟩, .string ⟨#[]⟩, .string ⟨#[]⟩]) (ls [.string ⟨#[]⟩, .string ⟨#[]⟩, .string ⟨#[]⟩, .string ⟨#[]⟩, .string ⟨#[]⟩]) (by kernel_rfl) inz41 (by decide) (one_ls _ rfl) (fun j hj => by rw [if_pos (by omega), Nat.sub_zero]) fun u3 M => ?_
  refine rV 1 <| nT <| wp_ret ?_
  refine au_block_ret ?_
  refine au_then_ret ?_
  have e0 : anE s f x ep pl = 2 := by simp only [anE, if_neg c0]
  exact bodyPost_ret (v := .tuple #[.string ⟨#[]⟩, .agg (av 5 (ls [.string ⟨#[]⟩, .string ⟨#[]⟩, .string ⟨#[]⟩, .string ⟨#[]⟩, .string ⟨#[]⟩])), .int .i64 2]) (results_tct Tryz.results15 _ _ g1 41 (av 5 (ls [.string ⟨#[]⟩, .string ⟨#[]⟩, .string ⟨#[]⟩, .string ⟨#[]⟩, .string ⟨#[]⟩])) (0, 0) _ _ _ (by kernel_rfl) (by kernel_rfl) (by kernel_rfl) (M.get 1 rfl) Tryz.underlying41 rfl (by rw [av_size]; kernel_rfl)) (by kernel_rfl) ⟨ro_below1 M.old hg (M.get 0 rfl), .inl ⟨by rw [e0]; decide, by rw [e0]⟩⟩
theorem c_Finish (g : Nat) (s : St) (sa ep ob rp : ByteArray) (hs : s.h.size = 32) (ha : sa.size = 32) (hp : ep.size = 32) (w : World) (hL : Laid w)  (hg : w.heap[g]? = some (.cells (av 7 (stL s [.string sa, .string ep, .string ob])) 66)) (h0 : 2 < g) :
  Calls Tryz.prog 17 #[.pointer (some ⟨g, 0, none⟩), .string rp] w fun r w' => Below w.heap.size w w' ∧ ((fiE s sa ep rp ≠ 0 ∧ r = .returned (.tuple #[.agg (av 5 (ls [.string ⟨#[]⟩, .string ⟨#[]⟩, .string ⟨#[]⟩, .string ⟨#[]⟩, .string ⟨#[]⟩])), .int .i64 (fiE s sa ep rp)])) ∨ (fiE s sa ep rp = 0 ∧ r = .returned (.tuple #[.agg (av 5 (ls [.string ob, .string (fP s sa ep rp), .string (nxA (fS4 s sa ep rp).c ⟨#[]⟩), .string (nxB (fS4 s sa ep rp).c ⟨#[]⟩), .string (fS4 s sa ep rp).h])), .int .i64 0]))) := by
 go_enter Tryz.func17, Tryz.ntmps17
 have M := Mem.startp hL hg h0
 refine sR ?_
 refine pN M 4 (.cells (av 5 (ls [.string ⟨#[]⟩, .string ⟨#[]⟩, .string ⟨#[]⟩, .string ⟨#[]⟩, .string ⟨#[]⟩])) 41) fun g1 u1 M => ?_
 refine rV 1 <| nT <| wp_seq ?_
 refine wp_block ?_
 refine sR <| rV 6 ?_
 refine pl_call M (want_on 2 false rfl 15 rfl (by kernel_rfl)) (some 19) rfl 34 #[.pointer (some ⟨g, 0, none⟩)] (.bool true) (fun _ => by kernel_rfl) (fun w M => c_made g 7 66 (by omega) s [.string sa, .string ep, .string ob] hs w M.laid (M.get 0 rfl) (M.ne0 0 rfl)) fun u2 M => ?_
 refine rV 3 <| nT <| cF <| sR <| rV 2 ?_
 by_cases c0 : 4144 < (rp.size : Int)
 ·refine pH 26 (.bool true) (jT (4144 < (rp.size : Int)) (c0)) ?_
  refine rV 1 <| nT <| cT <| sR <| rV 1 ?_
  refine pl_put M (want_no rfl) rfl 41 _ _ rfl 1 g1 0 (by kernel_rfl) 5 41 (ls [.string ⟨#[]⟩, .string ⟨#[]⟩, .string ⟨#[]⟩, .string ⟨#[]⟩, .string ⟨#[]⟩]) rfl 5 (ls [.string ⟨#[]⟩, .string ⟨#[]⟩, .string ⟨#[]⟩, .string ⟨#[]⟩, .string ⟨#[]⟩]) (ls [.string ⟨#[]⟩, .string ⟨#[]⟩, .string ⟨#[]⟩, .string ⟨#[]⟩, .string ⟨#[]⟩]) (by kernel_rfl) inz41 (by decide) (one_ls _ rfl) (fun j hj => by rw [if_pos (by omega), Nat.sub_zero]) fun u3 M => ?_
  refine rV 1 <| nT <| wp_ret ?_
  refine au_block_ret ?_
  refine au_then_ret ?_
  have e0 : fiE s sa ep rp = 4 := by simp only [fiE, if_pos c0]
  exact bodyPost_ret (v := .tuple #[.agg (av 5 (ls [.string ⟨#[]⟩, .string ⟨#[]⟩, .string ⟨#[]⟩, .string ⟨#[]⟩, .string ⟨#[]⟩])), .int .i64 4]) (results_cell_tmp Tryz.results17 _ _ g1 41 (av 5 (ls [.string ⟨#[]⟩, .string ⟨#[]⟩, .string ⟨#[]⟩, .string ⟨#[]⟩, .string ⟨#[]⟩])) (0, 0) _ _ (by kernel_rfl) (by kernel_rfl) (M.get 1 rfl) Tryz.underlying41 rfl (by rw [av_size]; exact inz41)) (by kernel_rfl) ⟨ro_below1 M.old hg (M.get 0 rfl), .inl ⟨by rw [e0]; decide, by rw [e0]⟩⟩
 ·refine pH 26 (.bool false) (jF (4144 < (rp.size : Int)) (c0)) ?_
  refine rV 1 <| nT <| cF <| sR <| rV 2 ?_
  by_cases c1 : (rp.size : Int) < 48
  ·refine pH 31 (.bool true) (jT ((rp.size : Int) < 48) (c1)) ?_
   refine rV 1 <| nT <| cT <| sR <| rV 1 ?_
   refine pl_put M (want_no rfl) rfl 41 _ _ rfl 1 g1 0 (by kernel_rfl) 5 41 (ls [.string ⟨#[]⟩, .string ⟨#[]⟩, .string ⟨#[]⟩, .string ⟨#[]⟩, .string ⟨#[]⟩]) rfl 5 (ls [.string ⟨#[]⟩, .string ⟨#[]⟩, .string ⟨#[]⟩, .string ⟨#[]⟩, .string ⟨#[]⟩]) (ls [.string ⟨#[]⟩, .string ⟨#[]⟩, .string ⟨#[]⟩, .string ⟨#[]⟩, .string ⟨#[]⟩]) (by kernel_rfl) inz41 (by decide) (one_ls _ rfl) (fun j hj => by rw [if_pos (by omega), Nat.sub_zero]) fun u3 M => ?_
   refine rV 1 <| nT <| wp_ret ?_
   refine au_block_ret ?_
   refine au_then_ret ?_
   have e0 : fiE s sa ep rp = 7 := by simp only [fiE, if_neg c0, if_pos c1]
   exact bodyPost_ret (v := .tuple #[.agg (av 5 (ls [.string ⟨#[]⟩, .string ⟨#[]⟩, .string ⟨#[]⟩, .string ⟨#[]⟩, .string ⟨#[]⟩])), .int .i64 7]) (results_cell_tmp Tryz.results17 _ _ g1 41 (av 5 (ls [.string ⟨#[]⟩, .string ⟨#[]⟩, .string ⟨#[]⟩, .string ⟨#[]⟩, .string ⟨#[]⟩])) (0, 0) _ _ (by kernel_rfl) (by kernel_rfl) (M.get 1 rfl) Tryz.underlying41 rfl (by rw [av_size]; exact inz41)) (by kernel_rfl) ⟨ro_below1 M.old hg (M.get 0 rfl), .inl ⟨by rw [e0]; decide, by rw [e0]⟩⟩
  ·refine pH 31 (.bool false) (jF ((rp.size : Int) < 48) (c1)) ?_
   refine rV 1 <| nT <| cF <| wp_skip ?_
   refine au_block ?_
   refine au_then <| sR <| rV 1 ?_
   refine pH 34 (.string (rE rp)) (run_strh 9 Tryz.underlying9 _ _ rfl rp (by kernel_rfl) .i64 32 (by kernel_rfl) (by omega) _ rfl) ?_
   refine rV 1 <| nT <| sR <| rV 3 ?_
   refine pl_load M (want_no rfl) (some 38) rfl 64 _ rfl 0 g 0 (by kernel_rfl) 7 66 (stL s [.string sa, .string ep, .string ob]) rfl 4 (stL s []) (part_st _ _) (by omega) _ Tryz.underlying64 rfl inz64 ?_
   refine pN M 7 (.cells (av 4 (stL ⟨⟨#[]⟩, ⟨#[]⟩, ⟨#[]⟩, 0⟩ [])) 64) fun g2 u3 M => ?_
   refine pl_put M (want_no rfl) rfl 64 _ _ rfl 2 g2 0 (by kernel_rfl) 4 64 (stL ⟨⟨#[]⟩, ⟨#[]⟩, ⟨#[]⟩, 0⟩ []) rfl 4 (stL s []) (stL s []) (by kernel_rfl) inz64 (by decide) (one_st _) (fun j hj => by rw [if_pos (by omega), Nat.sub_zero]) fun u4 M => ?_
   refine nT <| sR <| rV 1 ?_
   refine pl_callp M (want_no rfl) (some 40) rfl 31 #[.pointer (some ⟨g2, 0, none⟩), .string (rE rp)] (.tuple #[]) 2 g2 (.cells (av 4 (stL s [])) 64) (.cells (av 4 (stL (fS1 s rp) [])) 64) rfl (fun _ => by kernel_rfl) (fun w M => c_mixS g2 4 64 (by omega) s [] (rE rp) (by rw [hs, rE_size (by omega)]; decide) w M.laid (M.get 2 rfl) (M.ne0 2 rfl)) fun u5 M => ?_
   refine nT <| sR <| rV 3 <| ZE M 44 0 5 <| rV 1 ?_
   refine pl_callp M (want_no rfl) (some 46) rfl 23 #[.pointer (some ⟨g2, 0, none⟩), .string ep, .string (rE rp)] (.tuple #[]) 2 g2 (.cells (av 4 (stL (fS1 s rp) [])) 64) (.cells (av 4 (stL (fS2 s ep rp) [])) 64) rfl (fun _ => by kernel_rfl) (fun w M => c_add g2 4 64 (by omega) (fS1 s rp) [] ep (rE rp) (by omega) (fun _ => rE_size (by omega)) w M.laid (M.get 2 rfl) (M.ne0 2 rfl)) fun u6 M => ?_
   refine nT <| sR <| rV 3 <| ZE M 50 0 4 <| rV 1 ?_
   refine pl_callp M (want_no rfl) (some 52) rfl 23 #[.pointer (some ⟨g2, 0, none⟩), .string sa, .string (rE rp)] (.tuple #[]) 2 g2 (.cells (av 4 (stL (fS2 s ep rp) [])) 64) (.cells (av 4 (stL (fS3 s sa ep rp) [])) 64) rfl (fun _ => by kernel_rfl) (fun w M => c_add g2 4 64 (by omega) (fS2 s ep rp) [] sa (rE rp) (by omega) (fun _ => rE_size (by omega)) w M.laid (M.get 2 rfl) (M.ne0 2 rfl)) fun u7 M => ?_
   refine nT <| sR <| rV 1 ?_
   refine pH 54 (.string (fC rp)) (run_strl 9 Tryz.underlying9 _ _ rfl rp (by kernel_rfl) .i64 32 (by kernel_rfl) (by omega) _ rfl) ?_
   refine pl_callp M (want_no rfl) (some 55) rfl 32 #[.pointer (some ⟨g2, 0, none⟩), .string (fC rp)] (.string (fP s sa ep rp)) 2 g2 (.cells (av 4 (stL (fS3 s sa ep rp) [])) 64) (.cells (av 4 (stL (fS4 s sa ep rp) [])) 64) rfl (fun _ => by kernel_rfl) (fun w M => c_open g2 4 64 (by omega) (fS3 s sa ep rp) [] (fC rp) (fS3_h _ _ _ _) (fun h => addF_k h) (by rw [fC_size (by omega)]; omega) (by rw [fC_size (by omega)]; omega) w M.laid (M.get 2 rfl) (M.ne0 2 rfl)) fun u8 M => ?_
   refine rV 1 <| nT <| sR ?_
   refine ZC M 57 (fun w M => c_next g2 4 64 (by omega) (fS4 s sa ep rp) [] ⟨#[]⟩ (by decide) w M.laid (M.get 2 rfl) (M.ne0 2 rfl)) fun u9 M => ?_
   refine rV 5 <| nT <| wp_seq <| sR ?_
   refine pl_callp M (want_no rfl) (some 60) rfl 26 #[.pointer (some ⟨g2, 0, none⟩)] (.int .i64 (fS4 s sa ep rp).e) 2 g2 (.cells (av 4 (stL (fS4 s sa ep rp) [])) 64) (.cells (av 4 (stL (endF (fS4 s sa ep rp)) [])) 64) rfl (fun _ => by kernel_rfl) (fun w M => c_end g2 4 64 (by omega) (fS4 s sa ep rp) [] w M.laid (M.get 2 rfl) (M.ne0 2 rfl)) fun u10 M => ?_
   refine rV 1 <| nT <| sR <| rV 1 ?_
   by_cases c2 : ((fS4 s sa ep rp).e) = 0
   ·refine pH 62 (.bool false) (jD (((fS4 s sa ep rp).e) = 0) (c2)) ?_
    refine nT <| cF <| wp_skip <| au_then <| wp_seq ?_
    refine rg_held M [⟨g, .cells (av 7 (stL s [.string sa, .string ep, .string ob])) 66⟩, ⟨g2, .cells (av 4 (stL (endF (fS4 s sa ep rp)) [])) 64⟩] 11 rfl (by kernel_rfl) (by kernel_rfl) (fun _ _ d _ _ h => by cases d <;> exact h) fun u11 M => ?_
    refine qV (M.drop (.cons_cons _ (.cons _ (.cons_cons _ (.slnil))))) 0 65 (.pointer (some ⟨g, 0, none⟩)) ?_
    refine qV (M.drop (.cons_cons _ (.cons _ (.cons_cons _ (.slnil))))) 1 66 (.pointer (some ⟨g, 0, none⟩)) ?_
    refine qV (M.drop (.cons_cons _ (.cons _ (.cons_cons _ (.slnil))))) 2 67 (.pointer (some ⟨g, 6, none⟩)) ?_
    refine hl_cell (M.drop (.cons_cons _ (.cons _ (.cons_cons _ (.slnil))))) 3 rfl (by decide) (by kernel_rfl) (by kernel_rfl) (want_no rfl) (some 68) rfl 9 _ rfl g 6 (by kernel_rfl) (.string ob) (fun _ => by kernel_rfl) (fun w M => M.cell 0 rfl (by decide) rfl) ?_
    refine qV (M.drop (.cons_cons _ (.cons _ (.cons_cons _ (.slnil))))) 4 69 (.string (fP s sa ep rp)) ?_
    refine qV (M.drop (.cons_cons _ (.cons _ (.cons_cons _ (.slnil))))) 5 70 (.string (nxA ((fS4 s sa ep rp).c) ⟨#[]⟩)) ?_
    refine qV (M.drop (.cons_cons _ (.cons _ (.cons_cons _ (.slnil))))) 6 71 (.string (nxB ((fS4 s sa ep rp).c) ⟨#[]⟩)) ?_
    refine qV (M.drop (.cons_cons _ (.cons _ (.cons_cons _ (.slnil))))) 7 72 (.pointer (some ⟨g2, 0, none⟩)) ?_
    refine hl_cell (M.drop (.cons_cons _ (.cons _ (.cons_cons _ (.slnil))))) 8 rfl (by decide) (by kernel_rfl) (by kernel_rfl) (want_no rfl) (some 73) rfl 9 _ rfl g2 0 (by kernel_rfl) (.string (endF (fS4 s sa ep rp)).h) (fun _ => by kernel_rfl) (fun w M => M.cell 1 rfl (by decide) rfl) ?_
    refine qV (M.drop (.cons_cons _ (.cons _ (.cons_cons _ (.slnil))))) 9 74 (.agg (av 5 (ls [.string ob, .string (fP s sa ep rp), .string (nxA ((fS4 s sa ep rp).c) ⟨#[]⟩), .string (nxB ((fS4 s sa ep rp).c) ⟨#[]⟩), .string (endF (fS4 s sa ep rp)).h]))) ?_
    refine hl_one 10 (by decide) (by kernel_rfl) rfl ?_
    refine pl_put M (want_no rfl) rfl 41 _ _ rfl 1 g1 0 (by kernel_rfl) 5 41 (ls [.string ⟨#[]⟩, .string ⟨#[]⟩, .string ⟨#[]⟩, .string ⟨#[]⟩, .string ⟨#[]⟩]) rfl 5 (ls [.string ob, .string (fP s sa ep rp), .string (nxA ((fS4 s sa ep rp).c) ⟨#[]⟩), .string (nxB ((fS4 s sa ep rp).c) ⟨#[]⟩), .string (endF (fS4 s sa ep rp)).h]) (ls [.string ob, .string (fP s sa ep rp), .string (nxA ((fS4 s sa ep rp).c) ⟨#[]⟩), .string (nxB ((fS4 s sa ep rp).c) ⟨#[]⟩), .string (endF (fS4 s sa ep rp)).h]) (by kernel_rfl) inz41 (by decide) (one_ls _ rfl) (fun j hj => by rw [if_pos (by omega), Nat.sub_zero]) fun u12 M => ?_
    refine nT ?_
    refine ⟨(M.drop (.cons_cons _ (.cons _ (.cons_cons _ (.slnil))))), ?_⟩
    refine hl_end (by kernel_rfl) (by kernel_rfl) rfl ?_
    refine rV 1 <| nT <| au_then <| wp_ret ?_
    have e0 : fiE s sa ep rp = 0 := by simp only [fiE, if_neg c0, if_neg c1, if_pos c2, c2]
    exact bodyPost_ret (v := .tuple #[.agg (av 5 (ls [.string ob, .string (fP s sa ep rp), .string (nxA ((fS4 s sa ep rp).c) ⟨#[]⟩), .string (nxB ((fS4 s sa ep rp).c) ⟨#[]⟩), .string (endF (fS4 s sa ep rp)).h])), .int .i64 0]) (results_cell_tmp Tryz.results17 _ _ g1 41 (av 5 (ls [.string ob, .string (fP s sa ep rp), .string (nxA ((fS4 s sa ep rp).c) ⟨#[]⟩), .string (nxB ((fS4 s sa ep rp).c) ⟨#[]⟩), .string (endF (fS4 s sa ep rp)).h])) (0, 0) _ _ (by kernel_rfl) (by kernel_rfl) (M.get 1 rfl) Tryz.underlying41 rfl (by rw [av_size]; exact inz41)) (by kernel_rfl) ⟨ro_below1 M.old hg (M.get 0 rfl), .inr ⟨e0, rfl⟩⟩
   ·refine pH 62 (.bool true) (jU (((fS4 s sa ep rp).e) = 0) (c2)) ?_
    refine nT <| cT <| sR <| rV 2 ?_
    refine pl_put M (want_no rfl) rfl 41 _ _ rfl 1 g1 0 (by kernel_rfl) 5 41 (ls [.string ⟨#[]⟩, .string ⟨#[]⟩, .string ⟨#[]⟩, .string ⟨#[]⟩, .string ⟨#[]⟩]) rfl 5 (ls [.string ⟨#[]⟩, .string ⟨#[]⟩, .string ⟨#[]⟩, .string ⟨#[]⟩, .string ⟨#[]⟩]) (ls [.string ⟨#[]⟩, .string ⟨#[]⟩, .string ⟨#[]⟩, .string ⟨#[]⟩, .string ⟨#[]⟩]) (by kernel_rfl) inz41 (by decide) (one_ls _ rfl) (fun j hj => by rw [if_pos (by omega), Nat.sub_zero]) fun u11 M => ?_
    refine rV 1 <| nT <| wp_ret <| au_then_ret ?_
    have e0 : fiE s sa ep rp = (fS4 s sa ep rp).e := by simp only [fiE, if_neg c0, if_neg c1, if_neg c2]
    exact bodyPost_ret (v := .tuple #[.agg (av 5 (ls [.string ⟨#[]⟩, .string ⟨#[]⟩, .string ⟨#[]⟩, .string ⟨#[]⟩, .string ⟨#[]⟩])), .int .i64 (fS4 s sa ep rp).e]) (results_cell_tmp Tryz.results17 _ _ g1 41 (av 5 (ls [.string ⟨#[]⟩, .string ⟨#[]⟩, .string ⟨#[]⟩, .string ⟨#[]⟩, .string ⟨#[]⟩])) (0, 0) _ _ (by kernel_rfl) (by kernel_rfl) (M.get 1 rfl) Tryz.underlying41 rfl (by rw [av_size]; exact inz41)) (by kernel_rfl) ⟨ro_below1 M.old hg (M.get 0 rfl), .inl ⟨by rw [e0]; exact c2, by rw [e0]⟩⟩
open Go.RowKit
theorem val_pu (y : ByteArray) : Mon.val (Mon.mkS (puV y)) % Mon.Pm = Mon.shV (Mon.clS y) 9 := Mon.val_leb (Mon.tells9.cl y).bd
theorem sh_pu (x y : ByteArray) : shN x (puV y) = Mon.shV (Mon.clS x) (Mon.shV (Mon.clS y) 9) := by
 unfold shN
 rw [val_pu]
theorem sh_swap (x y : ByteArray) : shN x (puV y) = shN y (puV x) := by
 rw [sh_pu, sh_pu]
 exact Mon.tells9.swap x y
theorem sh_ne (x y : ByteArray) : ¬ shN x (puV y) = 0 := by
 rw [sh_pu]
 exact ((Mon.tells9.cl y).cl x).ne0
theorem ext_mid (x y z : ByteArray) {i j : Nat} (hi : x.size = i) (hj : x.size + y.size = j) : (x ++ y ++ z).extract i j = y := by
 subst hi hj
 rw [Bla.ba_app, Bla.ba_app, Bla.ba_none (A := x) (by omega), Bla.ba_none (A := z) (by rw [ByteArray.size_append]; omega), Nat.sub_self, Nat.add_sub_cancel_left, Bla.ba_whole (Nat.le_refl _)]
 exact (congrArg (· ++ _) ByteArray.empty_append).trans ByteArray.append_empty
section
variable (a b e pr pl : ByteArray)
theorem tX1_size : (tX1 a b e pr).size = 48 := by
 unfold tX1
 rw [sealS_size, puV_size]
theorem tX2_size : (tX2 a b e pr pl).size = pl.size + 16 := sealS_size _ _ _ _
theorem tMs_size : (tMs a b e pr pl).size = pl.size + 96 := by
 unfold tMs
 rw [ByteArray.size_append, ByteArray.size_append, puV_size, tX1_size, tX2_size]
 omega
theorem tMs_E : rE (tMs a b e pr pl) = puV e := by
 unfold rE tMs
 rw [ByteArray.append_assoc]
 have h := ext_left (puV e) (tX1 a b e pr ++ tX2 a b e pr pl)
 rwa [puV_size] at h
theorem tMs_1 : rC1 (tMs a b e pr pl) = tX1 a b e pr := by
 unfold rC1 tMs
 exact ext_mid _ _ _ (puV_size e) (by rw [puV_size, tX1_size])
theorem tMs_2 : rC2 (tMs a b e pr pl) = tX2 a b e pr pl := by
 unfold rC2 tMs
 have h := ext_right (puV e ++ tX1 a b e pr) (tX2 a b e pr pl)
 rwa [ByteArray.size_append, puV_size, tX1_size] at h
theorem seal_tag (s : St) (t : ByteArray) : tagOk s (sealS s.k n0 s.h t) := seal_tg _ _ _ _
theorem uS2_t : uS2 b pr (tMs a (puV b) e pr pl) = tS2 (puV b) e pr := by
 unfold uS2 rS1
 rw [tMs_E, sh_swap b e]
 rfl
theorem uS2_tag : tagOk (uS2 b pr (tMs a (puV b) e pr pl)) (rC1 (tMs a (puV b) e pr pl)) := by
 rw [uS2_t, tMs_1]
 exact seal_tag _ _
theorem uF_t : uF b pr (tMs a (puV b) e pr pl) = puV a := by
 unfold uF
 rw [uS2_t, tMs_1]
 exact seal_op _ _ _ _
theorem uS4_t : uS4 b pr (tMs a (puV b) e pr pl) = tS4 a (puV b) e pr := by
 unfold uS4 uS3
 rw [uF_t, uS2_t, tMs_1, sh_swap b a]
 rfl
theorem uS4_tag : tagOk (uS4 b pr (tMs a (puV b) e pr pl)) (rC2 (tMs a (puV b) e pr pl)) := by
 rw [uS4_t, tMs_2]
 exact seal_tag _ _
theorem uP_t : uP b pr (tMs a (puV b) e pr pl) = pl := by
 unfold uP
 rw [uS4_t, tMs_2]
 exact seal_op _ _ _ _
theorem uS5_t : uS5 b pr (tMs a (puV b) e pr pl) = tS5 a (puV b) e pr pl := by
 unfold uS5
 rw [uS4_t, tMs_2]
 rfl
theorem rE_ne : ¬ shN b (rE (tMs a (puV b) e pr pl)) = 0 := by
 rw [tMs_E]
 exact sh_ne _ _
theorem uF_ne : ¬ shN b (uF b pr (tMs a (puV b) e pr pl)) = 0 := by
 rw [uF_t]
 exact sh_ne _ _
theorem read_e : (rS5 b pr (tMs a (puV b) e pr pl)).e = 0 := by
 rw [rS5_e, if_neg (rE_ne a b e pr pl), if_pos (uS2_tag a b e pr pl), if_neg (uF_ne a b e pr pl), if_pos (uS4_tag a b e pr pl)]
theorem read_s : rS5 b pr (tMs a (puV b) e pr pl) = tS5 a (puV b) e pr pl := (rS5_u (rE_ne a b e pr pl) (uS2_tag a b e pr pl) (uF_ne a b e pr pl) (uS4_tag a b e pr pl)).trans (uS5_t a b e pr pl)
theorem read_f : rF b pr (tMs a (puV b) e pr pl) = puV a := (rF_u (rE_ne a b e pr pl) (uS2_tag a b e pr pl)).trans (uF_t a b e pr pl)
theorem read_p : rP b pr (tMs a (puV b) e pr pl) = pl := (rP_u (rE_ne a b e pr pl) (uS2_tag a b e pr pl) (uF_ne a b e pr pl) (uS4_tag a b e pr pl)).trans (uP_t a b e pr pl)
theorem begin_0 (ha : a.size = 32) (he : e.size = 32) (hp : pr.size ≤ 4096) (hl : pl.size ≤ 4096) : bgE a (puV b) e pr pl = 0 := by
 unfold bgE
 rw [if_pos (by omega), if_pos (by rw [puV_size]; rfl), if_pos (by omega), if_neg (by omega), if_neg (by omega), bS5_e, if_neg (sh_ne e b), if_neg (sh_ne a b)]
theorem begin_m : bMs a (puV b) e pr pl = tMs a (puV b) e pr pl := bMs_t (sh_ne e b) (sh_ne a b)
theorem begin_s : bS5 a (puV b) e pr pl = tS5 a (puV b) e pr pl := bS5_t (sh_ne e b) (sh_ne a b)
theorem read_0 (hb : b.size = 32) (hp : pr.size ≤ 4096) (hl : pl.size ≤ 4096) : rdE b pr (tMs a (puV b) e pr pl) = 0 := by
 have h := tMs_size a (puV b) e pr pl
 unfold rdE
 rw [if_pos (by omega), if_neg (by omega), if_neg (by omega), if_neg (by omega), read_e]
end
section
variable {s : St} (a e f pl : ByteArray)
theorem vX_size (x y : ByteArray) : (vX s x y f pl).size = pl.size + 16 := sealS_size _ _ _ _
theorem vRp_size (x y : ByteArray) : (vRp s x y f pl).size = pl.size + 48 := by
 unfold vRp
 rw [ByteArray.size_append, puV_size, vX_size]
 omega
theorem vRp_E (x y : ByteArray) : rE (vRp s x y f pl) = puV f := by
 unfold rE vRp
 have h := ext_left (puV f) (vX s x y f pl)
 rwa [puV_size] at h
theorem vRp_C (x y : ByteArray) : fC (vRp s x y f pl) = vX s x y f pl := by
 unfold fC vRp
 have h := ext_right (puV f) (vX s x y f pl)
 rwa [puV_size] at h
theorem gS3_v : gS3 s a e (vRp s (puV a) (puV e) f pl) = vS3 s (puV a) (puV e) f := by
 unfold gS3 gS2 fS1
 rw [vRp_E, sh_swap e f, sh_swap a f]
 rfl
theorem gS3_tag : tagOk (gS3 s a e (vRp s (puV a) (puV e) f pl)) (fC (vRp s (puV a) (puV e) f pl)) := by
 rw [gS3_v, vRp_C]
 exact seal_tag _ _
theorem gP_v : gP s a e (vRp s (puV a) (puV e) f pl) = pl := by
 unfold gP
 rw [gS3_v, vRp_C]
 exact seal_op _ _ _ _
theorem gS4_v : gS4 s a e (vRp s (puV a) (puV e) f pl) = vS4 s (puV a) (puV e) f pl := by
 unfold gS4
 rw [gS3_v, vRp_C]
 rfl
theorem fE_ne (x : ByteArray) : ¬ shN x (rE (vRp s (puV a) (puV e) f pl)) = 0 := by
 rw [vRp_E]
 exact sh_ne _ _
end
section
variable {s : St} (a e f pl : ByteArray)
theorem answer_0 (h0 : s.e = 0) (hf : f.size = 32) (hl : pl.size ≤ 4096) : anE s (puV a) (puV e) f pl = 0 := by
 unfold anE
 rw [if_pos (by omega), if_neg (by omega), aS4_e _ _ _ _ h0, if_neg (sh_ne f e), if_neg (sh_ne f a)]
theorem answer_r (h0 : s.e = 0) : aRp s (puV a) (puV e) f pl = vRp s (puV a) (puV e) f pl := aRp_v h0 (sh_ne f e) (sh_ne f a)
theorem answer_s (h0 : s.e = 0) : aS4 s (puV a) (puV e) f pl = vS4 s (puV a) (puV e) f pl := aS4_v h0 (sh_ne f e) (sh_ne f a)
theorem finish_0 (h0 : s.e = 0) (hl : pl.size ≤ 4096) : fiE s a e (vRp s (puV a) (puV e) f pl) = 0 := by
 have h := vRp_size (s := s) f pl (puV a) (puV e)
 unfold fiE
 rw [if_neg (by omega), if_neg (by omega), fS4_e _ _ _ h0, if_neg (fE_ne a e f pl e), if_neg (fE_ne a e f pl a), if_pos (gS3_tag a e f pl)]
theorem finish_s (h0 : s.e = 0) : fS4 s a e (vRp s (puV a) (puV e) f pl) = vS4 s (puV a) (puV e) f pl := (fS4_g h0 (fE_ne a e f pl e) (fE_ne a e f pl a) (gS3_tag a e f pl)).trans (gS4_v a e f pl)
theorem finish_p (h0 : s.e = 0) : fP s a e (vRp s (puV a) (puV e) f pl) = pl := (fP_g h0 (fE_ne a e f pl e) (fE_ne a e f pl a) (gS3_tag a e f pl)).trans (gP_v a e f pl)
end
open Go.RowKit
def keE : ByteArray := bs (List.replicate 31 0 ++ [101])
def keF : ByteArray := bs (List.replicate 31 0 ++ [102])
def pS : ByteArray := byL [112]
def qS : ByteArray := byL [113]
def abcS : ByteArray := byL [97, 98, 99]
def xyS : ByteArray := byL [120, 121]
theorem keE_size : keE.size = 32 := by decide +kernel
theorem keF_size : keF.size = 32 := by decide +kernel
theorem pN_a : Mon.shV (Mon.clS Mon.aS) 9 = 16572691432107831290236438983220704641597839740724002177525024145463529258009 := by decide +kernel
theorem pN_b : Mon.shV (Mon.clS Mon.bbS) 9 = 3873599628253772194686510826457445042224408612751331329672488392857300769615 := by decide +kernel
theorem pN_e : Mon.shV (Mon.clS keE) 9 = 34107742065115193518099035582793541296935167776723933399429897696738411264332 := by decide +kernel
theorem sN_1 : Mon.shV (Mon.clS keE) 3873599628253772194686510826457445042224408612751331329672488392857300769615 = 28191942077556465510392378457765919935009007859398376681088946255094371469576 := by decide +kernel
theorem sN_2 : Mon.shV (Mon.clS Mon.aS) 3873599628253772194686510826457445042224408612751331329672488392857300769615 = 45863505615179444264250632754092809270636439140959747961807530266934234225689 := by decide +kernel
theorem sN_3 : Mon.shV (Mon.clS keF) 34107742065115193518099035582793541296935167776723933399429897696738411264332 = 31278884780669883789621468763246920430992810269124065668733665284318415149686 := by decide +kernel
theorem sN_4 : Mon.shV (Mon.clS keF) 16572691432107831290236438983220704641597839740724002177525024145463529258009 = 41691078657918421984347907972951763659788406297479256988546525889969654557035 := by decide +kernel
theorem pu_a : puV Mon.aS = byL [25, 60, 77, 103, 59, 0, 42, 221, 148, 203, 36, 3, 232, 147, 223, 114, 73, 166, 100, 172, 210, 123, 165, 125, 210, 35, 39, 239, 153, 207, 163, 36] := by
 unfold puV
 rw [pN_a]
 decide +kernel
theorem pu_b : puV Mon.bbS = byL [79, 27, 96, 151, 118, 98, 90, 116, 181, 78, 149, 199, 95, 183, 95, 149, 127, 246, 209, 76, 9, 226, 24, 247, 86, 158, 8, 170, 51, 97, 144, 8] := by
 unfold puV
 rw [pN_b]
 decide +kernel
theorem pu_e : puV keE = byL [76, 185, 251, 227, 249, 75, 208, 125, 153, 88, 205, 209, 164, 41, 137, 33, 21, 255, 84, 111, 126, 59, 171, 197, 185, 217, 51, 138, 66, 76, 104, 75] := by
 unfold puV
 rw [pN_e]
 decide +kernel
theorem lS_1 : Mon.lebytes (shN keE (puV Mon.bbS)) = byL [8, 73, 234, 88, 45, 34, 114, 81, 41, 199, 116, 4, 222, 241, 35, 90, 51, 231, 78, 155, 198, 119, 81, 61, 21, 66, 249, 137, 225, 18, 84, 62] := by
 rw [sh_pu, pN_b, sN_1]
 decide +kernel
theorem lS_2 : Mon.lebytes (shN Mon.aS (puV Mon.bbS)) = byL [25, 156, 6, 225, 163, 41, 76, 124, 93, 239, 67, 202, 62, 33, 172, 74, 126, 61, 159, 248, 35, 165, 6, 54, 58, 170, 248, 50, 3, 211, 101, 101] := by
 rw [sh_pu, pN_b, sN_2]
 decide +kernel
theorem lS_3 : Mon.lebytes (shN keF (puV keE)) = byL [118, 218, 153, 197, 230, 28, 188, 154, 18, 189, 12, 213, 27, 226, 213, 116, 191, 31, 23, 87, 46, 82, 51, 222, 85, 127, 170, 38, 174, 56, 39, 69] := by
 rw [sh_pu, pN_e, sN_3]
 decide +kernel
theorem lS_4 : Mon.lebytes (shN keF (puV Mon.aS)) = byL [107, 105, 251, 172, 237, 35, 90, 192, 20, 38, 20, 133, 206, 250, 196, 65, 167, 117, 135, 255, 160, 171, 57, 30, 94, 156, 16, 222, 117, 80, 44, 92] := by
 rw [sh_pu, pN_a, sN_4]
 decide +kernel
def c0L : List Nat := [187, 234, 2, 43, 148, 140, 243, 188, 88, 87, 215, 8, 4, 34, 145, 121, 225, 17, 107, 196, 12, 184, 204, 7, 72, 53, 52, 156, 70, 75, 202, 54]
theorem Bh0 : Bh nameS = byL c0L := by
 rw [show nameS = byL [78, 111, 105, 115, 101, 95, 73, 75, 95, 50, 53, 53, 49, 57, 95, 67, 104, 97, 67, 104, 97, 80, 111, 108, 121, 95, 66, 76, 65, 75, 69, 50, 115] from rfl, Bh_byL _ (by decide), show fD [78, 111, 105, 115, 101, 95, 73, 75, 95, 50, 53, 53, 49, 57, 95, 67, 104, 97, 67, 104, 97, 80, 111, 108, 121, 95, 66, 76, 65, 75, 69, 50, 115] = c0L by decide +kernel]
theorem Bh1p : Bh (byL c0L ++ byL [112]) = byL [149, 66, 126, 232, 213, 196, 184, 50, 129, 67, 232, 213, 223, 222, 111, 168, 230, 1, 16, 61, 223, 191, 26, 120, 203, 210, 59, 59, 151, 57, 231, 4] := by
 rw [byL_app, Bh_byL _ (by decide), show fD (c0L ++ [112]) = [149, 66, 126, 232, 213, 196, 184, 50, 129, 67, 232, 213, 223, 222, 111, 168, 230, 1, 16, 61, 223, 191, 26, 120, 203, 210, 59, 59, 151, 57, 231, 4] by decide +kernel]
theorem Bh2p : Bh (byL [149, 66, 126, 232, 213, 196, 184, 50, 129, 67, 232, 213, 223, 222, 111, 168, 230, 1, 16, 61, 223, 191, 26, 120, 203, 210, 59, 59, 151, 57, 231, 4] ++ byL [79, 27, 96, 151, 118, 98, 90, 116, 181, 78, 149, 199, 95, 183, 95, 149, 127, 246, 209, 76, 9, 226, 24, 247, 86, 158, 8, 170, 51, 97, 144, 8]) = byL [74, 100, 185, 144, 255, 206, 147, 208, 245, 60, 171, 64, 170, 142, 40, 125, 20, 83, 219, 37, 251, 65, 159, 157, 221, 196, 220, 19, 83, 117, 90, 13] := by
 rw [byL_app, Bh_byL _ (by decide), show fD ([149, 66, 126, 232, 213, 196, 184, 50, 129, 67, 232, 213, 223, 222, 111, 168, 230, 1, 16, 61, 223, 191, 26, 120, 203, 210, 59, 59, 151, 57, 231, 4] ++ [79, 27, 96, 151, 118, 98, 90, 116, 181, 78, 149, 199, 95, 183, 95, 149, 127, 246, 209, 76, 9, 226, 24, 247, 86, 158, 8, 170, 51, 97, 144, 8]) = [74, 100, 185, 144, 255, 206, 147, 208, 245, 60, 171, 64, 170, 142, 40, 125, 20, 83, 219, 37, 251, 65, 159, 157, 221, 196, 220, 19, 83, 117, 90, 13] by decide +kernel]
theorem Bh3p : Bh (byL [74, 100, 185, 144, 255, 206, 147, 208, 245, 60, 171, 64, 170, 142, 40, 125, 20, 83, 219, 37, 251, 65, 159, 157, 221, 196, 220, 19, 83, 117, 90, 13] ++ byL [76, 185, 251, 227, 249, 75, 208, 125, 153, 88, 205, 209, 164, 41, 137, 33, 21, 255, 84, 111, 126, 59, 171, 197, 185, 217, 51, 138, 66, 76, 104, 75]) = byL hP := by
 rw [byL_app, Bh_byL _ (by decide), show fD ([74, 100, 185, 144, 255, 206, 147, 208, 245, 60, 171, 64, 170, 142, 40, 125, 20, 83, 219, 37, 251, 65, 159, 157, 221, 196, 220, 19, 83, 117, 90, 13] ++ [76, 185, 251, 227, 249, 75, 208, 125, 153, 88, 205, 209, 164, 41, 137, 33, 21, 255, 84, 111, 126, 59, 171, 197, 185, 217, 51, 138, 66, 76, 104, 75]) = hP by decide +kernel]
theorem Bh1q : Bh (byL c0L ++ byL [113]) = byL [135, 172, 214, 70, 40, 75, 63, 72, 153, 173, 140, 69, 71, 118, 120, 48, 69, 245, 159, 216, 142, 8, 76, 176, 58, 40, 11, 226, 52, 126, 253, 250] := by
 rw [byL_app, Bh_byL _ (by decide), show fD (c0L ++ [113]) = [135, 172, 214, 70, 40, 75, 63, 72, 153, 173, 140, 69, 71, 118, 120, 48, 69, 245, 159, 216, 142, 8, 76, 176, 58, 40, 11, 226, 52, 126, 253, 250] by decide +kernel]
theorem Bh2q : Bh (byL [135, 172, 214, 70, 40, 75, 63, 72, 153, 173, 140, 69, 71, 118, 120, 48, 69, 245, 159, 216, 142, 8, 76, 176, 58, 40, 11, 226, 52, 126, 253, 250] ++ byL [79, 27, 96, 151, 118, 98, 90, 116, 181, 78, 149, 199, 95, 183, 95, 149, 127, 246, 209, 76, 9, 226, 24, 247, 86, 158, 8, 170, 51, 97, 144, 8]) = byL [15, 144, 203, 178, 67, 157, 144, 41, 202, 178, 143, 179, 56, 111, 12, 154, 31, 143, 118, 211, 155, 224, 120, 255, 204, 209, 158, 74, 222, 55, 144, 62] := by
 rw [byL_app, Bh_byL _ (by decide), show fD ([135, 172, 214, 70, 40, 75, 63, 72, 153, 173, 140, 69, 71, 118, 120, 48, 69, 245, 159, 216, 142, 8, 76, 176, 58, 40, 11, 226, 52, 126, 253, 250] ++ [79, 27, 96, 151, 118, 98, 90, 116, 181, 78, 149, 199, 95, 183, 95, 149, 127, 246, 209, 76, 9, 226, 24, 247, 86, 158, 8, 170, 51, 97, 144, 8]) = [15, 144, 203, 178, 67, 157, 144, 41, 202, 178, 143, 179, 56, 111, 12, 154, 31, 143, 118, 211, 155, 224, 120, 255, 204, 209, 158, 74, 222, 55, 144, 62] by decide +kernel]
theorem Bh3q : Bh (byL [15, 144, 203, 178, 67, 157, 144, 41, 202, 178, 143, 179, 56, 111, 12, 154, 31, 143, 118, 211, 155, 224, 120, 255, 204, 209, 158, 74, 222, 55, 144, 62] ++ byL [76, 185, 251, 227, 249, 75, 208, 125, 153, 88, 205, 209, 164, 41, 137, 33, 21, 255, 84, 111, 126, 59, 171, 197, 185, 217, 51, 138, 66, 76, 104, 75]) = byL hQ := by
 rw [byL_app, Bh_byL _ (by decide), show fD ([15, 144, 203, 178, 67, 157, 144, 41, 202, 178, 143, 179, 56, 111, 12, 154, 31, 143, 118, 211, 155, 224, 120, 255, 204, 209, 158, 74, 222, 55, 144, 62] ++ [76, 185, 251, 227, 249, 75, 208, 125, 153, 88, 205, 209, 164, 41, 137, 33, 21, 255, 84, 111, 126, 59, 171, 197, 185, 217, 51, 138, 66, 76, 104, 75]) = hQ by decide +kernel]
theorem nB_1 : nxB (byL c0L) (byL [8, 73, 234, 88, 45, 34, 114, 81, 41, 199, 116, 4, 222, 241, 35, 90, 51, 231, 78, 155, 198, 119, 81, 61, 21, 66, 249, 137, 225, 18, 84, 62]) = byL cK := by
 rw [nxB_n _ _ (by decide) (by decide), show fB c0L [8, 73, 234, 88, 45, 34, 114, 81, 41, 199, 116, 4, 222, 241, 35, 90, 51, 231, 78, 155, 198, 119, 81, 61, 21, 66, 249, 137, 225, 18, 84, 62] = cK by decide +kernel]
theorem nA_1 : nxA (byL c0L) (byL [8, 73, 234, 88, 45, 34, 114, 81, 41, 199, 116, 4, 222, 241, 35, 90, 51, 231, 78, 155, 198, 119, 81, 61, 21, 66, 249, 137, 225, 18, 84, 62]) = byL [143, 229, 75, 56, 63, 207, 41, 25, 28, 112, 30, 91, 85, 98, 38, 204, 209, 123, 114, 101, 227, 85, 5, 95, 66, 83, 84, 126, 222, 27, 235, 163] := by
 rw [nxA_n _ _ (by decide) (by decide), show fA c0L [8, 73, 234, 88, 45, 34, 114, 81, 41, 199, 116, 4, 222, 241, 35, 90, 51, 231, 78, 155, 198, 119, 81, 61, 21, 66, 249, 137, 225, 18, 84, 62] = [143, 229, 75, 56, 63, 207, 41, 25, 28, 112, 30, 91, 85, 98, 38, 204, 209, 123, 114, 101, 227, 85, 5, 95, 66, 83, 84, 126, 222, 27, 235, 163] by decide +kernel]
theorem nA_2 : nxA (byL [143, 229, 75, 56, 63, 207, 41, 25, 28, 112, 30, 91, 85, 98, 38, 204, 209, 123, 114, 101, 227, 85, 5, 95, 66, 83, 84, 126, 222, 27, 235, 163]) (byL [25, 156, 6, 225, 163, 41, 76, 124, 93, 239, 67, 202, 62, 33, 172, 74, 126, 61, 159, 248, 35, 165, 6, 54, 58, 170, 248, 50, 3, 211, 101, 101]) = byL [96, 157, 8, 103, 203, 24, 214, 52, 86, 232, 125, 157, 98, 84, 75, 222, 218, 190, 144, 87, 222, 217, 149, 27, 50, 41, 60, 254, 253, 58, 84, 102] := by
 rw [nxA_n _ _ (by decide) (by decide), show fA [143, 229, 75, 56, 63, 207, 41, 25, 28, 112, 30, 91, 85, 98, 38, 204, 209, 123, 114, 101, 227, 85, 5, 95, 66, 83, 84, 126, 222, 27, 235, 163] [25, 156, 6, 225, 163, 41, 76, 124, 93, 239, 67, 202, 62, 33, 172, 74, 126, 61, 159, 248, 35, 165, 6, 54, 58, 170, 248, 50, 3, 211, 101, 101] = [96, 157, 8, 103, 203, 24, 214, 52, 86, 232, 125, 157, 98, 84, 75, 222, 218, 190, 144, 87, 222, 217, 149, 27, 50, 41, 60, 254, 253, 58, 84, 102] by decide +kernel]
theorem nA_3 : nxA (byL [96, 157, 8, 103, 203, 24, 214, 52, 86, 232, 125, 157, 98, 84, 75, 222, 218, 190, 144, 87, 222, 217, 149, 27, 50, 41, 60, 254, 253, 58, 84, 102]) (byL [118, 218, 153, 197, 230, 28, 188, 154, 18, 189, 12, 213, 27, 226, 213, 116, 191, 31, 23, 87, 46, 82, 51, 222, 85, 127, 170, 38, 174, 56, 39, 69]) = byL [39, 164, 111, 139, 204, 152, 194, 218, 174, 108, 97, 111, 90, 25, 14, 44, 41, 129, 73, 135, 246, 146, 90, 0, 211, 171, 174, 60, 213, 157, 77, 203] := by
 rw [nxA_n _ _ (by decide) (by decide), show fA [96, 157, 8, 103, 203, 24, 214, 52, 86, 232, 125, 157, 98, 84, 75, 222, 218, 190, 144, 87, 222, 217, 149, 27, 50, 41, 60, 254, 253, 58, 84, 102] [118, 218, 153, 197, 230, 28, 188, 154, 18, 189, 12, 213, 27, 226, 213, 116, 191, 31, 23, 87, 46, 82, 51, 222, 85, 127, 170, 38, 174, 56, 39, 69] = [39, 164, 111, 139, 204, 152, 194, 218, 174, 108, 97, 111, 90, 25, 14, 44, 41, 129, 73, 135, 246, 146, 90, 0, 211, 171, 174, 60, 213, 157, 77, 203] by decide +kernel]
theorem nA_4 : nxA (byL [39, 164, 111, 139, 204, 152, 194, 218, 174, 108, 97, 111, 90, 25, 14, 44, 41, 129, 73, 135, 246, 146, 90, 0, 211, 171, 174, 60, 213, 157, 77, 203]) (byL [107, 105, 251, 172, 237, 35, 90, 192, 20, 38, 20, 133, 206, 250, 196, 65, 167, 117, 135, 255, 160, 171, 57, 30, 94, 156, 16, 222, 117, 80, 44, 92]) = byL [214, 64, 249, 90, 109, 63, 175, 24, 230, 226, 181, 15, 133, 56, 221, 218, 28, 155, 124, 104, 215, 52, 90, 73, 15, 172, 116, 114, 2, 56, 216, 49] := by
 rw [nxA_n _ _ (by decide) (by decide), show fA [39, 164, 111, 139, 204, 152, 194, 218, 174, 108, 97, 111, 90, 25, 14, 44, 41, 129, 73, 135, 246, 146, 90, 0, 211, 171, 174, 60, 213, 157, 77, 203] [107, 105, 251, 172, 237, 35, 90, 192, 20, 38, 20, 133, 206, 250, 196, 65, 167, 117, 135, 255, 160, 171, 57, 30, 94, 156, 16, 222, 117, 80, 44, 92] = [214, 64, 249, 90, 109, 63, 175, 24, 230, 226, 181, 15, 133, 56, 221, 218, 28, 155, 124, 104, 215, 52, 90, 73, 15, 172, 116, 114, 2, 56, 216, 49] by decide +kernel]
theorem nA_5 : nxA (byL [214, 64, 249, 90, 109, 63, 175, 24, 230, 226, 181, 15, 133, 56, 221, 218, 28, 155, 124, 104, 215, 52, 90, 73, 15, 172, 116, 114, 2, 56, 216, 49]) ⟨#[]⟩ = byL [115, 36, 65, 180, 23, 80, 192, 76, 126, 14, 59, 226, 203, 66, 214, 244, 232, 80, 240, 184, 72, 200, 34, 198, 145, 215, 230, 81, 221, 202, 144, 101] := by
 rw [show (⟨#[]⟩ : ByteArray) = byL [] from rfl, nxA_n _ _ (by decide) (by decide), show fA [214, 64, 249, 90, 109, 63, 175, 24, 230, 226, 181, 15, 133, 56, 221, 218, 28, 155, 124, 104, 215, 52, 90, 73, 15, 172, 116, 114, 2, 56, 216, 49] [] = [115, 36, 65, 180, 23, 80, 192, 76, 126, 14, 59, 226, 203, 66, 214, 244, 232, 80, 240, 184, 72, 200, 34, 198, 145, 215, 230, 81, 221, 202, 144, 101] by decide +kernel]
theorem nB_5 : nxB (byL [214, 64, 249, 90, 109, 63, 175, 24, 230, 226, 181, 15, 133, 56, 221, 218, 28, 155, 124, 104, 215, 52, 90, 73, 15, 172, 116, 114, 2, 56, 216, 49]) ⟨#[]⟩ = byL [142, 128, 23, 199, 31, 174, 107, 85, 45, 177, 79, 154, 75, 69, 42, 68, 100, 200, 32, 228, 81, 210, 84, 199, 110, 122, 11, 152, 100, 215, 201, 254] := by
 rw [show (⟨#[]⟩ : ByteArray) = byL [] from rfl, nxB_n _ _ (by decide) (by decide), show fB [214, 64, 249, 90, 109, 63, 175, 24, 230, 226, 181, 15, 133, 56, 221, 218, 28, 155, 124, 104, 215, 52, 90, 73, 15, 172, 116, 114, 2, 56, 216, 49] [] = [142, 128, 23, 199, 31, 174, 107, 85, 45, 177, 79, 154, 75, 69, 42, 68, 100, 200, 32, 228, 81, 210, 84, 199, 110, 122, 11, 152, 100, 215, 201, 254] by decide +kernel]
def mK : ByteArray := tMs Mon.aS (puV Mon.bbS) keE pS abcS
def sK : St := endF (tS5 Mon.aS (puV Mon.bbS) keE pS abcS)
theorem hx_p : (tS2 (puV Mon.bbS) keE pS).h = byL hP := by
 show Bh (Bh (Bh (Bh nameS ++ pS) ++ puV Mon.bbS) ++ puV keE) = _
 rw [Bh0, show pS = byL [112] from rfl, Bh1p, pu_b, Bh2p, pu_e, Bh3p]
theorem kx_p : (tS2 (puV Mon.bbS) keE pS).k = byL cK := by
 show nxB (Bh nameS) (Mon.lebytes (shN keE (puV Mon.bbS))) = _
 rw [Bh0, lS_1, nB_1]
theorem hx_q : (uS2 Mon.bbS qS mK).h = byL hQ := by
 show Bh (Bh (Bh (Bh nameS ++ qS) ++ puV Mon.bbS) ++ rE mK) = _
 rw [Bh0, show qS = byL [113] from rfl, Bh1q, pu_b, Bh2q, show rE mK = puV keE from tMs_E _ _ _ _ _, pu_e, Bh3q]
theorem kx_q : (uS2 Mon.bbS qS mK).k = byL cK := by
 show nxB (Bh nameS) (Mon.lebytes (shN Mon.bbS (rE mK))) = _
 rw [show rE mK = puV keE from tMs_E _ _ _ _ _, sh_swap, Bh0, lS_1, nB_1]
theorem q_bad : ¬ tagOk (uS2 Mon.bbS qS mK) (rC1 mK) := by
 rw [show rC1 mK = tX1 Mon.aS (puV Mon.bbS) keE pS from tMs_1 _ _ _ _ _]
 unfold tagOk tX1 tgX
 rw [hx_q, kx_q, hx_p, kx_p, seal_cx, seal_tx, pu_a, ct_c]
 exact tags_c
theorem mK_size : mK.size = 99 := tMs_size _ _ _ _ _
theorem read_q : rdE Mon.bbS qS mK = 100 := by
 have h := mK_size
 have h1 : qS.size = 1 := rfl
 have h2 := Mon.bbS_size
 unfold rdE
 rw [if_pos (by omega), if_neg (by omega), if_neg (by omega), if_neg (by omega), rS5_e, if_neg (show ¬ shN Mon.bbS (rE mK) = 0 from rE_ne _ _ _ _ _), if_neg q_bad]
theorem keys_two : ¬ nxB (vS4 sK (puV Mon.aS) (puV keE) keF xyS).c ⟨#[]⟩ = nxA (vS4 sK (puV Mon.aS) (puV keE) keF xyS).c ⟨#[]⟩ := by
 have h : (vS4 sK (puV Mon.aS) (puV keE) keF xyS).c = byL [214, 64, 249, 90, 109, 63, 175, 24, 230, 226, 181, 15, 133, 56, 221, 218, 28, 155, 124, 104, 215, 52, 90, 73, 15, 172, 116, 114, 2, 56, 216, 49] := by
  show nxA (nxA (nxA (nxA (Bh nameS) (Mon.lebytes (shN keE (puV Mon.bbS)))) (Mon.lebytes (shN Mon.aS (puV Mon.bbS)))) (Mon.lebytes (shN keF (puV keE)))) (Mon.lebytes (shN keF (puV Mon.aS))) = _
  rw [Bh0, lS_1, lS_2, lS_3, lS_4, nA_1, nA_2, nA_3, nA_4]
 rw [h, nB_5, nA_5]
 decide
open Go.RowKit
theorem c_BeginG (a b e pr pl : ByteArray) (ha : a.size = 32) (he : e.size = 32) (hp : pr.size ≤ 4096) (hl : pl.size ≤ 4096) (w : World) (hL : Laid w) : Calls Tryz.prog 10 #[.string a, .string (puV b), .string e, .string pr, .string pl] w fun r w' => ∃ g, r = .returned (.tuple #[.pointer (some ⟨g, 0, none⟩), .string (tMs a (puV b) e pr pl), .int .i64 0]) ∧ w.heap.size ≤ g ∧ w'.heap[g]? = some (.cells (av 7 (stL (endF (tS5 a (puV b) e pr pl)) [.string a, .string e, .string (puV b)])) 66) ∧ Below w.heap.size w w' := by
 refine (c_Begin a (puV b) e pr pl w hL).mono fun r w' h => ?_
 obtain ⟨hb, ⟨h1, _⟩ | ⟨_, g, h2, h3, h4⟩⟩ := h
 ·exact absurd (begin_0 a b e pr pl ha he hp hl) h1
 ·rw [begin_m] at h2
  rw [begin_s] at h4
  exact ⟨g, h2, h3, h4, hb⟩
theorem c_ReadO (b pr m : ByteArray) (h : rdE b pr m = 0) (w : World) (hL : Laid w) : Calls Tryz.prog 13 #[.string b, .string pr, .string m] w fun r w' => ∃ g, r = .returned (.tuple #[.pointer (some ⟨g, 0, none⟩), .agg (av 5 (ls [.string (rF b pr m), .string (rP b pr m), .string ⟨#[]⟩, .string ⟨#[]⟩, .string ⟨#[]⟩])), .int .i64 0]) ∧ w.heap.size ≤ g ∧ w'.heap[g]? = some (.cells (av 6 (stL (endF (rS5 b pr m)) [.string (rF b pr m), .string (rE m)])) 77) ∧ Below w.heap.size w w' := by
 refine (c_Read b pr m w hL).mono fun r w' k => ?_
 obtain ⟨hb, ⟨h1, _⟩ | ⟨_, g, h2, h3, h4⟩⟩ := k
 ·exact absurd h h1
 ·exact ⟨g, h2, h3, h4, hb⟩
theorem c_ReadE (b pr m : ByteArray) (h : ¬ rdE b pr m = 0) (w : World) (hL : Laid w) : Cs 13 #[.string b, .string pr, .string m] w (.tuple #[.pointer none, .agg (av 5 (ls [.string ⟨#[]⟩, .string ⟨#[]⟩, .string ⟨#[]⟩, .string ⟨#[]⟩, .string ⟨#[]⟩])), .int .i64 (rdE b pr m)]) := by
 refine (c_Read b pr m w hL).mono fun r w' k => ?_
 obtain ⟨hb, ⟨_, h1⟩ | ⟨h2, _⟩⟩ := k
 ·exact ⟨h1, hb⟩
 ·exact absurd h2 h
theorem c_ReadG (a b e pr pl : ByteArray) (hb : b.size = 32) (hp : pr.size ≤ 4096) (hl : pl.size ≤ 4096) (w : World) (hL : Laid w) : Calls Tryz.prog 13 #[.string b, .string pr, .string (tMs a (puV b) e pr pl)] w fun r w' => ∃ g, r = .returned (.tuple #[.pointer (some ⟨g, 0, none⟩), .agg (av 5 (ls [.string (puV a), .string pl, .string ⟨#[]⟩, .string ⟨#[]⟩, .string ⟨#[]⟩])), .int .i64 0]) ∧ w.heap.size ≤ g ∧ w'.heap[g]? = some (.cells (av 6 (stL (endF (tS5 a (puV b) e pr pl)) [.string (puV a), .string (puV e)])) 77) ∧ Below w.heap.size w w' := by
 have h := c_ReadO b pr (tMs a (puV b) e pr pl) (read_0 a b e pr pl hb hp hl) w hL
 rwa [read_f, read_p, read_s, tMs_E] at h
theorem c_AnswerG (g : Nat) (s : St) (a e f pl : ByteArray) (hs : s.h.size = 32) (h0 : s.e = 0) (hf : f.size = 32) (hl : pl.size ≤ 4096) (w : World) (hL : Laid w) (hg : w.heap[g]? = some (.cells (av 6 (stL s [.string (puV a), .string (puV e)])) 77)) (hn : 2 < g) : Cs 15 #[.pointer (some ⟨g, 0, none⟩), .string f, .string pl] w (.tuple #[.string (vRp s (puV a) (puV e) f pl), .agg (av 5 (ls [.string (puV a), .string ⟨#[]⟩, .string (nxB (vS4 s (puV a) (puV e) f pl).c ⟨#[]⟩), .string (nxA (vS4 s (puV a) (puV e) f pl).c ⟨#[]⟩), .string (vS4 s (puV a) (puV e) f pl).h])), .int .i64 0]) := by
 refine (c_Answer g s (puV a) (puV e) f pl hs (puV_size a) (puV_size e) w hL hg hn).mono fun r w' k => ?_
 obtain ⟨hb, ⟨h1, _⟩ | ⟨_, h2⟩⟩ := k
 ·exact absurd (answer_0 a e f pl h0 hf hl) h1
 ·rw [answer_r _ _ _ _ h0, answer_s _ _ _ _ h0] at h2
  exact ⟨h2, hb⟩
theorem c_FinishG (g : Nat) (s : St) (a e b f pl : ByteArray) (hs : s.h.size = 32) (h0 : s.e = 0) (ha : a.size = 32) (he : e.size = 32) (hl : pl.size ≤ 4096) (w : World) (hL : Laid w) (hg : w.heap[g]? = some (.cells (av 7 (stL s [.string a, .string e, .string b])) 66)) (hn : 2 < g) : Cs 17 #[.pointer (some ⟨g, 0, none⟩), .string (vRp s (puV a) (puV e) f pl)] w (.tuple #[.agg (av 5 (ls [.string b, .string pl, .string (nxA (vS4 s (puV a) (puV e) f pl).c ⟨#[]⟩), .string (nxB (vS4 s (puV a) (puV e) f pl).c ⟨#[]⟩), .string (vS4 s (puV a) (puV e) f pl).h])), .int .i64 0]) := by
 refine (c_Finish g s a e b (vRp s (puV a) (puV e) f pl) hs ha he w hL hg hn).mono fun r w' k => ?_
 obtain ⟨hb, ⟨h1, _⟩ | ⟨_, h2⟩⟩ := k
 ·exact absurd (finish_0 a e f pl h0 hl) h1
 ·rw [finish_s _ _ _ _ h0, finish_p _ _ _ _ h0] at h2
  exact ⟨h2, hb⟩
def keS (c : Int) : ByteArray := bs (List.replicate 31 0 ++ [c])
theorem bs_app (l m : List Int) : bs l ++ bs m = bs (l ++ m) := by
 unfold bs
 apply ByteArray.ext
 rw [ByteArray.data_append, List.map_append, List.append_toArray]
theorem ker (c : Int) (h0 : 0 ≤ c) (h1 : c < 256) : ∀ x ∈ [c], 0 ≤ x ∧ x < 256 := fun x hx => by
 rw [List.mem_singleton.1 hx]
 exact ⟨h0, h1⟩
theorem tS5_h (a b e pr pl : ByteArray) : (endF (tS5 a b e pr pl)).h.size = 32 := mixF_h (tS4 a b e pr) (tX2 a b e pr pl)
def rK : ByteArray := vRp sK (puV Mon.aS) (puV keE) keF xyS
def gA : ByteArray := nxA (vS4 sK (puV Mon.aS) (puV keE) keF xyS).c ⟨#[]⟩
def gB : ByteArray := nxB (vS4 sK (puV Mon.aS) (puV keE) keF xyS).c ⟨#[]⟩
def gH : ByteArray := (vS4 sK (puV Mon.aS) (puV keE) keF xyS).h
theorem rK_size : rK.size = 50 := vRp_size _ _ _ _
theorem gB_size : gB.size = 32 := nxB_size _ _
theorem gAB : ¬ gB = gA := keys_two
open Go.RowKit
section
variable {P : Program} {ops : Array Oper} {o o2 o3 : Oper} {a : Act} {w : World} {Q : Exit → Act → World → Prop} {S : World → Prop} {n fuel : Nat} {listed : Array Bool}
theorem hl_name (h : ∀ H : Nat → Array Bool → Act → World → Prop, (∀ f l a w, H f l a w → HL P ops Q S n f l a w) → (∀ f l a w, HL P ops Q S n f l a w → H f l a w) → H fuel listed a w) : HL P ops Q S n fuel listed a w := h _ (fun _ _ _ _ h => h) (fun _ _ _ _ h => h)
end
section
variable {a : Act} {w : World} {Q : Exit → Act → World → Prop}
end
theorem z31 : ∀ x ∈ List.replicate 31 (0 : Int), 0 ≤ x ∧ x < 256 := fun x hx => by
 rw [List.eq_of_mem_replicate hx]
 decide
theorem sb_z : SB (.cells (av 31 (w8 fun _ => 0)) 5) 31 (vs8 (List.replicate 31 0)) := by
 refine ⟨_, 5, (0, 0), rfl, by simp [vs8], by rw [av_size]; exact Nat.le_refl _, fun i hi => ?_, fun i _ => by simp⟩
 rw [vs8_length, List.length_replicate] at hi
 rw [av_get _ _ _ hi]
 unfold vs8 w8
 rw [List.getElem?_map, List.getElem?_replicate, if_pos hi]
 rfl
theorem sb_one (c : Int) : SB (.cells (av 1 (fun _ => .int .u8 c)) 5) 1 (vs8 [c]) := by
 refine ⟨_, 5, (0, 0), rfl, by simp [vs8], by rw [av_size]; exact Nat.le_refl _, fun i hi => ?_, fun i _ => by simp⟩
 obtain rfl : i = 0 := by rw [vs8_length] at hi; exact Nat.lt_one_iff.1 hi
 rw [av_get _ _ _ (by decide)]
 rfl
theorem c_key (c_ : Int) (h0 : 0 ≤ c_) (h1 : c_ < 256) (w : World) (hL : Laid w)  : Cs 19 #[.int .u8 c_] w (.string (keS c_)) := by
 go_enter Tryz.func19, Tryz.ntmps19
 have M := Mem.start hL
 refine sq <| wp_seq ?_
 refine rg_held M [] 6 rfl (by kernel_rfl) (by kernel_rfl) (fun _ _ d _ _ h => by cases d <;> exact h) fun u1 M => ?_
 refine qV M 2 5 (.int .u8 c_) ?_
 refine hl_name ?_
 intro H hA hB
 have s9 : ∀ (a : Act) (l : Array Bool) (x_3 x_6 : Value) (w0 : World), a = (fm ([.int .u8 c_, undef, .string ⟨#[]⟩, x_3, .string (bs (List.replicate 31 0)), .int .u8 c_, x_6, .string (bs [c_]), .string ((bs (List.replicate 31 0)) ++ (bs [c_]))])) → l = #[true, true, true, true, true, true, false] → Mem ⟨w, []⟩ [] w0 → H 1 l a w0 := by
  intro a l  x_3 x_6 u0 ha hl M
  subst ha hl
  refine hB _ _ _ _ ?_
  refine hl_end (by kernel_rfl) (by kernel_rfl) rfl ?_
  refine rV 1 <| nT <| au_then <| wp_ret ?_
  exact bodyPost_ret (v := .string ((bs (List.replicate 31 0)) ++ (bs [c_]))) (results_tmp1 Tryz.results19 _ _ _ (by kernel_rfl)) (by kernel_rfl) ⟨by rw [bs_app]; rfl, below_grown M.old⟩
 have s7 : ∀ (a : Act) (l : Array Bool) (g2 : Nat) (x_3 : Value) (w0 : World), a = (fm ([.int .u8 c_, undef, .string ⟨#[]⟩, x_3, .string (bs (List.replicate 31 0)), .int .u8 c_, .slice (some ⟨g2, 0, none⟩) 1 1, undef, undef])) → l = #[true, true, true, true, false, false, false] → Mem ⟨w, []⟩ [⟨g2, .cells (av 1 (ls [.int .u8 c_])) 5⟩] w0 → H 3 l a w0 := by
  intro a l g2 x_3 u0 ha hl M
  subst ha hl
  refine hB _ _ _ _ ?_
  refine hl_one 4 (by decide) (by kernel_rfl) rfl ?_
  refine pl_back M (want_no rfl) (some 7) rfl _ rfl 0 g2 1 1 (by kernel_rfl) _ rfl [c_] 1 (sb_one _) (by simp) (ker c_ h0 h1) ?_
  refine nT ?_
  refine ⟨(M.drop (.cons _ (.slnil))), ?_⟩
  refine hl_val (M.drop (.cons _ (.slnil))) 5 rfl (by decide) (by kernel_rfl) (by kernel_rfl) (want_no rfl) (some 8) rfl (.string ((bs (List.replicate 31 0)) ++ (bs [c_]))) (fun w _ => (run_cat 9 9 _ _ rfl (bs (List.replicate 31 0)) (bs [c_]) (by kernel_rfl) (by kernel_rfl) (by rw [bs_size, bs_size, List.length_replicate]; exact (by decide : 31 + 1 ≤ 9223372036854775807))) w) ?_
  exact hA _ _ _ _ (s9 _ _ (x_3) (.slice (some ⟨g2, 0, none⟩) 1 1) _ (by kernel_rfl) (by kernel_rfl) (M.drop (.cons _ (.slnil))))
 have s8 : ∀ (a : Act) (l : Array Bool) (g1 : Nat) (x_6 : Value) (w0 : World), a = (fm ([.int .u8 c_, undef, .string ⟨#[]⟩, .slice (some ⟨g1, 0, none⟩) 31 31, undef, .int .u8 c_, x_6, .string (bs [c_]), undef])) → l = #[true, false, true, true, true, false, false] → Mem ⟨w, []⟩ [⟨g1, .cells (av 31 (w8 fun _ => 0)) 5⟩] w0 → H 3 l a w0 := by
  intro a l g1 x_6 u0 ha hl M
  subst ha hl
  refine hB _ _ _ _ ?_
  refine hl_one 1 (by decide) (by kernel_rfl) rfl ?_
  refine pl_back M (want_no rfl) (some 4) rfl _ rfl 0 g1 31 31 (by kernel_rfl) _ rfl (List.replicate 31 0) 31 sb_z (by simp) z31 ?_
  refine nT ?_
  refine ⟨(M.drop (.cons _ (.slnil))), ?_⟩
  refine hl_val (M.drop (.cons _ (.slnil))) 5 rfl (by decide) (by kernel_rfl) (by kernel_rfl) (want_no rfl) (some 8) rfl (.string ((bs (List.replicate 31 0)) ++ (bs [c_]))) (fun w _ => (run_cat 9 9 _ _ rfl (bs (List.replicate 31 0)) (bs [c_]) (by kernel_rfl) (by kernel_rfl) (by rw [bs_size, bs_size, List.length_replicate]; exact (by decide : 31 + 1 ≤ 9223372036854775807))) w) ?_
  exact hA _ _ _ _ (s9 _ _ (.slice (some ⟨g1, 0, none⟩) 31 31) (x_6) _ (by kernel_rfl) (by kernel_rfl) (M.drop (.cons _ (.slnil))))
 have s3 : ∀ (a : Act) (l : Array Bool) (x_3 : Value) (w0 : World), a = (fm ([.int .u8 c_, undef, .string ⟨#[]⟩, x_3, .string (bs (List.replicate 31 0)), .int .u8 c_] ++ und 3)) → l = #[true, true, true, false, false, false, false] → Mem ⟨w, []⟩ [] w0 → H 4 l a w0 := by
  intro a l  x_3 u0 ha hl M
  subst ha hl
  refine hB _ _ _ _ ?_
  refine hl_one 3 (by decide) (by kernel_rfl) rfl ?_
  refine ZM M 6 (fun g2 => .slice (some ⟨g2, 0, none⟩) 1 1) (.cells (av 1 (ls [.int .u8 c_])) 5) fun g2 u3 M => ?_
  refine nT ?_
  refine ⟨(M.drop (.cons _ (.slnil))), ?_⟩
  exact hA _ _ _ _ (s7 _ _ g2 (x_3) _ (by kernel_rfl) (by kernel_rfl) M)
 have s4 : ∀ (a : Act) (l : Array Bool) (g1 g2 : Nat) (w0 : World), a = (fm ([.int .u8 c_, undef, .string ⟨#[]⟩, .slice (some ⟨g1, 0, none⟩) 31 31, undef, .int .u8 c_, .slice (some ⟨g2, 0, none⟩) 1 1, undef, undef])) → l = #[true, false, true, true, false, false, false] → Mem ⟨w, []⟩ [⟨g1, .cells (av 31 (w8 fun _ => 0)) 5⟩, ⟨g2, .cells (av 1 (ls [.int .u8 c_])) 5⟩] w0 → H 4 l a w0 := by
  intro a l g1 g2  u0 ha hl M
  subst ha hl
  refine hB _ _ _ _ ?_
  refine hl_two 1 4 (by decide) (by decide) (by kernel_rfl) rfl rfl ?_ ?_
  ·refine pl_back M (want_no rfl) (some 4) rfl _ rfl 0 g1 31 31 (by kernel_rfl) _ rfl (List.replicate 31 0) 31 sb_z (by simp) z31 ?_
   refine nT ?_
   refine ⟨(M.drop (.cons _ (.cons _ (.slnil)))), ?_⟩
   exact hA _ _ _ _ (s7 _ _ g2 (.slice (some ⟨g1, 0, none⟩) 31 31) _ (by kernel_rfl) (by kernel_rfl) (M.drop (.cons _ (.cons_cons _ (.slnil)))))
  ·refine pl_back M (want_no rfl) (some 7) rfl _ rfl 1 g2 1 1 (by kernel_rfl) _ rfl [c_] 1 (sb_one _) (by simp) (ker c_ h0 h1) ?_
   refine nT ?_
   refine ⟨(M.drop (.cons _ (.cons _ (.slnil)))), ?_⟩
   exact hA _ _ _ _ (s8 _ _ g1 (.slice (some ⟨g2, 0, none⟩) 1 1) _ (by kernel_rfl) (by kernel_rfl) (M.drop (.cons_cons _ (.cons _ (.slnil)))))
 have s5 : ∀ (a : Act) (l : Array Bool) (g1 g2 : Nat) (w0 : World), a = (fm ([.int .u8 c_, undef, .string ⟨#[]⟩, .slice (some ⟨g2, 0, none⟩) 31 31, undef, .int .u8 c_, .slice (some ⟨g1, 0, none⟩) 1 1, undef, undef])) → l = #[true, false, true, true, false, false, false] → Mem ⟨w, []⟩ [⟨g1, .cells (av 1 (ls [.int .u8 c_])) 5⟩, ⟨g2, .cells (av 31 (w8 fun _ => 0)) 5⟩] w0 → H 4 l a w0 := by
  intro a l g1 g2  u0 ha hl M
  subst ha hl
  refine hB _ _ _ _ ?_
  refine hl_two 1 4 (by decide) (by decide) (by kernel_rfl) rfl rfl ?_ ?_
  ·refine pl_back M (want_no rfl) (some 4) rfl _ rfl 1 g2 31 31 (by kernel_rfl) _ rfl (List.replicate 31 0) 31 sb_z (by simp) z31 ?_
   refine nT ?_
   refine ⟨(M.drop (.cons _ (.cons _ (.slnil)))), ?_⟩
   exact hA _ _ _ _ (s7 _ _ g1 (.slice (some ⟨g2, 0, none⟩) 31 31) _ (by kernel_rfl) (by kernel_rfl) (M.drop (.cons_cons _ (.cons _ (.slnil)))))
  ·refine pl_back M (want_no rfl) (some 7) rfl _ rfl 0 g1 1 1 (by kernel_rfl) _ rfl [c_] 1 (sb_one _) (by simp) (ker c_ h0 h1) ?_
   refine nT ?_
   refine ⟨(M.drop (.cons _ (.cons _ (.slnil)))), ?_⟩
   exact hA _ _ _ _ (s8 _ _ g2 (.slice (some ⟨g1, 0, none⟩) 1 1) _ (by kernel_rfl) (by kernel_rfl) (M.drop (.cons _ (.cons_cons _ (.slnil)))))
 have s6 : ∀ (a : Act) (l : Array Bool) (x_6 : Value) (w0 : World), a = (fm ([.int .u8 c_, undef, .string ⟨#[]⟩, undef, undef, .int .u8 c_, x_6, .string (bs [c_]), undef])) → l = #[false, false, true, true, true, false, false] → Mem ⟨w, []⟩ [] w0 → H 4 l a w0 := by
  intro a l  x_6 u0 ha hl M
  subst ha hl
  refine hB _ _ _ _ ?_
  refine hl_one 0 (by decide) (by kernel_rfl) rfl ?_
  refine ZM M 3 (fun g2 => .slice (some ⟨g2, 0, none⟩) 31 31) (.cells (av 31 (w8 fun _ => 0)) 5) fun g2 u3 M => ?_
  refine nT ?_
  refine ⟨(M.drop (.cons _ (.slnil))), ?_⟩
  exact hA _ _ _ _ (s8 _ _ g2 (x_6) _ (by kernel_rfl) (by kernel_rfl) M)
 have s1 : ∀ (a : Act) (l : Array Bool) (g1 : Nat) (w0 : World), a = (fm ([.int .u8 c_, undef, .string ⟨#[]⟩, .slice (some ⟨g1, 0, none⟩) 31 31, undef, .int .u8 c_] ++ und 3)) → l = #[true, false, true, false, false, false, false] → Mem ⟨w, []⟩ [⟨g1, .cells (av 31 (w8 fun _ => 0)) 5⟩] w0 → H 5 l a w0 := by
  intro a l g1  u0 ha hl M
  subst ha hl
  refine hB _ _ _ _ ?_
  refine hl_two 1 3 (by decide) (by decide) (by kernel_rfl) rfl rfl ?_ ?_
  ·refine pl_back M (want_no rfl) (some 4) rfl _ rfl 0 g1 31 31 (by kernel_rfl) _ rfl (List.replicate 31 0) 31 sb_z (by simp) z31 ?_
   refine nT ?_
   refine ⟨(M.drop (.cons _ (.slnil))), ?_⟩
   exact hA _ _ _ _ (s3 _ _ (.slice (some ⟨g1, 0, none⟩) 31 31) _ (by kernel_rfl) (by kernel_rfl) (M.drop (.cons _ (.slnil))))
  ·refine ZM M 6 (fun g2 => .slice (some ⟨g2, 0, none⟩) 1 1) (.cells (av 1 (ls [.int .u8 c_])) 5) fun g2 u3 M => ?_
   refine nT ?_
   refine ⟨(M.drop (.cons _ (.cons _ (.slnil)))), ?_⟩
   exact hA _ _ _ _ (s4 _ _ g1 g2 _ (by kernel_rfl) (by kernel_rfl) M)
 have s2 : ∀ (a : Act) (l : Array Bool) (g1 : Nat) (w0 : World), a = (fm ([.int .u8 c_, undef, .string ⟨#[]⟩, undef, undef, .int .u8 c_, .slice (some ⟨g1, 0, none⟩) 1 1, undef, undef])) → l = #[false, false, true, true, false, false, false] → Mem ⟨w, []⟩ [⟨g1, .cells (av 1 (ls [.int .u8 c_])) 5⟩] w0 → H 5 l a w0 := by
  intro a l g1  u0 ha hl M
  subst ha hl
  refine hB _ _ _ _ ?_
  refine hl_two 0 4 (by decide) (by decide) (by kernel_rfl) rfl rfl ?_ ?_
  ·refine ZM M 3 (fun g2 => .slice (some ⟨g2, 0, none⟩) 31 31) (.cells (av 31 (w8 fun _ => 0)) 5) fun g2 u3 M => ?_
   refine nT ?_
   refine ⟨(M.drop (.cons _ (.cons _ (.slnil)))), ?_⟩
   exact hA _ _ _ _ (s5 _ _ g1 g2 _ (by kernel_rfl) (by kernel_rfl) M)
  ·refine pl_back M (want_no rfl) (some 7) rfl _ rfl 0 g1 1 1 (by kernel_rfl) _ rfl [c_] 1 (sb_one _) (by simp) (ker c_ h0 h1) ?_
   refine nT ?_
   refine ⟨(M.drop (.cons _ (.slnil))), ?_⟩
   exact hA _ _ _ _ (s6 _ _ (.slice (some ⟨g1, 0, none⟩) 1 1) _ (by kernel_rfl) (by kernel_rfl) (M.drop (.cons _ (.slnil))))
 have s0 : ∀ (a : Act) (l : Array Bool) (w0 : World), a = (fm ([.int .u8 c_, undef, .string ⟨#[]⟩, undef, undef, .int .u8 c_] ++ und 3)) → l = #[false, false, true, false, false, false, false] → Mem ⟨w, []⟩ [] w0 → H 6 l a w0 := by
  intro a l   u0 ha hl M
  subst ha hl
  refine hB _ _ _ _ ?_
  refine hl_two 0 3 (by decide) (by decide) (by kernel_rfl) rfl rfl ?_ ?_
  ·refine ZM M 3 (fun g1 => .slice (some ⟨g1, 0, none⟩) 31 31) (.cells (av 31 (w8 fun _ => 0)) 5) fun g1 u2 M => ?_
   refine nT ?_
   refine ⟨(M.drop (.cons _ (.slnil))), ?_⟩
   exact hA _ _ _ _ (s1 _ _ g1 _ (by kernel_rfl) (by kernel_rfl) M)
  ·refine ZM M 6 (fun g1 => .slice (some ⟨g1, 0, none⟩) 1 1) (.cells (av 1 (ls [.int .u8 c_])) 5) fun g1 u2 M => ?_
   refine nT ?_
   refine ⟨(M.drop (.cons _ (.slnil))), ?_⟩
   exact hA _ _ _ _ (s2 _ _ g1 _ (by kernel_rfl) (by kernel_rfl) M)
 exact s0 _ _  _ (by kernel_rfl) (by kernel_rfl) M
theorem c_ReadQ (w : World) (hL : Laid w) : Cs 13 #[.string Mon.bbS, .string qS, .string mK] w (.tuple #[.pointer none, .agg (av 5 (ls [.string ⟨#[]⟩, .string ⟨#[]⟩, .string ⟨#[]⟩, .string ⟨#[]⟩, .string ⟨#[]⟩])), .int .i64 100]) := by
 have h := c_ReadE Mon.bbS qS mK (by rw [read_q]; decide) w hL
 rwa [read_q] at h
theorem c_alive  (w : World) (hL : Laid w)  : Cs 8 #[] w (.bool true) := by
 go_enter Tryz.func8, Tryz.ntmps8
 have M := Mem.start hL
 refine sq <| sR ?_
 refine ZC M 20 (fun w M => c_key 98 (by decide) (by decide) w M.laid) fun u1 M => ?_
 refine pC M 21 9 #[.string Mon.bbS] (.tuple #[.string (puV Mon.bbS), .int .i64 0]) (fun w M => Mon.rpubL Mon.bbS w M.laid Mon.bbS_size) fun u2 M => ?_
 refine rV 5 <| nT <| sR ?_
 refine ZC M 25 (fun w M => c_key 97 (by decide) (by decide) w M.laid) fun u3 M => ?_
 refine pC M 26 9 #[.string Mon.aS] (.tuple #[.string (puV Mon.aS), .int .i64 0]) (fun w M => Mon.rpubL Mon.aS w M.laid Mon.aS_size) fun u4 M => ?_
 refine rV 5 <| nT <| sR ?_
 refine ZC M 30 (fun w M => c_key 97 (by decide) (by decide) w M.laid) fun u5 M => ?_
 refine rV 1 ?_
 refine ZC M 32 (fun w M => c_key 101 (by decide) (by decide) w M.laid) fun u6 M => ?_
 refine pl_calln M (want_no rfl) (some 33) rfl 10 #[.string Mon.aS, .string (puV Mon.bbS), .string keE, .string ⟨#[112]⟩, .string ⟨#[97, 98, 99]⟩] (fun g1 => .tuple #[.pointer (some ⟨g1, 0, none⟩), .string mK, .int .i64 0]) (.cells (av 7 (stL sK [.string Mon.aS, .string keE, .string (puV Mon.bbS)])) 66) (fun _ => by kernel_rfl) (fun w M => c_BeginG Mon.aS Mon.bbS keE pS abcS Mon.aS_size keE_size (by decide) (by decide) w M.laid) fun g1 u7 M => ?_
 refine rV 7 <| nT <| sR ?_
 refine ZC M 38 (fun w M => c_key 98 (by decide) (by decide) w M.laid) fun u8 M => ?_
 refine rV 1 ?_
 refine pl_calln M (want_no rfl) (some 40) rfl 13 #[.string Mon.bbS, .string ⟨#[112]⟩, .string mK] (fun g2 => .tuple #[.pointer (some ⟨g2, 0, none⟩), .agg (av 5 (ls [.string (puV Mon.aS), .string ⟨#[97, 98, 99]⟩, .string ⟨#[]⟩, .string ⟨#[]⟩, .string ⟨#[]⟩])), .int .i64 0]) (.cells (av 6 (stL sK [.string (puV Mon.aS), .string (puV keE)])) 77) (fun _ => by kernel_rfl) (fun w M => c_ReadG Mon.aS Mon.bbS keE pS abcS Mon.bbS_size (by decide) (by decide) w M.laid) fun g2 u9 M => ?_
 refine rV 4 ?_
 refine pN M 9 (.cells (av 5 (ls [.string ⟨#[]⟩, .string ⟨#[]⟩, .string ⟨#[]⟩, .string ⟨#[]⟩, .string ⟨#[]⟩])) 41) fun g3 u10 M => ?_
 refine rV 1 ?_
 refine pl_put M (want_no rfl) rfl 41 _ _ rfl 2 g3 0 (by kernel_rfl) 5 41 (ls [.string ⟨#[]⟩, .string ⟨#[]⟩, .string ⟨#[]⟩, .string ⟨#[]⟩, .string ⟨#[]⟩]) rfl 5 (ls [.string (puV Mon.aS), .string ⟨#[97, 98, 99]⟩, .string ⟨#[]⟩, .string ⟨#[]⟩, .string ⟨#[]⟩]) (ls [.string (puV Mon.aS), .string ⟨#[97, 98, 99]⟩, .string ⟨#[]⟩, .string ⟨#[]⟩, .string ⟨#[]⟩]) (by kernel_rfl) inz41 (by decide) (one_ls _ rfl) (fun j hj => by rw [if_pos (by omega), Nat.sub_zero]) fun u11 M => ?_
 refine rV 1 <| nT <| sR ?_
 refine ZC M 45 (fun w M => c_key 98 (by decide) (by decide) w M.laid) fun u12 M => ?_
 refine rV 1 ?_
 refine ZC M 47 (fun w M => c_ReadQ w M.laid) fun u13 M => ?_
 refine rV 4 ?_
 refine pN M 12 (.cells (av 5 (ls [.string ⟨#[]⟩, .string ⟨#[]⟩, .string ⟨#[]⟩, .string ⟨#[]⟩, .string ⟨#[]⟩])) 41) fun g4 u14 M => ?_
 refine rV 1 ?_
 refine pl_put M (want_no rfl) rfl 41 _ _ rfl 3 g4 0 (by kernel_rfl) 5 41 (ls [.string ⟨#[]⟩, .string ⟨#[]⟩, .string ⟨#[]⟩, .string ⟨#[]⟩, .string ⟨#[]⟩]) rfl 5 (ls [.string ⟨#[]⟩, .string ⟨#[]⟩, .string ⟨#[]⟩, .string ⟨#[]⟩, .string ⟨#[]⟩]) (ls [.string ⟨#[]⟩, .string ⟨#[]⟩, .string ⟨#[]⟩, .string ⟨#[]⟩, .string ⟨#[]⟩]) (by kernel_rfl) inz41 (by decide) (one_ls _ rfl) (fun j hj => by rw [if_pos (by omega), Nat.sub_zero]) fun u15 M => ?_
 refine rV 1 <| nT <| wp_seq <| sR <| rV 17 ?_
 by_cases c0 : (mK.size : Int) = 99
 ·refine pl_val (want_on 14 false rfl 65 rfl (by kernel_rfl)) (some 68) rfl (.bool false) (fun w => Eq.trans (b := .ok (.value (.bool (!(decide ((mK.size : Int) = 99))))) w) (by kernel_rfl) (by rw [decide_eq_true (c0)]; rfl)) ?_
  refine rV 3 ?_
  refine pl_cell M (want_on 19 false rfl 70 rfl (by kernel_rfl)) (some 72) rfl 9 _ rfl g3 0 (by kernel_rfl) (.string (puV Mon.aS)) (fun _ => by kernel_rfl) (fun w M => M.cell 2 rfl (by decide) rfl) ?_
  refine rV 1 ?_
  refine pl_val (want_on 19 false rfl 70 rfl (by kernel_rfl)) (some 74) rfl (.bool false) (fun w => Eq.trans (b := .ok (.value (.bool (!((puV Mon.aS).toList == (puV Mon.aS).toList)))) w) (by kernel_rfl) (by rw [beq_self_eq_true]; rfl)) ?_
  refine rV 3 ?_
  refine pl_cell M (want_on 25 false rfl 76 rfl (by kernel_rfl)) (some 78) rfl 9 _ rfl g3 1 (by kernel_rfl) (.string ⟨#[97, 98, 99]⟩) (fun _ => by kernel_rfl) (fun w M => M.cell 2 rfl (by decide) rfl) ?_
  refine rV 6 <| nT <| cF <| wp_skip <| au_then ?_
  refine sR <| rV 1 ?_
  refine ZC M 87 (fun w M => c_key 102 (by decide) (by decide) w M.laid) fun u16 M => ?_
  refine pC M 88 15 #[.pointer (some ⟨g2, 0, none⟩), .string keF, .string ⟨#[120, 121]⟩] (.tuple #[.string rK, .agg (av 5 (ls [.string (puV Mon.aS), .string ⟨#[]⟩, .string gB, .string gA, .string gH])), .int .i64 0]) (fun w M => c_AnswerG g2 sK Mon.aS keE keF xyS (tS5_h _ _ _ _ _) rfl keF_size (by decide) w M.laid (M.get 1 rfl) (M.ne0 1 rfl)) fun u17 M => ?_
  refine rV 4 ?_
  refine pN M 15 (.cells (av 5 (ls [.string ⟨#[]⟩, .string ⟨#[]⟩, .string ⟨#[]⟩, .string ⟨#[]⟩, .string ⟨#[]⟩])) 41) fun g5 u18 M => ?_
  refine rV 1 ?_
  refine pl_put M (want_no rfl) rfl 41 _ _ rfl 4 g5 0 (by kernel_rfl) 5 41 (ls [.string ⟨#[]⟩, .string ⟨#[]⟩, .string ⟨#[]⟩, .string ⟨#[]⟩, .string ⟨#[]⟩]) rfl 5 (ls [.string (puV Mon.aS), .string ⟨#[]⟩, .string gB, .string gA, .string gH]) (ls [.string (puV Mon.aS), .string ⟨#[]⟩, .string gB, .string gA, .string gH]) (by kernel_rfl) inz41 (by decide) (one_ls _ rfl) (fun j hj => by rw [if_pos (by omega), Nat.sub_zero]) fun u19 M => ?_
  refine rV 1 <| nT <| sR <| rV 2 ?_
  refine pC M 95 17 #[.pointer (some ⟨g1, 0, none⟩), .string rK] (.tuple #[.agg (av 5 (ls [.string (puV Mon.bbS), .string ⟨#[120, 121]⟩, .string gA, .string gB, .string gH])), .int .i64 0]) (fun w M => c_FinishG g1 sK Mon.aS keE (puV Mon.bbS) keF xyS (tS5_h _ _ _ _ _) rfl Mon.aS_size keE_size (by decide) w M.laid (M.get 0 rfl) (M.ne0 0 rfl)) fun u20 M => ?_
  refine rV 3 ?_
  refine pN M 17 (.cells (av 5 (ls [.string ⟨#[]⟩, .string ⟨#[]⟩, .string ⟨#[]⟩, .string ⟨#[]⟩, .string ⟨#[]⟩])) 41) fun g6 u21 M => ?_
  refine pl_put M (want_no rfl) rfl 41 _ _ rfl 5 g6 0 (by kernel_rfl) 5 41 (ls [.string ⟨#[]⟩, .string ⟨#[]⟩, .string ⟨#[]⟩, .string ⟨#[]⟩, .string ⟨#[]⟩]) rfl 5 (ls [.string (puV Mon.bbS), .string ⟨#[120, 121]⟩, .string gA, .string gB, .string gH]) (ls [.string (puV Mon.bbS), .string ⟨#[120, 121]⟩, .string gA, .string gB, .string gH]) (by kernel_rfl) inz41 (by decide) (one_ls _ rfl) (fun j hj => by rw [if_pos (by omega), Nat.sub_zero]) fun u22 M => ?_
  refine rV 1 <| nT <| sR <| rV 9 ?_
  by_cases c1 : (rK.size : Int) = 50
  ·refine pl_val (want_on 6 true rfl 104 rfl (by kernel_rfl)) (some 107) rfl (.bool true) (fun w => Eq.trans (b := .ok (.value (.bool (decide ((rK.size : Int) = 50)))) w) (by kernel_rfl) (by rw [decide_eq_true (c1)])) ?_
   refine rV 3 ?_
   refine pl_cell M (want_on 11 true rfl 109 rfl (by kernel_rfl)) (some 111) rfl 9 _ rfl g6 1 (by kernel_rfl) (.string ⟨#[120, 121]⟩) (fun _ => by kernel_rfl) (fun w M => M.cell 5 rfl (by decide) rfl) ?_
   refine rV 4 ?_
   refine pl_cell M (want_on 16 true rfl 114 rfl (by kernel_rfl)) (some 116) rfl 9 _ rfl g5 2 (by kernel_rfl) (.string gB) (fun _ => by kernel_rfl) (fun w M => M.cell 4 rfl (by decide) rfl) ?_
   refine rV 1 ?_
   by_cases c2 : (gB.size : Int) = 32
   ·refine pl_val (want_on 16 true rfl 114 rfl (by kernel_rfl)) (some 118) rfl (.bool true) (fun w => Eq.trans (b := .ok (.value (.bool (decide ((gB.size : Int) = 32)))) w) (by kernel_rfl) (by rw [decide_eq_true (c2)])) ?_
    refine rV 3 ?_
    refine pl_cell M (want_on 22 true rfl 120 rfl (by kernel_rfl)) (some 122) rfl 9 _ rfl g5 2 (by kernel_rfl) (.string gB) (fun _ => by kernel_rfl) (fun w M => M.cell 4 rfl (by decide) rfl) ?_
    refine rV 1 ?_
    refine pl_cell M (want_on 22 true rfl 120 rfl (by kernel_rfl)) (some 124) rfl 9 _ rfl g6 3 (by kernel_rfl) (.string gB) (fun _ => by kernel_rfl) (fun w M => M.cell 5 rfl (by decide) rfl) ?_
    refine pl_val (want_on 22 true rfl 120 rfl (by kernel_rfl)) (some 125) rfl (.bool true) (fun w => Eq.trans (b := .ok (.value (.bool (gB.toList == gB.toList))) w) (by kernel_rfl) (by rw [beq_self_eq_true])) ?_
    refine rV 3 ?_
    refine pl_cell M (want_on 29 true rfl 127 rfl (by kernel_rfl)) (some 129) rfl 9 _ rfl g5 3 (by kernel_rfl) (.string gA) (fun _ => by kernel_rfl) (fun w M => M.cell 4 rfl (by decide) rfl) ?_
    refine rV 1 ?_
    refine pl_cell M (want_on 29 true rfl 127 rfl (by kernel_rfl)) (some 131) rfl 9 _ rfl g6 2 (by kernel_rfl) (.string gA) (fun _ => by kernel_rfl) (fun w M => M.cell 5 rfl (by decide) rfl) ?_
    refine pl_val (want_on 29 true rfl 127 rfl (by kernel_rfl)) (some 132) rfl (.bool true) (fun w => Eq.trans (b := .ok (.value (.bool (gA.toList == gA.toList))) w) (by kernel_rfl) (by rw [beq_self_eq_true])) ?_
    refine rV 3 ?_
    refine pl_cell M (want_on 36 true rfl 134 rfl (by kernel_rfl)) (some 136) rfl 9 _ rfl g5 4 (by kernel_rfl) (.string gH) (fun _ => by kernel_rfl) (fun w M => M.cell 4 rfl (by decide) rfl) ?_
    refine rV 1 ?_
    refine pl_cell M (want_on 36 true rfl 134 rfl (by kernel_rfl)) (some 138) rfl 9 _ rfl g6 4 (by kernel_rfl) (.string gH) (fun _ => by kernel_rfl) (fun w M => M.cell 5 rfl (by decide) rfl) ?_
    refine pl_val (want_on 36 true rfl 134 rfl (by kernel_rfl)) (some 139) rfl (.bool true) (fun w => Eq.trans (b := .ok (.value (.bool (gH.toList == gH.toList))) w) (by kernel_rfl) (by rw [beq_self_eq_true])) ?_
    refine rV 3 ?_
    refine pl_cell M (want_on 43 true rfl 141 rfl (by kernel_rfl)) (some 143) rfl 9 _ rfl g5 2 (by kernel_rfl) (.string gB) (fun _ => by kernel_rfl) (fun w M => M.cell 4 rfl (by decide) rfl) ?_
    refine rV 1 ?_
    refine pl_cell M (want_on 43 true rfl 141 rfl (by kernel_rfl)) (some 145) rfl 9 _ rfl g5 3 (by kernel_rfl) (.string gA) (fun _ => by kernel_rfl) (fun w M => M.cell 4 rfl (by decide) rfl) ?_
    by_cases c3 : gB = gA
    ·exact absurd c3 gAB
    ·refine pl_val (want_on 43 true rfl 141 rfl (by kernel_rfl)) (some 146) rfl (.bool true) (fun w => Eq.trans (b := .ok (.value (.bool (!(gB.toList == gA.toList)))) w) (by kernel_rfl) (by rw [seq_neg c3]; rfl)) ?_
     refine rV 2 <| nT <| wp_ret ?_
     exact b1 M
   ·exact absurd (by rw [gB_size]; rfl) c2
  ·exact absurd (by rw [rK_size]; rfl) c1
 ·exact absurd (by rw [mK_size]; rfl) c0
open Go.RowKit
section
variable {P : Program}
theorem eqF_all (d : Nat) (xs ys : Array Value) (w : World) : ∀ (fs : List Field) (es : List (TypeId × Nat × Value × Value × Bool)), fs.map (fun f => (f.name == "_", f.type, f.offset)) = es.map (fun e => (false, e.1, e.2.1)) →
  (∀ e ∈ es, (part e.1 xs e.2.1).run P w = .ok e.2.2.1 w ∧ (part e.1 ys e.2.1).run P w = .ok e.2.2.2.1 w ∧ (Op.equalIn d e.1 e.2.2.1 e.2.2.2.1).run P w = .ok e.2.2.2.2 w) →
  (Op.eqFields d xs ys fs).run P w = .ok (es.all (·.2.2.2.2)) w
 | [], es, h, _ => by
  cases es with
  | nil => rfl
  | cons e es => simp at h
 | f :: fs, es, h, hp => by
  cases es with
  | nil => simp at h
  | cons e es =>
   simp only [List.map_cons, List.cons.injEq, Prod.mk.injEq] at h
   obtain ⟨⟨h1, h2, h3⟩, h4⟩ := h
   obtain ⟨p1, p2, p3⟩ := hp e (List.mem_cons_self ..)
   have hn : f.name ≠ "_" := by simpa using h1
   unfold Op.eqFields
   rw [if_pos hn]
   simp only [Sem.run_bind, h2, h3, p1, p2, p3, Result.andThen_ok, List.all_cons]
   cases hb : e.2.2.2.2
   ·simp
   ·simp only [Bool.not_true, Bool.false_eq_true, if_false, Bool.true_and]
    exact eqF_all d xs ys w fs es h4 fun e he => hp e (List.mem_cons_of_mem _ he)
theorem dec_str (a b : ByteArray) : (a.toList == b.toList) = decide (a = b) := by
 by_cases h : a = b
 ·rw [seq_pos h, decide_eq_true h]
 ·rw [seq_neg h, decide_eq_false h]
end
theorem run_bin {P : Program} {a : Act} {o : Oper} (op : BinOp) (t : TypeId) (x y : Operand) {rt : TypeId} (ho : o.op = .binOp op t x y rt) {xs ys : Array Value} {v : Value} (hx : a.eval x = .agg xs) (hy : a.eval y = .agg ys) (hm : P.eqGuardType P.depth t = false) (hb : ∀ w, (binOp op t (.agg xs) (.agg ys)).run P w = .ok v w) (w : World) :
  (execOp a.eval o).run P w = .ok (.value v) w := by
 unfold execOp
 simp only [ho, hx, hy, Sem.run_bind, Result.andThen_ok, run_eqGuard_agg (hm := hm), hb, Sem.run_pure]
theorem eqI41 (d : Nat) (x0 x0' : ByteArray) (x1 x1' : ByteArray) (x2 x2' : ByteArray) (x3 x3' : ByteArray) (x4 x4' : ByteArray) (w : World) : (Op.equalIn (d + 2) 41 (.agg (av 5 (ls [.string x0, .string x1, .string x2, .string x3, .string x4]))) (.agg (av 5 (ls [.string x0', .string x1', .string x2', .string x3', .string x4'])))).run Tryz.prog w = .ok (decide (x0 = x0' ∧ x1 = x1' ∧ x2 = x2' ∧ x3 = x3' ∧ x4 = x4')) w := by
 rw [run_equalIn_struct w (d + 1) 41 _ _ (by kernel_rfl) (by kernel_rfl)]
 rw [eqF_all (d + 1) _ _ w _ [(9, 0, .string x0, .string x0', x0.toList == x0'.toList), (9, 1, .string x1, .string x1', x1.toList == x1'.toList), (9, 2, .string x2, .string x2', x2.toList == x2'.toList), (9, 3, .string x3, .string x3', x3.toList == x3'.toList), (9, 4, .string x4, .string x4', x4.toList == x4'.toList)] (by kernel_rfl) (by
  intro e he
  simp only [List.mem_cons, List.mem_nil_iff, or_false] at he
  rcases he with rfl | rfl | rfl | rfl | rfl
  ·exact ⟨by kernel_rfl, by kernel_rfl, run_equalIn_string w d 9 x0 x0' Tryz.underlying9⟩
  ·exact ⟨by kernel_rfl, by kernel_rfl, run_equalIn_string w d 9 x1 x1' Tryz.underlying9⟩
  ·exact ⟨by kernel_rfl, by kernel_rfl, run_equalIn_string w d 9 x2 x2' Tryz.underlying9⟩
  ·exact ⟨by kernel_rfl, by kernel_rfl, run_equalIn_string w d 9 x3 x3' Tryz.underlying9⟩
  ·exact ⟨by kernel_rfl, by kernel_rfl, run_equalIn_string w d 9 x4 x4' Tryz.underlying9⟩)]
 simp [Bool.decide_and, Bool.and_assoc, dec_str]
theorem eql41w (x0 x0' : ByteArray) (x1 x1' : ByteArray) (x2 x2' : ByteArray) (x3 x3' : ByteArray) (x4 x4' : ByteArray) (w : World) : (binOp .eql 41 (.agg (av 5 (ls [.string x0, .string x1, .string x2, .string x3, .string x4]))) (.agg (av 5 (ls [.string x0', .string x1', .string x2', .string x3', .string x4'])))).run Tryz.prog w = .ok (.bool (decide (x0 = x0' ∧ x1 = x1' ∧ x2 = x2' ∧ x3 = x3' ∧ x4 = x4'))) w := by
 rw [run_eql_struct]
 have := eqI41 9998 x0 x0' x1 x1' x2 x2' x3 x3' x4 x4' w
 rw [show (10000 : Nat) = 9998 + 2 from rfl, this]
 rfl
theorem eql41 {a : Act} {o : Oper} (x0 x0' : ByteArray) (x1 x1' : ByteArray) (x2 x2' : ByteArray) (x3 x3' : ByteArray) (x4 x4' : ByteArray) (x y : Operand) {rt : TypeId} (ho : o.op = .binOp .eql 41 x y rt) (hx : a.eval x = (.agg (av 5 (ls [.string x0, .string x1, .string x2, .string x3, .string x4])))) (hy : a.eval y = (.agg (av 5 (ls [.string x0', .string x1', .string x2', .string x3', .string x4'])))) (w : World) :
  (execOp a.eval o).run Tryz.prog w = .ok (.value (.bool (decide (x0 = x0' ∧ x1 = x1' ∧ x2 = x2' ∧ x3 = x3' ∧ x4 = x4')))) w := run_bin .eql 41 x y ho hx hy (by kernel_rfl) (eql41w x0 x0' x1 x1' x2 x2' x3 x3' x4 x4') w
theorem c_AnswerN (x y : ByteArray) (w : World) (hL : Laid w)  : Cs 15 #[.pointer none, .string x, .string y] w (.tuple #[.string ⟨#[]⟩, .agg (av 5 (ls [.string ⟨#[]⟩, .string ⟨#[]⟩, .string ⟨#[]⟩, .string ⟨#[]⟩, .string ⟨#[]⟩])), .int .i64 1]) := by
 go_enter Tryz.func15, Tryz.ntmps15
 have M := Mem.start hL
 refine sR <| rV 1 ?_
 refine pN M 7 (.cells (av 5 (ls [.string ⟨#[]⟩, .string ⟨#[]⟩, .string ⟨#[]⟩, .string ⟨#[]⟩, .string ⟨#[]⟩])) 41) fun g1 u1 M => ?_
 refine rV 1 <| nT <| wp_seq ?_
 refine wp_block ?_
 refine sq <| cT <| sR <| rV 2 ?_
 refine pl_put M (want_no rfl) rfl 41 _ _ rfl 0 g1 0 (by kernel_rfl) 5 41 (ls [.string ⟨#[]⟩, .string ⟨#[]⟩, .string ⟨#[]⟩, .string ⟨#[]⟩, .string ⟨#[]⟩]) rfl 5 (ls [.string ⟨#[]⟩, .string ⟨#[]⟩, .string ⟨#[]⟩, .string ⟨#[]⟩, .string ⟨#[]⟩]) (ls [.string ⟨#[]⟩, .string ⟨#[]⟩, .string ⟨#[]⟩, .string ⟨#[]⟩, .string ⟨#[]⟩]) (by kernel_rfl) inz41 (by decide) (one_ls _ rfl) (fun j hj => by rw [if_pos (by omega), Nat.sub_zero]) fun u2 M => ?_
 refine rV 1 <| nT <| wp_ret ?_
 refine au_block_ret ?_
 refine au_then_ret ?_
 exact bodyPost_ret (v := .tuple #[.string ⟨#[]⟩, .agg (av 5 (ls [.string ⟨#[]⟩, .string ⟨#[]⟩, .string ⟨#[]⟩, .string ⟨#[]⟩, .string ⟨#[]⟩])), .int .i64 1]) (results_tct Tryz.results15 _ _ g1 41 (av 5 (ls [.string ⟨#[]⟩, .string ⟨#[]⟩, .string ⟨#[]⟩, .string ⟨#[]⟩, .string ⟨#[]⟩])) (0, 0) _ _ _ (by kernel_rfl) (by kernel_rfl) (by kernel_rfl) (M.get 0 rfl) Tryz.underlying41 rfl (by rw [av_size]; kernel_rfl)) (by kernel_rfl) ⟨rfl, below_grown M.old⟩
theorem c_FinishN (x : ByteArray) (w : World) (hL : Laid w)  : Cs 17 #[.pointer none, .string x] w (.tuple #[.agg (av 5 (ls [.string ⟨#[]⟩, .string ⟨#[]⟩, .string ⟨#[]⟩, .string ⟨#[]⟩, .string ⟨#[]⟩])), .int .i64 1]) := by
 go_enter Tryz.func17, Tryz.ntmps17
 have M := Mem.start hL
 refine sR ?_
 refine pN M 4 (.cells (av 5 (ls [.string ⟨#[]⟩, .string ⟨#[]⟩, .string ⟨#[]⟩, .string ⟨#[]⟩, .string ⟨#[]⟩])) 41) fun g1 u1 M => ?_
 refine rV 1 <| nT <| wp_seq ?_
 refine wp_block ?_
 refine sq <| cT <| sR <| rV 1 ?_
 refine pl_put M (want_no rfl) rfl 41 _ _ rfl 0 g1 0 (by kernel_rfl) 5 41 (ls [.string ⟨#[]⟩, .string ⟨#[]⟩, .string ⟨#[]⟩, .string ⟨#[]⟩, .string ⟨#[]⟩]) rfl 5 (ls [.string ⟨#[]⟩, .string ⟨#[]⟩, .string ⟨#[]⟩, .string ⟨#[]⟩, .string ⟨#[]⟩]) (ls [.string ⟨#[]⟩, .string ⟨#[]⟩, .string ⟨#[]⟩, .string ⟨#[]⟩, .string ⟨#[]⟩]) (by kernel_rfl) inz41 (by decide) (one_ls _ rfl) (fun j hj => by rw [if_pos (by omega), Nat.sub_zero]) fun u2 M => ?_
 refine rV 1 <| nT <| wp_ret ?_
 refine au_block_ret ?_
 refine au_then_ret ?_
 exact bodyPost_ret (v := .tuple #[.agg (av 5 (ls [.string ⟨#[]⟩, .string ⟨#[]⟩, .string ⟨#[]⟩, .string ⟨#[]⟩, .string ⟨#[]⟩])), .int .i64 1]) (results_cell_tmp Tryz.results17 _ _ g1 41 (av 5 (ls [.string ⟨#[]⟩, .string ⟨#[]⟩, .string ⟨#[]⟩, .string ⟨#[]⟩, .string ⟨#[]⟩])) (0, 0) _ _ (by kernel_rfl) (by kernel_rfl) (M.get 0 rfl) Tryz.underlying41 rfl (by rw [av_size]; exact inz41)) (by kernel_rfl) ⟨rfl, below_grown M.old⟩
theorem c_nil (s : ByteArray) (w : World) (hL : Laid w)  : Cs 6 #[.string s] w (.bool true) := by
 go_enter Tryz.func6, Tryz.ntmps6
 have M := Mem.start hL
 refine sq <| wp_seq <| sR <| rV 2 ?_
 by_cases c0 : 4096 < (s.size : Int)
 ·refine pH 12 (.bool true) (jT (4096 < (s.size : Int)) (c0)) ?_
  refine nT <| cT <| sR ?_
  refine ZC M 13 (fun w M => c_alive w M.laid) fun u1 M => ?_
  refine rV 1 <| nT <| wp_ret <| au_then_ret ?_
  exact b1 M
 ·refine pH 12 (.bool false) (jF (4096 < (s.size : Int)) (c0)) ?_
  refine nT <| cF <| wp_skip <| au_then <| sq ?_
  refine sq <| sR <| rV 3 ?_
  refine ZC M 18 (fun w M => c_AnswerN s s w M.laid) fun u1 M => ?_
  refine rV 4 ?_
  refine pN M 6 (.cells (av 5 (ls [.string ⟨#[]⟩, .string ⟨#[]⟩, .string ⟨#[]⟩, .string ⟨#[]⟩, .string ⟨#[]⟩])) 41) fun g1 u2 M => ?_
  refine rV 1 ?_
  refine pl_put M (want_no rfl) rfl 41 _ _ rfl 0 g1 0 (by kernel_rfl) 5 41 (ls [.string ⟨#[]⟩, .string ⟨#[]⟩, .string ⟨#[]⟩, .string ⟨#[]⟩, .string ⟨#[]⟩]) rfl 5 (ls [.string ⟨#[]⟩, .string ⟨#[]⟩, .string ⟨#[]⟩, .string ⟨#[]⟩, .string ⟨#[]⟩]) (ls [.string ⟨#[]⟩, .string ⟨#[]⟩, .string ⟨#[]⟩, .string ⟨#[]⟩, .string ⟨#[]⟩]) (by kernel_rfl) inz41 (by decide) (one_ls _ rfl) (fun j hj => by rw [if_pos (by omega), Nat.sub_zero]) fun u3 M => ?_
  refine rV 1 <| nT <| sR <| rV 2 ?_
  refine ZC M 25 (fun w M => c_FinishN s w M.laid) fun u4 M => ?_
  refine rV 3 ?_
  refine pN M 8 (.cells (av 5 (ls [.string ⟨#[]⟩, .string ⟨#[]⟩, .string ⟨#[]⟩, .string ⟨#[]⟩, .string ⟨#[]⟩])) 41) fun g2 u5 M => ?_
  refine pl_put M (want_no rfl) rfl 41 _ _ rfl 1 g2 0 (by kernel_rfl) 5 41 (ls [.string ⟨#[]⟩, .string ⟨#[]⟩, .string ⟨#[]⟩, .string ⟨#[]⟩, .string ⟨#[]⟩]) rfl 5 (ls [.string ⟨#[]⟩, .string ⟨#[]⟩, .string ⟨#[]⟩, .string ⟨#[]⟩, .string ⟨#[]⟩]) (ls [.string ⟨#[]⟩, .string ⟨#[]⟩, .string ⟨#[]⟩, .string ⟨#[]⟩, .string ⟨#[]⟩]) (by kernel_rfl) inz41 (by decide) (one_ls _ rfl) (fun j hj => by rw [if_pos (by omega), Nat.sub_zero]) fun u6 M => ?_
  refine rV 1 <| nT <| sR <| rV 3 ?_
  refine pl_load M (want_on 2 true rfl 30 rfl (by kernel_rfl)) (some 31) rfl 41 _ rfl 0 g1 0 (by kernel_rfl) 5 41 (ls [.string ⟨#[]⟩, .string ⟨#[]⟩, .string ⟨#[]⟩, .string ⟨#[]⟩, .string ⟨#[]⟩]) rfl 5 (ls [.string ⟨#[]⟩, .string ⟨#[]⟩, .string ⟨#[]⟩, .string ⟨#[]⟩, .string ⟨#[]⟩]) (fun j _ => by rw [Nat.zero_add]) (by decide) _ Tryz.underlying41 rfl inz41 ?_
  refine rV 1 ?_
  refine pl_val (want_on 2 true rfl 30 rfl (by kernel_rfl)) (some 33) rfl (.bool true) (fun w => (eql41 (⟨#[]⟩ : ByteArray) (⟨#[]⟩ : ByteArray) (⟨#[]⟩ : ByteArray) (⟨#[]⟩ : ByteArray) (⟨#[]⟩ : ByteArray) (⟨#[]⟩ : ByteArray) (⟨#[]⟩ : ByteArray) (⟨#[]⟩ : ByteArray) (⟨#[]⟩ : ByteArray) (⟨#[]⟩ : ByteArray) _ _ rfl (by kernel_rfl) (by kernel_rfl) w).trans (by rw [decide_eq_true (⟨rfl, rfl, rfl, rfl, rfl⟩ : (⟨#[]⟩ : ByteArray) = (⟨#[]⟩ : ByteArray) ∧ (⟨#[]⟩ : ByteArray) = (⟨#[]⟩ : ByteArray) ∧ (⟨#[]⟩ : ByteArray) = (⟨#[]⟩ : ByteArray) ∧ (⟨#[]⟩ : ByteArray) = (⟨#[]⟩ : ByteArray) ∧ (⟨#[]⟩ : ByteArray) = (⟨#[]⟩ : ByteArray))])) ?_
  refine rV 6 ?_
  refine pl_load M (want_on 11 true rfl 39 rfl (by kernel_rfl)) (some 40) rfl 41 _ rfl 1 g2 0 (by kernel_rfl) 5 41 (ls [.string ⟨#[]⟩, .string ⟨#[]⟩, .string ⟨#[]⟩, .string ⟨#[]⟩, .string ⟨#[]⟩]) rfl 5 (ls [.string ⟨#[]⟩, .string ⟨#[]⟩, .string ⟨#[]⟩, .string ⟨#[]⟩, .string ⟨#[]⟩]) (fun j _ => by rw [Nat.zero_add]) (by decide) _ Tryz.underlying41 rfl inz41 ?_
  refine rV 1 ?_
  refine pl_val (want_on 11 true rfl 39 rfl (by kernel_rfl)) (some 42) rfl (.bool true) (fun w => (eql41 (⟨#[]⟩ : ByteArray) (⟨#[]⟩ : ByteArray) (⟨#[]⟩ : ByteArray) (⟨#[]⟩ : ByteArray) (⟨#[]⟩ : ByteArray) (⟨#[]⟩ : ByteArray) (⟨#[]⟩ : ByteArray) (⟨#[]⟩ : ByteArray) (⟨#[]⟩ : ByteArray) (⟨#[]⟩ : ByteArray) _ _ rfl (by kernel_rfl) (by kernel_rfl) w).trans (by rw [decide_eq_true (⟨rfl, rfl, rfl, rfl, rfl⟩ : (⟨#[]⟩ : ByteArray) = (⟨#[]⟩ : ByteArray) ∧ (⟨#[]⟩ : ByteArray) = (⟨#[]⟩ : ByteArray) ∧ (⟨#[]⟩ : ByteArray) = (⟨#[]⟩ : ByteArray) ∧ (⟨#[]⟩ : ByteArray) = (⟨#[]⟩ : ByteArray) ∧ (⟨#[]⟩ : ByteArray) = (⟨#[]⟩ : ByteArray))])) ?_
  refine rV 6 ?_
  refine pl_call M (want_on 20 true rfl 48 rfl (by kernel_rfl)) (some 49) rfl 8 #[] (.bool true) (fun _ => by kernel_rfl) (fun w M => c_alive w M.laid) fun u7 M => ?_
  refine rV 2 <| nT <| wp_ret ?_
  exact b1 M
end Go.Proofs.YtffimigpbcilbaaGreatDoor
