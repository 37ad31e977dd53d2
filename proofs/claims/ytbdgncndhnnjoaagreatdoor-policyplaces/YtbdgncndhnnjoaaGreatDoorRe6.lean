/- Part 6 of the walks and facts. -/
import Derived.Test.YtbdgncndhnnjoaaGreatDoorRe5
import Derived.HandedShaped
import Derived.Lay
import Derived.OpenShut
import Derived.ProofKit
import Derived.Shelf.Vars
import Derived.Sort.OwnSorted
import Derived.Test.YtbdgncndhnnjoaaGreatDoorTie
namespace Go.Proofs.YtbdgncndhnnjoaaGreatDoor
open Go.RowKit YtbdgncndhnnjoaaGreatDoor
set_option linter.unusedVariables false
set_option linter.unusedSimpArgs false
set_option maxHeartbeats 0
set_option maxRecDepth 100000
theorem buf_appN {P : Program} {w : World} {t ty e : TypeId} {K : Nat} {zv : Value} (ht : P.underlying t = some (.slice e)) (hin : InfoK P e K zv) (hzc : zv.cells.size = K) {n : Nat} {cs : List Value} {v : Value} {T : List Blk} (hB : Buf K e n cs v T) (hat : ∀ b ∈ T, w.heap[b.g]? = some b.Z) (hn : 0 < n) {m : Nat} {x : Value} {xs : List Value} (hsrc : Src P K t x m xs w) (hle : n + m ≤ 500000) :
  ∃ v' T' w', (Builtin.append_ #[t, t] ty #[v, x]).run P w = .ok v' w' ∧ Buf K e (n + m) (cs ++ xs) v' T' ∧ OkT w w' T T' := by
 obtain ⟨info, i1, i2, i3, i4⟩ := hin
 subst i3
 have hlen := hB.1
 have hxl := hsrc.newsLen
 have ea : ∀ (g k : Nat), (⟨g, 0, none⟩ : Addr).add k = ⟨g, k, none⟩ := fun g k => by simp [Addr.add_lit]
 have hll : (cs ++ xs).length = (n + m) * info.size := by rw [List.length_append, hxl, hlen, Nat.add_mul]
 have grow : ∀ (base : Option Addr) (cap : Nat), v = .slice base n cap → ¬ n + m ≤ cap → n ≤ cap → (Builtin.firstCells info.size n (.slice base n cap)).run P w.drew = .ok cs.toArray w.drew → ∃ v' T' w', (Builtin.append_ #[t, t] ty #[v, x]).run P w = .ok v' w' ∧ Buf info.size e (n + m) (cs ++ xs) v' T' ∧ OkT w w' T T' := fun base cap hsv hroom hnc hold => by
  have hr := run_append_grow_src (P := P) w t t ty e info zv ht i1 i2 base n cap cs hold x m _ hsrc (by omega) (by omega) (growslice_fits (by omega) (by
    have := Nat.mul_le_mul hle i4
    omega))
  have hge := grownCap_ge w (n + m) cap e
  generalize grownCap w (n + m) cap e = nc at hr hge
  obtain ⟨q, rfl⟩ : ∃ q, nc = n + m + q := ⟨nc - (n + m), by omega⟩
  subst hsv
  refine ⟨_, [⟨w.heap.size, .cells ((cs ++ xs).toArray ++ Builtin.zeroCells zv.cells (n + m + q - (n + m))) e (0, 0)⟩], _, hr, ⟨hll, .inr ⟨w.heap.size, n + m + q, cs ++ xs ++ (Builtin.zeroCells zv.cells (n + m + q - (n + m))).toList, rfl, by omega, ?_, ?_, ?_⟩⟩, ⟨rfl, rfl, rfl, by simp, fun k hk _ => Below.heap_alloc _ _ _ hk⟩, ?_, by simp, by simp⟩
  ·rw [List.length_append, hll, Array.length_toList, size_zeroCells, hzc, Nat.add_sub_cancel_left, ← Nat.add_mul]
  ·rw [← hll]
   exact List.take_left
  ·refine congrArg (fun A => [(⟨w.heap.size, .cells A e (0, 0)⟩ : Blk)]) (Array.ext' (by simp))
  ·intro b hb
   simp only [List.mem_singleton] at hb
   subst hb
   exact heap_alloc_new w.drew _
 rcases hB.2 with ⟨hn0, ⟨a0, hv⟩, rfl⟩ | ⟨g, cap, Z, hv, hnc, hZ, hcs, rfl⟩
 ·omega
 ·have hg : w.heap[g]? = some (.cells Z.toArray e (0, 0)) := hat ⟨g, .cells Z.toArray e (0, 0)⟩ (by simp)
  by_cases hroom : n + m ≤ cap
  ·have hcm : n * info.size + m * info.size ≤ cap * info.size := by rw [← Nat.add_mul]; exact Nat.mul_le_mul_right _ hroom
   have hr := run_append_room_src (P := P) w t t ty e info ht i1 g 0 n cap x m _ hsrc hroom (fun k hk => by
     rw [Nat.zero_add, cell_at hg, List.getElem?_eq_getElem (by omega)]
     rfl) (fun k hk => by
     unfold World.frozen?
     rw [hg]
     simp)
   rw [Nat.zero_add] at hr
   subst hv
   refine ⟨_, [⟨g, .cells (Z.take (n * info.size) ++ xs ++ Z.drop (n * info.size + xs.length)).toArray e (0, 0)⟩], _, hr, ⟨hll, .inr ⟨g, cap, _, rfl, by omega, ?_, ?_, rfl⟩⟩, grw_setCells _ _ _ _, ?_, by simp, by simp⟩
   ·simp only [List.length_append, List.length_take, List.length_drop]
    omega
   ·rw [show (n + m) * info.size = n * info.size + xs.length by rw [Nat.add_mul, hxl], setAll_take xs Z _ (by omega), hcs]
   ·intro b hb
    simp only [List.mem_singleton] at hb
    subst hb
    rw [heap_setCells _ _ _ _ _ _ hg, setAll_eq _ _ _ (by omega), List.append_assoc]
  ·exact grow _ cap hv hroom hnc (run_firstCells_some w.drew info.size n ⟨g, 0, none⟩ n cap cs hlen (fun k u hu => by
    rw [ea]
    have hk := (List.getElem?_eq_some_iff.1 hu).1
    rw [cell_at (W := w.drew) hg, ← hu, ← hcs, List.getElem?_take_of_lt (by omega)]))
theorem els_app {α : Type} {el : α → List Value → List Blk → Prop} {K : Nat} : ∀ {l m : List α} {c d : List Value} {T U : List Blk}, Els el K l c T → Els el K m d U → Els el K (l ++ m) (c ++ d) (T ++ U)
 | [], _, _, _, _, _, ⟨rfl, rfl⟩, h => by simpa using h
 | x :: l, m, _, d, _, U, ⟨c1, c2, T1, T2, rfl, h1, rfl, hx, h2⟩, h => ⟨c1, c2 ++ d, T1, T2 ++ U, by simp, h1, by simp, hx, els_app h2 h⟩
theorem buf_src {P : Program} {K : Nat} {t e : TypeId} {n : Nat} {cs : List Value} {v : Value} {T : List Blk} {w : World} (ht : P.underlying t = some (.slice e)) (hB : Buf K e n cs v T) (hat : ∀ b ∈ T, w.heap[b.g]? = some b.Z) (h1 : ∀ u ∈ cs, u.oneCell' = true) : Src P K t v n cs w := by
 have hlen := hB.1
 rcases hB.2 with ⟨h0, ⟨a, rfl⟩, rfl⟩ | ⟨g, cap, Z, rfl, hc, hZ, hZt, rfl⟩
 ·subst h0
  have hc : cs = [] := List.length_eq_zero_iff.1 (by simpa using hlen)
  subst hc
  cases a with
  | none => exact Src.ofNil w ht 0
  | some a => exact Src.ofSlice w ht a 0 0 [] (by simp) (fun j u h => by simp at h) (fun u h => by cases h)
 ·have hg : w.heap[g]? = some (.cells Z.toArray e (0, 0)) := hat ⟨g, .cells Z.toArray e (0, 0)⟩ (by simp)
  refine Src.ofSlice w ht ⟨g, 0, none⟩ n cap cs hlen (fun j u hu => ?_) h1
  have hk := (List.getElem?_eq_some_iff.1 hu).1
  rw [show (⟨g, 0, none⟩ : Addr).add j = ⟨g, j, none⟩ by simp [Addr.add_lit], cell_at hg, ← hu, ← hZt, List.getElem?_take_of_lt (by omega)]
theorem ls_appR {P : Program} {S : Seat P} {C : World → Prop} {t ty e : TypeId} {K : Nat} {zv : Value} (ht : P.underlying t = some (.slice e)) (hin : InfoK P e K zv) (hzc : zv.cells.size = K) {α : Type} (el : α → List Value → List Blk → Prop) (h1 : ∀ l cs T, Els el K l cs T → ∀ u ∈ cs, u.oneCell' = true) (l m : List α) (b b1 b2 : Nat) (h0 : 0 < l.length) (hle : l.length + m.length ≤ 500000) :
  LS S C (oBi .append [t, t] ty [false, false] [vW b1, vW b2]).sem [(b1, tD (RowD K e el l)), (b2, tD (RowD K e el m))] (newAt b 1) (vW b) ([(b1, gap), (b2, gap)] ++ [(b, tD (RowD K e el (l ++ m)))]) := by
 intro E w hL hC T hok
 have ho1 : RowD K e el l (E b1).v (E b1).T := hok (b1, tD (RowD K e el l)) (by simp)
 have ho2 : RowD K e el m (E b2).v (E b2).T := hok (b2, tD (RowD K e el m)) (by simp)
 obtain ⟨cs, Tb, Te, hB, hE, hT⟩ := ho1
 obtain ⟨ds, Ub, Ue, hB2, hE2, hT2⟩ := ho2
 have hden : denP E [(b1, tD (RowD K e el l)), (b2, tD (RowD K e el m))] = Tb ++ (Te ++ (Ub ++ Ue)) := by
  show (E b1).T ++ ((E b2).T ++ []) = _
  rw [hT, hT2, List.append_nil, List.append_assoc]
 rw [hden] at T
 have hat : ∀ b ∈ Tb, w.heap[b.g]? = some b.Z := fun z hz => T.at_ z (by simp [hz])
 have hat2 : ∀ b ∈ Ub, w.heap[b.g]? = some b.Z := fun z hz => T.at_ z (by simp [hz])
 obtain ⟨v', T', w', hr, hB', hT'⟩ := buf_appN (ty := ty) ht hin hzc hB hat h0 (buf_src ht hB2 hat2 (h1 _ _ _ hE2)) hle
 have hrun : ((oBi .append [t, t] ty [false, false] [vW b1, vW b2]).sem E).run P w = .ok (.value v') w' := by
  show (do pure (Next.value (← Builtin.append_ #[t, t] ty #[(E b1).v, (E b2).v])) : Sem Next).run P w = _
  simp only [Sem.run_bind, hr, Result.andThen_ok, Sem.run_pure]
 rw [hrun]
 let E' : Nat → Ent := fun i => bif Nat.beq i b then ⟨0, v', T' ++ (Te ++ Ue), buf_one hB'⟩ else E i
 have hb : E' b = ⟨0, v', T' ++ (Te ++ Ue), buf_one hB'⟩ := by
  have : Nat.beq b b = true := nbeq.2 rfl
  simp only [E', this, cond_true]
 refine ⟨E', fun i hi => ?_, ?_, ?_, ?_⟩
 ·have : Nat.beq i b = false := by
   cases h : Nat.beq i b with
   | false => rfl
   | true =>
    have h2 : newAt b 1 b = true := by simp [newAt, Nat.blt_eq]
    rw [nbeq.1 h, h2] at hi
    cases hi
  simp only [E', this, cond_false]
 ·intro p hp
  simp only [List.cons_append, List.nil_append, List.mem_cons, List.mem_nil_iff, or_false] at hp
  rcases hp with rfl | rfl | rfl
  ·exact trivial
  ·exact trivial
  ·show RowD K e el (l ++ m) (E' b).v (E' b).T
   rw [hb]
   exact ⟨_, T', Te ++ Ue, by rw [List.length_append]; exact hB', els_app hE hE2, rfl⟩
 ·show v' = (E' b).v
  rw [hb]
 ·have hd2 : denP E' ([(b1, gap), (b2, gap)] ++ [(b, tD (RowD K e el (l ++ m)))]) = T' ++ (Te ++ Ue) := by
   show [] ++ ([] ++ ((E' b).T ++ [])) = _
   rw [hb, List.append_nil]
   rfl
  rw [hd2, hden]
  have M := (Mem.start hL T).step hT'
  have M2 : Mem S ⟨w, (Tb ++ (Te ++ (Ub ++ Ue))).map Blk.g⟩ (T' ++ (Te ++ Ue)) w' := M.drop (List.Sublist.append_left (List.Sublist.append_left (List.sublist_append_right _ _) _) _)
  exact M2.okT
def dAppR {P : Program} {S : Seat P} {C : World → Prop} (t ty e : TypeId) (K : Nat) (zv : Value) {α : Type} (el : α → List Value → List Blk → Prop) (hel : ∀ l cs T, Els el K l cs T → ∀ u ∈ cs, u.oneCell' = true) (l m : List α) (b1 b2 : Nat) (h0 : 0 < l.length) (hle : l.length + m.length ≤ 500000)
  (ht : P.underlying t = some (.slice e) := by kernel_rfl) (h1 : (P.info? e).map (·.zero) = some (some zv) := by kernel_rfl) (h2 : (P.info? e).map (·.size) = some K := by kernel_rfl) (hB : ((P.info? e).map fun i => Nat.ble i.bytes 128) = some true := by kernel_rfl)
  (hq : Nat.beq zv.cells.size K = true := by kernel_rfl) : Dr S C :=
 dSp fun b => ⟨oBi .append [t, t] ty [false, false] [vW b1, vW b2], [], [(b1, tD (RowD K e el l)), (b2, tD (RowD K e el m))], [gap, gap], [tD (RowD K e el (l ++ m))], vW b, fun _ hb => by
  have hin : InfoK P e K zv := by
   cases h : P.info? e with
   | none => rw [h] at h2; cases h2
   | some i =>
    rw [h] at h1 h2 hB
    simp only [Option.map_some, Option.some.injEq] at h1 h2 hB
    exact ⟨i, h, h1, h2, Nat.le_of_ble_eq_true hB⟩
  have := ls_appR (S := S) (C := C) (ty := ty) ht hin (nbeq.1 hq) el hel l m b b1 b2 h0 hle
  exact this⟩
theorem str_one : ∀ (l : List ByteArray) (cs : List Value) (T : List Blk), Els strEl 1 l cs T → ∀ u ∈ cs, u.oneCell' = true := fun l cs T h u hu => by
 obtain ⟨rfl, -⟩ := els_str h
 obtain ⟨s, -, rfl⟩ := List.mem_map.1 hu
 rfl
def dAppS {C : World → Prop} (l m : List ByteArray) (b1 b2 : Nat) (h0 : 0 < l.length) (hle : l.length + m.length ≤ 500000) : Dr S0 C := dAppR 44 44 9 1 (.string ⟨#[]⟩) strEl str_one l m b1 b2 h0 hle
end Go.Proofs.YtbdgncndhnnjoaaGreatDoor

namespace Go.Proofs.YtbdgncndhnnjoaaGreatDoor
open Go.RowKit YtbdgncndhnnjoaaGreatDoor
set_option linter.unusedVariables false
set_option linter.unusedSimpArgs false
set_option maxHeartbeats 0
set_option maxRecDepth 100000
variable {C : World → Prop}
theorem row_str (l : List ByteArray) (g : Nat) (h : 0 < l.length) : RowD 1 9 strEl l (.slice (some ⟨g, 0, none⟩) l.length l.length) [⟨g, .cells (l.map Value.string).toArray 9 (0, 0)⟩] := by
 have hE : ∀ l : List ByteArray, Els strEl 1 l (l.map Value.string) [] := by
  intro l
  induction l with
  | nil => exact ⟨rfl, rfl⟩
  | cons x l ih => exact ⟨[.string x], _, [], [], rfl, rfl, rfl, ⟨rfl, rfl⟩, ih⟩
 refine ⟨l.map Value.string, [⟨g, .cells (l.map Value.string).toArray 9 (0, 0)⟩], [], ⟨by simp, .inr ⟨g, l.length, l.map Value.string, rfl, Nat.le_refl _, by simp, ?_, rfl⟩⟩, hE l, by simp⟩
 rw [Nat.mul_one, ← List.length_map (f := Value.string), List.take_length]
abbrev wFr : ByteArray := ⟨#[102, 114, 111, 109]⟩
abbrev wTo : ByteArray := ⟨#[116, 111]⟩
abbrev wPo : ByteArray := ⟨#[112, 111, 114, 116, 115]⟩
def acB {T : List Blk} (a : AcM T) : Prop := (∀ i, i < a.sn → ((a.sf i).kind = 1 ∨ (a.sf i).kind = 2 ∨ (a.sf i).kind = 3 ∨ (a.sf i).kind = 4 ∨ (a.sf i).kind = 5 ∨ (a.sf i).kind = 6) ∧ (0 ≤ (a.sf i).net.bits ∧ (a.sf i).net.bits ≤ 255) ∧ (a.sf i).name.size ≤ 100000 ∧ (Ip.ptx (a.sf i).net.v6 (a.sf i).net.hi (a.sf i).net.lo (a.sf i).net.bits).size ≤ 100000) ∧ (∀ i, i < a.dn → ((a.df i).kind = 1 ∨ (a.df i).kind = 2 ∨ (a.df i).kind = 3 ∨ (a.df i).kind = 4 ∨ (a.df i).kind = 5 ∨ (a.df i).kind = 6) ∧ (0 ≤ (a.df i).net.bits ∧ (a.df i).net.bits ≤ 255) ∧ (a.df i).name.size ≤ 100000 ∧ (Ip.ptx (a.df i).net.v6 (a.df i).net.hi (a.df i).net.lo (a.df i).net.bits).size ≤ 100000) ∧ (∀ i, i < a.tn → (0 ≤ a.ta i ∧ a.ta i < 65536) ∧ (0 ≤ a.te i ∧ a.te i < 65536)) ∧ a.sn ≤ 64 ∧ a.dn ≤ 64 ∧ a.tn ≤ 64
def acL {T : List Blk} (a : AcM T) : List ByteArray := (([wA, prT a.pn a.pf, wFr] ++ txL (fun i => seT (a.sf i)) a.sn) ++ [wTo]) ++ txL (fun i => seT (a.df i)) a.dn
def acW {T : List Blk} (a : AcM T) : List ByteArray := if a.tn = 0 then acL a else (acL a ++ [wPo]) ++ txL (fun i => rgT (a.ta i) (a.te i)) a.tn
theorem c_aclWords (T : List Blk) (a : AcM T) (hb : acB a) : Ct S0 C 47 [vG a.vs] [tX T] [] [] [tD (RowD 1 9 strEl (acW a))] (vW 1) := by
 obtain ⟨b1, b2, b3, n1, n2, n3⟩ := hb
 have k1 := fun C => c_protosText (C := C) T a.pn a.pf _ a.ph a.pm
 have k2 := fun C => c_textsS (C := C) T a.sn a.sf _ a.sh (by omega) b1
 have k3 := fun C => c_textsS (C := C) T a.dn a.df _ a.dh (by omega) b2
 have k4 := fun C => c_textsP (C := C) T a.tn a.ta a.te _ a.th (by omega) b3
 unfold acW acL
 have z1 := txL_len (fun i => seT (a.sf i)) a.sn
 have z2 := txL_len (fun i => seT (a.df i)) a.dn
 have z3 := txL_len (fun i => rgT (a.ta i) (a.te i)) a.tn
 generalize txL (fun i => seT (a.sf i)) a.sn = l1 at k2 z1
 generalize txL (fun i => seT (a.df i)) a.dn = l2 at k3 z2
 generalize txL (fun i => rgT (a.ta i) (a.te i)) a.tn = l3 at k4 z3
 generalize prT a.pn a.pf = pt at k1
 have ql1 : ([wA, pt, wFr] ++ l1).length < 500000 := by simp; omega
 have ql2 : (([wA, pt, wFr] ++ l1) ++ [wTo] ++ l2).length < 500000 := by simp; omega
 refine xIn Tryz.f47 fun E0 w0 hL hC hk => ?_
 refine xR 19 [(4, dC (k1 _) [0]), (10, dC (k2 _) [0])] ?_
 refine xPk (vS 2 0 3 3) [(2, tC [vV (.string wA), vV (.string pt), vV (.string wFr)] 9)] (RowD 1 9 strEl [wA, pt, wFr]) [3, 7, 8] [] (fun E _ => ⟨rfl, row_str [wA, pt, wFr] (E 2).g (by simp)⟩) ?_
 refine xR 1 [(0, dAppS [wA, pt, wFr] l1 4 3 (by simp) (by simp; omega))] ?_
 refine xR 15 [(3, dApp_strEl ([wA, pt, wFr] ++ l1) 5 6 ({ data := #[116, 111] }) ql1), (8, dC (k3 _) [0])] ?_
 refine xR 1 [(0, dAppS ([wA, pt, wFr] ++ l1 ++ [wTo]) l2 7 8 (by simp) (by simp; omega))] ?_
 by_cases q1 : a.tn = 0
 ·rw [if_pos q1]
  have q2 : ¬ (a.tn : Int) > 0 := by omega
  refine xR 17 [(4, dF q2)] ?_
  exact (xRetC [9])
 ·rw [if_neg q1]
  have q2 : (a.tn : Int) > 0 := by omega
  have ql3 : ([wA, pt, wFr] ++ l1 ++ [wTo] ++ l2).length < 500000 := ql2
  refine xR 23 [(4, dT q2), (7, dApp_strEl ([wA, pt, wFr] ++ l1 ++ [wTo] ++ l2) 9 10 ({ data := #[112, 111, 114, 116, 115] }) ql2), (12, dC (k4 _) [0])] ?_
  refine xR 1 [(0, dAppS ([wA, pt, wFr] ++ l1 ++ [wTo] ++ l2 ++ [wPo]) l3 11 12 (by simp) (by simp; omega))] ?_
  refine xR 7 [] ?_
  exact (xRetC [13])
end Go.Proofs.YtbdgncndhnnjoaaGreatDoor

namespace Go.Proofs.YtbdgncndhnnjoaaGreatDoor
open Go.RowKit YtbdgncndhnnjoaaGreatDoor
set_option linter.unusedVariables false
set_option linter.unusedSimpArgs false
set_option maxHeartbeats 0
set_option maxRecDepth 100000
theorem buf_appX {P : Program} {w : World} {t tx ty e : TypeId} {K : Nat} {zv : Value} (ht : P.underlying t = some (.slice e)) (hin : InfoK P e K zv) (hzc : zv.cells.size = K) {n : Nat} {cs : List Value} {v : Value} {T : List Blk} (hB : Buf K e n cs v T) (hat : ∀ b ∈ T, w.heap[b.g]? = some b.Z) {m : Nat} {x : Value} {xs : List Value} (hsrc : Src P K tx x m xs w) (hm : 0 < m) (hle : n + m ≤ 10000000) :
  ∃ v' T' w', (Builtin.append_ #[t, tx] ty #[v, x]).run P w = .ok v' w' ∧ Buf K e (n + m) (cs ++ xs) v' T' ∧ OkT w w' T T' := by
 obtain ⟨info, i1, i2, i3, i4⟩ := hin
 subst i3
 have hlen := hB.1
 have hxl := hsrc.newsLen
 have ea : ∀ (g k : Nat), (⟨g, 0, none⟩ : Addr).add k = ⟨g, k, none⟩ := fun g k => by simp [Addr.add_lit]
 have hll : (cs ++ xs).length = (n + m) * info.size := by rw [List.length_append, hxl, hlen, Nat.add_mul]
 have grow : ∀ (base : Option Addr) (cap : Nat), v = .slice base n cap → ¬ n + m ≤ cap → n ≤ cap → (Builtin.firstCells info.size n (.slice base n cap)).run P w.drew = .ok cs.toArray w.drew → ∃ v' T' w', (Builtin.append_ #[t, tx] ty #[v, x]).run P w = .ok v' w' ∧ Buf info.size e (n + m) (cs ++ xs) v' T' ∧ OkT w w' T T' := fun base cap hsv hroom hnc hold => by
  have hr := run_append_grow_src (P := P) w t tx ty e info zv ht i1 i2 base n cap cs hold x m _ hsrc (by omega) (by omega) (growslice_fits (by omega) (by
    have := Nat.mul_le_mul hle i4
    omega))
  have hge := grownCap_ge w (n + m) cap e
  generalize grownCap w (n + m) cap e = nc at hr hge
  obtain ⟨q, rfl⟩ : ∃ q, nc = n + m + q := ⟨nc - (n + m), by omega⟩
  subst hsv
  refine ⟨_, [⟨w.heap.size, .cells ((cs ++ xs).toArray ++ Builtin.zeroCells zv.cells (n + m + q - (n + m))) e (0, 0)⟩], _, hr, ⟨hll, .inr ⟨w.heap.size, n + m + q, cs ++ xs ++ (Builtin.zeroCells zv.cells (n + m + q - (n + m))).toList, rfl, by omega, ?_, ?_, ?_⟩⟩, ⟨rfl, rfl, rfl, by simp, fun k hk _ => Below.heap_alloc _ _ _ hk⟩, ?_, by simp, by simp⟩
  ·rw [List.length_append, hll, Array.length_toList, size_zeroCells, hzc, Nat.add_sub_cancel_left, ← Nat.add_mul]
  ·rw [← hll]
   exact List.take_left
  ·refine congrArg (fun A => [(⟨w.heap.size, .cells A e (0, 0)⟩ : Blk)]) (Array.ext' (by simp))
  ·intro b hb
   simp only [List.mem_singleton] at hb
   subst hb
   exact heap_alloc_new w.drew _
 rcases hB.2 with ⟨hn0, ⟨a0, hv⟩, rfl⟩ | ⟨g, cap, Z, hv, hnc, hZ, hcs, rfl⟩
 ·subst hn0
  have hl0 : cs = [] := List.length_eq_zero_iff.1 (by simpa using hlen)
  subst hl0
  exact grow a0 0 hv (by omega) (by omega) (firstCells0 w.drew info.size a0)
 ·have hg : w.heap[g]? = some (.cells Z.toArray e (0, 0)) := hat ⟨g, .cells Z.toArray e (0, 0)⟩ (by simp)
  by_cases hroom : n + m ≤ cap
  ·have hcm : n * info.size + m * info.size ≤ cap * info.size := by rw [← Nat.add_mul]; exact Nat.mul_le_mul_right _ hroom
   have hr := run_append_room_src (P := P) w t tx ty e info ht i1 g 0 n cap x m _ hsrc hroom (fun k hk => by
     rw [Nat.zero_add, cell_at hg, List.getElem?_eq_getElem (by omega)]
     rfl) (fun k hk => by
     unfold World.frozen?
     rw [hg]
     simp)
   rw [Nat.zero_add] at hr
   subst hv
   refine ⟨_, [⟨g, .cells (Z.take (n * info.size) ++ xs ++ Z.drop (n * info.size + xs.length)).toArray e (0, 0)⟩], _, hr, ⟨hll, .inr ⟨g, cap, _, rfl, by omega, ?_, ?_, rfl⟩⟩, grw_setCells _ _ _ _, ?_, by simp, by simp⟩
   ·simp only [List.length_append, List.length_take, List.length_drop]
    omega
   ·rw [show (n + m) * info.size = n * info.size + xs.length by rw [Nat.add_mul, hxl], setAll_take xs Z _ (by omega), hcs]
   ·intro b hb
    simp only [List.mem_singleton] at hb
    subst hb
    rw [heap_setCells _ _ _ _ _ _ hg, setAll_eq _ _ _ (by omega), List.append_assoc]
  ·exact grow _ cap hv hroom hnc (run_firstCells_some w.drew info.size n ⟨g, 0, none⟩ n cap cs hlen (fun k u hu => by
    rw [ea]
    have hk := (List.getElem?_eq_some_iff.1 hu).1
    rw [cell_at (W := w.drew) hg, ← hu, ← hcs, List.getElem?_take_of_lt (by omega)]))
theorem ls_apX {P : Program} {S : Seat P} {C : World → Prop} {t tx ty e : TypeId} {K : Nat} {zv : Value} (ht : P.underlying t = some (.slice e)) (hin : InfoK P e K zv) (hzc : zv.cells.size = K) (f1 f2 : Bool) (b bb : Nat) (bk : Blk) (Tb : List Blk) (n : Nat) (cs : List Value) (sv : Value) (hB : Buf K e n cs sv Tb) (s2 : SV) (sub : List (Nat × It)) (m : Nat) (xs : List Value)
  (hsrc : ∀ (E : Nat → Ent) (w : World), (∀ x ∈ denP E sub, w.heap[x.g]? = some x.Z) → Src P K tx (s2.den E) m xs w) (hm : 0 < m) (hle : n + m ≤ 10000000) :
  LS S C (oBi .append [t, tx] ty [f1, f2] [vV sv, s2]).sem ((b, tX (bk :: Tb)) :: sub) (newAt bb 1) (vW bb) (((b, tX [bk]) :: sub.map (fun p => (p.1, gap))) ++ [(bb, tD (Buf K e (n + m) (cs ++ xs)))]) := by
 intro E w hL hC T hok
 have hden : denP E ((b, tX (bk :: Tb)) :: sub) = (bk :: Tb) ++ denP E sub := rfl
 have hat : ∀ z ∈ Tb, w.heap[z.g]? = some z.Z := fun z hz => T.at_ z (by rw [hden]; simp [hz])
 obtain ⟨v', T', w', hr, hB', hT'⟩ := buf_appX (ty := ty) ht hin hzc hB hat (hsrc E w fun x hx => T.at_ x (by rw [hden]; simp [hx])) hm hle
 have hrun : ((oBi .append [t, tx] ty [f1, f2] [vV sv, s2]).sem E).run P w = .ok (.value v') w' := by
  show (do pure (Next.value (← Builtin.append_ #[t, tx] ty #[sv, s2.den E])) : Sem Next).run P w = _
  simp only [Sem.run_bind, hr, Result.andThen_ok, Sem.run_pure]
 rw [hrun]
 let E' : Nat → Ent := fun i => bif Nat.beq i bb then ⟨0, v', T', buf_one hB'⟩ else E i
 have hb : E' bb = ⟨0, v', T', buf_one hB'⟩ := by
  have : Nat.beq bb bb = true := nbeq.2 rfl
  simp only [E', this, cond_true]
 refine ⟨E', fun i hi => ?_, ?_, ?_, ?_⟩
 ·have : Nat.beq i bb = false := by
   cases h : Nat.beq i bb with
   | false => rfl
   | true =>
    have h2 : newAt bb 1 bb = true := by simp [newAt, Nat.blt_eq]
    rw [nbeq.1 h, h2] at hi
    cases hi
  simp only [E', this, cond_false]
 ·rw [okP_app]
  refine ⟨fun p hp => ?_, fun p hp => ?_⟩
  ·rcases List.mem_cons.1 hp with rfl | hp
   ·exact trivial
   ·obtain ⟨q, _, rfl⟩ := List.mem_map.1 hp
    exact trivial
  ·simp only [List.mem_singleton] at hp
   subst hp
   show Buf K e (n + m) (cs ++ xs) (E' bb).v (E' bb).T
   rw [hb]
   exact hB'
 ·show v' = (E' bb).v
  rw [hb]
 ·have hd2 : denP E' (((b, tX [bk]) :: sub.map (fun p => (p.1, gap))) ++ [(bb, tD (Buf K e (n + m) (cs ++ xs)))]) = bk :: T' := by
   rw [denP_app]
   show ([bk] ++ denP E' (sub.map fun p => (p.1, gap))) ++ ((E' bb).T ++ []) = _
   rw [denP_gaps, hb, List.append_nil, List.append_nil]
   rfl
  rw [hd2, hden]
  rw [hden] at T
  have T2 : There S w (Tb ++ (bk :: denP E sub)) := T.perm (by
   show (bk :: (Tb ++ denP E sub)).Perm _
   exact List.perm_middle.symm)
  have M := (Mem.start hL T2).step hT'
  have M2 : Mem S ⟨w, (Tb ++ (bk :: denP E sub)).map Blk.g⟩ (T' ++ [bk]) w' := M.drop (List.Sublist.append_left (List.Sublist.cons_cons _ (List.nil_sublist _)) _)
  refine M2.okT.perm ?_ ?_
  ·show (Tb ++ (bk :: denP E sub)).Perm (bk :: (Tb ++ denP E sub))
   exact List.perm_middle
  ·exact List.perm_append_comm
end Go.Proofs.YtbdgncndhnnjoaaGreatDoor

namespace Go.Proofs.YtbdgncndhnnjoaaGreatDoor
open Go.RowKit YtbdgncndhnnjoaaGreatDoor
set_option linter.unusedVariables false
set_option linter.unusedSimpArgs false
set_option maxHeartbeats 0
set_option maxRecDepth 100000
variable {C : World → Prop}
theorem ct_flatW {P : Program} {S : Seat P} {C : World → Prop} {f : FuncId} {xs : List SV} {args : List Value} {v : SV} {r : Value} {T0 T1 : List Blk} (h : ∀ w, S.laid w → There S w T0 → Calls P f args.toArray w fun e w' => e = .returned r ∧ OkT w w' T0 T1) (hx : ∀ E, xs.map (SV.den E) = args) (hv : ∀ E, v.den E = r)
  (he : (fun (args : Array Value) (w : World) => (callFunc f args).run P w) = fun args w => .ok (.enter f args) w := by kernel_rfl) : Ct S C f xs [] [tX T0] [tX T1] [] v := by
 have he : ∀ (args : Array Value) (w : World), (callFunc f args).run P w = .ok (.enter f args) w := fun args w => congrFun (congrFun he args) w
 refine ⟨fun E w hL hC T hok => ?_⟩
 show Fin P ((callFunc f (xs.map (SV.den E)).toArray).run P w) _
 rw [hx, he]
 have hd : denP E (ix 0 ([] ++ [tX T0])) = T0 := by
  show T0 ++ [] = T0
  rw [List.append_nil]
 rw [hd] at T
 refine (h w hL T).mono ?_
 rintro e w' ⟨rfl, hb⟩
 refine ⟨_, rfl, E, fun _ _ => rfl, fun p hp => ?_, (hv E).symm, ?_⟩
 ·simp [postC, ix] at hp
  subst hp
  trivial
 ·have e2 : denP E (postC [] [tX T0] [tX T1] []) = T1 := by
   show T1 ++ [] = T1
   rw [List.append_nil]
  rw [hd, e2]
  exact hb
abbrev pG (g : Nat) : Value := .pointer (some ⟨g, 0, none⟩)
abbrev bkO (g : Nat) (p s : Value) : Blk := ⟨g, .cells [p, s].toArray 87 (0, 0)⟩
def bldD (g : Nat) (t : ByteArray) (v : Value) (T : List Blk) : Prop := (t.size = 0 ∧ T = [bkO g (.pointer none) (.slice none 0 0)]) ∨ (0 < t.size ∧ ∃ sv Tb, T = bkO g (pG g) sv :: Tb ∧ Buf 1 5 t.size (byteCells t) sv Tb)
theorem c_copyU (g : Nat) (sv : Value) (Tb : List Blk) : Ct S0 C 79 [vV (pG g)] [tX (bkO g (pG g) sv :: Tb)] [] [] [] (vT []) :=
 ct_flatT (args := [pG g]) (fun w hL hT => by
  have hg := hT (bkO g (pG g) sv) (by simp)
  refine (Any.Builder_copyCheck_used { Ip.laye166 with } Ip.reqExtra.toX72 g w (by rw [cell_at hg]; rfl)).mono ?_
  rintro e w' ⟨rfl, rfl⟩
  exact ⟨rfl, Below.refl _ _⟩) (fun _ => rfl) (fun _ => rfl)
theorem c_copyF (g : Nat) (sv : Value) : Ct S0 C 79 [vV (pG g)] [] [tX [bkO g (.pointer none) sv]] [tX [bkO g (pG g) sv]] [] (vT []) :=
 ct_flatW (args := [pG g]) (fun w hL T => by
  have hg := T.at_ (bkO g (.pointer none) sv) (by simp)
  refine (Any.Builder_copyCheck_fresh { Ip.laye166 with } Ip.reqExtra.toX72 g w (by rw [cell_at hg]; rfl) (by simp [World.shape?, hg]; rfl) (free_at hg _)).mono ?_
  rintro e w' ⟨rfl, rfl⟩
  refine ⟨rfl, ?_⟩
  have := okT_blk (A := []) (B := []) (Z' := .cells [pG g, sv].toArray 87 (0, 0)) T (grw_setCells g [pG g] w 0) (by rw [heap_setCells g 87 _ w _ 0 hg]; rfl)
  exact this) (fun _ => rfl) (fun _ => rfl)
def dApS (b : Nat) (bk : Blk) (Tb : List Blk) (t : ByteArray) (sv : Value) (hB : Buf 1 5 t.size (byteCells t) sv Tb) (s : ByteArray) (hm : 0 < s.size) (hle : t.size + s.size ≤ 10000000) : Dr S0 C :=
 dSp fun bb => ⟨oBi .append [41, 9] 41 [false, false] [vV sv, vV (.string s)], [], [(b, tX (bk :: Tb))], [tX [bk]], [tD (Buf 1 5 (t.size + s.size) (byteCells t ++ byteCells s))], vW bb, fun _ _ =>
  ls_apX (K := 1) (zv := .int .u8 0) (t := 41) (by kernel_rfl) (infoK (b := 1) (by kernel_rfl) (by kernel_rfl) (by kernel_rfl) (by decide)) rfl false false b bb bk Tb t.size (byteCells t) sv hB (vV (.string s)) [] s.size (byteCells s) (fun E w _ => Src.ofString w (by kernel_rfl) s) hm hle⟩
def dApB (b b2 : Nat) (bk : Blk) (Tb : List Blk) (t : ByteArray) (sv : Value) (hB : Buf 1 5 t.size (byteCells t) sv Tb) (c : Int) (hle : t.size + 1 ≤ 10000000) : Dr S0 C :=
 dSp fun bb => ⟨oBi .append [41, 41] 41 [false, false] [vV sv, vS b2 0 1 1], [], [(b, tX (bk :: Tb)), (b2, tC [vV (.int .u8 c)] 5)], [tX [bk], gap], [tD (Buf 1 5 (t.size + 1) (byteCells t ++ [.int .u8 c]))], vW bb, fun _ _ =>
  ls_apX (K := 1) (zv := .int .u8 0) (t := 41) (by kernel_rfl) (infoK (b := 1) (by kernel_rfl) (by kernel_rfl) (by kernel_rfl) (by decide)) rfl false false b bb bk Tb t.size (byteCells t) sv hB (vS b2 0 1 1) [(b2, tC [vV (.int .u8 c)] 5)] 1 [.int .u8 c] (fun E w h => Src.ofSlice w (e' := 5) (by kernel_rfl) ⟨(E b2).g, 0, none⟩ 1 1 _ rfl (fun j u hu => by
   have hg := h ⟨(E b2).g, .cells #[.int .u8 c] 5 (0, 0)⟩ (by simp [denP, It.den, tC, SV.denC, SV.denA, vV])
   rw [show (⟨(E b2).g, 0, none⟩ : Addr).add j = ⟨(E b2).g, j, none⟩ by simp [Addr.add_lit], cell_at hg, ← hu]) (fun u hu => by
   simp only [List.mem_singleton] at hu
   subst hu
   rfl)) (by omega) hle⟩
theorem bytes_app (t s : ByteArray) : byteCells t ++ byteCells s = byteCells (t ++ s) := by
 unfold byteCells
 rw [show (t ++ s).data.toList = t.data.toList ++ s.data.toList by simp [ByteArray.data_append], List.map_append]
theorem bld_nil {t : ByteArray} (h : t.size = 0) : t = ⟨#[]⟩ := ByteArray.ext (Array.size_eq_zero_iff.1 h)
theorem c_ws (g : Nat) (t s : ByteArray) (hs : 0 < s.size) (hle : t.size + s.size ≤ 10000000) : Ct S0 C 43 [vV (pG g), vV (.string s)] [] [tD (bldD g t)] [gap] [tD (bldD g (t ++ s))] (vT [vV (.int .i64 s.size), vV .nilIface]) := by
 have hz : (t ++ s).size = t.size + s.size := ByteArray.size_append
 have hv2 : ∀ {v1 : Value} {T1 : List Blk}, Buf 1 5 (t ++ s).size (byteCells (t ++ s)) v1 T1 → ∃ g1 n1 cap, v1 = .slice (some ⟨g1, 0, none⟩) n1 cap := by
  intro v1 T1 hv1
  rcases hv1.2 with ⟨h0, -⟩ | ⟨g1, cap, Z, rfl, -⟩
  ·omega
  ·exact ⟨_, _, _, rfl⟩
 refine xIn Tryz.f43 fun E0 w0 hL hC hk => ?_
 refine xOpen (D := bldD g t) 0 fun v0 T0 hv => ?_
 rcases hv with ⟨h0, rfl⟩ | ⟨ht, sv, Tb, rfl, hB⟩
 ·have hB : Buf 1 5 t.size (byteCells t) (.slice none 0 0) [] := by
   rw [bld_nil h0]
   exact buf_nil 1 5
  refine xR 16 [(3, dC (c_copyF g (.slice none 0 0)) [0])] ?_
  refine xR 1 [(0, dLdX 41 0 [bkO g (pG g) (.slice none 0 0)] g 1 [pG g, .slice none 0 0] 87 (.slice none 0 0) (by simp) rfl)] ?_
  refine xR 2 [(1, dApS 0 (bkO g (pG g) (.slice none 0 0)) [] t (.slice none 0 0) hB s hs hle)] ?_
  refine xOpen (D := Buf 1 5 (t.size + s.size) (byteCells t ++ byteCells s)) 1 fun v1 T1 hv1 => ?_
  rw [bytes_app, ← hz] at hv1
  obtain ⟨g1, n1, cap, rfl⟩ := hv2 hv1
  refine xR 3 [(2, dStX 41 0 [] [] g 1 [pG g, .slice none 0 0] 87 (.slice (some ⟨g1, 0, none⟩) n1 cap) (by simp))] ?_
  refine xR 8 [] ?_
  refine xPk (vV (pG g)) [(0, tX [bkO g (pG g) (.slice (some ⟨g1, 0, none⟩) n1 cap)]), (1, tX T1)] (bldD g (t ++ s)) [] [] (fun E _ => ⟨rfl, .inr ⟨by omega, .slice (some ⟨g1, 0, none⟩) n1 cap, T1, ?_, hv1⟩⟩) ?_
  ·show [_] ++ (T1 ++ []) = _
   rw [List.append_nil]
   rfl
  exact (xRetC [2])
 ·refine xR 16 [(3, dC (c_copyU g sv Tb) [0])] ?_
  refine xR 1 [(0, dLdX 41 0 (bkO g (pG g) sv :: Tb) g 1 [pG g, sv] 87 sv (by simp) rfl)] ?_
  refine xR 2 [(1, dApS 0 (bkO g (pG g) sv) Tb t sv hB s hs hle)] ?_
  refine xOpen (D := Buf 1 5 (t.size + s.size) (byteCells t ++ byteCells s)) 1 fun v1 T1 hv1 => ?_
  rw [bytes_app, ← hz] at hv1
  obtain ⟨g1, n1, cap, rfl⟩ := hv2 hv1
  refine xR 3 [(2, dStX 41 0 [] [] g 1 [pG g, sv] 87 (.slice (some ⟨g1, 0, none⟩) n1 cap) (by simp))] ?_
  refine xR 8 [] ?_
  refine xPk (vV (pG g)) [(0, tX [bkO g (pG g) (.slice (some ⟨g1, 0, none⟩) n1 cap)]), (1, tX T1)] (bldD g (t ++ s)) [] [] (fun E _ => ⟨rfl, .inr ⟨by omega, .slice (some ⟨g1, 0, none⟩) n1 cap, T1, ?_, hv1⟩⟩) ?_
  ·show [_] ++ (T1 ++ []) = _
   rw [List.append_nil]
   rfl
  exact (xRetC [2])
abbrev lf : ByteArray := ⟨#[10]⟩
theorem c_wb (g : Nat) (t : ByteArray) (ht : 0 < t.size) (hle : t.size + 1 ≤ 10000000) : Ct S0 C 45 [vV (pG g), vV (.int .u8 10)] [] [tD (bldD g t)] [gap] [tD (bldD g (t ++ lf))] (vV .nilIface) := by
 have hz : (t ++ lf).size = t.size + 1 := ByteArray.size_append
 have hv2 : ∀ {v1 : Value} {T1 : List Blk}, Buf 1 5 (t ++ lf).size (byteCells (t ++ lf)) v1 T1 → ∃ g1 n1 cap, v1 = .slice (some ⟨g1, 0, none⟩) n1 cap := by
  intro v1 T1 hv1
  rcases hv1.2 with ⟨h0, -⟩ | ⟨g1, cap, Z, rfl, -⟩
  ·omega
  ·exact ⟨_, _, _, rfl⟩
 refine xIn Tryz.f45 fun E0 w0 hL hC hk => ?_
 refine xOpen (D := bldD g t) 0 fun v0 T0 hv => ?_
 rcases hv with ⟨h0, rfl⟩ | ⟨-, sv, Tb, rfl, hB⟩
 ·omega
 ·refine xR 15 [(2, dC (c_copyU g sv Tb) [0])] ?_
  refine xR 1 [(0, dLdX 41 0 (bkO g (pG g) sv :: Tb) g 1 [pG g, sv] 87 sv (by simp) rfl)] ?_
  refine xR 3 [(2, dApB 0 1 (bkO g (pG g) sv) Tb t sv hB 10 hle)] ?_
  refine xOpen (D := Buf 1 5 (t.size + 1) (byteCells t ++ [.int .u8 10])) 2 fun v1 T1 hv1 => ?_
  have hv1 : Buf 1 5 (t ++ lf).size (byteCells (t ++ lf)) v1 T1 := by
   rw [← bytes_app, hz]
   exact hv1
  obtain ⟨g1, n1, cap, rfl⟩ := hv2 hv1
  refine xR 3 [(2, dStX 41 0 [] [] g 1 [pG g, sv] 87 (.slice (some ⟨g1, 0, none⟩) n1 cap) (by simp))] ?_
  refine xR 4 [] ?_
  refine xPk (vV (pG g)) [(0, tX [bkO g (pG g) (.slice (some ⟨g1, 0, none⟩) n1 cap)]), (2, tX T1)] (bldD g (t ++ lf)) [] [] (fun E _ => ⟨rfl, .inr ⟨by omega, .slice (some ⟨g1, 0, none⟩) n1 cap, T1, ?_, hv1⟩⟩) ?_
  ·show [_] ++ (T1 ++ []) = _
   rw [List.append_nil]
   rfl
  refine xR 1 [] ?_
  exact (xRetC [3])
def dUD0 : Dr S0 C := dRd (oBi .unsafeSliceData [41] 131 [false] [vV (.slice none 0 0)]) (vV (.pointer none)) fun E w _ _ => rfl
def dUD (g n cap : Nat) (h : cap ≠ 0) : Dr S0 C := dRd (oBi .unsafeSliceData [41] 131 [false] [vV (.slice (some ⟨g, 0, none⟩) n cap)]) (vV (.pointer (some ⟨g, 0, none⟩))) fun E w _ _ => by
 show (do pure (Next.value (← Builtin.unsafeSliceData_ #[41] 131 #[.slice (some ⟨g, 0, none⟩) n cap])) : Sem Next).run Tryz.prog w = _
 simp only [Sem.run_bind, Lib.run_unsafeSliceData_row _ _ _ _ _ _ h, Result.andThen_ok, Sem.run_pure]
 rfl
def dUS0 : Dr S0 C := dRd (oBi .unsafeString [131, 3] 9 [false, false] [vV (.pointer none), vV (.int .i64 0)]) (vV (.string ⟨#[]⟩)) fun E w _ _ => by
 show (do pure (Next.value (← Builtin.unsafeString_ #[131, 3] 9 #[.pointer none, .int .i64 0])) : Sem Next).run Tryz.prog w = _
 simp only [Sem.run_bind, Lib.run_unsafeString_none, Result.andThen_ok, Sem.run_pure]
 rfl
theorem grw_freeze (w : World) (g n : Nat) : Grw w (w.freeze ⟨g, 0, none⟩ n) [g] := by
 unfold World.freeze
 split
 ·exact grw_refl _ _
 ·exact ⟨rfl, rfl, rfl, by simp, fun k hk hr => by
   simp only [Array.getElem?_modify]
   rw [if_neg (fun e => hr (by simp [e]))]⟩
def dUS (b : Nat) (bk : Blk) (g n cap : Nat) (Z : List Value) (t : ByteArray) (h0 : t.size ≠ 0) (hn : n = t.size) (hc : n ≤ cap) (hcm : n ≤ 10000000) (hZ : Z.length = cap) (hZt : Z.take n = byteCells t) : Dr S0 C :=
 dWrX (oBi .unsafeString [131, 3] 9 [false, false] [vV (.pointer (some ⟨g, 0, none⟩)), vV (.int .i64 (n : Int))]) b (bk :: [⟨g, .cells Z.toArray 5 (0, 0)⟩]) [bk] (vV (.string t)) fun E w hL T => by
  subst hn
  have hg : w.heap[g]? = some (.cells Z.toArray 5 (0, 0)) := T.at_ ⟨g, .cells Z.toArray 5 (0, 0)⟩ (by simp)
  have hr := Lib.run_unsafeString_row (P := Tryz.prog) w 131 3 9 5 (by kernel_rfl) (by kernel_rfl) g Z.length (by simp [World.shape?, hg]) t.data.toList (by
    intro h
    apply h0
    show t.data.size = 0
    rw [← Array.length_toList, h]
    rfl) (by rw [Array.length_toList]; show t.size ≤ _; omega) (by rw [Array.length_toList]; show t.size ≤ _; omega) (fun j x hj => by
   have hjl := (List.getElem?_eq_some_iff.1 hj).1
   rw [Array.length_toList] at hjl
   have hjl : j < t.size := hjl
   rw [show (⟨g, 0, none⟩ : Addr).add j = ⟨g, j, none⟩ by simp [Addr.add_lit], cell_at hg]
   have : Z[j]? = (byteCells t)[j]? := by rw [← hZt, List.getElem?_take_of_lt hjl]
   refine Eq.trans ?_ (this.trans ?_)
   ·rfl
   unfold byteCells
   rw [List.getElem?_map, hj]
   rfl)
  rw [Array.length_toList] at hr
  show Fin Tryz.prog ((do pure (Next.value (← Builtin.unsafeString_ #[131, 3] 9 #[.pointer (some ⟨g, 0, none⟩), .int .i64 (t.size : Int)])) : Sem Next).run Tryz.prog w) _
  have e : (do pure (Next.value (← Builtin.unsafeString_ #[131, 3] 9 #[.pointer (some ⟨g, 0, none⟩), .int .i64 (t.size : Int)])) : Sem Next).run Tryz.prog w = .ok (.value (.string t)) (w.freeze ⟨g, 0, none⟩ t.size) := by
   have hr2 : (Builtin.unsafeString_ #[131, 3] 9 #[.pointer (some ⟨g, 0, none⟩), .int .i64 (t.size : Int)]).run Tryz.prog w = .ok (.string t) (w.freeze ⟨g, 0, none⟩ t.size) := hr
   simp only [Sem.run_bind, hr2, Result.andThen_ok, Sem.run_pure]
  rw [e]
  have hne : bk.g ≠ g := by
   have := T.nodup
   simp at this
   exact this
  refine ⟨rfl, (grw_freeze w g t.size).sub (by simp), fun x hx => ?_, by simp, fun x hx => .inl (by simp at hx; simp [hx])⟩
  simp only [List.mem_singleton] at hx
  subst hx
  rw [(grw_freeze w g t.size).block _ (T.lt (by simp)) (by simpa using hne)]
  exact T.at_ _ (by simp)
theorem c_bs (g : Nat) (t : ByteArray) (hle : t.size ≤ 10000000) : Ct S0 C 48 [vV (pG g)] [] [tD (bldD g t)] [gap] [] (vV (.string t)) := by
 refine xIn Tryz.f48 fun E0 w0 hL hC hk => ?_
 refine xOpen (D := bldD g t) 0 fun v0 T0 hv => ?_
 rcases hv with ⟨h0, rfl⟩ | ⟨ht, sv, Tb, rfl, hB⟩
 ·obtain rfl := bld_nil h0
  refine xR 5 [] ?_
  refine xR 1 [(3, dLdX 41 0 [bkO g (.pointer none) (.slice none 0 0)] g 1 [.pointer none, .slice none 0 0] 87 (.slice none 0 0) (by simp) rfl), (4, dUD0), (8, dLdX 41 0 [bkO g (.pointer none) (.slice none 0 0)] g 1 [.pointer none, .slice none 0 0] 87 (.slice none 0 0) (by simp) rfl), (9, dLenV 41 3 none 0 0), (10, dUS0)] ?_
  refine xPk (vV (.bool true)) [(0, tX [bkO g (.pointer none) (.slice none 0 0)])] (fun _ _ => True) [] [] (fun _ _ => ⟨rfl, trivial⟩) ?_
  exact (xRetC [])
 ·rcases hB.2 with ⟨h0, -⟩ | ⟨g1, cap, Z, rfl, hc, hZ, hZt, rfl⟩
  ·omega
  ·rw [Nat.mul_one] at hZ hZt
   refine xR 5 [] ?_
   refine xR 1 [(3, dLdX 41 0 [bkO g (pG g) (.slice (some ⟨g1, 0, none⟩) t.size cap), ⟨g1, .cells Z.toArray 5 (0, 0)⟩] g 1 [pG g, .slice (some ⟨g1, 0, none⟩) t.size cap] 87 (.slice (some ⟨g1, 0, none⟩) t.size cap) (by simp) rfl), (4, dUD g1 t.size cap (by omega)), (8, dLdX 41 0 [bkO g (pG g) (.slice (some ⟨g1, 0, none⟩) t.size cap), ⟨g1, .cells Z.toArray 5 (0, 0)⟩] g 1 [pG g, .slice (some ⟨g1, 0, none⟩) t.size cap] 87 (.slice (some ⟨g1, 0, none⟩) t.size cap) (by simp) rfl), (9, dLenV 41 3 (some ⟨g1, 0, none⟩) t.size cap), (10, dUS 0 (bkO g (pG g) (.slice (some ⟨g1, 0, none⟩) t.size cap)) g1 t.size cap Z t (by omega) rfl hc hle (by omega) hZt)] ?_
   refine xPk (vV (.bool true)) [(0, tX [bkO g (pG g) (.slice (some ⟨g1, 0, none⟩) t.size cap)])] (fun _ _ => True) [] [] (fun _ _ => ⟨rfl, trivial⟩) ?_
   exact (xRetC [])
end Go.Proofs.YtbdgncndhnnjoaaGreatDoor

namespace Go.Proofs.YtbdgncndhnnjoaaGreatDoor
open Go.RowKit YtbdgncndhnnjoaaGreatDoor
set_option linter.unusedVariables false
set_option linter.unusedSimpArgs false
set_option maxHeartbeats 0
set_option maxRecDepth 100000
variable {C : World → Prop}
abbrev sp1 : ByteArray := ⟨#[32]⟩
theorem c_say (l : List ByteArray) (g : Nat) (t : ByteArray) (h0 : 0 < l.length) (hN : l.length ≤ 1000000) (hs : 0 < (Ip.jn l sp1).size) (hle : t.size + (Ip.jn l sp1).size + 1 ≤ 10000000) : Ct S0 C 42 [vW 0, vV (pG g)] [tD (RowD 1 9 strEl l)] [tD (bldD g t)] [gap] [tD (bldD g ((t ++ Ip.jn l sp1) ++ lf))] (vT []) := by
 have k1 := fun C => c_joinD (C := C) l sp1 h0 hN (by
  have : (Ip.jn l sp1).size = (Lib.join (l.map (·.data.toList)) sp1.data.toList).length := by
   show (Lib.join (l.map (·.data.toList)) sp1.data.toList).toArray.size = _
   rw [List.size_toArray]
  omega)
 generalize Ip.jn l sp1 = s at k1 hs hle
 have hz : (t ++ s).size = t.size + s.size := ByteArray.size_append
 have k2 := fun C => c_ws (C := C) g t s hs (by omega)
 have k3 := fun C => c_wb (C := C) g (t ++ s) (by omega) (by omega)
 refine xIn Tryz.f42 fun E0 w0 hL hC hk => ?_
 refine xR 9 [(1, dC (k1 _) [0]), (2, dC (k2 _) [1]), (3, dC (k3 _) [2])] ?_
 exact (xRetC [3])
theorem putCells_eq (l : List (List UInt8)) (Z : List Value) (h : l.length ≤ Z.length) : Go.Sort.putCells encStr 0 l.toArray Z.toArray = (l.map encStr ++ Z.drop l.length).toArray := by
 apply Array.ext_getElem?
 intro k
 simp only [Go.Sort.putCells, Array.getElem?_mapIdx, List.getElem?_toArray, Nat.zero_le, true_and, Nat.zero_add, Nat.sub_zero, List.size_toArray]
 by_cases hk : k < l.length
 ·rw [List.getElem?_append_left (by simpa using hk), List.getElem?_eq_getElem (by omega), List.getElem?_map, List.getElem?_eq_getElem hk]
  simp [hk]
 ·rw [List.getElem?_append_right (by simp; omega), List.getElem?_drop, List.length_map, show l.length + (k - l.length) = k by omega]
  simp only [if_neg hk]
  cases Z[k]? <;> rfl
theorem okT_sorted {P : Program} {S : Seat P} {w : World} {g : Nat} {Z : List Value} (T : There S w [⟨g, .cells Z.toArray 9 (0, 0)⟩]) (d : List (List UInt8)) (h : d.length ≤ Z.length) (n : Nat) (os : Array Obj) : OkT w (Go.Sort.grow (Go.Sort.putRow encStr (Go.Sort.ahead w n) g 0 d.toArray) os) [⟨g, .cells Z.toArray 9 (0, 0)⟩] [⟨g, .cells (d.map encStr ++ Z.drop d.length).toArray 9 (0, 0)⟩] := by
 have hg : w.heap[g]? = some (.cells Z.toArray 9 (0, 0)) := T.at_ ⟨g, .cells Z.toArray 9 (0, 0)⟩ (by simp)
 have hb := heap_sorted (n := n) (os := os) d.toArray hg
 rw [putCells_eq d Z h] at hb
 obtain ⟨h1, h2, h3, h4, h5⟩ := grownBy_sorted (w := w) (g := g) (n := n) (os := os) d.toArray
 refine ⟨⟨h1, h2, h3, h4, fun k hk hr => h5 k hk ?_⟩, fun b hb2 => ?_, by simp, fun b hb2 => .inl ?_⟩
 ·intro e
  apply hr
  simp at e
  simp [e]
 ·simp only [List.mem_singleton] at hb2
  subst hb2
  exact hb
 ·simp only [List.mem_singleton] at hb2
  subst hb2
  simp
theorem take_len {ss : List (List UInt8)} {Z : List Value} (hZ : Z.take ss.length = ss.map encStr) : ss.length ≤ Z.length := by
 have := congrArg List.length hZ
 simp at this
 omega
theorem c_sort (g cap : Nat) (Z : List Value) (ss : List (List UInt8)) (hN : ss.length ≤ 1000000) (hZ : Z.take ss.length = ss.map encStr) : Ct S0 C 76 [vV (.slice (some ⟨g, 0, none⟩) ss.length cap)] [] [tX [⟨g, .cells Z.toArray 9 (0, 0)⟩]] [tX [⟨g, .cells ((ss.mergeSort fun x y => decide (x ≤ y)).map encStr ++ Z.drop (ss.mergeSort fun x y => decide (x ≤ y)).length).toArray 9 (0, 0)⟩]] [] (vT []) :=
 ct_flatW (args := [.slice (some ⟨g, 0, none⟩) ss.length cap]) (fun w hL T => by
  have hg : w.heap[g]? = some (.cells Z.toArray 9 (0, 0)) := T.at_ ⟨g, .cells Z.toArray 9 (0, 0)⟩ (by simp)
  refine (Any.slices_Sort_string Ip.laye190 g 0 cap ss w (holds_of_block hg (by simpa using hZ)) (Array.getElem?_eq_some_iff.1 hg).1 (by omega)).mono ?_
  rintro e w' ⟨rfl, n, os, rfl⟩
  exact ⟨rfl, okT_sorted T _ (by rw [List.length_mergeSort]; exact take_len hZ) n os⟩) (fun _ => rfl) (fun _ => rfl)
theorem c_comp (g cap : Nat) (Z : List Value) (ss : List (List UInt8)) (hN : ss.length ≤ 1000000) (hc : ss.length ≤ cap) (hZ : Z.take ss.length = ss.map encStr) : Ct S0 C 77 [vV (.slice (some ⟨g, 0, none⟩) ss.length cap)] [] [tX [⟨g, .cells Z.toArray 9 (0, 0)⟩]] [tX [⟨g, .cells ((Lib.compactUpTo ss.toArray ss.toArray.size ++ List.replicate (ss.toArray.size - (Lib.compactUpTo ss.toArray ss.toArray.size).length) []).map encStr ++ Z.drop (Lib.compactUpTo ss.toArray ss.toArray.size ++ List.replicate (ss.toArray.size - (Lib.compactUpTo ss.toArray ss.toArray.size).length) []).length).toArray 9 (0, 0)⟩]] [] (vV (.slice (some ⟨g, 0, none⟩) (Lib.compact ss).length cap)) :=
 ct_flatW (args := [.slice (some ⟨g, 0, none⟩) ss.length cap]) (fun w hL T => by
  have hg : w.heap[g]? = some (.cells Z.toArray 9 (0, 0)) := T.at_ ⟨g, .cells Z.toArray 9 (0, 0)⟩ (by simp)
  have := Any.slices_Compact_string_arr Ip.laye194 g 0 cap ss.toArray w (holds_of_block hg (by simpa using hZ)) (by simp; omega) (by simpa using hc)
  rw [List.size_toArray] at this
  refine this.mono ?_
  rintro e w' ⟨rfl, q, rfl⟩
  refine ⟨rfl, ?_⟩
  rw [← Go.Sort.grow_empty (Go.Sort.putRow encStr (Go.Sort.ahead w q) g 0 _)]
  refine okT_sorted T _ ?_ q #[]
  have h1 := take_len hZ
  have h2 : (Lib.compactUpTo ss.toArray ss.toArray.size).length ≤ ss.length := by
   unfold Lib.compactUpTo
   rw [List.length_map]
   exact Nat.le_trans (List.length_filter_le _ _) (by simp)
  simp only [List.length_append, List.length_replicate, List.size_toArray] at h2 ⊢
  omega) (fun _ => rfl) (fun _ => rfl)
end Go.Proofs.YtbdgncndhnnjoaaGreatDoor

namespace Go.Proofs.YtbdgncndhnnjoaaGreatDoor
open Go.RowKit YtbdgncndhnnjoaaGreatDoor
set_option linter.unusedVariables false
set_option linter.unusedSimpArgs false
set_option maxHeartbeats 0
set_option maxRecDepth 100000
variable {C : World → Prop}
abbrev srt (ss : List (List UInt8)) : List (List UInt8) := ss.mergeSort fun x y => decide (x ≤ y)
theorem srt_pw (ss : List (List UInt8)) : (srt ss).Pairwise fun x y => x ≤ y := by
 have := List.pairwise_mergeSort (le := fun x y : List UInt8 => decide (x ≤ y)) (fun a b c h1 h2 => by simp only [decide_eq_true_eq] at *; exact List.le_trans h1 h2) (fun a b => by simp only [Bool.or_eq_true, decide_eq_true_eq]; exact List.le_total a b) ss
 exact this.imp fun h => by simpa using h
theorem cmp_len (zs : List (List UInt8)) : (Lib.compact zs).length = zs.length ↔ ∀ j, j < zs.length → Lib.keeps zs.toArray j = true := by
 unfold Lib.compact Lib.compactUpTo
 rw [List.length_map]
 have h : ((List.range zs.length).filter (Lib.keeps zs.toArray)).length = zs.length ↔ ((List.range zs.length).filter (Lib.keeps zs.toArray)).length = (List.range zs.length).length := by rw [List.length_range]
 rw [h, List.length_filter_eq_length_iff]
 simp only [List.mem_range]
theorem cmp_nodup (ss : List (List UInt8)) : (Lib.compact (srt ss)).length = ss.length ↔ ss.Nodup := by
 have hl : (srt ss).length = ss.length := List.length_mergeSort ss
 have hp : (srt ss).Perm ss := List.mergeSort_perm ss _
 rw [← hp.nodup_iff, ← hl, cmp_len]
 have hs := srt_pw ss
 generalize srt ss = zs at hs
 have e : ∀ i (h : i < zs.length), zs.toArray[i]! = zs[i] := fun i h => by simp [h]
 constructor
 ·intro h
  refine List.pairwise_iff_getElem.2 fun i j hi hj hij heq => ?_
  have h1 := h j hj
  unfold Lib.keeps at h1
  simp only [decide_eq_true_eq] at h1
  rcases h1 with h1 | h1
  ·omega
  ·apply h1
   rw [e j hj, e (j - 1) (by omega)]
   refine List.le_antisymm ?_ ?_
   ·rw [← heq]
    by_cases h2 : i = j - 1
    ·subst h2
     exact List.le_refl _
    ·exact List.pairwise_iff_getElem.1 hs i (j - 1) hi (by omega) (by omega)
   ·exact List.pairwise_iff_getElem.1 hs (j - 1) j (by omega) hj (by omega)
 ·intro h j hj
  unfold Lib.keeps
  simp only [decide_eq_true_eq]
  by_cases h0 : j = 0
  ·exact .inl h0
  ·refine .inr fun heq => ?_
   rw [e j hj, e (j - 1) (by omega)] at heq
   exact List.pairwise_iff_getElem.1 h (j - 1) j (by omega) hj (by omega) heq.symm
theorem cmp_str (l : List ByteArray) : (Lib.compact (srt (l.map (·.data.toList)))).length = l.length ↔ l.Nodup := by
 have := cmp_nodup (l.map (·.data.toList))
 rw [List.length_map] at this
 rw [this]
 constructor
 ·intro h
  exact List.Pairwise.imp (fun hab e => hab (by rw [e])) (List.pairwise_map.1 h)
 ·intro h
  exact List.pairwise_map.2 (List.Pairwise.imp (fun hab e => hab (ByteArray.ext (Array.toList_inj.1 e))) h)
theorem c_len64 : Ct S0 C 152 [vV (.int .u64 0)] [] [] [] [] (vV (.int .i64 0)) := by
 refine xIn Tryz.f152 fun E0 w0 hL hC hk => ?_
 refine xR 38 [] ?_
 exact (xRetC [])
theorem c_len0 : Ct S0 C 109 [vV (.int .u64 0)] [] [] [] [] (vV (.int .i64 0)) := by
 refine xIn Tryz.f109 fun E0 w0 hL hC hk => ?_
 refine xR 13 [(2, dC (c_len64) [])] ?_
 exact (xRetC [])
theorem c_ins0 (a : Option Addr) (cap : Nat) : Ct S0 C 142 [vV (.slice a 0 cap), vV (.int .i64 0), vV (.int .i64 0)] [] [] [] [] (vT []) := by
 refine xIn Tryz.f142 fun E0 w0 hL hC hk => ?_
 refine xR 7 [] ?_
 refine xUn 2 ?_
 refine xR 9 [] ?_
 exact (xRetC [])
theorem c_pdq0 (a : Option Addr) (cap : Nat) : Ct S0 C 108 [vV (.slice a 0 cap), vV (.int .i64 0), vV (.int .i64 0), vV (.int .i64 0)] [] [] [] [] (vT []) := by
 refine xIn Tryz.f108 fun E0 w0 hL hC hk => ?_
 refine xR 9 [] ?_
 refine xUn 2 ?_
 refine xR 22 [(9, dC (c_ins0 a cap) [])] ?_
 exact (xRetC [])
theorem c_sort0 (a : Option Addr) (cap : Nat) : Ct S0 C 76 [vV (.slice a 0 cap)] [] [] [] [] (vT []) := by
 refine xIn Tryz.f76 fun E0 w0 hL hC hk => ?_
 refine xR 14 [(7, dC (c_len0) []), (8, dC (c_pdq0 a cap) [])] ?_
 exact (xRetC [])
theorem c_comp0 (a : Option Addr) (cap : Nat) : Ct S0 C 77 [vV (.slice a 0 cap)] [] [] [] [] (vV (.slice a 0 cap)) := by
 refine xIn Tryz.f77 fun E0 w0 hL hC hk => ?_
 refine xR 17 [] ?_
 exact (xRetC [])
theorem c_nameN (nm : ByteArray) (v : Value) : Ct S0 C 36 [vG [vV (.string nm), vV v]] [] [] [] [] (vV (.string nm)) := by
 refine xIn Tryz.f36 fun E0 w0 hL hC hk => ?_
 refine xR 11 [] ?_
 exact (xRetC [])
theorem c_nameH (nm : ByteArray) (x : Net) : Ct S0 C 40 [vG [vV (.string nm), vV (.bool x.v6), vV (.int .u64 x.hi), vV (.int .u64 x.lo), vV (.int .u8 x.bits)]] [] [] [] [] (vV (.string nm)) := by
 refine xIn Tryz.f40 fun E0 w0 hL hC hk => ?_
 refine xR 11 [] ?_
 exact (xRetC [])
end Go.Proofs.YtbdgncndhnnjoaaGreatDoor

namespace Go.Proofs.YtbdgncndhnnjoaaGreatDoor
open Go.RowKit YtbdgncndhnnjoaaGreatDoor
set_option linter.unusedVariables false
set_option linter.unusedSimpArgs false
set_option maxHeartbeats 0
set_option maxRecDepth 100000
variable {C : World → Prop}
theorem row_open {l : List ByteArray} {v : Value} {T : List Blk} (h : RowD 1 9 strEl l v T) : (l = [] ∧ ∃ a, v = .slice a 0 0 ∧ T = []) ∨ ∃ (g cap : Nat) (Z : List Value), v = .slice (some ⟨g, 0, none⟩) l.length cap ∧ l.length ≤ cap ∧ T = [⟨g, .cells Z.toArray 9 (0, 0)⟩] ∧ Z.take (l.map (·.data.toList)).length = (l.map (·.data.toList)).map encStr := by
 obtain ⟨cs, Tb, Te, hB, hE, rfl⟩ := h
 obtain ⟨rfl, rfl⟩ := els_str hE
 rcases hB.2 with ⟨h0, ⟨a, rfl⟩, rfl⟩ | ⟨g, cap, Z, rfl, hc, hZ, hZt, rfl⟩
 ·exact .inl ⟨List.length_eq_zero_iff.1 h0, a, rfl, rfl⟩
 ·refine .inr ⟨g, cap, Z, rfl, hc, by simp, ?_⟩
  rw [Nat.mul_one] at hZt
  rw [List.length_map, hZt, List.map_map]
  exact List.map_congr_left fun x _ => rfl
theorem c_onceN (T : List Blk) (n : Nat) (nm : Nat → ByteArray) (bs : Nat → Option Addr × Nat) (ln : Nat → Nat) (v : Value) (h : Sl T 2 n (nF nm fun i => .slice (bs i).1 (ln i) (bs i).2) v) (hn : n < 400000) : Ct S0 C 35 [vV v, vF (.func 36) [] []] [tX T] [] [] [] (vV (.bool (decide (txL nm n).Nodup))) := by
 obtain ⟨base, cap, b0, o, rfl, H⟩ := h
 refine xIn Tryz.f35 fun E0 w0 hL hC hk => ?_
 refine xR 16 [] ?_
 refine xPk (vV (.slice none 0 0)) [] (RowD 1 9 strEl (txL nm 0)) [5] [] (fun _ _ => ⟨rfl, row_nil _ _ _⟩) ?_
 refine xLp (fun (x : Nat) => [(10, vV (.int .i64 (x : Int))), (5, vW 1)]) (fun x => [(1, tD (RowD 1 9 strEl (txL nm x)))]) [11, 12, 13, 7, 14, 15, 16, 17, 18, 19, 20] (fun x => x ≤ n) (fun x => n - x) 0 (Nat.zero_le _) fun x d hx g => ?_
 by_cases q1 : (x : Int) < (n : Int)
 ·have q1' : x < n := by omega
  have hl : (txL nm x).length < 500000 := by rw [txL_len]; omega
  have kp : ∀ C, Ct S0 C 36 [vG [vV (.string (nm x)), vV (.slice (bs x).1 (ln x) (bs x).2)]] [] [] [] [] (vV (.string (nm x))) := fun C => c_nameN (C := C) (nm x) (.slice (bs x).1 (ln x) (bs x).2)
  refine xR 30 [(0, dT q1), (1, dIxR 22 H cap x q1'), (2, dLdR 46 0 H x q1'), (8, dC (kp _) []), (10, dApp_strEl (txL nm x) 1 3 (nm x) hl), (12, dW ((↑x : Int) + 1) ((↑(x + 1) : Int)) (by omega) (by omega) (by omega))] ?_
  exact xNx g (x + 1) [11, 12, 13, 7, 14, 15, 16, 17, 18, 19, 20] [0, 4] (by omega) (by omega)
 ·obtain rfl : x = n := by omega
  refine xR 3 [(0, dF q1)] ?_
  refine xOpen (D := RowD 1 9 strEl (txL nm x)) 1 fun v0 T0 hv => ?_
  rcases row_open hv with ⟨h0, a, rfl, rfl⟩ | ⟨g1, cap1, Z, hv0, hc, rfl, hZ⟩
  ·obtain rfl : x = 0 := by rw [← txL_len nm x, h0]; rfl
   refine xR 19 [(1, dC (c_sort0 a 0) []), (3, dC (c_comp0 a 0) [])] ?_
   exact (xRetC [])
  ·have e0 : ((txL nm x).map (·.data.toList)).length = x := by rw [List.length_map, txL_len]
   have e1 : (srt ((txL nm x).map (·.data.toList))).length = x := by rw [List.length_mergeSort, e0]
   have e2 := cmp_str (txL nm x)
   rw [txL_len] at hv0 hc e2
   subst hv0
   have k1 := fun C => c_sort (C := C) g1 cap1 Z _ (by rw [e0]; omega) hZ
   have k2 := fun C => c_comp (C := C) g1 cap1 ((srt ((txL nm x).map (·.data.toList))).map encStr ++ Z.drop (srt ((txL nm x).map (·.data.toList))).length) (srt ((txL nm x).map (·.data.toList))) (by rw [e1]; omega) (by rw [e1]; omega) (by
    rw [List.take_append_of_le_length (by simp), List.take_of_length_le (by simp)])
   rw [e0] at k1
   rw [e1] at k2 k1
   generalize (Lib.compact (srt ((txL nm x).map (·.data.toList)))).length = m at k2 e2
   have e3 : decide ((m : Int) = (x : Int)) = decide (txL nm x).Nodup := decide_eq_decide.2 ⟨fun h => e2.1 (by omega), fun h => by rw [e2.2 h]⟩
   refine xR 19 [(1, dC (k1 _) [1]), (3, dC (k2 _) [1]), (7, dB (iEq ((↑m : Int)) ((↑x : Int))))] ?_
   exact xB (b' := (decide ((↑m : Int) = (↑x : Int)))) e3 (xRetC [])
theorem c_onceH (T : List Blk) (n : Nat) (nm : Nat → ByteArray) (nt : Nat → Net) (v : Value) (h : Sl T 5 n (hF nm nt) v) (hn : n < 400000) : Ct S0 C 39 [vV v, vF (.func 40) [] []] [tX T] [] [] [] (vV (.bool (decide (txL nm n).Nodup))) := by
 obtain ⟨base, cap, b0, o, rfl, H⟩ := h
 refine xIn Tryz.f39 fun E0 w0 hL hC hk => ?_
 refine xR 16 [] ?_
 refine xPk (vV (.slice none 0 0)) [] (RowD 1 9 strEl (txL nm 0)) [5] [] (fun _ _ => ⟨rfl, row_nil _ _ _⟩) ?_
 refine xLp (fun (x : Nat) => [(10, vV (.int .i64 (x : Int))), (5, vW 1)]) (fun x => [(1, tD (RowD 1 9 strEl (txL nm x)))]) [11, 12, 13, 7, 14, 15, 16, 17, 18, 19, 20] (fun x => x ≤ n) (fun x => n - x) 0 (Nat.zero_le _) fun x d hx g => ?_
 by_cases q1 : (x : Int) < (n : Int)
 ·have q1' : x < n := by omega
  have hl : (txL nm x).length < 500000 := by rw [txL_len]; omega
  have kp : ∀ C, Ct S0 C 40 [vG [vV (.string (nm x)), vV (.bool (nt x).v6), vV (.int .u64 (nt x).hi), vV (.int .u64 (nt x).lo), vV (.int .u8 (nt x).bits)]] [] [] [] [] (vV (.string (nm x))) := fun C => c_nameH (C := C) (nm x) (nt x)
  refine xR 30 [(0, dT q1), (1, dIxR 23 H cap x q1'), (2, dLdR 53 0 H x q1'), (8, dC (kp _) []), (10, dApp_strEl (txL nm x) 1 3 (nm x) hl), (12, dW ((↑x : Int) + 1) ((↑(x + 1) : Int)) (by omega) (by omega) (by omega))] ?_
  exact xNx g (x + 1) [11, 12, 13, 7, 14, 15, 16, 17, 18, 19, 20] [0, 4] (by omega) (by omega)
 ·obtain rfl : x = n := by omega
  refine xR 3 [(0, dF q1)] ?_
  refine xOpen (D := RowD 1 9 strEl (txL nm x)) 1 fun v0 T0 hv => ?_
  rcases row_open hv with ⟨h0, a, rfl, rfl⟩ | ⟨g1, cap1, Z, hv0, hc, rfl, hZ⟩
  ·obtain rfl : x = 0 := by rw [← txL_len nm x, h0]; rfl
   refine xR 19 [(1, dC (c_sort0 a 0) []), (3, dC (c_comp0 a 0) [])] ?_
   exact (xRetC [])
  ·have e0 : ((txL nm x).map (·.data.toList)).length = x := by rw [List.length_map, txL_len]
   have e1 : (srt ((txL nm x).map (·.data.toList))).length = x := by rw [List.length_mergeSort, e0]
   have e2 := cmp_str (txL nm x)
   rw [txL_len] at hv0 hc e2
   subst hv0
   have k1 := fun C => c_sort (C := C) g1 cap1 Z _ (by rw [e0]; omega) hZ
   have k2 := fun C => c_comp (C := C) g1 cap1 ((srt ((txL nm x).map (·.data.toList))).map encStr ++ Z.drop (srt ((txL nm x).map (·.data.toList))).length) (srt ((txL nm x).map (·.data.toList))) (by rw [e1]; omega) (by rw [e1]; omega) (by
    rw [List.take_append_of_le_length (by simp), List.take_of_length_le (by simp)])
   rw [e0] at k1
   rw [e1] at k2 k1
   generalize (Lib.compact (srt ((txL nm x).map (·.data.toList)))).length = m at k2 e2
   have e3 : decide ((m : Int) = (x : Int)) = decide (txL nm x).Nodup := decide_eq_decide.2 ⟨fun h => e2.1 (by omega), fun h => by rw [e2.2 h]⟩
   refine xR 19 [(1, dC (k1 _) [1]), (3, dC (k2 _) [1]), (7, dB (iEq ((↑m : Int)) ((↑x : Int))))] ?_
   exact xB (b' := (decide ((↑m : Int) = (↑x : Int)))) e3 (xRetC [])
end Go.Proofs.YtbdgncndhnnjoaaGreatDoor

namespace Go.Proofs.YtbdgncndhnnjoaaGreatDoor
open Go.RowKit YtbdgncndhnnjoaaGreatDoor
set_option linter.unusedVariables false
set_option linter.unusedSimpArgs false
set_option maxHeartbeats 0
set_option maxRecDepth 100000
variable {C : World → Prop}
theorem allN_le {lo n : Nat} {p : Nat → Bool} (h : allN lo n p = true) : n ≤ 64 := by
 unfold allN at h
 simp only [Bool.and_eq_true, decide_eq_true_eq] at h
 exact h.2.1
structure NmM (T : List Blk) where
 y : Option Addr × Nat
 n : Nat
 m : Nat → ByteArray
 b : Nat → Option Addr × Nat
 l : Nat → Nat
 w : Nat → Nat → ByteArray
 h : Sl T 2 n (nF m fun i => .slice (b i).1 (l i) (b i).2) (slc y n)
 s : ∀ i, i < n → Sl T 1 (l i) (fun j _ => .string (w i j)) (.slice (b i).1 (l i) (b i).2)
 k : n < 1000000
def NmM.may {T : List Blk} (x : NmM T) : Bool := allN 0 x.n fun i => (labF (x.m i) && allN 1 (x.l i) fun j => labF (x.w i j))
structure PoM (T : List Blk) where
 g : NmM T
 t : NmM T
 hy : Option Addr × Nat
 hn : Nat
 hm : Nat → ByteArray
 ht : Nat → Net
 hh : Sl T 5 hn (hF hm ht) (slc hy hn)
 hb : ∀ i, i < hn → 0 ≤ (ht i).bits ∧ (ht i).bits ≤ 255
 hk : hn < 1000000
 ay : Option Addr × Nat
 an : Nat
 a : Nat → AcM T
 ah : Sl T 4 an (acN a) (slc ay an)
def PoM.tl {T : List Blk} (p : PoM T) : Tl T (slc p.g.y p.g.n) (slc p.t.y p.t.n) (slc p.hy p.hn) := ⟨p.g.n, p.t.n, p.hn, p.g.m, p.t.m, p.hm, _, _, p.ht, p.g.h, p.t.h, p.hh, p.g.k, p.t.k, p.hk⟩
def PoM.may {T : List Blk} (p : PoM T) : Bool :=
 p.g.may && (decide (txL p.g.m p.g.n).Nodup && (p.t.may && (decide (txL p.t.m p.t.n).Nodup && (allN 0 p.hn (fun i => (labF (p.hm i) && Ip.mP (p.ht i).v6 (p.ht i).hi (p.ht i).lo (p.ht i).bits)) && (decide (txL p.hm p.hn).Nodup && allN 0 p.an fun i => acmB p.tl (p.a i))))))
abbrev PoM.vs {T : List Blk} (p : PoM T) : List SV := [vV (slc p.g.y p.g.n), vV (slc p.t.y p.t.n), vV (slc p.hy p.hn), vV (slc p.ay p.an)]
theorem c_mayBe (T : List Blk) (p : PoM T) : Ct S0 C 17 [vG p.vs] [tX T] [] [] [] (vV (.bool p.may)) := by
 have k1 := fun C => c_allN (C := C) T p.g.n p.g.m p.g.b _ p.g.l p.g.w 0 p.g.h p.g.s
 have k2 := fun (h : p.g.n < 400000) C => c_onceN (C := C) T p.g.n p.g.m p.g.b p.g.l _ p.g.h h
 have k3 := fun C => c_allN (C := C) T p.t.n p.t.m p.t.b _ p.t.l p.t.w 0 p.t.h p.t.s
 have k4 := fun (h : p.t.n < 400000) C => c_onceN (C := C) T p.t.n p.t.m p.t.b p.t.l _ p.t.h h
 have k5 := fun C => c_allH (C := C) T p.hn p.hm p.ht _ 0 p.hh p.hb
 have k6 := fun (h : p.hn < 400000) C => c_onceH (C := C) T p.hn p.hm p.ht _ p.hh h
 have k7 := fun C => c_allA (C := C) T p.g.y p.t.y p.hy p.ay p.g.n p.t.n p.hn p.an p.tl p.an p.a _ 0 p.ah
 have j1 := fun (h : p.g.may = true) => (show p.g.n < 400000 from Nat.lt_of_le_of_lt (allN_le h) (by decide))
 have j3 := fun (h : p.t.may = true) => (show p.t.n < 400000 from Nat.lt_of_le_of_lt (allN_le h) (by decide))
 have j5 := fun (h : allN 0 p.hn (fun i => (labF (p.hm i) && Ip.mP (p.ht i).v6 (p.ht i).hi (p.ht i).lo (p.ht i).bits)) = true) => (show p.hn < 400000 from Nat.lt_of_le_of_lt (allN_le h) (by decide))
 unfold PoM.may
 change ∀ C, Ct S0 C 33 _ _ _ _ _ (vV (.bool p.g.may)) at k1
 change ∀ C, Ct S0 C 33 _ _ _ _ _ (vV (.bool p.t.may)) at k3
 generalize p.g.may = r1 at k1 j1 ⊢
 generalize decide (txL p.g.m p.g.n).Nodup = r2 at k2 ⊢
 generalize p.t.may = r3 at k3 j3 ⊢
 generalize decide (txL p.t.m p.t.n).Nodup = r4 at k4 ⊢
 generalize allN 0 p.hn (fun i => (labF (p.hm i) && Ip.mP (p.ht i).v6 (p.ht i).hi (p.ht i).lo (p.ht i).bits)) = r5 at k5 j5 ⊢
 generalize decide (txL p.hm p.hn).Nodup = r6 at k6 ⊢
 generalize allN 0 p.an (fun i => acmB p.tl (p.a i)) = r7 at k7 ⊢
 cases r1
 ·rw [Bool.false_and]
  refine xIn Tryz.f17 fun E0 w0 hL hC hk => ?_
  refine xR 48 [(6, dC (k1 _) [0])] ?_
  exact (xRetC [])
 ·rw [Bool.true_and]
  specialize k2 (j1 rfl)
  cases r2
  ·rw [Bool.false_and]
   refine xIn Tryz.f17 fun E0 w0 hL hC hk => ?_
   refine xR 48 [(6, dC (k1 _) [0]), (10, dC (k2 _) [0])] ?_
   exact (xRetC [])
  ·rw [Bool.true_and]
   cases r3
   ·rw [Bool.false_and]
    refine xIn Tryz.f17 fun E0 w0 hL hC hk => ?_
    refine xR 48 [(6, dC (k1 _) [0]), (10, dC (k2 _) [0]), (15, dC (k3 _) [0])] ?_
    exact (xRetC [])
   ·rw [Bool.true_and]
    specialize k4 (j3 rfl)
    cases r4
    ·rw [Bool.false_and]
     refine xIn Tryz.f17 fun E0 w0 hL hC hk => ?_
     refine xR 48 [(6, dC (k1 _) [0]), (10, dC (k2 _) [0]), (15, dC (k3 _) [0]), (20, dC (k4 _) [0])] ?_
     exact (xRetC [])
    ·rw [Bool.true_and]
     cases r5
     ·rw [Bool.false_and]
      refine xIn Tryz.f17 fun E0 w0 hL hC hk => ?_
      refine xR 48 [(6, dC (k1 _) [0]), (10, dC (k2 _) [0]), (15, dC (k3 _) [0]), (20, dC (k4 _) [0]), (25, dC (k5 _) [0])] ?_
      exact (xRetC [])
     ·rw [Bool.true_and]
      specialize k6 (j5 rfl)
      cases r6
      ·rw [Bool.false_and]
       refine xIn Tryz.f17 fun E0 w0 hL hC hk => ?_
       refine xR 48 [(6, dC (k1 _) [0]), (10, dC (k2 _) [0]), (15, dC (k3 _) [0]), (20, dC (k4 _) [0]), (25, dC (k5 _) [0]), (30, dC (k6 _) [0])] ?_
       exact (xRetC [])
      ·rw [Bool.true_and]
       refine xIn Tryz.f17 fun E0 w0 hL hC hk => ?_
       refine xR 48 [(6, dC (k1 _) [0]), (10, dC (k2 _) [0]), (15, dC (k3 _) [0]), (20, dC (k4 _) [0]), (25, dC (k5 _) [0]), (30, dC (k6 _) [0]), (36, dC (k7 _) [0, 1])] ?_
       exact (xRetC [])
end Go.Proofs.YtbdgncndhnnjoaaGreatDoor

namespace Go.Proofs.YtbdgncndhnnjoaaGreatDoor
open Go.RowKit YtbdgncndhnnjoaaGreatDoor
set_option linter.unusedVariables false
set_option linter.unusedSimpArgs false
set_option maxHeartbeats 0
set_option maxRecDepth 100000
variable {C : World → Prop}
theorem txL_get (f : Nat → ByteArray) : ∀ (n j : Nat), j < n → (txL f n)[j]? = some (f j)
 | n + 1, j, h => by
  rw [txL]
  by_cases h2 : j < n
  ·rw [List.getElem?_append_left (by rw [txL_len]; exact h2)]
   exact txL_get f n j h2
  ·obtain rfl : j = n := by omega
   rw [List.getElem?_append_right (by rw [txL_len]; exact Nat.le_refl _), txL_len, Nat.sub_self]
   rfl
theorem slo_src {T : List Blk} {n : Nat} {f : Nat → ByteArray} {base : Option Addr} {cap b0 o : Nat} (H : SlO T 1 n (fun j _ => .string (f j)) base b0 o) (h0 : 0 < n) {w : World} (hT : ∀ b ∈ T, w.heap[b.g]? = some b.Z) : Src Tryz.prog 1 44 (.slice base n cap) n ((txL f n).map Value.string) w := by
 obtain ⟨rfl, Z, e, fr, hm, hz⟩ := H h0
 refine Src.ofSlice w (e' := 9) (by kernel_rfl) ⟨b0, o, none⟩ n cap _ (by simp [txL_len]) (fun j u hu => ?_) (fun u hu => ?_)
 ·have hj : j < n := by
   have := (List.getElem?_eq_some_iff.1 hu).1
   simpa [txL_len] using this
  rw [List.getElem?_map, txL_get f n j hj] at hu
  cases hu
  have hg := hT _ hm
  rw [show (⟨b0, o, none⟩ : Addr).add j = ⟨b0, o + j, none⟩ by simp [Addr.add_lit], cell_atR hg]
  have := hz j 0 hj (by omega)
  rwa [Nat.mul_one, Nat.add_zero] at this
 ·obtain ⟨s, -, rfl⟩ := List.mem_map.1 hu
  rfl
theorem els_of (l : List ByteArray) : Els strEl 1 l (l.map Value.string) [] := by
 induction l with
 | nil => exact ⟨rfl, rfl⟩
 | cons x l ih => exact ⟨[.string x], _, [], [], rfl, rfl, rfl, ⟨rfl, rfl⟩, ih⟩
theorem ls_apM {S : Seat Tryz.prog} {b b1 b2 : Nat} {l : List ByteArray} {T : List Blk} {n : Nat} {f : Nat → ByteArray} {base : Option Addr} {cap b0 o : Nat} (H : SlO T 1 n (fun j _ => .string (f j)) base b0 o) (h0 : 0 < n) (hle : l.length + n ≤ 1000000) :
  LS S C (oBi .append [44, 44] 44 [false, false] [vW b1, vV (.slice base n cap)]).sem [(b2, tX T), (b1, tD (RowD 1 9 strEl l))] (newAt b 1) (vW b) ([(b2, tX T), (b1, gap)] ++ [(b, tD (RowD 1 9 strEl (l ++ txL f n)))]) := by
 intro E w hL hC Th hok
 have ho1 : RowD 1 9 strEl l (E b1).v (E b1).T := hok (b1, tD (RowD 1 9 strEl l)) (by simp)
 obtain ⟨cs, Tb, Te, hB, hE, hT⟩ := ho1
 obtain ⟨hcs, hTe⟩ := els_str hE
 subst hTe
 rw [List.append_nil] at hT
 have hden : denP E [(b2, tX T), (b1, tD (RowD 1 9 strEl l))] = T ++ Tb := by
  show T ++ ((E b1).T ++ []) = _
  rw [hT, List.append_nil]
 rw [hden] at Th ⊢
 obtain ⟨v', T', w', hr, hB', hT'⟩ := buf_appX (ty := 44) (t := 44) (zv := .string ⟨#[]⟩) (by kernel_rfl) (infoK (P := Tryz.prog) (b := 16) (by kernel_rfl) (by kernel_rfl) (by kernel_rfl) (by decide)) rfl hB (fun z hz => Th.at_ z (by simp [hz])) (slo_src (cap := cap) H h0 (w := w) fun z hz => Th.at_ z (by simp [hz])) h0 (by omega)
 have hrun : ((oBi .append [44, 44] 44 [false, false] [vW b1, vV (.slice base n cap)]).sem E).run Tryz.prog w = .ok (.value v') w' := by
  show (do pure (Next.value (← Builtin.append_ #[44, 44] 44 #[(E b1).v, .slice base n cap])) : Sem Next).run Tryz.prog w = _
  simp only [Sem.run_bind, hr, Result.andThen_ok, Sem.run_pure]
 rw [hrun]
 let E' : Nat → Ent := fun i => bif Nat.beq i b then ⟨0, v', T', buf_one hB'⟩ else E i
 have hb : E' b = ⟨0, v', T', buf_one hB'⟩ := by
  have : Nat.beq b b = true := nbeq.2 rfl
  simp only [E', this, cond_true]
 refine ⟨E', fun i hi => ?_, ?_, ?_, ?_⟩
 ·have : Nat.beq i b = false := by
   cases h : Nat.beq i b with
   | false => rfl
   | true =>
    have h2 : newAt b 1 b = true := by simp [newAt, Nat.blt_eq]
    rw [nbeq.1 h, h2] at hi
    cases hi
  simp only [E', this, cond_false]
 ·intro p hp
  simp only [List.cons_append, List.nil_append, List.mem_cons, List.mem_nil_iff, or_false] at hp
  rcases hp with rfl | rfl | rfl
  ·exact trivial
  ·exact trivial
  ·show RowD 1 9 strEl (l ++ txL f n) (E' b).v (E' b).T
   rw [hb]
   refine ⟨_, T', [], by rw [List.length_append, txL_len]; exact hB', ?_, by rw [List.append_nil]⟩
   rw [hcs, ← List.map_append]
   exact els_of _
 ·show v' = (E' b).v
  rw [hb]
 ·have hd2 : denP E' ([(b2, tX T), (b1, gap)] ++ [(b, tD (RowD 1 9 strEl (l ++ txL f n)))]) = T ++ T' := by
   show T ++ ([] ++ ((E' b).T ++ [])) = _
   rw [hb, List.append_nil]
   rfl
  rw [hd2]
  have T2 : There S w (Tb ++ T) := Th.perm List.perm_append_comm
  have M := (Mem.start hL T2).step hT'
  exact M.okT.perm List.perm_append_comm List.perm_append_comm
def dAppM (l : List ByteArray) {T : List Blk} {n : Nat} {f : Nat → ByteArray} {base : Option Addr} {b0 o : Nat} (H : SlO T 1 n (fun j _ => .string (f j)) base b0 o) (cap b1 b2 : Nat) (h0 : 0 < n) (hle : l.length + n ≤ 1000000) : Dr S0 C :=
 dSp fun b => ⟨oBi .append [44, 44] 44 [false, false] [vW b1, vV (.slice base n cap)], [(b2, tX T)], [(b1, tD (RowD 1 9 strEl l))], [gap], [tD (RowD 1 9 strEl (l ++ txL f n))], vW b, fun _ _ => ls_apM H h0 hle⟩
def catL (f : Nat → List ByteArray) : Nat → ByteArray → ByteArray
 | 0, t => t
 | k + 1, t => (catL f k t ++ Ip.jn (f k) sp1) ++ lf
theorem catL_size (f : Nat → List ByteArray) (k : Nat) (t : ByteArray) : (catL f (k + 1) t).size = (catL f k t).size + (Ip.jn (f k) sp1).size + 1 := by
 rw [catL, ByteArray.size_append, ByteArray.size_append]
 rfl
theorem catL_mono (f : Nat → List ByteArray) (t : ByteArray) {k n : Nat} (h : k ≤ n) : (catL f k t).size ≤ (catL f n t).size := by
 induction n with
 | zero => rw [Nat.le_zero.1 h]; exact Nat.le_refl _
 | succ n ih =>
  by_cases e : k = n + 1
  ·rw [e]; exact Nat.le_refl _
  ·have := ih (by omega)
   rw [catL_size]
   omega
theorem catL_step (f : Nat → List ByteArray) (t : ByteArray) {k n : Nat} (h : k < n) (hs : (catL f n t).size ≤ 10000000) : (catL f k t).size + (Ip.jn (f k) sp1).size + 1 ≤ 10000000 := by
 have := catL_mono f t h
 rw [catL_size] at this
 omega
end Go.Proofs.YtbdgncndhnnjoaaGreatDoor

namespace Go.Proofs.YtbdgncndhnnjoaaGreatDoor
open Go.RowKit YtbdgncndhnnjoaaGreatDoor
set_option linter.unusedVariables false
set_option linter.unusedSimpArgs false
set_option maxHeartbeats 0
set_option maxRecDepth 100000
variable {C : World → Prop}
abbrev wEq : ByteArray := ⟨#[61]⟩
def nmLn {T : List Blk} (x : NmM T) (lit : ByteArray) (i : Nat) : List ByteArray := [lit, x.m i, wEq] ++ txL (x.w i) (x.l i)
def hsLn {T : List Blk} (p : PoM T) (i : Nat) : List ByteArray := [wH, p.hm i, wEq, Ip.ptx (p.ht i).v6 (p.ht i).hi (p.ht i).lo (p.ht i).bits]
def PoM.t1 {T : List Blk} (p : PoM T) : ByteArray := catL (nmLn p.g wG) p.g.n ⟨#[]⟩
def PoM.t2 {T : List Blk} (p : PoM T) : ByteArray := catL (nmLn p.t wT) p.t.n p.t1
def PoM.t3 {T : List Blk} (p : PoM T) : ByteArray := catL (hsLn p) p.hn p.t2
def PoM.txt {T : List Blk} (p : PoM T) : ByteArray := catL (fun i => acW (p.a i)) p.an p.t3
theorem jn_pos {l : List ByteArray} {x : ByteArray} {r : List ByteArray} (h : l = x :: r) (hx : 0 < x.size) : 0 < (Ip.jn l sp1).size := by
 subst h
 have : (Ip.jn (x :: r) sp1).size = (Lib.join ((x :: r).map (·.data.toList)) sp1.data.toList).length := by
  show (Lib.join ((x :: r).map (·.data.toList)) sp1.data.toList).toArray.size = _
  rw [List.size_toArray]
 rw [this, List.map_cons, Lib.join_cons, List.length_append, Array.length_toList]
 have : 0 < x.data.size := hx
 omega
theorem acW_cons {T : List Blk} (a : AcM T) : ∃ r, acW a = wA :: r := by
 unfold acW acL
 split
 ·exact ⟨_, rfl⟩
 ·exact ⟨_, rfl⟩
theorem acW_len {T : List Blk} (a : AcM T) (h : acB a) : (acW a).length ≤ 1000000 := by
 obtain ⟨-, -, -, h1, h2, h3⟩ := h
 unfold acW acL
 split
 ·simp [txL_len]; omega
 ·simp [txL_len]; omega
theorem c_say4 (a b c e : ByteArray) (g : Nat) (t : ByteArray) (hs : 0 < (Ip.jn [a, b, c, e] sp1).size) (hle : t.size + (Ip.jn [a, b, c, e] sp1).size + 1 ≤ 10000000) : Ct S0 C 42 [vS 0 0 4 4, vV (pG g)] [] [tC [vV (.string a), vV (.string b), vV (.string c), vV (.string e)] 9, tD (bldD g t)] [gap, gap] [tD (bldD g ((t ++ Ip.jn [a, b, c, e] sp1) ++ lf))] (vT []) := by
 have k1 := fun C => c_joinD (C := C) [a, b, c, e] sp1 (by simp) (by simp) (by
  have : (Ip.jn [a, b, c, e] sp1).size = (Lib.join ([a, b, c, e].map (·.data.toList)) sp1.data.toList).length := by
   show (Lib.join ([a, b, c, e].map (·.data.toList)) sp1.data.toList).toArray.size = _
   rw [List.size_toArray]
  omega)
 obtain ⟨l, hl⟩ : ∃ l, l = [a, b, c, e] := ⟨_, rfl⟩
 have hD : ∀ (E : Nat → Ent), RowD 1 9 strEl l (.slice (some ⟨(E 0).g, 0, none⟩) 4 4) [⟨(E 0).g, .cells ([a, b, c, e].map Value.string).toArray 9 (0, 0)⟩] := fun E => by rw [hl]; exact row_str [a, b, c, e] (E 0).g (by simp)
 rw [← hl] at k1 hs hle ⊢
 generalize Ip.jn l sp1 = s at k1 hs hle ⊢
 have hz : (t ++ s).size = t.size + s.size := ByteArray.size_append
 have k2 := fun C => c_ws (C := C) g t s hs (by omega)
 have k3 := fun C => c_wb (C := C) g (t ++ s) (by omega) (by omega)
 refine xIn Tryz.f42 fun E0 w0 hL hC hk => ?_
 refine xPk (vS 0 0 4 4) [(0, tC [vV (.string a), vV (.string b), vV (.string c), vV (.string e)] 9)] (RowD 1 9 strEl l) [0] [] (fun E _ => ⟨rfl, hD E⟩) ?_
 refine xR 9 [(1, dC (k1 _) [2]), (2, dC (k2 _) [1]), (3, dC (k3 _) [3])] ?_
 exact (xRetC [4])
theorem sl_slO {T : List Blk} {K n : Nat} {F : Nat → Nat → Value} {b : Option Addr} {c : Nat} (h : Sl T K n F (.slice b n c)) : ∃ g o, SlO T K n F b g o := by
 obtain ⟨base, cap, g, o, e, H⟩ := h
 cases e
 exact ⟨g, o, H⟩
theorem c_textOf (T : List Blk) (p : PoM T) (hg : ∀ i, i < p.g.n → 0 < p.g.l i ∧ p.g.l i ≤ 900000) (ht : ∀ i, i < p.t.n → 0 < p.t.l i ∧ p.t.l i ≤ 900000) (ha : ∀ i, i < p.an → acB (p.a i)) (han : p.an < 1000000) (hs : p.txt.size ≤ 10000000) : Ct S0 C 18 [vG p.vs] [tX T] [] [] [] (vV (.string p.txt)) := by
 have s3 : p.t3.size ≤ 10000000 := Nat.le_trans (catL_mono (fun i => acW (p.a i)) p.t3 (Nat.zero_le p.an)) hs
 have s2 : p.t2.size ≤ 10000000 := Nat.le_trans (catL_mono (hsLn p) p.t2 (Nat.zero_le p.hn)) s3
 have s1 : p.t1.size ≤ 10000000 := Nat.le_trans (catL_mono (nmLn p.t wT) p.t1 (Nat.zero_le p.t.n)) s2
 obtain ⟨g1, o1, H1⟩ := sl_slO p.g.h
 obtain ⟨g2, o2, H2⟩ := sl_slO p.t.h
 obtain ⟨g3, o3, H3⟩ := sl_slO p.hh
 obtain ⟨g4, o4, H4⟩ := sl_slO p.ah
 have b1 := p.g.k
 have b2 := p.t.k
 have b3 := p.hk
 refine xIn Tryz.f18 fun E0 w0 hL hC hk => ?_
 refine xR 8 [] ?_
 refine xPk (vP 2 0) [(2, tC [vV (.pointer none), vV (.slice none 0 0)] 87)] (fun v T => ∃ g, v = pG g ∧ T = [bkO g (.pointer none) (.slice none 0 0)]) [3] [] (fun E _ => ⟨rfl, (E 2).g, rfl, rfl⟩) ?_
 refine xOpen (D := fun v T => ∃ g, v = pG g ∧ T = [bkO g (.pointer none) (.slice none 0 0)]) 3 fun v0 T0 hv => ?_
 obtain ⟨gb, rfl, rfl⟩ := hv
 refine xPk (vV (.bool true)) [(3, tX [bkO gb (.pointer none) (.slice none 0 0)])] (bldD gb ⟨#[]⟩) [] [] (fun E _ => ⟨rfl, .inl ⟨rfl, rfl⟩⟩) ?_
 refine xR 15 [] ?_
 refine xLp (fun (x : Nat) => [(17, vV (.int .i64 (x : Int)))]) (fun x => [(4, tD (bldD gb (catL (nmLn p.g wG) x ⟨#[]⟩)))]) [18, 19, 20, 6, 21, 22, 23, 24, 25, 26, 27, 28, 29] (fun x => x ≤ p.g.n) (fun x => p.g.n - x) 0 (Nat.zero_le _) fun x d hx g => ?_
 by_cases q1 : (x : Int) < (p.g.n : Int)
 ·have q1' : x < p.g.n := by omega
  obtain ⟨g5, o5, H5⟩ := sl_slO (p.g.s x q1')
  obtain ⟨hl1, hl2⟩ := hg x q1'
  have k1 := fun C => c_say (C := C) (nmLn p.g wG x) gb (catL (nmLn p.g wG) x ⟨#[]⟩) (by simp [nmLn]) (by simp [nmLn, txL_len]; omega) (jn_pos (x := wG) rfl (by decide)) (catL_step _ _ q1' s1)
  refine xR 17 [(0, dT q1), (1, dIxR 22 H1 p.g.y.2 x q1'), (2, dLdR 46 0 H1 x q1')] ?_
  refine xR 6 [] ?_
  refine xPk (vS 6 0 3 3) [(6, tC [vV (.string wG), vV (.string (p.g.m x)), vV (.string wEq)] 9)] (RowD 1 9 strEl [wG, p.g.m x, wEq]) [24] [] (fun E _ => ⟨rfl, row_str [wG, p.g.m x, wEq] (E 6).g (by simp)⟩) ?_
  refine xR 1 [(0, dAppM [wG, p.g.m x, wEq] H5 (p.g.b x).2 7 0 hl1 (by simp; omega))] ?_
  refine xR 7 [(0, dC (k1 _) [8, 4]), (1, dW ((↑x : Int) + 1) ((↑(x + 1) : Int)) (by omega) (by omega) (by omega))] ?_
  exact xNx g (x + 1) [18, 19, 20, 6, 21, 22, 23, 24, 25, 26, 27, 28, 29] [0, 1, 2, 3, 9] (by omega) (by omega)
 ·obtain rfl : x = p.g.n := by omega
  refine xR 16 [(0, dF q1)] ?_
  refine xLp (fun (x : Nat) => [(33, vV (.int .i64 (x : Int)))]) (fun x => [(4, tD (bldD gb (catL (nmLn p.t wT) x p.t1)))]) [34, 35, 36, 8, 37, 38, 39, 40, 41, 42, 43, 44, 45] (fun x => x ≤ p.t.n) (fun x => p.t.n - x) 0 (Nat.zero_le _) fun x d hx g => ?_
  by_cases q2 : (x : Int) < (p.t.n : Int)
  ·have q2' : x < p.t.n := by omega
   obtain ⟨g5, o5, H5⟩ := sl_slO (p.t.s x q2')
   obtain ⟨hl1, hl2⟩ := ht x q2'
   have k1 := fun C => c_say (C := C) (nmLn p.t wT x) gb (catL (nmLn p.t wT) x p.t1) (by simp [nmLn]) (by simp [nmLn, txL_len]; omega) (jn_pos (x := wT) rfl (by decide)) (catL_step _ _ q2' s2)
   refine xR 17 [(0, dT q2), (1, dIxR 22 H2 p.t.y.2 x q2'), (2, dLdR 46 0 H2 x q2')] ?_
   refine xR 6 [] ?_
   refine xPk (vS 6 0 3 3) [(6, tC [vV (.string wT), vV (.string (p.t.m x)), vV (.string wEq)] 9)] (RowD 1 9 strEl [wT, p.t.m x, wEq]) [40] [] (fun E _ => ⟨rfl, row_str [wT, p.t.m x, wEq] (E 6).g (by simp)⟩) ?_
   refine xR 1 [(0, dAppM [wT, p.t.m x, wEq] H5 (p.t.b x).2 7 0 hl1 (by simp; omega))] ?_
   refine xR 7 [(0, dC (k1 _) [8, 4]), (1, dW ((↑x : Int) + 1) ((↑(x + 1) : Int)) (by omega) (by omega) (by omega))] ?_
   exact xNx g (x + 1) [34, 35, 36, 8, 37, 38, 39, 40, 41, 42, 43, 44, 45] [0, 1, 2, 3, 9] (by omega) (by omega)
  ·obtain rfl : x = p.t.n := by omega
   refine xR 16 [(0, dF q2)] ?_
   refine xLp (fun (x : Nat) => [(49, vV (.int .i64 (x : Int)))]) (fun x => [(4, tD (bldD gb (catL (hsLn p) x p.t2)))]) [50, 51, 52, 10, 53, 54, 55, 56, 57, 58, 59, 60, 61] (fun x => x ≤ p.hn) (fun x => p.hn - x) 0 (Nat.zero_le _) fun x d hx g => ?_
   by_cases q3 : (x : Int) < (p.hn : Int)
   ·have q3' : x < p.hn := by omega
    have k2 := fun C => c_prefixText (C := C) (p.ht x) (p.hb x q3').1 (p.hb x q3').2
    have k1 := fun C => c_say4 (C := C) wH (p.hm x) wEq (Ip.ptx (p.ht x).v6 (p.ht x).hi (p.ht x).lo (p.ht x).bits) gb (catL (hsLn p) x p.t2) (jn_pos (x := wH) rfl (by decide)) (catL_step (hsLn p) _ q3' s3)
    refine xR 22 [(0, dT q3), (1, dIxR 23 H3 p.hy.2 x q3'), (2, dLdR 53 0 H3 x q3'), (10, dC (k2 _) []), (12, dC (k1 _) [6, 4]), (13, dW ((↑x : Int) + 1) ((↑(x + 1) : Int)) (by omega) (by omega) (by omega))] ?_
    exact xNx g (x + 1) [50, 51, 52, 10, 53, 54, 55, 56, 57, 58, 59, 60, 61] [0, 1, 2, 3, 7] (by omega) (by omega)
   ·obtain rfl : x = p.hn := by omega
    refine xR 16 [(0, dF q3)] ?_
    refine xLp (fun (x : Nat) => [(65, vV (.int .i64 (x : Int)))]) (fun x => [(4, tD (bldD gb (catL (fun i => acW (p.a i)) x p.t3)))]) [66, 67, 68, 12, 69, 70, 71, 72, 73] (fun x => x ≤ p.an) (fun x => p.an - x) 0 (Nat.zero_le _) fun x d hx g => ?_
    by_cases q4 : (x : Int) < (p.an : Int)
    ·have q4' : x < p.an := by omega
     have k2 := fun C => c_aclWords (C := C) T (p.a x) (ha x q4')
     obtain ⟨r, hr⟩ := acW_cons (p.a x)
     have hl : (acW (p.a x)).length ≤ 1000000 := acW_len (p.a x) (ha x q4')
     have k1 := fun C => c_say (C := C) (acW (p.a x)) gb (catL (fun i => acW (p.a i)) x p.t3) (by rw [hr]; simp) hl (jn_pos (x := wA) hr (by decide)) (catL_step (fun i => acW (p.a i)) _ q4' hs)
     refine xR 27 [(0, dT q4), (1, dIxR 24 H4 p.ay.2 x q4'), (2, dLdR 57 0 H4 x q4'), (7, dC (k2 _) [0]), (8, dC (k1 _) [6, 4]), (9, dW ((↑x : Int) + 1) ((↑(x + 1) : Int)) (by omega) (by omega) (by omega))] ?_
     exact xNx g (x + 1) [66, 67, 68, 12, 69, 70, 71, 72, 73] [0, 1, 2, 3, 7] (by omega) (by omega)
    ·obtain rfl : x = p.an := by omega
     have k3 : ∀ C, Ct S0 C 48 [vV (pG gb)] [] [tD (bldD gb (catL (fun i => acW (p.a i)) p.an p.t3))] [gap] [] (vV (.string p.txt)) := fun C => c_bs (C := C) gb p.txt hs
     refine xR 12 [(0, dF q4), (1, dC (k3 _) [4])] ?_
     exact (xRetC [])
end Go.Proofs.YtbdgncndhnnjoaaGreatDoor

namespace Go.Proofs.YtbdgncndhnnjoaaGreatDoor
open Go.RowKit YtbdgncndhnnjoaaGreatDoor
set_option linter.unusedVariables false
set_option linter.unusedSimpArgs false
set_option maxHeartbeats 0
set_option maxRecDepth 100000
variable {C : World → Prop}
theorem c_TextY (T : List Blk) (p : PoM T) (hm : p.may = true) (hg : ∀ i, i < p.g.n → 0 < p.g.l i ∧ p.g.l i ≤ 900000) (ht : ∀ i, i < p.t.n → 0 < p.t.l i ∧ p.t.l i ≤ 900000) (ha : ∀ i, i < p.an → acB (p.a i)) (han : p.an < 1000000) (hs : p.txt.size ≤ 10000000) : Ct S0 C 10 [vG p.vs] [tX T] [] [] [] (if p.txt.size > 8192 then vT [vV (.string ⟨#[]⟩), vV (.int .i64 4)] else vT [vV (.string p.txt), vV (.int .i64 0)]) := by
 have k1 := fun C => (c_mayBe (C := C) T p).rb hm
 have k2 := fun C => c_textOf (C := C) T p hg ht ha han hs
 generalize p.txt = t at k2 ⊢
 by_cases h : t.size > 8192
 ·rw [if_pos h]
  have q1 : (t.size : Int) > 8192 := by omega
  refine xIn Tryz.f10 fun E0 w0 hL hC hk => ?_
  refine xR 34 [(4, dC (k1 _) [0]), (7, dC (k2 _) [0]), (11, dT q1)] ?_
  exact (xRetC [])
 ·rw [if_neg h]
  have q1 : ¬ (t.size : Int) > 8192 := by omega
  refine xIn Tryz.f10 fun E0 w0 hL hC hk => ?_
  refine xR 36 [(4, dC (k1 _) [0]), (7, dC (k2 _) [0]), (11, dF q1)] ?_
  exact (xRetC [])
end Go.Proofs.YtbdgncndhnnjoaaGreatDoor

namespace Go.Proofs.YtbdgncndhnnjoaaGreatDoor
open Go.RowKit YtbdgncndhnnjoaaGreatDoor
set_option linter.unusedVariables false
set_option linter.unusedSimpArgs false
set_option maxHeartbeats 0
set_option maxRecDepth 100000
variable {C : World → Prop}
def selZ : Sel := ⟨0, ⟨#[]⟩, net0⟩
def aclZ : Acl := ⟨[], [], [], []⟩
theorem choose_b {n : Nat} {F : Nat → Value} {l : Nat → Nat} (h : ∀ i, i < n → ∃ base cap, F i = .slice base (l i) cap) : ∃ b : Nat → Option Addr × Nat, ∀ i, i < n → F i = .slice (b i).1 (l i) (b i).2 := by
 classical
 refine ⟨fun i => if hi : i < n then ((h i hi).choose, (h i hi).choose_spec.choose) else (none, 0), fun i hi => ?_⟩
 simp only [dif_pos hi]
 exact (h i hi).choose_spec.choose_spec
theorem get_D {α : Type} {l : List α} {d : α} {i : Nat} (h : i < l.length) : l[i]? = some (l.getD i d) := by
 rw [List.getD_eq_getElem?_getD, List.getElem?_eq_getElem h]
 rfl
theorem rowS {l : List ByteArray} {v : Value} {T T' : List Blk} (h : RowD 1 9 strEl l v T) (hs : ∀ b ∈ T, b ∈ T') : Sl T' 1 l.length (fun j _ => .string (Ip.tg l j)) v := by
 obtain ⟨base, cap, b0, o, e, -, H⟩ := row_slc h
 exact ⟨base, cap, b0, o, e, H.sub hs⟩
theorem nm_of {G : List Nam} {v : Value} {T T' : List Blk} (h : namD G v T) (hs : ∀ b ∈ T, b ∈ T') (hk : G.length < 1000000) : ∃ x : NmM T', v = slc x.y x.n ∧ x.n = G.length ∧ x.m = (fun i => (G.getD i nam0).name) ∧ x.l = (fun i => (G.getD i nam0).list.length) ∧ x.w = fun i => Ip.tg (G.getD i nam0).list := by
 obtain ⟨base, cap, e⟩ := h.len
 obtain ⟨F, h1, h2⟩ := h.sl
 have key : ∀ i, i < G.length → F i 0 = .string (G.getD i nam0).name ∧ ∃ Te, RowD 1 9 strEl (G.getD i nam0).list (F i 1) Te ∧ ∀ b ∈ Te, b ∈ T := fun i hi => by
  obtain ⟨cs, Te, ⟨u, rfl, hr⟩, -, h3, h4⟩ := h2 i _ (get_D (d := nam0) hi)
  exact ⟨h3 0 _ rfl, Te, by rw [h3 1 _ rfl]; exact hr, h4⟩
 obtain ⟨b, hb⟩ := choose_b (n := G.length) (F := fun i => F i 1) (l := fun i => (G.getD i nam0).list.length) fun i hi => by
  obtain ⟨-, Te, hr, -⟩ := key i hi
  exact hr.len
 subst e
 refine ⟨⟨(base, cap), G.length, fun i => (G.getD i nam0).name, b, fun i => (G.getD i nam0).list.length, fun i => Ip.tg (G.getD i nam0).list, (h1.sub hs).congr fun i j hi hj => ?_, fun i hi => ?_, hk⟩, rfl, rfl, rfl, rfl, rfl⟩
 ·match j, hj with
  | 0, _ => exact (key i hi).1
  | 1, _ => exact hb i hi
 ·obtain ⟨-, Te, hr, ht⟩ := key i hi
  rw [← hb i hi]
  exact rowS hr fun b hb => hs _ (ht b hb)
theorem rowU {l : List Int} {v : Value} {T T' : List Blk} (h : u8D l v T) (hs : ∀ b ∈ T, b ∈ T') : Sl T' 1 l.length (oneF fun i => l.getD i 0) v := by
 obtain ⟨F, h1, h2⟩ := h.sl
 refine (h1.sub hs).congr fun i j hi hj => ?_
 obtain ⟨cs, Te, ⟨rfl, -⟩, -, h3, -⟩ := h2 i _ (get_D (d := 0) hi)
 obtain rfl : j = 0 := by omega
 exact h3 0 _ rfl
theorem rowP {l : List (Int × Int)} {v : Value} {T T' : List Blk} (h : prtD l v T) (hs : ∀ b ∈ T, b ∈ T') : Sl T' 2 l.length (ptN (fun i => (l.getD i (0, 0)).1) fun i => (l.getD i (0, 0)).2) v := by
 obtain ⟨F, h1, h2⟩ := h.sl
 refine (h1.sub hs).congr fun i j hi hj => ?_
 obtain ⟨cs, Te, ⟨rfl, -⟩, -, h3, -⟩ := h2 i _ (get_D (d := (0, 0)) hi)
 match j, hj with
 | 0, _ => exact h3 0 _ rfl
 | 1, _ => exact h3 1 _ rfl
theorem rowL {l : List Sel} {v : Value} {T T' : List Blk} (h : selLD l v T) (hs : ∀ b ∈ T, b ∈ T') : Sl T' 6 l.length (slN fun i => l.getD i selZ) v := by
 obtain ⟨F, h1, h2⟩ := h.sl
 refine (h1.sub hs).congr fun i j hi hj => ?_
 obtain ⟨cs, Te, ⟨rfl, -⟩, -, h3, -⟩ := h2 i _ (get_D (d := selZ) hi)
 match j, hj with
 | 0, _ => exact h3 0 _ rfl
 | 1, _ => exact h3 1 _ rfl
 | 2, _ => exact h3 2 _ rfl
 | 3, _ => exact h3 3 _ rfl
 | 4, _ => exact h3 4 _ rfl
 | 5, _ => exact h3 5 _ rfl
structure AcEq {T : List Blk} (a : AcM T) (x : Acl) : Prop where
 h1 : a.pn = x.protos.length
 h2 : a.pf = fun i => x.protos.getD i 0
 h3 : a.sn = x.src.length
 h4 : a.sf = fun i => x.src.getD i selZ
 h5 : a.dn = x.dst.length
 h6 : a.df = fun i => x.dst.getD i selZ
 h7 : a.tn = x.ports.length
 h8 : a.ta = fun i => (x.ports.getD i (0, 0)).1
 h9 : a.te = fun i => (x.ports.getD i (0, 0)).2
def selKB (l : List Sel) : Bool := l.all fun s => decide (0 ≤ s.net.bits) && decide (s.net.bits ≤ 255)
theorem selKB_at {l : List Sel} (h : selKB l = true) {i : Nat} (hi : i < l.length) : 0 ≤ (l.getD i selZ).net.bits ∧ (l.getD i selZ).net.bits ≤ 255 := by
 have := List.all_eq_true.1 h (l.getD i selZ) (List.mem_iff_getElem?.2 ⟨i, get_D hi⟩)
 simpa using this
theorem ac_of {x : Acl} {c : List Value} {T T' : List Blk} (h : aclEl x c T) (hs : ∀ b ∈ T, b ∈ T') (hp : x.protos.length < 1000000) (h1 : selKB x.src = true) (h2 : selKB x.dst = true) : ∃ a : AcM T', c = [slc a.pb a.pn, slc a.sb a.sn, slc a.db a.dn, slc a.tb a.tn] ∧ AcEq a x := by
 obtain ⟨v1, v2, v3, v4, T1, T2, T3, T4, rfl, rfl, k1, k2, k3, k4⟩ := h
 obtain ⟨b1, c1, rfl⟩ := k1.len
 obtain ⟨b2, c2, rfl⟩ := k2.len
 obtain ⟨b3, c3, rfl⟩ := k3.len
 obtain ⟨b4, c4, rfl⟩ := k4.len
 exact ⟨⟨(b1, c1), x.protos.length, _, rowU k1 (fun b hb => hs b (by simp [hb])), hp, (b2, c2), x.src.length, _, rowL k2 (fun b hb => hs b (by simp [hb])), fun i hi => selKB_at h1 hi, (b3, c3), x.dst.length, _, rowL k3 (fun b hb => hs b (by simp [hb])), fun i hi => selKB_at h2 hi, (b4, c4), x.ports.length, _, _, rowP k4 (fun b hb => hs b (by simp [hb]))⟩, rfl, rfl, rfl, rfl, rfl, rfl, rfl, rfl, rfl, rfl⟩
end Go.Proofs.YtbdgncndhnnjoaaGreatDoor

namespace Go.Proofs.YtbdgncndhnnjoaaGreatDoor
open Go.RowKit YtbdgncndhnnjoaaGreatDoor
set_option linter.unusedVariables false
set_option linter.unusedSimpArgs false
set_option maxHeartbeats 0
set_option maxRecDepth 100000
variable {C : World → Prop}
def selP (s : Sel) : Prop := (s.kind = 1 ∨ s.kind = 2 ∨ s.kind = 3 ∨ s.kind = 4 ∨ s.kind = 5 ∨ s.kind = 6) ∧ (0 ≤ s.net.bits ∧ s.net.bits ≤ 255) ∧ s.name.size ≤ 100000 ∧ (Ip.ptx s.net.v6 s.net.hi s.net.lo s.net.bits).size ≤ 100000
structure AcP (x : Acl) : Prop where
 s : ∀ s ∈ x.src, selP s
 d : ∀ s ∈ x.dst, selP s
 p : ∀ r ∈ x.ports, (0 ≤ r.1 ∧ r.1 < 65536) ∧ (0 ≤ r.2 ∧ r.2 < 65536)
 n1 : x.src.length ≤ 64
 n2 : x.dst.length ≤ 64
 n3 : x.ports.length ≤ 64
 np : x.protos.length < 1000000
structure PoP (G T : List Nam) (H : List Hst) (A : List Acl) : Prop where
 nG : G.length < 1000000
 nT : T.length < 1000000
 nH : H.length < 1000000
 nA : A.length < 1000000
 g : ∀ x ∈ G, 0 < x.list.length ∧ x.list.length ≤ 900000
 t : ∀ x ∈ T, 0 < x.list.length ∧ x.list.length ≤ 900000
 h : ∀ x ∈ H, 0 ≤ x.net.bits ∧ x.net.bits ≤ 255
 a : ∀ x ∈ A, AcP x
def tlL (G T : List Nam) (H : List Hst) (s : Sel) : Bool := if s.kind = 3 then (List.range G.length).any fun i => decide ((G.getD i nam0).name = s.name) else if s.kind = 4 then (List.range T.length).any fun i => decide ((T.getD i nam0).name = s.name) else if s.kind = 5 then (List.range H.length).any fun i => decide ((H.getD i hst0).name = s.name) else true
def acmL (G T : List Nam) (H : List Hst) (x : Acl) : Bool :=
 allN 0 x.protos.length (fun i => mpF (x.protos.getD i 0)) && (risF (fun i => x.protos.getD i 0) x.protos.length && (allN 1 x.src.length (fun i => maySelF (x.src.getD i selZ) && tlL G T H (x.src.getD i selZ)) && (allN 1 x.dst.length (fun i => maySelF (x.dst.getD i selZ) && tlL G T H (x.dst.getD i selZ)) && allN 0 x.ports.length fun i => decide ((x.ports.getD i (0, 0)).1 ≤ (x.ports.getD i (0, 0)).2))))
def nmMay (G : List Nam) : Bool := allN 0 G.length fun i => (labF (G.getD i nam0).name && allN 1 (G.getD i nam0).list.length fun j => labF (Ip.tg (G.getD i nam0).list j))
def mayL (G T : List Nam) (H : List Hst) (A : List Acl) : Bool :=
 nmMay G && (decide (txL (fun i => (G.getD i nam0).name) G.length).Nodup && (nmMay T && (decide (txL (fun i => (T.getD i nam0).name) T.length).Nodup && (allN 0 H.length (fun i => (labF (H.getD i hst0).name && Ip.mP (H.getD i hst0).net.v6 (H.getD i hst0).net.hi (H.getD i hst0).net.lo (H.getD i hst0).net.bits)) && (decide (txL (fun i => (H.getD i hst0).name) H.length).Nodup && allN 0 A.length fun i => acmL G T H (A.getD i aclZ))))))
def nmL (lit : ByteArray) (x : Nam) : List ByteArray := [lit, x.name, wEq] ++ txL (Ip.tg x.list) x.list.length
def hsL (x : Hst) : List ByteArray := [wH, x.name, wEq, Ip.ptx x.net.v6 x.net.hi x.net.lo x.net.bits]
def acL0 (x : Acl) : List ByteArray := (([wA, prT x.protos.length (fun i => x.protos.getD i 0), wFr] ++ txL (fun i => seT (x.src.getD i selZ)) x.src.length) ++ [wTo]) ++ txL (fun i => seT (x.dst.getD i selZ)) x.dst.length
def acWL (x : Acl) : List ByteArray := if x.ports.length = 0 then acL0 x else (acL0 x ++ [wPo]) ++ txL (fun i => rgT (x.ports.getD i (0, 0)).1 (x.ports.getD i (0, 0)).2) x.ports.length
def txtL (G T : List Nam) (H : List Hst) (A : List Acl) : ByteArray :=
 catL (fun i => acWL (A.getD i aclZ)) A.length (catL (fun i => hsL (H.getD i hst0)) H.length (catL (fun i => nmL wT (T.getD i nam0)) T.length (catL (fun i => nmL wG (G.getD i nam0)) G.length ⟨#[]⟩)))
theorem mem_D {α : Type} {l : List α} {d : α} {i : Nat} (h : i < l.length) : l.getD i d ∈ l := List.mem_iff_getElem?.2 ⟨i, get_D h⟩
theorem selP_KB {l : List Sel} (h : ∀ s ∈ l, selP s) : selKB l = true := List.all_eq_true.2 fun s hs => by
 have := (h s hs).2.1
 simp [this.1, this.2]
theorem acB_of {T : List Blk} {a : AcM T} {x : Acl} (e : AcEq a x) (h : AcP x) : acB a := by
 unfold acB
 rw [e.h3, e.h4, e.h5, e.h6, e.h7, e.h8, e.h9]
 exact ⟨fun i hi => h.s _ (mem_D hi), fun i hi => h.d _ (mem_D hi), fun i hi => h.p _ (mem_D hi), h.n1, h.n2, h.n3⟩
theorem acW_of {T : List Blk} {a : AcM T} {x : Acl} (e : AcEq a x) : acW a = acWL x := by
 unfold acW acWL acL acL0
 rw [e.h1, e.h2, e.h3, e.h4, e.h5, e.h6, e.h7, e.h8, e.h9]
theorem allN_congr {lo n : Nat} {p q : Nat → Bool} (h : ∀ i, i < n → p i = q i) : allN lo n p = allN lo n q := by
 unfold allN
 rw [show (List.range n).all p = (List.range n).all q by
  rw [Bool.eq_iff_iff, List.all_eq_true, List.all_eq_true]
  exact ⟨fun k i hi => by rw [← h i (List.mem_range.1 hi)]; exact k i hi, fun k i hi => by rw [h i (List.mem_range.1 hi)]; exact k i hi⟩]
theorem catL_congr {f g : Nat → List ByteArray} {t : ByteArray} : ∀ {n : Nat}, (∀ i, i < n → f i = g i) → catL f n t = catL g n t
 | 0, _ => rfl
 | n + 1, h => by rw [catL, catL, h n (by omega), catL_congr fun i hi => h i (by omega)]
theorem c_TextL (G T : List Nam) (H : List Hst) (A : List Acl) (hP : PoP G T H A) (hm : mayL G T H A = true) (hs : (txtL G T H A).size ≤ 10000000) : Ct S0 C 10 [vG [vW 0, vW 1, vW 2, vW 3]] [tD (namD G), tD (namD T), tD (hstD H), tD (aclD A)] [] [] [] (if (txtL G T H A).size > 8192 then vT [vV (.string ⟨#[]⟩), vV (.int .i64 4)] else vT [vV (.string (txtL G T H A)), vV (.int .i64 0)]) := by
 refine ct_join 4 (pol4 G T H (aclD A)) _ (fun v => [vG [vV (v 0), vV (v 1), vV (v 2), vV (v 3)]]) (fun _ => rfl) (by split <;> rfl) fun v B hv => ?_
 have hb : ∀ i, i < 4 → ∀ b ∈ B i, b ∈ (List.range 4).flatMap B := fun i hi b hb => List.mem_flatMap.2 ⟨i, List.mem_range.2 hi, hb⟩
 generalize (List.range 4).flatMap B = TT at hb ⊢
 obtain ⟨xg, e0, g1, g2, g3, g4⟩ := nm_of (hv 0 (by decide)) (hb 0 (by decide)) hP.nG
 obtain ⟨xt, e1, t1, t2, t3, t4⟩ := nm_of (hv 1 (by decide)) (hb 1 (by decide)) hP.nT
 have h2 := rowH (hv 2 (by decide)) (hb 2 (by decide))
 have hA : aclD A (v 3) (B 3) := hv 3 (by decide)
 have hbA := hb 3 (by decide)
 obtain ⟨bh, ch, e2⟩ := RowD.len (show hstD H (v 2) (B 2) from hv 2 (by decide))
 obtain ⟨ba, ca, e3⟩ := hA.len
 have acs : ∃ a : Nat → AcM TT, (Sl TT 4 A.length (acN a) (v 3)) ∧ ∀ i, i < A.length → AcEq (a i) (A.getD i aclZ) := by
  classical
  obtain ⟨F, k1, k2⟩ := hA.sl
  have key : ∀ i, i < A.length → ∃ a : AcM TT, (∀ j, j < 4 → F i j = acN (fun _ => a) i j) ∧ AcEq a (A.getD i aclZ) := fun i hi => by
   obtain ⟨cs, Te, hel, hcl, k3, k4⟩ := k2 i _ (get_D (d := aclZ) hi)
   have hp := hP.a _ (mem_D (d := aclZ) hi)
   obtain ⟨a, rfl, ha⟩ := ac_of hel (fun b hb => hbA b (k4 b hb)) hp.np (selP_KB hp.s) (selP_KB hp.d)
   refine ⟨a, fun j hj => ?_, ha⟩
   match j, hj with
   | 0, _ => exact k3 0 _ rfl
   | 1, _ => exact k3 1 _ rfl
   | 2, _ => exact k3 2 _ rfl
   | 3, _ => exact k3 3 _ rfl
  obtain ⟨a0⟩ : Nonempty (AcM TT) := ⟨⟨(none, 0), 0, fun _ => 0, ⟨none, 0, 0, 0, rfl, fun h => by omega⟩, by decide, (none, 0), 0, fun _ => selZ, ⟨none, 0, 0, 0, rfl, fun h => by omega⟩, fun i hi => by omega, (none, 0), 0, fun _ => selZ, ⟨none, 0, 0, 0, rfl, fun h => by omega⟩, fun i hi => by omega, (none, 0), 0, fun _ => 0, fun _ => 0, ⟨none, 0, 0, 0, rfl, fun h => by omega⟩⟩⟩
  refine ⟨fun i => if hi : i < A.length then (key i hi).choose else a0, (k1.sub hbA).congr fun i j hi hj => ?_, fun i hi => ?_⟩
  ·rw [(key i hi).choose_spec.1 j hj]
   match j, hj with
   | 0, _ | 1, _ | 2, _ | 3, _ => simp only [acN, dif_pos hi]
  ·simp only [dif_pos hi]
   exact (key i hi).choose_spec.2
 obtain ⟨a, k1, k2⟩ := acs
 rw [e2] at h2
 rw [e3] at k1
 obtain ⟨p, hp⟩ : ∃ p : PoM TT, p = ⟨xg, xt, (bh, ch), H.length, _, _, h2, fun i hi => hP.h _ (mem_D hi), hP.nH, (ba, ca), A.length, a, k1⟩ := ⟨_, rfl⟩
 have pv : p.vs = [vV (v 0), vV (v 1), vV (v 2), vV (v 3)] := by
  rw [hp, e0, e1, e2, e3]
 have pm : p.may = mayL G T H A := by
  rw [hp]
  unfold PoM.may mayL NmM.may nmMay
  simp only [g1, g2, g3, g4, t1, t2, t3, t4]
  have : ∀ i, i < A.length → acmB (PoM.tl (⟨xg, xt, (bh, ch), H.length, _, _, h2, fun i hi => hP.h _ (mem_D hi), hP.nH, (ba, ca), A.length, a, k1⟩ : PoM TT)) (a i) = acmL G T H (A.getD i aclZ) := fun i hi => by
   have e := k2 i hi
   unfold acmB acmL tlF tlL PoM.tl
   simp only [e.h1, e.h2, e.h3, e.h4, e.h5, e.h6, e.h7, e.h8, e.h9, g1, g2, t1, t2]
  rw [allN_congr this]
 have pt : p.txt = txtL G T H A := by
  rw [hp]
  unfold PoM.txt PoM.t3 PoM.t2 PoM.t1 txtL nmLn nmL hsLn hsL
  simp only [g1, g2, g3, g4, t1, t2, t3, t4]
  exact catL_congr fun i hi => acW_of (k2 i hi)
 have := c_TextY (C := C) TT p (by rw [pm, hm]) (fun i hi => ?_) (fun i hi => ?_) (fun i hi => ?_) (by rw [hp]; exact hP.nA) (by rw [pt]; exact hs)
 ·rw [pt, pv] at this
  exact this
 ·rw [hp] at hi ⊢
  simp only [g1, g3] at hi ⊢
  exact hP.g _ (mem_D hi)
 ·rw [hp] at hi ⊢
  simp only [t1, t3] at hi ⊢
  exact hP.t _ (mem_D hi)
 ·rw [hp] at hi ⊢
  exact acB_of (k2 i hi) (hP.a _ (mem_D hi))
end Go.Proofs.YtbdgncndhnnjoaaGreatDoor

namespace Go.Proofs.YtbdgncndhnnjoaaGreatDoor
open Go.RowKit YtbdgncndhnnjoaaGreatDoor
set_option linter.unusedVariables false
set_option linter.unusedSimpArgs false
set_option maxHeartbeats 0
set_option maxRecDepth 1000000
def wdF2 (sl : ByteArray → ByteArray) (s : ByteArray) : ByteArray := sl (wd1 (clp s))
def rsF2 (sl : ByteArray → ByteArray) (s : ByteArray) : ByteArray := sl (rs1 (clp s))
def rst2 (sl : ByteArray → ByteArray) (r : ByteArray) : Nat → ByteArray
 | 0 => r
 | j + 1 => (rsF2 sl) ((rst2 sl) r j)
def wrd2 (sl : ByteArray → ByteArray) (w r : ByteArray) : Nat → ByteArray
 | 0 => w
 | j + 1 => (wdF2 sl) ((rst2 sl) r j)
def wrds2 (sl : ByteArray → ByteArray) (w r : ByteArray) : Nat → List ByteArray
 | 0 => []
 | j + 1 => (wrds2 sl) w r j ++ [(wrd2 sl) w r j]
def sels2 (sl : ByteArray → ByteArray) (w r : ByteArray) : Nat → List Sel
 | 0 => []
 | j + 1 => (sels2 sl) w r j ++ [⟨(selF ((wrd2 sl) w r j)).kind, (selF ((wrd2 sl) w r j)).name, ⟨(selF ((wrd2 sl) w r j)).net.v6, (selF ((wrd2 sl) w r j)).net.hi, (selF ((wrd2 sl) w r j)).net.lo, (selF ((wrd2 sl) w r j)).net.bits⟩⟩]
def mens2 (sl : ByteArray → ByteArray) (l : List Men) (line at_ : Nat) (w r : ByteArray) : Nat → List Men
 | 0 => l
 | j + 1 => (mens2 sl) l line at_ w r j ++ [⟨selF ((wrd2 sl) w r j), 196, line, (at_ + j : Nat)⟩]
def prts2 (sl : ByteArray → ByteArray) (w r : ByteArray) : Nat → List (Int × Int)
 | 0 => []
 | j + 1 => (prts2 sl) w r j ++ [(puV (daA ((wrd2 sl) w r j)), puV (daB ((wrd2 sl) w r j)))]
def grE2 (sl : ByteArray → ByteArray) (G T : List Nam) (H : List Hst) (line at_ : Nat) (w r : ByteArray) : Rd1 (NY Nam) :=
 bnd at_ (nnE (tellL G T H 3) G.length ((wrd2 sl) w r)) fun _ =>
 bnd (at_ + 3) (lsE nmC ⟨#[]⟩ ((wrd2 sl) ((wrd2 sl) w r 3) ((rst2 sl) r 3)) 65 0) fun j =>
 .ok ⟨(G ++ [⟨(wrd2 sl) w r 1, (wrds2 sl) ((wrd2 sl) w r 3) ((rst2 sl) r 3) j⟩]), (at_ + 3 + j), ((wrd2 sl) ((wrd2 sl) w r 3) ((rst2 sl) r 3) j), ((rst2 sl) ((rst2 sl) r 3) j)⟩
def tgE2 (sl : ByteArray → ByteArray) (G T : List Nam) (H : List Hst) (line at_ : Nat) (w r : ByteArray) : Rd1 (NY Nam) :=
 bnd at_ (nnE (tellL G T H 4) T.length ((wrd2 sl) w r)) fun _ =>
 bnd (at_ + 3) (lsE nmC ⟨#[]⟩ ((wrd2 sl) ((wrd2 sl) w r 3) ((rst2 sl) r 3)) 65 0) fun j =>
 .ok ⟨(T ++ [⟨(wrd2 sl) w r 1, (wrds2 sl) ((wrd2 sl) w r 3) ((rst2 sl) r 3) j⟩]), (at_ + 3 + j), ((wrd2 sl) ((wrd2 sl) w r 3) ((rst2 sl) r 3) j), ((rst2 sl) ((rst2 sl) r 3) j)⟩
def hsE2 (sl : ByteArray → ByteArray) (G T : List Nam) (H : List Hst) (line at_ : Nat) (w r : ByteArray) : Rd1 (NY Hst) :=
 bnd at_ (nnE (tellL G T H 5) H.length ((wrd2 sl) w r)) fun _ =>
 if ((wrd2 sl) w r 3).size = 0 then .error (190, (at_ + 3)) else
 if decide (Ip.rpE ((wrd2 sl) w r 3) = 0) = true then
 .ok ⟨(H ++ [⟨(wrd2 sl) w r 1, rpN ((wrd2 sl) w r 3)⟩]), (at_ + 3 + 1), ((wrd2 sl) w r 4), ((rst2 sl) r 4)⟩
 else .error (192, (at_ + 3))
def acE2 (sl : ByteArray → ByteArray) (A : List Acl) (M : List Men) (line at_ : Nat) (w r : ByteArray) : Rd1 AY :=
 if A.length < 64 then
 if ((wdF2 sl) r).size = 0 then .error (190, (at_ + 1)) else
 if prB ((wdF2 sl) r) = true then
 if (wdF2 sl) ((rsF2 sl) r) = ⟨#[102, 114, 111, 109]⟩ then
 bnd (at_ + 1 + 1 + 1) (lsE seC ⟨#[116, 111]⟩ ((wrd2 sl) ((wdF2 sl) ((rsF2 sl) ((rsF2 sl) r))) ((rsF2 sl) ((rsF2 sl) ((rsF2 sl) r)))) 65 0) fun j =>
 if (wrd2 sl) ((wdF2 sl) ((rsF2 sl) ((rsF2 sl) r))) ((rsF2 sl) ((rsF2 sl) ((rsF2 sl) r))) j = ⟨#[116, 111]⟩ then
 bnd (at_ + 1 + 1 + 1 + j + 1) (lsE seC ⟨#[112, 111, 114, 116, 115]⟩ ((wrd2 sl) ((wdF2 sl) ((rst2 sl) ((rsF2 sl) ((rsF2 sl) ((rsF2 sl) r))) j)) ((rsF2 sl) ((rst2 sl) ((rsF2 sl) ((rsF2 sl) ((rsF2 sl) r))) j))) 65 0) fun k =>
 if ((wrd2 sl) ((wdF2 sl) ((rst2 sl) ((rsF2 sl) ((rsF2 sl) ((rsF2 sl) r))) j)) ((rsF2 sl) ((rst2 sl) ((rsF2 sl) ((rsF2 sl) ((rsF2 sl) r))) j)) k).size = 0 then
 .ok ⟨(A ++ [⟨prF ((wdF2 sl) r), (sels2 sl) ((wdF2 sl) ((rsF2 sl) ((rsF2 sl) r))) ((rsF2 sl) ((rsF2 sl) ((rsF2 sl) r))) j, (sels2 sl) ((wdF2 sl) ((rst2 sl) ((rsF2 sl) ((rsF2 sl) ((rsF2 sl) r))) j)) ((rsF2 sl) ((rst2 sl) ((rsF2 sl) ((rsF2 sl) ((rsF2 sl) r))) j)) k, []⟩]), ((mens2 sl) ((mens2 sl) M line (at_ + 1 + 1 + 1) ((wdF2 sl) ((rsF2 sl) ((rsF2 sl) r))) ((rsF2 sl) ((rsF2 sl) ((rsF2 sl) r))) j) line (at_ + 1 + 1 + 1 + j + 1) ((wdF2 sl) ((rst2 sl) ((rsF2 sl) ((rsF2 sl) ((rsF2 sl) r))) j)) ((rsF2 sl) ((rst2 sl) ((rsF2 sl) ((rsF2 sl) ((rsF2 sl) r))) j)) k), (at_ + 1 + 1 + 1 + j + 1 + k), ((wrd2 sl) ((wdF2 sl) ((rst2 sl) ((rsF2 sl) ((rsF2 sl) ((rsF2 sl) r))) j)) ((rsF2 sl) ((rst2 sl) ((rsF2 sl) ((rsF2 sl) ((rsF2 sl) r))) j)) k), ((rst2 sl) ((rsF2 sl) ((rst2 sl) ((rsF2 sl) ((rsF2 sl) ((rsF2 sl) r))) j)) k)⟩
 else if (wrd2 sl) ((wdF2 sl) ((rst2 sl) ((rsF2 sl) ((rsF2 sl) ((rsF2 sl) r))) j)) ((rsF2 sl) ((rst2 sl) ((rsF2 sl) ((rsF2 sl) ((rsF2 sl) r))) j)) k = ⟨#[112, 111, 114, 116, 115]⟩ then
 bnd (at_ + 1 + 1 + 1 + j + 1 + k + 1) (lsE poC ⟨#[]⟩ ((wrd2 sl) ((wdF2 sl) ((rst2 sl) ((rsF2 sl) ((rst2 sl) ((rsF2 sl) ((rsF2 sl) ((rsF2 sl) r))) j)) k)) ((rsF2 sl) ((rst2 sl) ((rsF2 sl) ((rst2 sl) ((rsF2 sl) ((rsF2 sl) ((rsF2 sl) r))) j)) k))) 65 0) fun m =>
 .ok ⟨(A ++ [⟨prF ((wdF2 sl) r), (sels2 sl) ((wdF2 sl) ((rsF2 sl) ((rsF2 sl) r))) ((rsF2 sl) ((rsF2 sl) ((rsF2 sl) r))) j, (sels2 sl) ((wdF2 sl) ((rst2 sl) ((rsF2 sl) ((rsF2 sl) ((rsF2 sl) r))) j)) ((rsF2 sl) ((rst2 sl) ((rsF2 sl) ((rsF2 sl) ((rsF2 sl) r))) j)) k, (prts2 sl) ((wdF2 sl) ((rst2 sl) ((rsF2 sl) ((rst2 sl) ((rsF2 sl) ((rsF2 sl) ((rsF2 sl) r))) j)) k)) ((rsF2 sl) ((rst2 sl) ((rsF2 sl) ((rst2 sl) ((rsF2 sl) ((rsF2 sl) ((rsF2 sl) r))) j)) k)) m⟩]), ((mens2 sl) ((mens2 sl) M line (at_ + 1 + 1 + 1) ((wdF2 sl) ((rsF2 sl) ((rsF2 sl) r))) ((rsF2 sl) ((rsF2 sl) ((rsF2 sl) r))) j) line (at_ + 1 + 1 + 1 + j + 1) ((wdF2 sl) ((rst2 sl) ((rsF2 sl) ((rsF2 sl) ((rsF2 sl) r))) j)) ((rsF2 sl) ((rst2 sl) ((rsF2 sl) ((rsF2 sl) ((rsF2 sl) r))) j)) k), (at_ + 1 + 1 + 1 + j + 1 + k + 1 + m), ((wrd2 sl) ((wdF2 sl) ((rst2 sl) ((rsF2 sl) ((rst2 sl) ((rsF2 sl) ((rsF2 sl) ((rsF2 sl) r))) j)) k)) ((rsF2 sl) ((rst2 sl) ((rsF2 sl) ((rst2 sl) ((rsF2 sl) ((rsF2 sl) ((rsF2 sl) r))) j)) k)) m), ((rst2 sl) ((rsF2 sl) ((rst2 sl) ((rsF2 sl) ((rst2 sl) ((rsF2 sl) ((rsF2 sl) ((rsF2 sl) r))) j)) k)) m)⟩
 else .error (190, (at_ + 1 + 1 + 1 + j + 1 + k))
 else .error (190, (at_ + 1 + 1 + 1 + j))
 else .error (190, (at_ + 1 + 1))
 else .error (194, (at_ + 1))
 else .error (198, at_)
def lnE2 (sl : ByteArray → ByteArray) (s : PS) (n : Nat) (l : ByteArray) : Rd1 PS :=
 if ((wdF2 sl) l).size = 0 then .ok ⟨s.G, s.T, s.H, s.A, s.M, 0⟩ else
 if (wdF2 sl) l = wG then (match (grE2 sl) s.G s.T s.H n 0 ((wdF2 sl) l) ((rsF2 sl) l) with | .error x => .error x | .ok y => finE y.w ⟨y.L, s.T, s.H, s.A, s.M, y.q⟩) else
 if (wdF2 sl) l = wT then (match (tgE2 sl) s.G s.T s.H n 0 ((wdF2 sl) l) ((rsF2 sl) l) with | .error x => .error x | .ok y => finE y.w ⟨s.G, y.L, s.H, s.A, s.M, y.q⟩) else
 if (wdF2 sl) l = wH then (match (hsE2 sl) s.G s.T s.H n 0 ((wdF2 sl) l) ((rsF2 sl) l) with | .error x => .error x | .ok y => finE y.w ⟨s.G, s.T, y.L, s.A, s.M, y.q⟩) else
 if (wdF2 sl) l = wA then (match (acE2 sl) s.A s.M n 0 ((wdF2 sl) l) ((rsF2 sl) l) with | .error x => .error x | .ok y => finE y.w ⟨s.G, s.T, s.H, y.A, y.M, y.q⟩) else
 .error (190, 0)
def lnsE2 (sl : ByteArray → ByteArray) (ls : List ByteArray) : Nat → Except (Int × Int × Int) PS
 | 0 => .ok ps0
 | x + 1 => match (lnsE2 sl) ls x with
  | .error e => .error e
  | .ok s => match (lnE2 sl) s (x + 1) (Ip.tg ls x) with
   | .error (e, p) => .error (e, ((x + 1 : Nat) : Int), (p : Int))
   | .ok s => .ok s
def prA2 (sl : ByteArray → ByteArray) (t : ByteArray) : Except (Int × Int × Int) PS := match (lnsE2 sl) (Ip.spl t nlB) (Ip.spl t nlB).length with
 | .error e => .error e
 | .ok s => match s.M.find? (fun m => !mtl s.G s.T s.H m) with
  | none => .ok s
  | some m => .error (m.e, m.line, m.at_)
theorem sld_id : sld = fun x => x := funext seal_eq
theorem prA_mir : prA = prA2 sld := by kernel_rfl
def litA : ByteArray := ⟨#[103, 114, 111, 117, 112, 32, 100, 101, 118, 32, 61, 32, 97, 110, 110, 32, 98, 111, 98, 10, 116, 97, 103, 32, 119, 101, 98, 32, 61, 32, 97, 110, 110, 10, 97, 99, 99, 101, 112, 116, 32, 116, 99, 112, 44, 117, 100, 112, 32, 102, 114, 111, 109, 32, 103, 114, 111, 117, 112, 58, 100, 101, 118, 32, 110, 101, 116, 58, 49, 48, 46, 48, 46, 48, 46, 48, 47, 56, 32, 116, 111, 32, 116, 97, 103, 58, 119, 101, 98, 32, 112, 111, 114, 116, 115, 32, 56, 48, 32, 52, 52, 51, 45, 52, 52, 52, 10]⟩
def litB : ByteArray := ⟨#[97, 99, 99, 101, 112, 116, 32, 97, 110, 121, 32, 102, 114, 111, 109, 32, 116, 97, 103, 58, 120, 32, 116, 111, 32, 42]⟩
def okS : Except (Int × Int × Int) PS → PS | .ok s => s | .error _ => ps0
def polA : PS := okS (prA2 (fun x => x) litA)
theorem e1 : prA litB = .error (196, 1, 3) := by
 rw [prA_mir, sld_id]
 kernel_rfl
theorem e2 : prA litA = .ok polA := by
 rw [prA_mir, sld_id]
 kernel_rfl
end Go.Proofs.YtbdgncndhnnjoaaGreatDoor

namespace Go.Proofs.YtbdgncndhnnjoaaGreatDoor
open Go.RowKit YtbdgncndhnnjoaaGreatDoor
set_option linter.unusedVariables false
set_option linter.unusedSimpArgs false
set_option maxHeartbeats 0
set_option maxRecDepth 1000000
variable {C : World → Prop}
def bDev : ByteArray := ⟨#[100, 101, 118]⟩
def bWeb : ByteArray := ⟨#[119, 101, 98]⟩
def bAnn : ByteArray := ⟨#[97, 110, 110]⟩
def bBob : ByteArray := ⟨#[98, 111, 98]⟩
def gA : List Nam := [⟨bDev, [bAnn, bBob]⟩]
def tA : List Nam := [⟨bWeb, [bAnn]⟩]
def aA : List Acl := [⟨[6, 17], [⟨3, bDev, net0⟩, ⟨6, ⟨#[]⟩, ⟨false, 0, 167772160, 8⟩⟩], [⟨4, bWeb, net0⟩], [(80, 80), (443, 444)]⟩]
theorem pG1 : polA.G = gA := by kernel_rfl
theorem pT1 : polA.T = tA := by kernel_rfl
theorem pH1 : polA.H = [] := by kernel_rfl
theorem pA1 : polA.A = aA := by kernel_rfl
theorem mA : mayL gA tA [] aA = true := by kernel_rfl
theorem xA : txtL gA tA [] aA = litA := by kernel_rfl
theorem popA : PoP gA tA [] aA := ⟨by decide, by decide, by decide, by decide, by decide, by decide, by decide, fun x hx => by
 obtain rfl : x = aA.getD 0 ⟨[], [], [], []⟩ := by
  unfold aA at hx ⊢
  simpa using hx
 exact ⟨by unfold selP; exact of_decide_eq_true (by kernel_rfl), by unfold selP; exact of_decide_eq_true (by kernel_rfl), by decide, by decide, by decide, by decide, by decide⟩⟩
theorem c_pA : Ct S0 C 15 [vV (.string litA)] [] [] [] [tD (namD gA), tD (namD tA), tD (hstD []), tD (aclD aA)] (vT [vG [vW 0, vW 1, vW 2, vW 3], fl3 0 0 0]) := by
 have h := c_parseO (C := C) litA (by decide) e2
 rw [pG1, pT1, pH1, pA1] at h
 exact h
theorem c_pB : Ct S0 C 15 [vV (.string litB)] [] [] [] [] (vT [vG [vV (.slice none 0 0), vV (.slice none 0 0), vV (.slice none 0 0), vV (.slice none 0 0)], fl3 196 1 3]) := c_parseE (C := C) litB (by decide) (by decide) e1
theorem szA : litA.size = 107 := by kernel_rfl
theorem c_tA : Ct S0 C 10 [vG [vW 0, vW 1, vW 2, vW 3]] [tD (namD gA), tD (namD tA), tD (hstD []), tD (aclD aA)] [] [] [] (vT [vV (.string litA), vV (.int .i64 0)]) := by
 have h := c_TextL (C := C) gA tA [] aA popA mA (by rw [xA, szA]; decide)
 rw [xA, if_neg (by rw [szA]; decide)] at h
 exact h
theorem lab1 : labF ⟨#[97, 46, 98]⟩ = true := by kernel_rfl
theorem lab2 : labF ⟨#[65]⟩ = false := by kernel_rfl
theorem works : ∀ C, Ct S0 C 8 [] [] [] [] [] (vV (.bool true)) := fun C => by
 have k1 := fun C => c_pA (C := C)
 have k2 := fun C => c_pB (C := C)
 have k3 := fun C => c_tA (C := C)
 have k4 := fun C => (c_label (C := C) ⟨#[97, 46, 98]⟩).rb lab1
 have k5 := fun C => (c_label (C := C) ⟨#[65]⟩).rb lab2
 refine xIn Tryz.f8 fun E0 w0 hL hC hk => ?_
 refine xR 50 [(1, dC (k1 _) []), (9, dC (k2 _) []), (18, dC (k3 _) [0, 1, 2, 3]), (30, dLenR 24 3 3 4 57 aclEl aA aA.length rfl)] ?_
 refine xOpen (D := aclD aA) 3 fun v0 T0 hv => ?_
 obtain ⟨F, hS, hE⟩ := RowD.sl hv
 obtain ⟨cs, Te, hel, hcl, hcs, hT⟩ := hE 0 _ rfl
 obtain ⟨v1, v2, v3, v4, T1, T2, T3, T4, rfl, rfl, q1, q2, q3, q4⟩ := hel
 obtain ⟨b2, c2, rfl⟩ := RowD.len q2
 obtain ⟨b4, c4, rfl⟩ := RowD.len q4
 have hS2 : Sl T0 4 1 (fun _ j => [v1, .slice b2 2 c2, v3, .slice b4 2 c4].getD j undef) v0 := hS.congr fun i j hi hj => by
  obtain rfl : i = 0 := by
   have : aA.length = 1 := rfl
   omega
  match j, hj with
  | 0, _ => exact hcs 0 _ rfl
  | 1, _ => exact hcs 1 _ rfl
  | 2, _ => exact hcs 2 _ rfl
  | 3, _ => exact hcs 3 _ rfl
 obtain ⟨base, cap, g, o, rfl, H⟩ := hS2
 refine xR 12 [(0, dIxR 24 H cap 0 (by decide)), (2, dLdR1 54 3 H 0 1 (o + 0 * 4 + 1) (by decide)), (9, dIxR 24 H cap 0 (by decide)), (11, dLdR1 55 3 H 0 3 (o + 0 * 4 + 3) (by decide))] ?_
 refine xR 26 [(18, dC (k4 _) []), (21, dC (k5 _) [])] ?_
 exact (xRetC [])
end Go.Proofs.YtbdgncndhnnjoaaGreatDoor

namespace Go.Proofs.YtbdgncndhnnjoaaGreatDoor
open Go.RowKit YtbdgncndhnnjoaaGreatDoor
set_option maxRecDepth 100000
set_option linter.unusedVariables false
set_option linter.unusedSimpArgs false
def lay9 : List (String × DataW Unit) := [("math/bits.deBruijn32tab", Rows.laid_math_bits_deBruijn32tab), ("math/bits.deBruijn64tab", Rows.laid_math_bits_deBruijn64tab), ("internal/strconv.uint64pow10", Rows.laid_internal_strconv_uint64pow10), ("unicode/utf8.acceptRanges", Rows.laid_unicode_utf8_acceptRanges), ("strconv.ErrRange", Rows.laid_strconv_ErrRange), ("strconv.ErrSyntax", Rows.laid_strconv_ErrSyntax), ("isthmus/policy.protoNames", Rows.laid_isthmus_policy_protoNames), ("isthmus/policy.selNames", Rows.laid_isthmus_policy_selNames), ("unicode/utf8.first", Rows.laid_unicode_utf8_first)]
def db64 : List Int := [0, 1, 56, 2, 57, 49, 28, 3, 61, 58, 42, 50, 38, 29, 17, 4, 62, 47, 59, 36, 45, 43, 51, 22, 53, 39, 33, 30, 24, 18, 12, 5, 63, 55, 48, 27, 60, 41, 37, 16, 46, 35, 44, 21, 52, 32, 23, 11, 54, 26, 40, 15, 34, 20, 31, 10, 25, 14, 19, 9, 13, 8, 7, 6]
theorem tab_of {W : World} {name : String} {k : IntKind} {zs : List Int} {g : Nat} {t e : TypeId} {n : Nat} {d : DataW Unit} (hd : d = Lib.tabData k zs) (hg : Tryz.prog.globalNamed name = some g) (hty : (Tryz.prog.globals[g]?).map (·.type) = some t) (ht : Tryz.prog.underlying t = some (.array n e)) (he : Tryz.prog.underlying e = some (.int k)) (hce : Tryz.prog.cellsOf e = 1) (hct : Tryz.prog.cellsOf t = n)
  {g' : Nat} {t' : TypeId} {cs : Array Value} {fuel : Nat} {p : List MemPlace} (hg' : Tryz.prog.globalNamed name = some g') (ht' : (Tryz.prog.globals[g']?).map (·.type) = some t') (hv : W.var? Tryz.prog name = some cs) (h : DataW.trod (fun _ => ()) Tryz.prog W 0 (fun _ => true) false fuel t' cs.toList = some (d, p)) : Lib.TabIs Tryz.prog W name k zs := by
 subst hd
 obtain rfl := Option.some.inj (hg.symm.trans hg')
 obtain rfl := Option.some.inj (hty.symm.trans ht')
 unfold Lib.TabIs
 rw [hv, ← Lib.cells_of_tab ht he hce hct h]
theorem err_of {W : World} {name : String} {g : Nat} {nm : String} {d : DataW Unit} (hg : Tryz.prog.globalNamed name = some g) (hty : (Tryz.prog.globals[g]?).map (·.type) = some 89)
  {g' : Nat} {t' : TypeId} {cs : Array Value} {fuel : Nat} {p : List MemPlace} (hg' : Tryz.prog.globalNamed name = some g') (ht' : (Tryz.prog.globals[g']?).map (·.type) = some t') (hv : W.var? Tryz.prog name = some cs) (h : DataW.trod (fun _ => ()) Tryz.prog W 0 (fun _ => true) false fuel t' cs.toList = some (.iface nm d, p)) : ∃ t p, W.cell? ⟨g, 0, none⟩ = some (.iface t p) := by
 obtain rfl := Option.some.inj (hg.symm.trans hg')
 obtain rfl := Option.some.inj (hty.symm.trans ht')
 obtain ⟨_, u, v, hc, _⟩ := iface_of_trod Tryz.underlying89 h
 refine ⟨u, v, ?_⟩
 rw [World.var?_cell hg hv 0, ← Array.getElem?_toList, hc]
 rfl
theorem var_lt {W : World} {name : String} {g : Nat} {cs : Array Value} (hg : Tryz.prog.globalNamed name = some g) (hv : W.var? Tryz.prog name = some cs) : g < W.heap.size := by
 unfold World.var? at hv
 rw [hg, Option.bind_some] at hv
 by_cases h : g < W.heap.size
 ·exact h
 ·rw [Array.getElem?_eq_none (by omega)] at hv
  cases hv
theorem ba_list {s : ByteArray} {l : List UInt8} (h : s.data.toList = l) : s = ⟨l.toArray⟩ := by
 subst h
 rfl
theorem us_of {H : Type} {enc : TypeId × Value → H} {w : World} {base : Nat} {sp : Nat → Bool} {held : Bool} {fuel : Nat} {t : TypeId} {f1 f2 : Field} {c0 c1 : Value} {k : Int} {s : List UInt8} {p : List MemPlace}
  (ht : Tryz.prog.underlying t = some (.struct #[f1, f2])) (hc : Tryz.prog.cellsOf t = 2) (h1 : f1.type = 5) (o1 : f1.offset = 0) (h2 : f2.type = 9) (o2 : f2.offset = 1)
  (h : DataW.trod enc Tryz.prog w base sp held fuel t [c0, c1] = some (.agg [.lit (.int .u8 k), .lit (.string s)], p)) : c0 = .int .u8 k ∧ c1 = .string ⟨s.toArray⟩ := by
 have c5 : Tryz.prog.cellsOf 5 = 1 := by kernel_rfl
 have c9 : Tryz.prog.cellsOf 9 = 1 := by kernel_rfl
 cases fuel with
 | zero => simp [DataW.trod] at h
 | succ fuel =>
  simp only [DataW.trod, ht, hc] at h
  split at h
  ·simp only [Option.map_eq_some_iff, List.mapM_cons, List.mapM_nil, Option.bind_eq_bind, Option.bind_eq_some_iff, Option.pure_def, Option.some.injEq, h1, o1, h2, o2, c5, c9, List.drop, List.take] at h
   obtain ⟨xs, ⟨y0, k0, _, ⟨y1, k1, _, rfl, rfl⟩, rfl⟩, hx⟩ := h
   obtain ⟨z, e0, q0, _⟩ := DataW.trod_int Tryz.underlying5 k0
   obtain ⟨u, e1, q1, _⟩ := DataW.trod_string Tryz.underlying9 k1
   subst q0
   subst q1
   simp only [List.cons.injEq, and_true] at e0 e1
   subst e0
   subst e1
   simp at hx
   obtain ⟨⟨r0, r1⟩, _⟩ := hx
   subst r0
   exact ⟨rfl, by rw [ba_list r1]⟩
  ·cases h
theorem rows_of {W : World} {name : String} {g : Nat} {t e : TypeId} {n : Nat} {L : List (Int × List UInt8)} {f1 f2 : Field} (hn : L.length = n) (hg : Tryz.prog.globalNamed name = some g) (hty : (Tryz.prog.globals[g]?).map (·.type) = some t) (ht : Tryz.prog.underlying t = some (.array n e)) (he : Tryz.prog.underlying e = some (.struct #[f1, f2])) (hce : Tryz.prog.cellsOf e = 2) (hct : Tryz.prog.cellsOf t = n * 2) (h1 : f1.type = 5) (o1 : f1.offset = 0) (h2 : f2.type = 9) (o2 : f2.offset = 1)
  {g' : Nat} {t' : TypeId} {cs : Array Value} {fuel : Nat} {p : List MemPlace} (hg' : Tryz.prog.globalNamed name = some g') (ht' : (Tryz.prog.globals[g']?).map (·.type) = some t') (hv : W.var? Tryz.prog name = some cs) (h : DataW.trod (fun _ => ()) Tryz.prog W 0 (fun _ => true) false fuel t' cs.toList = some (.agg (L.map fun x => .agg [.lit (.int .u8 x.1), .lit (.string x.2)]), p)) : W.rangeAt g 0 (L.flatMap fun x => [.int .u8 x.1, .string ⟨x.2.toArray⟩]) := by
 obtain rfl := Option.some.inj (hg.symm.trans hg')
 obtain rfl := Option.some.inj (hty.symm.trans ht')
 have key : cs.toList = L.flatMap fun x => [.int .u8 x.1, .string ⟨x.2.toArray⟩] := by
  generalize cs.toList = l at h
  cases fuel with
  | zero => simp [DataW.trod] at h
  | succ fuel =>
   simp only [DataW.trod, ht, hce, hct] at h
   split at h
   ·rename_i hl
    obtain ⟨xs, hm, hx⟩ := Option.map_eq_some_iff.1 h
    have hxs : xs.map (·.1) = L.map fun x => (.agg [.lit (.int .u8 x.1), .lit (.string x.2)] : DataW Unit) := by
     have := congrArg Prod.fst hx
     simpa using this
    have hat : ∀ i, i < n → ∃ c0 c1, (l.drop (i * 2)).take 2 = [c0, c1] ∧ ∀ x, L[i]? = some x → c0 = .int .u8 x.1 ∧ c1 = .string ⟨x.2.toArray⟩ := fun i hi => by
     obtain ⟨b, hb, hf⟩ := Lib.mapM_at hm i i (by simp [hi])
     have hlen : ((l.drop (i * 2)).take 2).length = 2 := by
      rw [List.length_take, List.length_drop, hl]
      omega
     match hq : (l.drop (i * 2)).take 2, hlen with
     | [c0, c1], _ =>
      refine ⟨c0, c1, rfl, fun x hx => ?_⟩
      have h2' : (xs.map (·.1))[i]? = some b.1 := by simp [hb]
      rw [hxs] at h2'
      simp only [List.getElem?_map, hx, Option.map_some, Option.some.injEq] at h2'
      rw [hq] at hf
      rcases b with ⟨d, pp⟩
      simp only at h2'
      subst h2'
      exact us_of he hce h1 o1 h2 o2 hf
    clear hm hx hxs h
    clear ht he hce hct hty hg hg' ht' hv
    induction n generalizing l L with
    | zero =>
     have : L = [] := List.length_eq_zero_iff.1 hn
     subst this
     exact List.length_eq_zero_iff.1 (by omega)
    | succ n ih =>
     rcases L with _ | ⟨x, L⟩
     ·cases hn
     ·obtain ⟨c0, c1, q1, q2⟩ := hat 0 (by omega)
      obtain ⟨r1, r2⟩ := q2 x rfl
      have e : l = (l.drop 0).take 2 ++ l.drop 2 := by simp
      have := ih (L := L) (l := l.drop 2) (by simpa using hn) (by rw [List.length_drop]; omega) fun i hi => by
       obtain ⟨d0, d1, p1, p2⟩ := hat (i + 1) (by omega)
       refine ⟨d0, d1, ?_, fun y hy => p2 y (by simpa using hy)⟩
       rw [← p1, List.drop_drop]
       congr 2
       omega
      rw [e, this]
      have q1' : (l.drop 0).take 2 = [c0, c1] := by simpa using q1
      rw [q1', r1, r2]
      rfl
   ·cases h
 intro j x hx
 rw [World.var?_cell hg hv, ← Array.getElem?_toList, key, Nat.zero_add]
 exact hx
theorem laid_of {W : World} (h0 : laidMetH Tryz.prog lay9 W) (hs : W.ShapedOpen Tryz.prog) : LaidP W := by
 have h : laidMet Tryz.prog lay9 W := h0
 obtain ⟨ps, ⟨_, _, _, _, _, _, _, _, _, _, ⟨g2, t2, c2, f2, p2, _, hg2, ht2, hv2, hd2, ⟨g3, t3, c3, f3, p3, _, hg3, ht3, hv3, hd3, ⟨_, _, _, _, _, _, _, _, hv4, _, ⟨g5, t5, c5, f5, p5, _, hg5, ht5, hv5, hd5, ⟨g6, t6, c6, f6, p6, _, hg6, ht6, hv6, hd6, ⟨g7, t7, c7, f7, p7, _, hg7, ht7, hv7, hd7, ⟨g8, t8, c8, f8, p8, _, hg8, ht8, hv8, hd8, _, _⟩, _⟩, _⟩, _⟩, _⟩, _⟩, _⟩, _⟩, _⟩ := h
 have hsy := err_of (g := 8) (nm := "*errors.errorString") (by kernel_rfl) (by kernel_rfl) hg6 ht6 hv6 hd6
 have hrg := err_of (g := 9) (nm := "*errors.errorString") (by kernel_rfl) (by kernel_rfl) hg5 ht5 hv5 hd5
 refine ⟨⟨cell_of_shapedOpen_int hs (g := 2) (t := 3) (zero := #[.int .i64 0]) (by decide) (by kernel_rfl) rfl (by kernel_rfl) (by kernel_rfl) Tryz.underlying3, ?_, hsy, hrg, ?_, ?_⟩, ?_, ?_⟩
 ·exact tab_of (g := 3) (by kernel_rfl) (by kernel_rfl) (by kernel_rfl) Tryz.underlying243 Tryz.underlying47 (by kernel_rfl) (by kernel_rfl) hg3 ht3 hv3 hd3
 ·have := tab_of (g := 7) (zs := db64) (by kernel_rfl) (by kernel_rfl) (by kernel_rfl) Tryz.underlying261 Tryz.underlying5 (by kernel_rfl) (by kernel_rfl) hg2 ht2 hv2 hd2
  exact this.cell (by kernel_rfl) 15 (by decide)
 ·have hg : Tryz.prog.globalNamed "strconv.ErrRange" = some 9 := by kernel_rfl
  have := var_lt hg hv5
  omega
 ·exact rows_of (g := 0) (L := [(1, [105, 99, 109, 112]), (6, [116, 99, 112]), (17, [117, 100, 112])]) rfl (by kernel_rfl) (by kernel_rfl) Tryz.underlying145 Tryz.underlying144 (by kernel_rfl) (by kernel_rfl) rfl rfl rfl rfl hg7 ht7 hv7 hd7
 ·exact rows_of (g := 1) (L := [(2, [117, 115, 101, 114]), (3, [103, 114, 111, 117, 112]), (4, [116, 97, 103]), (5, [104, 111, 115, 116]), (6, [110, 101, 116])]) rfl (by kernel_rfl) (by kernel_rfl) Tryz.underlying154 Tryz.underlying153 (by kernel_rfl) (by kernel_rfl) rfl rfl rfl rfl hg8 ht8 hv8 hd8
theorem lay_witness (os : Os) (args : Array Value) : laidMetH Tryz.prog lay9 ((World.laidAll Tryz.prog os lay9).forCall (fun _ _ => 0) ⟨#[], args, []⟩).memory := laidMet_laidAll (laid := lay9) args (by kernel_rfl) (by kernel_rfl)
theorem handed_laid {H : Type} {enc : TypeId × Value → H} {os : Os} {f : FuncId} {fn : Func} {s : ChangeSpec} {conds : List PathCond} (own : ownKnob Tryz.prog.godebug = none) (started : os.Started) (noInit : Tryz.prog.inits.idxOf? f = none) (hfn : Tryz.prog.funcs[f]? = some fn)
  (wit : ∃ (w : World) (tape : Tape) (i : Input), w.os = os ∧ (w.forCall tape i).Shaped Tryz.checked.prog ∧ i.vars = [] ∧ Input.okWide Tryz.checked.prog (w.forCall tape i) .any w.heap.size f i ∧ ((s.pre enc Tryz.checked.prog fn conds false (w.forCall tape i).memory i.args ∧ laidMetH Tryz.checked.prog lay9 (w.forCall tape i).memory) ∧ sizedMet enc Tryz.checked.prog fn (OpenSpec.ofChange s) false (w.forCall tape i).memory i.args) ∧ ({} : Assume).holds Tryz.checked.prog (lone (Frame.enter Tryz.checked.prog f i.args .normal) [] (w.forCall tape i)))
  (contract : ∀ (W : World) (base : Nat) (args : Array Value) (ds gs : List (DataW H)) (before : List MemPlace), (∀ (j : Nat) t v, fn.params[j]? = some t → args[j]? = some v → Value.okWide Tryz.prog W .any base t v) → DataW.Whole enc Tryz.prog fn.params.toList s.vars false W args.toList ds gs before → LaidP W →
   Calls Tryz.prog f args W fun e W' => ∃ v, e = .returned v ∧ s.post enc Tryz.prog fn false true false false W args v W') :
  ReturnsInHanded {} Tryz.checked os f .any (fun w args => (s.pre enc Tryz.checked.prog fn conds false w args ∧ laidMetH Tryz.checked.prog lay9 w) ∧ sizedMet enc Tryz.checked.prog fn (OpenSpec.ofChange s) false w args) (s.post enc Tryz.checked.prog fn false true false false) := by
 refine returnsInHanded_of_calls own started noInit wit fun w tape i _ hsh _ hok hpre _ => ?_
 obtain ⟨_, _, _, fn2, hfn2, _, _, _, _, hval⟩ := hok
 obtain rfl : fn2 = fn := Option.some.inj (hfn2.symm.trans hfn)
 obtain ⟨⟨⟨ds, gs, before, hw, _⟩, hx⟩, _⟩ := hpre
 have hx2 : laidMetH Tryz.prog lay9 (w.forCall tape i) := laidMetH.of_heap (by rfl) hx
 have hl : LaidP (w.forCall tape i) := laid_of hx2 hsh
 have hw' := DataW.Whole.of_heap (w' := w.forCall tape i) (by rfl) hw
 refine (contract (w.forCall tape i) w.heap.size i.args ds gs before hval hw' hl).mono fun e W' ⟨v, he, hp⟩ => ?_
 subst he
 exact ChangeSpec.post_blind hp
theorem laidOut : laidOutB Tryz.prog = true := by kernel_rfl
theorem ownNone : ownKnob Tryz.prog.godebug = none := by kernel_rfl
section
variable {W : World} {b0 : Nat} {v : Value}
theorem cell_str (h : Cell.okWide Tryz.prog W .any b0 9 v) : ∃ s, v = .string s := by
 simp only [Cell.okWide, Tryz.underlying9] at h
 cases v <;> simp_all [Cell.ok, Tryz.underlying9]
theorem op9 (h : Value.okWide Tryz.prog W .any b0 9 v) : ∃ s, v = .string s := by
 simp only [Value.okWide, Tryz.underlying9] at h
 exact cell_str h
end
end Go.Proofs.YtbdgncndhnnjoaaGreatDoor
