/- Rows that grow, as data. -/
import Derived.Test.YtlfekknonjlopaaXK
import Derived.Deep.AppendSrc
import Derived.Laws.Entries
namespace Go.Proofs.Ytlfekknonjlopaa
open Go.RowKit
set_option linter.unusedVariables false
set_option linter.unusedSimpArgs false

def InfoK (P : Program) (e : TypeId) (K : Nat) (zv : Value) : Prop := ∃ i, P.info? e = some i ∧ i.zero = some zv ∧ i.size = K ∧ i.bytes ≤ 128
theorem infoK {P : Program} {e : TypeId} {K : Nat} {zv : Value} {b : Nat} (h1 : (P.info? e).map (·.zero) = some (some zv)) (h2 : (P.info? e).map (·.size) = some K) (h3 : (P.info? e).map (·.bytes) = some b) (hb : b ≤ 128) : InfoK P e K zv := by
  cases h : P.info? e with
  | none => rw [h] at h2; cases h2
  | some i =>
    rw [h] at h1 h2 h3
    simp only [Option.map_some, Option.some.injEq] at h1 h2 h3
    exact ⟨i, h, h1, h2, by omega⟩
/-- The block of a slice that may grow: n elements of K cells, cs; nil or not. -/
def Buf (K : Nat) (e : TypeId) (n : Nat) (cs : List Value) (v : Value) (T : List Blk) : Prop :=
  cs.length = n * K ∧ ((n = 0 ∧ (∃ a, v = .slice a 0 0) ∧ T = []) ∨ ∃ (g cap : Nat) (Z : List Value), v = .slice (some ⟨g, 0, none⟩) n cap ∧ n ≤ cap ∧ Z.length = cap * K ∧ Z.take (n * K) = cs ∧ T = [⟨g, .cells Z.toArray e (0, 0)⟩])
theorem buf_nil (K : Nat) (e : TypeId) : Buf K e 0 [] (.slice none 0 0) [] := ⟨by simp, .inl ⟨rfl, ⟨_, rfl⟩, rfl⟩⟩
theorem buf_one {K : Nat} {e : TypeId} {n : Nat} {cs : List Value} {v : Value} {T : List Blk} (h : Buf K e n cs v T) : v.oneCell' = true := by
  rcases h.2 with ⟨_, ⟨_, rfl⟩, _⟩ | ⟨_, _, _, rfl, _⟩ <;> rfl
theorem setAll_take : ∀ (vs : List Value) (cs : List Value) (o : Nat), o + vs.length ≤ cs.length → (cs.take o ++ vs ++ cs.drop (o + vs.length)).take (o + vs.length) = cs.take o ++ vs := fun vs cs o h => by
  rw [List.take_append_of_le_length (by simp; omega), List.take_of_length_le (by simp; omega)]
theorem firstCells0 {P : Program} (w : World) (size : Nat) (a : Option Addr) : (Builtin.firstCells size 0 (.slice a 0 0)).run P w = .ok (#[] : Array Value) w := by
  cases a with
  | none => exact run_firstCells_none w size 0 0 0
  | some a => exact run_firstCells_some w size 0 a 0 0 [] (by simp) (fun j v h => by simp at h)
/-- One is put behind the others. -/
theorem buf_app {P : Program} {w : World} {t ty e : TypeId} {K : Nat} {zv : Value} (ht : P.underlying t = some (.slice e)) (hin : InfoK P e K zv) (hzc : zv.cells.size = K) {n : Nat} {cs : List Value} {v : Value} {T : List Blk} (hB : Buf K e n cs v T) (hat : ∀ b ∈ T, w.heap[b.g]? = some b.Z) (hle : n < 500000) {gx Tx : Nat} {xs : List Value} (hx : w.heap[gx]? = some (.cells xs.toArray Tx (0, 0))) (hxl : xs.length = K) (hx1 : ∀ u ∈ xs, u.oneCell' = true) :
    ∃ v' T' w', (Builtin.append_ #[t, t] ty #[v, .slice (some ⟨gx, 0, none⟩) 1 1]).run P w = .ok v' w' ∧ Buf K e (n + 1) (cs ++ xs) v' T' ∧ OkT w w' T T' := by
  obtain ⟨info, i1, i2, i3, i4⟩ := hin
  subst i3
  have hlen := hB.1
  have ea : ∀ (g k : Nat), (⟨g, 0, none⟩ : Addr).add k = ⟨g, k, none⟩ := fun g k => by simp [Addr.add_lit]
  have hnews : ∀ k u, xs[k]? = some u → w.cell? ((⟨gx, 0, none⟩ : Addr).add k) = some u := fun k u hu => by
    rw [ea, cell_at hx]
    exact hu
  have hsrc : Src P info.size t (.slice (some ⟨gx, 0, none⟩) 1 1) 1 xs w := Src.ofSlice w ht ⟨gx, 0, none⟩ 1 1 _ (by rw [hxl, Nat.one_mul]) hnews hx1
  have hll : (cs ++ xs).length = (n + 1) * info.size := by rw [List.length_append, hxl, hlen, Nat.succ_mul]
  have grow : ∀ (base : Option Addr) (cap : Nat), v = .slice base n cap → ¬ n < cap → n ≤ cap → (Builtin.firstCells info.size n (.slice base n cap)).run P w.drew = .ok cs.toArray w.drew → ∃ v' T' w', (Builtin.append_ #[t, t] ty #[v, .slice (some ⟨gx, 0, none⟩) 1 1]).run P w = .ok v' w' ∧ Buf info.size e (n + 1) (cs ++ xs) v' T' ∧ OkT w w' T T' := fun base cap hsv hroom hnc hold => by
    have hr := run_append_grow_src (P := P) w t t ty e info zv ht i1 i2 base n cap cs hold (.slice (some ⟨gx, 0, none⟩) 1 1) 1 _ hsrc (by omega) (by omega) (growslice_fits (by omega) (by
        have := Nat.mul_le_mul (show n + 1 ≤ 500000 by omega) i4
        omega))
    have hge := grownCap_ge w (n + 1) cap e
    generalize grownCap w (n + 1) cap e = nc at hr hge
    obtain ⟨q, rfl⟩ : ∃ q, nc = n + 1 + q := ⟨nc - (n + 1), by omega⟩
    subst hsv
    refine ⟨_, [⟨w.heap.size, .cells ((cs ++ xs).toArray ++ Builtin.zeroCells zv.cells (n + 1 + q - (n + 1))) e (0, 0)⟩], _, hr, ⟨hll, .inr ⟨w.heap.size, n + 1 + q, cs ++ xs ++ (Builtin.zeroCells zv.cells (n + 1 + q - (n + 1))).toList, rfl, by omega, ?_, ?_, ?_⟩⟩, ⟨rfl, rfl, rfl, by simp, fun k hk _ => Below.heap_alloc _ _ _ hk⟩, ?_, by simp, by simp⟩
    · rw [List.length_append, hll, Array.length_toList, size_zeroCells, hzc, Nat.add_sub_cancel_left, ← Nat.add_mul]
    · rw [← hll]
      exact List.take_left
    · refine congrArg (fun A => [(⟨w.heap.size, .cells A e (0, 0)⟩ : Blk)]) (Array.ext' (by simp))
    · intro b hb
      simp only [List.mem_singleton] at hb
      subst hb
      exact heap_alloc_new w.drew _
  rcases hB.2 with ⟨hn0, ⟨a0, hv⟩, rfl⟩ | ⟨g, cap, Z, hv, hnc, hZ, hcs, rfl⟩
  · subst hn0
    have hl0 : cs = [] := List.length_eq_zero_iff.1 (by simpa using hlen)
    subst hl0
    exact grow a0 0 hv (by omega) (by omega) (firstCells0 w.drew info.size a0)
  · have hg : w.heap[g]? = some (.cells Z.toArray e (0, 0)) := hat ⟨g, .cells Z.toArray e (0, 0)⟩ (by simp)
    by_cases hroom : n < cap
    · have hcm : n * info.size + info.size ≤ cap * info.size := by rw [← Nat.succ_mul]; exact Nat.mul_le_mul_right _ hroom
      have hr := run_append_room_src (P := P) w t t ty e info ht i1 g 0 n cap (.slice (some ⟨gx, 0, none⟩) 1 1) 1 _ hsrc hroom (fun k hk => by
          rw [Nat.zero_add, cell_at hg, List.getElem?_eq_getElem (by omega)]
          rfl) (fun k hk => by
          unfold World.frozen?
          rw [hg]
          simp)
      rw [Nat.zero_add] at hr
      subst hv
      refine ⟨_, [⟨g, .cells (Z.take (n * info.size) ++ xs ++ Z.drop (n * info.size + xs.length)).toArray e (0, 0)⟩], _, hr, ⟨hll, .inr ⟨g, cap, _, rfl, by omega, ?_, ?_, rfl⟩⟩, grw_setCells _ _ _ _, ?_, by simp, by simp⟩
      · simp only [List.length_append, List.length_take, List.length_drop]
        omega
      · rw [show (n + 1) * info.size = n * info.size + xs.length by rw [Nat.succ_mul, hxl], setAll_take xs Z _ (by omega), hcs]
      · intro b hb
        simp only [List.mem_singleton] at hb
        subst hb
        rw [heap_setCells _ _ _ _ _ _ hg, setAll_eq _ _ _ (by omega), List.append_assoc]
    · exact grow _ cap hv hroom hnc (run_firstCells_some w.drew info.size n ⟨g, 0, none⟩ n cap cs hlen (fun k u hu => by
        rw [ea]
        have hk := (List.getElem?_eq_some_iff.1 hu).1
        rw [cell_at (W := w.drew) hg, ← hu, ← hcs, List.getElem?_take_of_lt (by omega)]))

/-- Elements one behind the other, each of K cells, with its own blocks. -/
def Els {α : Type} (el : α → List Value → List Blk → Prop) (K : Nat) : List α → List Value → List Blk → Prop
  | [], cs, T => cs = [] ∧ T = []
  | x :: l, cs, T => ∃ c1 c2 T1 T2, cs = c1 ++ c2 ∧ c1.length = K ∧ T = T1 ++ T2 ∧ el x c1 T1 ∧ Els el K l c2 T2
theorem els_snoc {α : Type} {el : α → List Value → List Blk → Prop} {K : Nat} {x : α} {c1 : List Value} {T1 : List Blk} (hx : el x c1 T1) (hl : c1.length = K) : ∀ {l : List α} {cs : List Value} {T : List Blk}, Els el K l cs T → Els el K (l ++ [x]) (cs ++ c1) (T ++ T1)
  | [], _, _, ⟨rfl, rfl⟩ => ⟨c1, [], T1, [], by simp, hl, by simp, hx, rfl, rfl⟩
  | y :: l, _, _, ⟨d1, d2, U1, U2, rfl, h1, rfl, hy, h2⟩ => ⟨d1, d2 ++ c1, U1, U2 ++ T1, by simp, h1, by simp, hy, els_snoc hx hl h2⟩
/-- A list of elements, as data. -/
def RowD {α : Type} (K : Nat) (e : TypeId) (el : α → List Value → List Blk → Prop) (l : List α) (v : Value) (T : List Blk) : Prop :=
  ∃ cs Tb Te, Buf K e l.length cs v Tb ∧ Els el K l cs Te ∧ T = Tb ++ Te
theorem row_nil {α : Type} (K : Nat) (e : TypeId) (el : α → List Value → List Blk → Prop) : RowD K e el [] (.slice none 0 0) [] := ⟨[], [], [], buf_nil K e, ⟨rfl, rfl⟩, rfl⟩
theorem denP_gaps (E : Nat → Ent) : ∀ l : List (Nat × It), denP E (l.map fun p => (p.1, gap)) = []
  | [] => rfl
  | p :: l => by simp only [List.map_cons, denP, gap_den, denP_gaps E l, List.append_nil]
/-- One is put behind the others: the row is item b1, the new one's cells lie in item b2, and what belongs to it are the items sub. -/
theorem ls_app {P : Program} {S : Seat P} {C : World → Prop} {t ty e : TypeId} {K : Nat} {zv : Value} (ht : P.underlying t = some (.slice e)) (hin : InfoK P e K zv) (hzc : zv.cells.size = K) {α : Type} (el : α → List Value → List Blk → Prop) (l : List α) (x : α) (b b1 b2 : Nat) (e2 : TypeId) (cs : List SV) (sub : List (Nat × It)) (hle : l.length < 500000) (hcl : cs.length = K) (h1 : cs.all one1 = true)
    (hel : ∀ E : Nat → Ent, okP E sub → el x (cs.map (SV.denC E)) (denP E sub)) (hb1 : b1 ≠ b) (hb2 : b2 ≠ b) :
    LS S C (oBi .append [t, t] ty [false, false] [vW b1, vS b2 0 1 1]).sem ((b1, tD (RowD K e el l)) :: (b2, tC cs e2) :: sub) (newAt b 1) (vW b) (((b1, tD (RowD K e el l)) :: (b2, tC cs e2) :: sub).map (fun p => (p.1, gap)) ++ [(b, tD (RowD K e el (l ++ [x])))]) := by
  intro E w hL hC T hok
  have ho1 : RowD K e el l (E b1).v (E b1).T := hok (b1, tD (RowD K e el l)) (by simp)
  obtain ⟨cs0, Tb, Te, hB, hE, hT⟩ := ho1
  have hden : denP E ((b1, tD (RowD K e el l)) :: (b2, tC cs e2) :: sub) = Tb ++ (Te ++ (⟨(E b2).g, .cells (cs.map (SV.denC E)).toArray e2 (0, 0)⟩ :: denP E sub)) := by
    show (E b1).T ++ _ = _
    rw [hT, List.append_assoc]
    rfl
  have hat : ∀ b ∈ Tb, w.heap[b.g]? = some b.Z := fun z hz => T.at_ z (by rw [hden]; simp [hz])
  have hx : w.heap[(E b2).g]? = some (.cells (cs.map (SV.denC E)).toArray e2 (0, 0)) := T.at_ ⟨(E b2).g, .cells (cs.map (SV.denC E)).toArray e2 (0, 0)⟩ (by rw [hden]; simp)
  obtain ⟨v', T', w', hr, hB', hT'⟩ := buf_app (ty := ty) ht hin hzc hB hat hle hx (by simpa using hcl) (fun u hu => by
    obtain ⟨y, hy, rfl⟩ := List.mem_map.1 hu
    exact one_den (List.all_eq_true.1 h1 y hy) E)
  have hrun : ((oBi .append [t, t] ty [false, false] [vW b1, vS b2 0 1 1]).sem E).run P w = .ok (.value v') w' := by
    show (do pure (Next.value (← Builtin.append_ #[t, t] ty #[(E b1).v, .slice (some ⟨(E b2).g, 0, none⟩) 1 1])) : Sem Next).run P w = _
    simp only [Sem.run_bind, hr, Result.andThen_ok, Sem.run_pure]
  rw [hrun]
  let E' : Nat → Ent := fun i => bif Nat.beq i b then ⟨0, v', T' ++ (Te ++ denP E sub), buf_one hB'⟩ else E i
  have hb : E' b = ⟨0, v', T' ++ (Te ++ denP E sub), buf_one hB'⟩ := by
    have : Nat.beq b b = true := nbeq.2 rfl
    simp only [E', this, cond_true]
  refine ⟨E', fun i hi => ?_, ?_, ?_, ?_⟩
  · have : Nat.beq i b = false := by
      cases h : Nat.beq i b with
      | false => rfl
      | true =>
        have h2 : newAt b 1 b = true := by simp [newAt, Nat.blt_eq]
        rw [nbeq.1 h, h2] at hi
        cases hi
    simp only [E', this, cond_false]
  · rw [okP_app]
    refine ⟨fun p hp => ?_, fun p hp => ?_⟩
    · obtain ⟨q, _, rfl⟩ := List.mem_map.1 hp
      exact trivial
    · simp only [List.mem_singleton] at hp
      subst hp
      show RowD K e el (l ++ [x]) (E' b).v (E' b).T
      rw [hb]
      have hs : okP E sub := fun p hp => hok p (by simp [hp])
      exact ⟨_, T', Te ++ denP E sub, by rw [List.length_append]; exact hB', els_snoc (hel E hs) (by simpa using hcl) hE, rfl⟩
  · show v' = (E' b).v
    rw [hb]
  · have hd2 : denP E' (((b1, tD (RowD K e el l)) :: (b2, tC cs e2) :: sub).map (fun p => (p.1, gap)) ++ [(b, tD (RowD K e el (l ++ [x])))]) = T' ++ (Te ++ denP E sub) := by
      rw [denP_app, denP_gaps, List.nil_append]
      show (E' b).T ++ [] = _
      rw [hb, List.append_nil]
    rw [hd2, hden]
    rw [hden] at T
    have M := (Mem.start hL T).step hT'
    have M2 : Mem S ⟨w, (Tb ++ (Te ++ (⟨(E b2).g, .cells (cs.map (SV.denC E)).toArray e2 (0, 0)⟩ :: denP E sub))).map Blk.g⟩ (T' ++ (Te ++ denP E sub)) w' := M.drop (List.Sublist.append_left (List.Sublist.append_left (List.sublist_cons_self _ _) _) _)
    exact M2.okT
/-- The word on it; sub: the numbers of what belongs to the new one, with the items. -/
def dApp {P : Program} {S : Seat P} {C : World → Prop} (t ty e : TypeId) (K : Nat) (zv : Value) {α : Type} (el : α → List Value → List Blk → Prop) (l : List α) (x : α) (b1 b2 : Nat) (e2 : TypeId) (cs : List SV) (sub : List (Nat × It)) (hle : l.length < 500000)
    (hel : ∀ E : Nat → Ent, okP E sub → el x (cs.map (SV.denC E)) (denP E sub))
    (ht : P.underlying t = some (.slice e) := by kernel_rfl) (h1 : (P.info? e).map (·.zero) = some (some zv) := by kernel_rfl) (h2 : (P.info? e).map (·.size) = some K := by kernel_rfl) (hB : ((P.info? e).map fun i => Nat.ble i.bytes 128) = some true := by kernel_rfl)
    (hq : (Nat.beq zv.cells.size K && (Nat.beq cs.length K && cs.all one1)) = true := by kernel_rfl) : Dr S C :=
  dSp fun b => ⟨oBi .append [t, t] ty [false, false] [vW b1, vS b2 0 1 1], [], (b1, tD (RowD K e el l)) :: (b2, tC cs e2) :: sub, ((b1, tD (RowD K e el l)) :: (b2, tC cs e2) :: sub).map (fun _ => gap), [tD (RowD K e el (l ++ [x]))], vW b, fun _ hb => by
    simp only [Bool.and_eq_true, nbeq] at hq
    have hin : InfoK P e K zv := by
      cases h : P.info? e with
      | none => rw [h] at h2; cases h2
      | some i =>
        rw [h] at h1 h2 hB
        simp only [Option.map_some, Option.some.injEq] at h1 h2 hB
        exact ⟨i, h, h1, h2, Nat.le_of_ble_eq_true hB⟩
    have := ls_app (S := S) (C := C) (ty := ty) ht hin hq.1 el l x b b1 b2 e2 cs sub hle hq.2.1 hq.2.2 hel (fun h => absurd (hb (b1, tD (RowD K e el l)) (by simp)) (by simp [h])) (fun h => absurd (hb (b2, tC cs e2) (by simp)) (by simp [h]))
    have hz : ∀ L : List (Nat × It), (L.map Prod.fst).zip (L.map fun _ => gap) = L.map fun p => (p.1, gap) := by
      intro L
      induction L with
      | nil => rfl
      | cons p L ih => simp only [List.map_cons, List.zip_cons_cons, ih]
    simp only [List.nil_append, hz]
    exact this⟩
end Go.Proofs.Ytlfekknonjlopaa
