/- Memory that is told block by block: parts of it, what is stored there; maps; a new slice of what lies somewhere. -/
import Derived.Test.YtlfekknonjlopaaXW
import Derived.MapKept
import Derived.Lib.SliceRun
import Derived.Lib.MinMax
import Derived.Laws.StructEq
namespace Go.Proofs.Ytlfekknonjlopaa
open Go.RowKit
set_option linter.unusedVariables false
set_option linter.unusedSimpArgs false
section
variable {P : Program} {S : Seat P} {c : Ctx} {E0 : Nat → Ent} {n : Nat} {B : Exit → Act → World → Prop} {K : List Fr} {s : St}
theorem lt_len (a b : Nat) (h : isLt a b = true) : isLt (a + 1) b = true := by
  simp only [isLt, Nat.blt_eq] at *
  omega
/-- Memory in two parts. -/
theorem xSplit (i : Nat) (T1 T2 : List Blk) (k : OK S c E0 n B K ⟨s.t, s.m.set i (tX T1) ++ [tX T2]⟩) (hi : s.m[i]? = some (tX (T1 ++ T2)) := by kernel_rfl) : OK S c E0 n B K s := by
  refine ⟨fun E a w hn hE H => k.out E a w (by simp only [List.length_append, List.length_set]; omega) hE ⟨H.tm, H.df, ?_, ?_, ?_, ?_⟩⟩
  · have p1 : (dens E 0 s.m).Perm ((T1 ++ T2) ++ dens E 0 (s.m.set i gap)) := dens_get E s.m 0 i _ hi
    have p2 : (dens E 0 (s.m.set i (tX T1))).Perm (T1 ++ dens E 0 (s.m.set i gap)) := dens_set E s.m 0 i _ (tX T1) hi
    have e : dens E (0 + (s.m.set i (tX T1)).length) [tX T2] = T2 := by
      show T2 ++ [] = T2
      rw [List.append_nil]
    show Mem S c (dens E 0 (s.m.set i (tX T1) ++ [tX T2])) w
    rw [dens_app, e]
    refine H.mem.perm (p1.trans ?_)
    refine List.Perm.trans ?_ (p2.symm.append_right T2)
    rw [List.append_assoc, List.append_assoc]
    exact List.Perm.append_left T1 List.perm_append_comm
  · intro j x hx
    have hx : (s.m.set i (tX T1) ++ [tX T2])[j]? = some x := hx
    rw [List.getElem?_append] at hx
    split at hx
    · rw [List.getElem?_set] at hx
      split at hx
      · split at hx
        · cases hx
          exact trivial
        · cases hx
      · exact H.ok j x hx
    · rw [List.getElem?_singleton] at hx
      split at hx
      · cases hx
        exact trivial
      · cases hx
  · refine all_imp (fun y hy => SV.al_imp (fun b hb => ?_) y hy) H.wt
    simp only [List.length_append, List.length_set, List.length_singleton, isLt, Nat.blt_eq] at *
    omega
  · have h0 : (s.m.set i (tX T1)).all (It.al (isLt s.m.length)) = true := all_set H.wm rfl
    have h1 : (s.m.set i (tX T1) ++ [tX T2]).all (It.al (isLt s.m.length)) = true := by
      rw [List.all_append, h0]
      rfl
    refine all_imp (fun y hy => It.al_imp (fun b hb => ?_) y hy) h1
    simp only [List.length_append, List.length_set, List.length_singleton, isLt, Nat.blt_eq] at *
    omega
end
theorem dens_sub (E : Nat → Ent) : ∀ (m : List It) (k i : Nat) (x y : It), m[i]? = some x → (y.den E (k + i)).Sublist (x.den E (k + i)) → (dens E k (m.set i y)).Sublist (dens E k m)
  | [], _, _, _, _, h, _ => by simp at h
  | z :: m, k, 0, x, y, h, hs => by
    simp only [List.getElem?_cons_zero, Option.some.injEq] at h
    subst h
    exact hs.append_right _
  | z :: m, k, i + 1, x, y, h, hs => by
    simp only [List.set_cons_succ, dens]
    exact (dens_sub E m (k + 1) i x y (by simpa using h) (by rw [show k + 1 + i = k + (i + 1) by omega]; exact hs)).append_left _
/-- A part of memory is forgotten. -/
theorem xDrop {P : Program} {S : Seat P} {c : Ctx} {E0 : Nat → Ent} {n : Nat} {B : Exit → Act → World → Prop} {K : List Fr} {s : St} (i : Nat) (T T' : List Blk) (h : T'.Sublist T) (k : OK S c E0 n B K ⟨s.t, s.m.set i (tX T')⟩) (hi : s.m[i]? = some (tX T) := by kernel_rfl) : OK S c E0 n B K s :=
  ⟨fun E a w hn hE H => k.out E a w (by simpa using hn) hE ⟨H.tm, H.df, H.mem.drop (dens_sub E s.m 0 i (tX T) (tX T') hi h), fun j x hx => by
    have hx : (s.m.set i (tX T'))[j]? = some x := hx
    rw [List.getElem?_set] at hx
    split at hx
    · split at hx
      · cases hx
        exact trivial
      · cases hx
    · exact H.ok j x hx, by simpa using H.wt, by
    have h0 : (s.m.set i (tX T')).all (It.al (isLt s.m.length)) = true := all_set H.wm rfl
    simpa using h0⟩⟩
/-- What sv tells, with the items L, becomes data. -/
theorem xPk {P : Program} {S : Seat P} {c : Ctx} {E0 : Nat → Ent} {n : Nat} {B : Exit → Act → World → Prop} {K : List Fr} {s : St} (sv : SV) (L : List (Nat × It)) (D : Value → List Blk → Prop) (ts : List Nat) (cs : List (Nat × Nat))
    (hD : ∀ E : Nat → Ent, okP E L → (sv.den E).oneCell' = true ∧ D (sv.den E) (denP E L))
    (k : OK S c E0 n B K (packS s (L.map Prod.fst) D ts cs)) (hl : lk s.m (L.map Prod.fst) = L := by kernel_rfl)
    (hA : (sv.isA && (inM s.m (L.map Prod.fst) && sv.al (isLt s.m.length))) = true := by kernel_rfl)
    (hT : pickT ts 0 s.t = (pickT ts 0 s.t).map fun _ => sv := by kernel_rfl)
    (hC : pickC s.m.length cs (gapM s.m (L.map Prod.fst)) = (pickC s.m.length cs (gapM s.m (L.map Prod.fst))).map fun _ => sv := by kernel_rfl) : OK S c E0 n B K s :=
  xPack sv (L.map Prod.fst) D ts cs (fun E h => by rw [hl] at h ⊢; exact hD E h) k hA hT hC
/-- One block became another one. -/
theorem okT_blk {P : Program} {S : Seat P} {w w' : World} {A B : List Blk} {g : Nat} {Z Z' : Obj} (T : There S w (A ++ ⟨g, Z⟩ :: B)) (hg : Grw w w' [g]) (hz : w'.heap[g]? = some Z') : OkT w w' (A ++ ⟨g, Z⟩ :: B) (A ++ ⟨g, Z'⟩ :: B) := by
  have hn := T.nodup
  have hne : ∀ b ∈ A ++ B, b.g ≠ g := by
    intro b hb e
    rw [List.map_append, List.map_cons] at hn
    have hp : ((A.map Blk.g) ++ g :: B.map Blk.g).Perm (g :: ((A ++ B).map Blk.g)) := by rw [List.map_append]; exact List.perm_middle
    have := (hp.nodup_iff.1 hn)
    exact (List.nodup_cons.1 this).1 (e ▸ List.mem_map_of_mem hb)
  refine ⟨hg.sub fun x hx => by rw [List.mem_singleton.1 hx]; simp, fun b hb => ?_, by simpa using hn, fun b hb => .inl (by
    rcases List.mem_append.1 hb with h | h
    · simp; exact .inl ⟨b, h, rfl⟩
    · rcases List.mem_cons.1 h with rfl | h
      · simp
      · simp; exact .inr (.inr ⟨b, h, rfl⟩))⟩
  have old : b ∈ A ++ B → w'.heap[b.g]? = some b.Z := fun h => by
    have hm : b ∈ A ++ ⟨g, Z⟩ :: B := by
      rcases List.mem_append.1 h with h | h
      · exact List.mem_append_left _ h
      · exact List.mem_append_right _ (List.mem_cons_of_mem _ h)
    rw [hg.block _ (T.lt hm) fun e => hne b h (List.mem_singleton.1 e)]
    exact T.at_ b hm
  rcases List.mem_append.1 hb with h | h
  · exact old (List.mem_append_left _ h)
  · rcases List.mem_cons.1 h with rfl | h
    · exact hz
    · exact old (List.mem_append_right _ h)
section
variable {P : Program} {S : Seat P} {C : World → Prop}
/-- An operation that changes memory b only. -/
def dWrX (q : VO) (b : Nat) (T T' : List Blk) (v : SV) (h : ∀ E w, S.laid w → There S w T → Fin P ((q.sem E).run P w) fun r w' => r = v.den E ∧ OkT w w' T T') : Dr S C :=
  dSp fun _ => ⟨q, [], [(b, tX T)], [tX T'], [], v, fun _ _ => fun E w hL hC Th hok => by
    have hd : denP E ([] ++ [(b, tX T)]) = T := by
      show T ++ [] = T
      rw [List.append_nil]
    have hd' : denP E ([] ++ (([(b, tX T)].map Prod.fst).zip [tX T'] ++ ix b [])) = T' := by
      show T' ++ [] = T'
      rw [List.append_nil]
    rw [hd] at Th
    refine (h E w hL Th).mono fun r w' hr => ⟨E, fun _ _ => rfl, ?_, hr.1, ?_⟩
    · intro p hp
      simp [ix] at hp
      subst hp
      trivial
    · rw [hd]
      have hd2 : denP E ([] ++ (([(b, tX T)].map Prod.fst).zip [tX T'] ++ ix ‹Nat› [])) = T' := by
        show T' ++ [] = T'
        rw [List.append_nil]
      rw [hd2]
      exact hr.2⟩
/-- A cell of a block that lies there. -/
def dLdX (t : TypeId) (b : Nat) (T : List Blk) (g off : Nat) (Z : List Value) (e : TypeId) (v : Value) (hm : (⟨g, .cells Z.toArray e (0, 0)⟩ : Blk) ∈ T) (hz : Z[off]? = some v) (ha : aggT P t = some false := by kernel_rfl) : Dr S C :=
  dRdX (oOp 2 t 0 [] [vV (.pointer (some ⟨g, off, none⟩))]) b T (vV v) fun E w _ _ hT => by
    exact load_one ha (by rw [cell_at (hT _ hm)]; exact hz)
theorem cells_at {Z cs : List Value} {off : Nat} (h : (Z.drop off).take cs.length = cs) : ∀ j x, cs[j]? = some x → Z[off + j]? = some x := fun j x hx => by
  have hj := (List.getElem?_eq_some_iff.1 hx).1
  rw [← h, List.getElem?_take_of_lt hj, List.getElem?_drop] at hx
  exact hx
/-- Its cells from a place on. -/
def dLdXn (t : TypeId) (b : Nat) (T : List Blk) (g off : Nat) (Z : List Value) (e : TypeId) (cs : List Value) (hm : (⟨g, .cells Z.toArray e (0, 0)⟩ : Blk) ∈ T) (hz : ∀ j x, cs[j]? = some x → Z[off + j]? = some x) (hs : Nat.beq cs.length (sizeT P t) = true := by kernel_rfl) (ha : aggT P t = some true := by kernel_rfl) : Dr S C :=
  dRdX (oOp 2 t 0 [] [vV (.pointer (some ⟨g, off, none⟩))]) b T (vG (cs.map vV)) fun E w _ _ hT => by
    rw [vG_map]
    exact load_row ha (nbeq.1 hs) (info_some ha) fun j x hx => by rw [cell_at (hT _ hm)]; exact hz j x hx
/-- A cell is stored there. -/
def dStX (t : TypeId) (b : Nat) (A B : List Blk) (g off : Nat) (Z : List Value) (e : TypeId) (v : Value) (ho : off < Z.length) (h1 : v.oneCell' = true := by rfl) (hc : v.cells.toList = [v] := by rfl) (hs : Nat.beq 1 (sizeT P t) = true := by kernel_rfl) (h0 : (P.info? t).isSome = true := by kernel_rfl) : Dr S C :=
  dWrX (oOp 3 t 0 [] [vV (.pointer (some ⟨g, off, none⟩)), vV v]) b (A ++ ⟨g, .cells Z.toArray e (0, 0)⟩ :: B) (A ++ ⟨g, .cells (Z.set off v).toArray e (0, 0)⟩ :: B) (vV undef) fun E w _ T => by
    have hg : w.heap[g]? = some (.cells Z.toArray e (0, 0)) := T.at_ ⟨g, .cells Z.toArray e (0, 0)⟩ (by simp)
    have hr : ((oOp 3 t 0 [] [vV (.pointer (some ⟨g, off, none⟩)), vV v]).sem E).run P w = .ok .skip (w.setCells g off [v]) := store_run (vs := [v]) hg hc (nbeq.1 hs) h0 (by simp only [List.length_singleton]; omega) (by simpa using h1)
    rw [hr]
    refine ⟨rfl, okT_blk T (grw_setCells g [v] w off) ?_⟩
    rw [heap_setCells g e [v] w Z.toArray off hg]
    simp [setAll]
/-- The greater one of two. -/
def dMax (t : TypeId) (ts : List TypeId) (cs : List Bool) (k : IntKind) (x y : Int) : Dr S C :=
  dRd (oBi .max ts t cs [vV (.int k x), vV (.int k y)]) (vV (.int k (max x y))) fun E w _ _ => by
    show (do pure (Next.value (← Builtin.max_ ts.toArray t #[.int k x, .int k y])) : Sem Next).run P w = _
    simp only [Sem.run_bind, run_max_int2, Result.andThen_ok, Sem.run_pure]
    have : (if y > x then y else x) = max x y := by rw [Int.max_def]; split <;> split <;> omega
    rw [this]
    rfl
theorem ad0 (g k : Nat) : (⟨g, 0, none⟩ : Addr).add k = ⟨g, k, none⟩ := by simp [Addr.add_lit]
/-- The end of a slice, -/
def dSlLo (t : TypeId) (K : Nat) (g n cap i : Nat) (hlt : i ≤ n) (hc : i < cap) (hu : P.underlying t = some (.slice (P.elem t)) := by kernel_rfl) (hs : (P.info? (P.elem t)).map (·.size) = some K := by kernel_rfl) : Dr S C :=
  dRd (oOp 5 t 0 [true, false, false] [vV (.slice (some ⟨g, 0, none⟩) n cap), vV (.int .i64 (i : Int)), vV undef, vV undef]) (vV (.slice (some ⟨g, i * K, none⟩) (n - i) (cap - i))) fun E w _ _ => by
    cases hq : P.info? (P.elem t) with
    | none => simp [hq] at hs
    | some u =>
      have hsz : u.size = K := by simpa [hq] using hs
      have hne : ¬ cap = i := by omega
      show (semV (Instr.sliceAt t (.slice (some ⟨g, 0, none⟩) n cap) (some (.int .i64 (i : Int))) none none)).run P w = _
      simp [semV, Instr.sliceAt, Instr.slice, run_underlying hu, Instr.sliceBounds, run_sliceBound, sizeOf, typeInfo, hq, hsz, ad0, hne, hlt]
      rfl
/-- its beginning. -/
def dSlHi (t : TypeId) (g n cap i : Nat) (hlt : i ≤ n) (hc : n ≤ cap) (hu : P.underlying t = some (.slice (P.elem t)) := by kernel_rfl) (h0 : (P.info? (P.elem t)).isSome = true := by kernel_rfl) : Dr S C :=
  dRd (oOp 5 t 0 [false, true, false] [vV (.slice (some ⟨g, 0, none⟩) n cap), vV undef, vV (.int .i64 (i : Int)), vV undef]) (vV (.slice (some ⟨g, 0, none⟩) i cap)) fun E w _ _ => by
    cases hq : P.info? (P.elem t) with
    | none => simp [hq] at h0
    | some u =>
      have hle : i ≤ cap := by omega
      show (semV (Instr.sliceAt t (.slice (some ⟨g, 0, none⟩) n cap) none (some (.int .i64 (i : Int))) none)).run P w = _
      simp [semV, Instr.sliceAt, Instr.slice, run_underlying hu, Instr.sliceBounds, run_sliceBound, sizeOf, typeInfo, hq, ad0, hle]
      rfl
/-- A slice of elements of one cell is cleared. -/
def dClr (t ty : TypeId) (b : Nat) (A B : List Blk) (g off n cp : Nat) (Z : List Value) (e : TypeId) (z : Value) (hn : 0 < n) (hl : off + n ≤ Z.length) (hv : (fun w => (zeroValue (P.elem t)).run P w) = (fun w => .ok z w) := by kernel_rfl) (hz : z.cells = #[z] := by rfl) (h1 : z.oneCell' = true := by rfl) (hu : P.underlying t = some (.slice (P.elem t)) := by kernel_rfl) : Dr S C :=
  dWrX (oBi .clear [t] ty [false] [vV (.slice (some ⟨g, off, none⟩) n cp)]) b (A ++ ⟨g, .cells Z.toArray e (0, 0)⟩ :: B) (A ++ ⟨g, .cells (Z.take off ++ (List.replicate n z ++ Z.drop (off + n))).toArray e (0, 0)⟩ :: B) (vT []) fun E w _ T => by
    have hg : w.heap[g]? = some (.cells Z.toArray e (0, 0)) := T.at_ ⟨g, .cells Z.toArray e (0, 0)⟩ (by simp)
    have hr := Lib.run_clear_slice (P := P) w t (P.elem t) ty z hu (fun w => congrFun hv w) hz h1 g off n cp hn (fun j hj => by rw [cell_at hg, List.getElem?_eq_getElem (by omega)]; rfl) (fun j hj => free_at hg _)
    show Fin P ((do pure (Next.value (← Builtin.clear_ #[t] ty #[.slice (some ⟨g, off, none⟩) n cp])) : Sem Next).run P w) _
    simp only [Sem.run_bind, hr, Result.andThen_ok, Sem.run_pure]
    refine ⟨rfl, okT_blk T (grw_setCells _ _ _ _) ?_⟩
    rw [heap_setCells g e _ w Z.toArray off hg, setAll_eq _ _ _ (by simpa using hl)]
    simp
end
/-- The entries of a map, told by keys. -/
def ents {α : Type} (enc : α → Value) (ms : List (α × Value × Nat)) : List MapEntry := ms.map fun e => ⟨enc e.1, e.2.1, e.2.2⟩
def fndM {α : Type} [DecidableEq α] (x : α) : List (α × Value × Nat) → Nat → Option (Nat × Value)
  | [], _ => none
  | e :: l, i => if x = e.1 then some (i, e.2.1) else fndM x l (i + 1)
/-- What a map has. -/
def lkM {α : Type} [DecidableEq α] (x : α) : List (α × Value × Nat) → Option Value
  | [] => none
  | e :: l => if x = e.1 then some e.2.1 else lkM x l
/-- A map without one. -/
def rmM {α : Type} [DecidableEq α] (x : α) : List (α × Value × Nat) → List (α × Value × Nat)
  | [] => []
  | e :: l => if x = e.1 then l else e :: rmM x l
theorem fnd_lk {α : Type} [DecidableEq α] (x : α) : ∀ (l : List (α × Value × Nat)) (i : Nat), fndM x l i = none ↔ lkM x l = none
  | [], _ => by simp [fndM, lkM]
  | e :: l, i => by
    unfold fndM lkM
    split
    · simp
    · exact fnd_lk x l (i + 1)
theorem fnd_some {α : Type} [DecidableEq α] (x : α) : ∀ (l : List (α × Value × Nat)) (i j : Nat) (v : Value), fndM x l i = some (j, v) → lkM x l = some v ∧ ∃ k, j = i + k ∧ k < l.length ∧ l.eraseIdx k = rmM x l
  | [], _, _, _, h => by simp [fndM] at h
  | e :: l, i, j, v, h => by
    unfold fndM at h
    unfold lkM rmM
    split
    · rename_i hx
      rw [if_pos hx] at h
      simp only [Option.some.injEq, Prod.mk.injEq] at h
      exact ⟨by rw [h.2], 0, by omega, by simp, rfl⟩
    · rename_i hx
      rw [if_neg hx] at h
      obtain ⟨h1, k, h2, h3, h4⟩ := fnd_some x l (i + 1) j v h
      exact ⟨h1, k + 1, by omega, by simp; omega, by simp [h4]⟩
theorem eraseIdx_map' {α β : Type} (f : α → β) : ∀ (l : List α) (k : Nat), (l.map f).eraseIdx k = (l.eraseIdx k).map f
  | [], _ => by simp
  | _ :: _, 0 => rfl
  | x :: l, k + 1 => by simp [eraseIdx_map' f l k]
/-- Keys of such a kind. -/
structure KM {α : Type} [DecidableEq α] (P : Program) (kt : TypeId) (enc : α → Value) : Prop where
  check : ∀ (em : Bool) (w : World) (x : α), (Instr.checkKey em 10000 kt (enc x)).run P w = .ok () w
  find : ∀ (w : World) (x : α) (ms : List (α × Value × Nat)), (Instr.findKey kt (enc x) (ents enc ms)).run P w = .ok (fndM x ms 0) w
theorem km_ask {α : Type} [DecidableEq α] {P : Program} {kt : TypeId} {enc : α → Value} {d : TypeDesc} (hu : P.underlying kt = some d) (hd : ∀ a b, Instr.sameNow d a b = none)
    (check : ∀ (em : Bool) (w : World) (x : α), (Instr.checkKey em 10000 kt (enc x)).run P w = .ok () w) (eq : ∀ (w : World) (x y : α), (Op.equal kt (enc x) (enc y)).run P w = .ok (decide (x = y)) w) : KM P kt enc := by
  refine ⟨check, fun w x ms => ?_⟩
  have ask : ∀ (ms : List (α × Value × Nat)) (i : Nat), (Instr.findAsking kt (enc x) (ents enc ms) i).run P w = .ok (fndM x ms i) w := by
    intro ms
    induction ms with
    | nil => intro i; rfl
    | cons e l ih =>
      intro i
      show (Instr.findAsking kt (enc x) (⟨enc e.1, e.2.1, e.2.2⟩ :: ents enc l) i).run P w = _
      unfold Instr.findAsking fndM
      simp only [Sem.run_bind, eq, Result.andThen_ok]
      by_cases h : x = e.1
      · rw [if_pos h, decide_eq_true h]
        rfl
      · rw [if_neg h, decide_eq_false h]
        exact ih (i + 1)
  unfold Instr.findKey
  simp only [Sem.run_bind, run_underlying hu, Result.andThen_ok]
  cases ms with
  | nil => rfl
  | cons e l =>
    have : Instr.findNow d (enc x) (ents enc (e :: l)) 0 = none := by
      show Instr.findNow d (enc x) (⟨enc e.1, e.2.1, e.2.2⟩ :: ents enc l) 0 = none
      unfold Instr.findNow
      rw [hd]
    rw [this]
    exact ask (e :: l) 0
def mapO {α : Type} (enc : α → Value) (ms : List (α × Value × Nat)) (clock : Nat) : Obj := .map (ents enc ms).toArray clock
section
variable {P : Program} {S : Seat P} {C : World → Prop} {α : Type} [DecidableEq α] {enc : α → Value}
theorem lk_run {t kt et : TypeId} (K : KM P kt enc) (hu : P.underlying t = some (.map kt et)) {w : World} {gm clock : Nat} {ms : List (α × Value × Nat)} (hg : w.heap[gm]? = some (mapO enc ms clock)) (x : α) (z : Value) (hz : (fun w => (zeroValue et).run P w) = (fun w => .ok z w)) (ok : Bool) :
    (semV (Instr.lookup t (.map (some gm)) (enc x) ok)).run P w = .ok (.value (match lkM x ms with | some v => if ok then .tuple #[v, .bool true] else v | none => if ok then .tuple #[z, .bool false] else z)) w := by
  have hz := congrFun hz w
  simp only [semV, Instr.lookup, Sem.run_bind, run_underlying hu, Result.andThen_ok, MapKept.run_getObj_map hg, K.check, Sem.run_pure]
  have hf := K.find w x ms
  have : (Instr.findKey kt (enc x) (ents enc ms).toArray.toList).run P w = .ok (fndM x ms 0) w := hf
  simp only [this, Result.andThen_ok]
  cases h : fndM x ms 0 with
  | none =>
    rw [(fnd_lk x ms 0).1 h]
    simp only [Sem.run_bind, hz, Result.andThen_ok, Sem.run_pure]
  | some p =>
    obtain ⟨j, v⟩ := p
    rw [(fnd_some x ms 0 j v h).1]
    simp only [Sem.run_bind, Result.andThen_ok, Sem.run_pure]
/-- What a map has, with the word whether it has it: it is there, -/
def dLk1 (t kt et : TypeId) (K : KM P kt enc) (b : Nat) (T : List Blk) (gm : Nat) (ms : List (α × Value × Nat)) (clock : Nat) (x : α) (ks : SV) (z v : Value) (hks : ∀ E, ks.den E = enc x) (hm : (⟨gm, mapO enc ms clock⟩ : Blk) ∈ T) (h : lkM x ms = some v) (hu : P.underlying t = some (.map kt et) := by kernel_rfl) (hz : (fun w => (zeroValue et).run P w) = (fun w => .ok z w) := by kernel_rfl) : Dr S C :=
  dRdX (oOp 9 t 0 [true] [vV (.map (some gm)), ks]) b T (vT [vV v, vV (.bool true)]) fun E w _ _ hT => by
    have := lk_run K hu (hT _ hm) x z hz true
    rw [h] at this
    show (semV (Instr.lookup t (.map (some gm)) (ks.den E) true)).run P w = _
    rw [hks, this]
    exact rfl
/-- it is not. -/
def dLk0 (t kt et : TypeId) (K : KM P kt enc) (b : Nat) (T : List Blk) (gm : Nat) (ms : List (α × Value × Nat)) (clock : Nat) (x : α) (ks : SV) (z : Value) (hks : ∀ E, ks.den E = enc x) (hm : (⟨gm, mapO enc ms clock⟩ : Blk) ∈ T) (h : lkM x ms = none) (hu : P.underlying t = some (.map kt et) := by kernel_rfl) (hz : (fun w => (zeroValue et).run P w) = (fun w => .ok z w) := by kernel_rfl) : Dr S C :=
  dRdX (oOp 9 t 0 [true] [vV (.map (some gm)), ks]) b T (vT [vV z, vV (.bool false)]) fun E w _ _ hT => by
    have := lk_run K hu (hT _ hm) x z hz true
    rw [h] at this
    show (semV (Instr.lookup t (.map (some gm)) (ks.den E) true)).run P w = _
    rw [hks, this]
    exact rfl
theorem grw_setB {w : World} {g : Nat} {Z : Obj} : Grw w { w with heap := w.heap.setIfInBounds g Z } [g] :=
  ⟨rfl, rfl, rfl, by simp, fun k hk hr => by
    show (w.heap.setIfInBounds g Z)[k]? = _
    rw [Array.getElem?_setIfInBounds, if_neg fun e => hr (by simp [e])]⟩
theorem at_setB {w : World} {g : Nat} {Z Z0 : Obj} (h : w.heap[g]? = some Z0) : ({ w with heap := w.heap.setIfInBounds g Z } : World).heap[g]? = some Z := by
  show (w.heap.setIfInBounds g Z)[g]? = _
  have := (Array.getElem?_eq_some_iff.1 h).1
  rw [Array.getElem?_setIfInBounds, if_pos rfl, if_pos this]
/-- A map gets one that it hasn't. -/
def dMu (t kt et : TypeId) (K : KM P kt enc) (b : Nat) (A B : List Blk) (gm : Nat) (ms : List (α × Value × Nat)) (clock : Nat) (x : α) (ks : SV) (v : Value) (hks : ∀ E, ks.den E = enc x) (h : lkM x ms = none) (hu : P.underlying t = some (.map kt et) := by kernel_rfl) : Dr S C :=
  dWrX (oOp 10 t 0 [] [vV (.map (some gm)), ks, vV v]) b (A ++ ⟨gm, mapO enc ms clock⟩ :: B) (A ++ ⟨gm, mapO enc (ms ++ [(x, v, clock)]) (clock + 1)⟩ :: B) (vV undef) fun E w _ T => by
    have hg : w.heap[gm]? = some (mapO enc ms clock) := T.at_ ⟨gm, mapO enc ms clock⟩ (by simp)
    have hf : (Instr.findKey kt (enc x) (ents enc ms).toArray.toList).run P w = .ok none w := by
      rw [← (fnd_lk x ms 0).2 h]
      exact K.find w x ms
    show Fin P ((semU (Instr.mapUpdate t (.map (some gm)) (ks.den E) v)).run P w) _
    rw [hks]
    have hr : (semU (Instr.mapUpdate t (.map (some gm)) (enc x) v)).run P w = .ok .skip { w with heap := w.heap.setIfInBounds gm (mapO enc (ms ++ [(x, v, clock)]) (clock + 1)) } := by
      simp only [semU, Instr.mapUpdate, Sem.run_bind, run_underlying hu, Result.andThen_ok, MapKept.run_getObj_map hg, K.check, hf, MapKept.run_setObj_map _ hg, Sem.run_pure]
      simp [mapO, ents]
    rw [hr]
    exact ⟨rfl, okT_blk T grw_setB (at_setB hg)⟩
/-- One is taken out of a map. -/
def dDel (t kt et ty : TypeId) (ts : List TypeId) (cs : List Bool) (K : KM P kt enc) (b : Nat) (A B : List Blk) (gm : Nat) (ms : List (α × Value × Nat)) (clock : Nat) (x : α) (ks : SV) (hks : ∀ E, ks.den E = enc x) (v : Value) (h : lkM x ms = some v) (ht : ts.head? = some t := by rfl) (hu : P.underlying t = some (.map kt et) := by kernel_rfl) : Dr S C :=
  dWrX (oBi .delete ts ty cs [vV (.map (some gm)), ks]) b (A ++ ⟨gm, mapO enc ms clock⟩ :: B) (A ++ ⟨gm, mapO enc (rmM x ms) clock⟩ :: B) (vT []) fun E w _ T => by
    have hg : w.heap[gm]? = some (mapO enc ms clock) := T.at_ ⟨gm, mapO enc ms clock⟩ (by simp)
    obtain ⟨j, v', hj⟩ : ∃ j v', fndM x ms 0 = some (j, v') := by
      cases hq : fndM x ms 0 with
      | none => rw [(fnd_lk x ms 0).1 hq] at h; cases h
      | some p => exact ⟨p.1, p.2, rfl⟩
    have hf : (Instr.findKey kt (enc x) (ents enc ms).toArray.toList).run P w = .ok (some (j, v')) w := by
      rw [← hj]
      exact K.find w x ms
    obtain ⟨-, k, hk, hkl, he⟩ := fnd_some x ms 0 j v' hj
    have hk : j = k := by omega
    subst hk
    show Fin P ((do pure (Next.value (← Builtin.delete_ ts.toArray ty #[.map (some gm), ks.den E])) : Sem Next).run P w) _
    rw [hks]
    have hts : ts.toArray[0]? = some t := by
      rw [List.getElem?_toArray, ← List.head?_eq_getElem?]
      exact ht
    have e2 : (ents enc ms).toArray.eraseIdxIfInBounds j = (ents enc (rmM x ms)).toArray := by
      have hl : j < (ents enc ms).length := by simpa [ents] using hkl
      rw [← he]
      unfold Array.eraseIdxIfInBounds
      rw [dif_pos (by simpa using hl)]
      simp only [ents, List.eraseIdx_toArray, eraseIdx_map']
    have hr : (Builtin.delete_ ts.toArray ty #[.map (some gm), enc x]).run P w = .ok (.tuple #[]) { w with heap := w.heap.setIfInBounds gm (mapO enc (rmM x ms) clock) } := by
      simp only [Builtin.delete_, hts, List.getElem?_toArray, List.getElem?_cons_zero, List.getElem?_cons_succ, Sem.run_bind, run_underlying hu, Result.andThen_ok, MapKept.run_getObj_map hg, K.check, hf, MapKept.run_setObj_map _ hg, Sem.run_pure]
      rw [e2]
      rfl
    simp only [Sem.run_bind, hr, Result.andThen_ok, Sem.run_pure]
    exact ⟨rfl, okT_blk T grw_setB (at_setB hg)⟩
/-- A map that is empty, as data. -/
def mkD (v : Value) (T : List Blk) : Prop := ∃ gm, v = .map (some gm) ∧ T = [⟨gm, .map #[] 0⟩]
/-- A new map. -/
def dMk (t : TypeId) : Dr S C :=
  dSp fun b => ⟨oOp 12 t 0 [] [], [], [], [], [tD mkD], vW b, fun _ _ => fun E w hL hC T hok => by
    let E' : Nat → Ent := fun i => bif Nat.beq i b then ⟨0, .map (some w.heap.size), [⟨w.heap.size, .map #[] 0⟩], rfl⟩ else E i
    have hb : E' b = ⟨0, .map (some w.heap.size), [⟨w.heap.size, .map #[] 0⟩], rfl⟩ := by
      have : Nat.beq b b = true := nbeq.2 rfl
      simp only [E', this, cond_true]
    have hr : ((oOp 12 t 0 [] []).sem E).run P w = .ok (.value (.map (some w.heap.size))) (w.alloc (.map #[] 0)) := rfl
    rw [hr]
    refine ⟨E', fun i hi => ?_, ?_, ?_, ?_⟩
    · have : Nat.beq i b = false := by
        cases h : Nat.beq i b with
        | false => rfl
        | true =>
          have h2 : newAt b 1 b = true := by simp [newAt, Nat.blt_eq]
          rw [nbeq.1 h] at hi
          have hi : newAt b 1 b = false := hi
          rw [h2] at hi
          cases hi
      simp only [E', this, cond_false]
    · intro p hp
      simp [ix] at hp
      subst hp
      show mkD (E' b).v (E' b).T
      rw [hb]
      exact ⟨_, rfl, rfl⟩
    · show Value.map (some w.heap.size) = (E' b).v
      rw [hb]
    · have e1 : denP E' (([] : List (Nat × It)) ++ (((([] : List (Nat × It)).map Prod.fst).zip ([] : List It)) ++ ix b [tD mkD])) = [⟨w.heap.size, .map #[] 0⟩] := by
        show (E' b).T ++ [] = _
        rw [hb]
        rfl
      rw [e1]
      refine ⟨⟨rfl, rfl, rfl, by simp, fun k hk _ => Below.heap_alloc _ _ _ hk⟩, ?_, by simp, ?_⟩
      · intro x hx
        simp only [List.mem_singleton] at hx
        subst hx
        exact heap_alloc_new w _
      · intro x hx
        simp only [List.mem_singleton] at hx
        subst hx
        exact .inr (Nat.le_refl _)⟩
end
/-- What a call does that looks at memory T, said plainly. -/
theorem Ct.callsT {P : Program} {S : Seat P} {f : FuncId} {xs : List SV} {args : List Value} {T : List Blk} {v : SV} {r : Value} (h : Ct S (fun _ => True) f xs [tX T] [] [] [] v) (hx : ∀ E, xs.map (SV.den E) = args) (hv : ∀ E, v.den E = r) {w : World} (hL : S.laid w) (hT : There S w T)
    (he : (fun (args : Array Value) (w : World) => (callFunc f args).run P w) = fun args w => .ok (.enter f args) w := by kernel_rfl) : Calls P f args.toArray w fun e w' => e = .returned r ∧ Below w.heap.size w w' := by
  have he : ∀ (args : Array Value) (w : World), (callFunc f args).run P w = .ok (.enter f args) w := fun args w => congrFun (congrFun he args) w
  have hd : denP (fun _ => (⟨0, .bool true, [], rfl⟩ : Ent)) (ix 0 ([tX T] ++ [])) = T := by
    show T ++ [] = T
    rw [List.append_nil]
  have key := h.out (fun _ => ⟨0, .bool true, [], rfl⟩) w hL (fun _ _ => trivial) (by rw [hd]; exact hT) (by
    intro p hp
    simp [ix] at hp
    subst hp
    trivial)
  have e : ((oCall f xs).sem fun _ => ⟨0, .bool true, [], rfl⟩).run P w = .ok (.enter f args.toArray) w := by
    show (callFunc f (xs.map (SV.den _)).toArray).run P w = _
    rw [hx, he]
  rw [e] at key
  refine Calls.mono key ?_
  rintro e w' ⟨v', rfl, E', -, -, rfl, hT'⟩
  refine ⟨by rw [hv], ?_⟩
  rw [hd] at hT'
  refine ⟨hT'.grw.os, hT'.grw.tape, hT'.grw.output, hT'.grw.size, fun k hk => ?_⟩
  by_cases hm : k ∈ T.map Blk.g
  · obtain ⟨b, hb, rfl⟩ := List.mem_map.1 hm
    have hb' : b ∈ denP E' (postC [tX T] [] [] []) := by
      show b ∈ T ++ []
      rw [List.append_nil]
      exact hb
    rw [hT'.at_ b hb', hT.at_ b hb]
  · exact hT'.grw.block k hk hm
/-- The same, of a call that looks at nothing. -/
theorem Ct.callsX {P : Program} {S : Seat P} {f : FuncId} {xs : List SV} {args : List Value} {v : SV} {r : Value} (h : Ct S (fun _ => True) f xs [] [] [] [] v) (hx : ∀ E, xs.map (SV.den E) = args) (hv : ∀ E, v.den E = r) {w : World} (hL : S.laid w)
    (he : (fun (args : Array Value) (w : World) => (callFunc f args).run P w) = fun args w => .ok (.enter f args) w := by kernel_rfl) : Calls P f args.toArray w fun e w' => e = .returned r ∧ Below w.heap.size w w' := by
  have he : ∀ (args : Array Value) (w : World), (callFunc f args).run P w = .ok (.enter f args) w := fun args w => congrFun (congrFun he args) w
  have key := h.out (fun _ => ⟨0, .bool true, [], rfl⟩) w hL (fun _ _ => trivial) ⟨by simp [ix, denP], by simp [ix, denP], by simp [ix, denP]⟩ (by simp [okP, ix])
  have e : ((oCall f xs).sem fun _ => ⟨0, .bool true, [], rfl⟩).run P w = .ok (.enter f args.toArray) w := by
    show (callFunc f (xs.map (SV.den _)).toArray).run P w = _
    rw [hx, he]
  rw [e] at key
  refine Calls.mono key ?_
  rintro e w' ⟨v', rfl, E', -, -, rfl, hT⟩
  exact ⟨by rw [hv], hT.grw.below⟩
end Go.Proofs.Ytlfekknonjlopaa
