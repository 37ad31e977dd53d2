/- Data becomes plain: its value in all slots and cells, its blocks as memory that is read. -/
import Derived.Test.YtlfekknonjlopaaXT
namespace Go.Proofs.Ytlfekknonjlopaa
open Go.RowKit
set_option linter.unusedVariables false
set_option linter.unusedSimpArgs false
set_option linter.unusedSectionVars false

theorem nT {b : Bool} (h : b = false) : ¬ b = true := by rw [h]; exact Bool.false_ne_true
def unA (b : Nat) (v : Value) (s : SV) : SV := match s.k with
  | 3 => bif Nat.beq s.b b then vV v else s
  | _ => s
def unB (b : Nat) (v : Value) (s : SV) : SV := match s.k with
  | 5 => ⟨s.k, s.x, s.b, s.o, s.n, s.h, s.l.map (unA b v), s.m, s.fn⟩
  | _ => unA b v s
def unC (b : Nat) (v : Value) (s : SV) : SV := match s.k with
  | 7 => ⟨s.k, s.x, s.b, s.o, s.n, s.h, s.l.map (unA b v), s.m.map (unA b v), s.fn⟩
  | 8 => match s.l with
    | y :: l => ⟨s.k, s.x, s.b, s.o, s.n, s.h, unB b v y :: l, s.m, s.fn⟩
    | [] => s
  | _ => unA b v s
def unU (b : Nat) (v : Value) (s : SV) : SV := match s.k with
  | 5 => ⟨s.k, s.x, s.b, s.o, s.n, s.h, s.l.map (unC b v), s.m, s.fn⟩
  | _ => unC b v s
def unS (b : Nat) (v : Value) (s : SV) : SV := match s.k with
  | 6 => ⟨s.k, s.x, s.b, s.o, s.n, s.h, s.l.map (unU b v), s.m, s.fn⟩
  | _ => unU b v s
def unI (b : Nat) (v : Value) (s : It) : It := match s.k with
  | 0 => tC (s.l.map (unC b v)) s.t
  | _ => s
theorem unA_den {E : Nat → Ent} {b : Nat} {v : Value} (h : (E b).v = v) (s : SV) : (unA b v s).denA E = s.denA E := by
  obtain ⟨k, x, j, o, n, g, l, m, fn⟩ := s
  unfold unA
  split
  · rename_i hk
    simp only at hk
    subst hk
    cases e : Nat.beq j b with
    | false => rfl
    | true =>
      have := nbeq.1 e
      subst this
      exact h.symm
  · rfl
theorem unA_k {E : Nat → Ent} {b : Nat} {v : Value} (h : (E b).v = v) (s : SV) (hk : s.k ≠ 3) : unA b v s = s := by
  unfold unA
  split
  · rename_i h3; exact absurd h3 hk
  · rfl
theorem unA_isA {E : Nat → Ent} {b : Nat} {v : Value} (h : (E b).v = v) (s : SV) : (unA b v s).k = 0 ∨ (unA b v s).k = s.k := by
  unfold unA
  split
  · cases Nat.beq s.b b with
    | false => exact .inr rfl
    | true => exact .inl rfl
  · exact .inr rfl
theorem unB_den {E : Nat → Ent} {b : Nat} {v : Value} (h : (E b).v = v) (s : SV) : (unB b v s).denB E = s.denB E := by
  obtain ⟨k, x, j, o, n, g, l, m, fn⟩ := s
  by_cases hk : k = 5
  · subst hk
    show Value.agg ((l.map (unA b v)).map (SV.denA E)).toArray = Value.agg (l.map (SV.denA E)).toArray
    rw [List.map_map]
    congr 2
    exact List.map_congr_left fun x _ => unA_den h x
  · have e1 : unB b v ⟨k, x, j, o, n, g, l, m, fn⟩ = unA b v ⟨k, x, j, o, n, g, l, m, fn⟩ := by
      unfold unB
      split
      · rename_i h5; exact absurd h5 hk
      · rfl
    have e2 : ∀ s : SV, s.k ≠ 5 → s.denB E = s.denA E := fun s hs => by
      unfold SV.denB
      split
      · rename_i h5; exact absurd h5 hs
      · rfl
    rw [e1]
    exact (e2 (unA b v ⟨k, x, j, o, n, g, l, m, fn⟩) (by rcases unA_isA h ⟨k, x, j, o, n, g, l, m, fn⟩ with e | e <;> rw [e]; exact (by decide); exact hk)).trans ((unA_den h _).trans (e2 _ hk).symm)
theorem unC_den {E : Nat → Ent} {b : Nat} {v : Value} (h : (E b).v = v) (s : SV) : (unC b v s).denC E = s.denC E := by
  obtain ⟨k, x, j, o, n, g, l, m, fn⟩ := s
  by_cases h7 : k = 7
  · subst h7
    show Value.func fn ((l.map (unA b v)).map (SV.denA E)).toArray ((m.map (unA b v)).map (SV.denA E)).toArray = Value.func fn (l.map (SV.denA E)).toArray (m.map (SV.denA E)).toArray
    rw [List.map_map, List.map_map]
    congr 2
    · exact List.map_congr_left fun x _ => unA_den h x
    · exact List.map_congr_left fun x _ => unA_den h x
  · by_cases h8 : k = 8
    · subst h8
      cases l with
      | nil => rfl
      | cons y l =>
        show Value.iface j ((unB b v y).denB E) = Value.iface j (y.denB E)
        rw [unB_den h]
    · have e1 : unC b v ⟨k, x, j, o, n, g, l, m, fn⟩ = unA b v ⟨k, x, j, o, n, g, l, m, fn⟩ := by
        unfold unC
        split
        · rename_i h5; exact absurd h5 h7
        · rename_i h5; exact absurd h5 h8
        · rfl
      have e2 : ∀ s : SV, s.k ≠ 7 → s.k ≠ 8 → s.denC E = s.denA E := fun s hs hs2 => by
        unfold SV.denC
        split
        · rename_i h5; exact absurd h5 hs
        · rename_i h5; exact absurd h5 hs2
        · rfl
      rw [e1]
      exact (e2 (unA b v ⟨k, x, j, o, n, g, l, m, fn⟩) (by rcases unA_isA h ⟨k, x, j, o, n, g, l, m, fn⟩ with e | e <;> rw [e]; exact (by decide); exact h7) (by rcases unA_isA h ⟨k, x, j, o, n, g, l, m, fn⟩ with e | e <;> rw [e]; exact (by decide); exact h8)).trans ((unA_den h _).trans (e2 _ h7 h8).symm)
theorem unC_k {E : Nat → Ent} {b : Nat} {v : Value} (h : (E b).v = v) (s : SV) (hk : s.k ≠ 3) : (unC b v s).k = s.k := by
  unfold unC
  split
  · rfl
  · split <;> rfl
  · rw [unA_k h s hk]
theorem unC_k3 {E : Nat → Ent} {b : Nat} {v : Value} (h : (E b).v = v) (s : SV) (hk : s.k = 3) : (unC b v s).k = 0 ∨ (unC b v s).k = 3 := by
  unfold unC
  split
  · rename_i h5; omega
  · rename_i h5; omega
  · rcases unA_isA h s with e | e
    · exact .inl e
    · exact .inr (e.trans hk)
theorem unU_den {E : Nat → Ent} {b : Nat} {v : Value} (h : (E b).v = v) (s : SV) : (unU b v s).denU E = s.denU E := by
  obtain ⟨k, x, j, o, n, g, l, m, fn⟩ := s
  by_cases hk : k = 5
  · subst hk
    show Value.agg ((l.map (unC b v)).map (SV.denC E)).toArray = Value.agg (l.map (SV.denC E)).toArray
    rw [List.map_map]
    congr 2
    exact List.map_congr_left fun x _ => unC_den h x
  · have e1 : unU b v ⟨k, x, j, o, n, g, l, m, fn⟩ = unC b v ⟨k, x, j, o, n, g, l, m, fn⟩ := by
      unfold unU
      split
      · rename_i h5; exact absurd h5 hk
      · rfl
    have e2 : ∀ s : SV, s.k ≠ 5 → s.denU E = s.denC E := fun s hs => by
      unfold SV.denU
      split
      · rename_i h5; exact absurd h5 hs
      · rfl
    have e3 : (unC b v ⟨k, x, j, o, n, g, l, m, fn⟩).k ≠ 5 := by
      by_cases h3 : k = 3
      · rcases unC_k3 h ⟨k, x, j, o, n, g, l, m, fn⟩ h3 with e | e <;> rw [e] <;> decide
      · rw [unC_k h ⟨k, x, j, o, n, g, l, m, fn⟩ h3]
        exact hk
    rw [e1]
    exact (e2 _ e3).trans ((unC_den h _).trans (e2 _ hk).symm)
theorem unU_k {E : Nat → Ent} {b : Nat} {v : Value} (h : (E b).v = v) (s : SV) : (unU b v s).k = s.k ∨ s.k = 3 ∧ (unU b v s).k = 0 := by
  unfold unU
  split
  · exact .inl rfl
  · by_cases h3 : s.k = 3
    · rcases unC_k3 h s h3 with e | e
      · exact .inr ⟨h3, e⟩
      · exact .inl (e.trans h3.symm)
    · exact .inl (unC_k h s h3)
theorem unS_den {E : Nat → Ent} {b : Nat} {v : Value} (h : (E b).v = v) (s : SV) : (unS b v s).den E = s.den E := by
  obtain ⟨k, x, j, o, n, g, l, m, fn⟩ := s
  by_cases hk : k = 6
  · subst hk
    show Value.tuple ((l.map (unU b v)).map (SV.denU E)).toArray = Value.tuple (l.map (SV.denU E)).toArray
    rw [List.map_map]
    congr 2
    exact List.map_congr_left fun x _ => unU_den h x
  · have e1 : unS b v ⟨k, x, j, o, n, g, l, m, fn⟩ = unU b v ⟨k, x, j, o, n, g, l, m, fn⟩ := by
      unfold unS
      split
      · rename_i h5; exact absurd h5 hk
      · rfl
    have e2 : ∀ s : SV, s.k ≠ 6 → s.den E = s.denU E := fun s hs => by
      unfold SV.den
      split
      · rename_i h5; exact absurd h5 hs
      · rfl
    have e3 : (unU b v ⟨k, x, j, o, n, g, l, m, fn⟩).k ≠ 6 := by
      rcases unU_k h ⟨k, x, j, o, n, g, l, m, fn⟩ with e | ⟨_, e⟩ <;> rw [e]
      · exact hk
      · decide
    rw [e1]
    exact (e2 _ e3).trans ((unU_den h _).trans (e2 _ hk).symm)
theorem unI_den {E : Nat → Ent} {b : Nat} {v : Value} (h : (E b).v = v) (x : It) (i : Nat) : (unI b v x).den E i = x.den E i := by
  unfold unI
  split
  · rename_i hk
    rw [it0 hk, it0 (show (tC (x.l.map (unC b v)) x.t).k = 0 from rfl)]
    show [(⟨(E i).g, .cells ((x.l.map (unC b v)).map (SV.denC E)).toArray x.t (0, 0)⟩ : Blk)] = _
    rw [List.map_map]
    congr 4
    exact List.map_congr_left fun y _ => unC_den h y
  · rfl
theorem unI_ok {E : Nat → Ent} {b : Nat} {v : Value} {x : It} {i : Nat} (h : x.ok E i) : (unI b v x).ok E i := by
  unfold unI
  split
  · exact trivial
  · exact h
theorem unI_dens {E : Nat → Ent} {b : Nat} {v : Value} (h : (E b).v = v) : ∀ (m : List It) (k : Nat), dens E k (m.map (unI b v)) = dens E k m
  | [], _ => rfl
  | x :: m, k => by simp only [List.map_cons, dens, unI_den h, unI_dens h m (k + 1)]
/-- Data item i: its value is v0, its blocks T0, to be read. -/
theorem xOpen {P : Program} {S : Seat P} {c : Ctx} {E0 : Nat → Ent} {n : Nat} {B : Exit → Act → World → Prop} {K : List Fr} {s : St} (i : Nat) {D : Value → List Blk → Prop}
    (h : ∀ v0 T0, D v0 T0 → OK S c E0 n B K ⟨s.t.map (unS i v0), (s.m.map (unI i v0)).set i (tX T0)⟩) (hi : s.m[i]? = some (tD D) := by kernel_rfl)
    (hA : (fun v0 => (s.t.map (unS i v0)).all (SV.al (isLt s.m.length)) && (s.m.map (unI i v0)).all (It.al (isLt s.m.length))) = (fun _ => true) := by kernel_rfl) : OK S c E0 n B K s :=
  ⟨fun E a w hn hE H => by
    have hm : (s.m.map (unI i (E i).v))[i]? = some (tD D) := by rw [List.getElem?_map, hi]; rfl
    obtain ⟨hA1, hA2⟩ := Bool.and_eq_true_iff.1 (congrFun hA (E i).v)
    refine (h (E i).v (E i).T (H.ok i _ hi)).out E a w (by simpa using hn) hE ⟨?_, H.df, ?_, ?_, ?_, ?_⟩
    · rw [H.tm]
      unfold tv
      rw [List.map_map]
      congr 1
      exact (List.map_congr_left fun y _ => unS_den (b := i) (v := (E i).v) rfl y).symm
    · show Mem S c (dens E 0 ((s.m.map (unI i (E i).v)).set i (tX (E i).T))) w
      rw [dens_set_same E _ 0 i (tD D) (tX (E i).T) hm (by rw [Nat.zero_add]; rfl), unI_dens rfl]
      exact H.mem
    · intro k x hx
      have hx : ((s.m.map (unI i (E i).v)).set i (tX (E i).T))[k]? = some x := hx
      rw [List.getElem?_set] at hx
      split at hx
      · split at hx
        · cases hx
          exact trivial
        · cases hx
      · rw [List.getElem?_map] at hx
        cases hy : s.m[k]? with
        | none => rw [hy] at hx; cases hx
        | some y =>
          rw [hy] at hx
          cases hx
          exact unI_ok (H.ok k y hy)
    · simp only [List.length_set, List.length_map]
      exact hA1
    · simp only [List.length_set, List.length_map]
      exact all_set hA2 rfl⟩
/-- The same, but the item stays data, and cells are left as they are: it can be told as it was behind that (xWk). -/
theorem xOpenF {P : Program} {S : Seat P} {c : Ctx} {E0 : Nat → Ent} {n : Nat} {B : Exit → Act → World → Prop} {K : List Fr} {s : St} (i : Nat) {D : Value → List Blk → Prop}
    (h : ∀ v0 T0, D v0 T0 → OK S c E0 n B K ⟨s.t.map (unS i v0), s.m.set i (tD (fixD v0 T0))⟩) (hi : s.m[i]? = some (tD D) := by kernel_rfl)
    (hA : (fun v0 => (s.t.map (unS i v0)).all (SV.al (isLt s.m.length))) = (fun _ => true) := by kernel_rfl) : OK S c E0 n B K s :=
  ⟨fun E a w hn hE H => by
    have H2 := data_set hi (D' := fixD (E i).v (E i).T) ⟨rfl, rfl⟩ H
    refine (h (E i).v (E i).T (H.ok i _ hi)).out E a w (by simpa using hn) hE ⟨?_, H2.df, H2.mem, H2.ok, ?_, H2.wm⟩
    · rw [H.tm]
      unfold tv
      rw [List.map_map]
      congr 1
      exact (List.map_congr_left fun y _ => unS_den (b := i) (v := (E i).v) rfl y).symm
    · simp only [List.length_set]
      exact congrFun hA (E i).v⟩
section
variable {P : Program} {S : Seat P} {C : World → Prop}
/-- An element's cells, of such data, -/
def dLdRF (t : TypeId) (b : Nat) (v0 : Value) {T : List Blk} {K n : Nat} {F : Nat → Nat → Value} {base : Option Addr} {g o : Nat} (H : SlO T K n F base g o) (i : Nat) (h : i < n) (hs : Nat.beq K (sizeT P t) = true := by kernel_rfl) (ha : aggT P t = some true := by kernel_rfl) : Dr S C :=
  dRdD (oOp 2 t 0 [] [vV (.pointer (some ⟨g, o + i * K, none⟩))]) b v0 T (vG (((List.range K).map (F i)).map vV)) fun E w _ _ _ hT => by
    obtain ⟨-, Z, e, fr, hm, hz⟩ := H (by omega)
    have hh := hT _ hm
    rw [vG_map]
    exact load_row (cs := (List.range K).map (F i)) ha (by rw [List.length_map, List.length_range]; exact nbeq.1 hs) (info_some ha) fun j x hx => by
      obtain ⟨hj, hx⟩ := List.getElem?_eq_some_iff.1 hx
      simp only [List.length_map, List.length_range] at hj
      simp only [List.getElem_map, List.getElem_range] at hx
      subst hx
      rw [cell_atR hh]
      exact hz i j h hj
/-- or one of them. -/
def dLdR1F (t : TypeId) (b : Nat) (v0 : Value) {T : List Blk} {K n : Nat} {F : Nat → Nat → Value} {base : Option Addr} {g o : Nat} (H : SlO T K n F base g o) (i j off : Nat) (h : i < n) (hj : Nat.blt j K = true := by kernel_rfl) (ho : off = o + i * K + j := by rfl) (ha : aggT P t = some false := by kernel_rfl) : Dr S C :=
  dRdD (oOp 2 t 0 [] [vV (.pointer (some ⟨g, off, none⟩))]) b v0 T (vV (F i j)) fun E w _ _ _ hT => by
    obtain ⟨-, Z, e, fr, hm, hz⟩ := H (by omega)
    have hh := hT _ hm
    subst ho
    exact load_one ha (by
      rw [cell_atR hh]
      exact hz i j h (by simpa [Nat.blt_eq] using hj))
end
/-- What slot or cell values stand for may be told otherwise. -/
theorem xSl {P : Program} {S : Seat P} {c : Ctx} {E0 : Nat → Ent} {n : Nat} {B : Exit → Act → World → Prop} {K : List Fr} {s : St} (k : Nat) (u : SV) (h : ∀ E : Nat → Ent, (∀ i, i < n → E i = E0 i) → ((s.t[k]?).getD (vV undef)).den E = u.den E)
    (kk : OK S c E0 n B K ⟨s.t.set k u, s.m⟩) (hA : u.al (isLt s.m.length) = true := by kernel_rfl) : OK S c E0 n B K s :=
  ⟨fun E a w hn hE H => by
    refine kk.out E a w hn hE ⟨?_, H.df, H.mem, H.ok, ?_, H.wm⟩
    · rw [H.tm]
      unfold tv
      congr 1
      rw [List.map_set, ← h E hE]
      cases e : s.t[k]? with
      | none => rw [List.set_eq_of_length_le (by simpa using List.getElem?_eq_none_iff.1 e)]
      | some y =>
        obtain ⟨hk, rfl⟩ := List.getElem?_eq_some_iff.1 e
        simp only [Option.getD_some]
        have : (s.t[k]).den E = (s.t.map (SV.den E))[k]'(by simpa using hk) := by simp
        rw [this, List.set_getElem_self]
    · exact List.all_eq_true.2 fun y hy => by
        rcases List.mem_or_eq_of_mem_set hy with hy | rfl
        · exact List.all_eq_true.1 H.wt y hy
        · exact hA⟩
/-- A contract on memory that is read, as one on several data. -/
theorem ct_join {P : Program} {S : Seat P} {C : World → Prop} {f : FuncId} {r : SV} (n : Nat) (D : Nat → Value → List Blk → Prop) (xs : List SV) (args : (Nat → Value) → List SV) (hden : ∀ E : Nat → Ent, xs.map (SV.den E) = (args fun i => (E i).v).map (SV.den E)) (hr : r.al (fun _ => false) = true)
    (h : ∀ (v : Nat → Value) (T : Nat → List Blk), (∀ i, i < n → D i (v i) (T i)) → Ct S C f (args v) [tX ((List.range n).flatMap T)] [] [] [] r) : Ct S C f xs ((List.range n).map fun i => tD (D i)) [] [] [] r := by
  have key : ∀ (E : Nat → Ent) (n k : Nat), denP E (ix k ((List.range' k n).map fun i => tD (D i))) = (List.range' k n).flatMap fun i => (E i).T := by
    intro E n
    induction n with
    | zero => intro k; rfl
    | succ n ih =>
      intro k
      rw [List.range'_succ, List.map_cons, List.flatMap_cons]
      show (E k).T ++ denP E (ix (k + 1) _) = _
      rw [ih (k + 1)]
  have key2 : ∀ E : Nat → Ent, denP E (ix 0 ((List.range n).map fun i => tD (D i))) = (List.range n).flatMap fun i => (E i).T := fun E => by
    rw [List.range_eq_range']
    exact key E n 0
  have ok2 : ∀ (E : Nat → Ent) (n k : Nat), okP E (ix k ((List.range' k n).map fun i => tD (D i))) ↔ ∀ i, k ≤ i → i < k + n → D i (E i).v (E i).T := by
    intro E n
    induction n with
    | zero => intro k; exact ⟨fun _ i h1 h2 => by omega, fun _ p hp => by simp [ix] at hp⟩
    | succ n ih =>
      intro k
      rw [List.range'_succ, List.map_cons]
      constructor
      · intro h i h1 h2
        by_cases e : i = k
        · subst e
          exact h (i, tD (D i)) (by simp [ix])
        · exact (ih (k + 1)).1 (fun p hp => h p (by simp [ix, hp])) i (by omega) (by omega)
      · intro h p hp
        simp only [ix, List.mem_cons] at hp
        rcases hp with rfl | hp
        · exact h k (by omega) (by omega)
        · exact (ih (k + 1)).2 (fun i h1 h2 => h i (by omega) (by omega)) p hp
  refine ⟨fun E w hL hC T hok => ?_⟩
  rw [List.append_nil] at hC T hok ⊢
  rw [key2] at hC T ⊢
  have hD : ∀ i, i < n → D i (E i).v (E i).T := fun i hi => (ok2 E n 0).1 (by rw [← List.range_eq_range']; exact hok) i (by omega) (by omega)
  have hx : denP E (ix 0 ([tX ((List.range n).flatMap fun i => (E i).T)] ++ [])) = (List.range n).flatMap fun i => (E i).T := by
    show _ ++ [] = _
    rw [List.append_nil]
    rfl
  have hq := (h (fun i => (E i).v) (fun i => (E i).T) hD).out E w hL (by rw [hx]; exact hC) (by rw [hx]; exact T) (fun p hp => by simp [ix] at hp; subst hp; exact trivial)
  have e1 : ((oCall f xs).sem E) = ((oCall f (args fun i => (E i).v)).sem E) := by
    show callFunc f (xs.map (SV.den E)).toArray = callFunc f ((args fun i => (E i).v).map (SV.den E)).toArray
    rw [hden]
  rw [e1]
  refine hq.mono ?_
  rintro r' w' ⟨E', hE', -, rfl, hT⟩
  rw [hx] at hT
  have hx2 : denP E' (postC [tX ((List.range n).flatMap fun i => (E i).T)] [] [] []) = (List.range n).flatMap fun i => (E i).T := by
    show _ ++ [] = _
    rw [List.append_nil]
    rfl
  rw [hx2] at hT
  have hp : ∀ E : Nat → Ent, denP E (postC ((List.range n).map fun i => tD (D i)) [] [] []) = (List.range n).flatMap fun i => (E i).T := fun E => by
    show denP E (ix 0 _ ++ ([] ++ [])) = _
    rw [List.append_nil, List.append_nil, key2]
  refine ⟨E, fun _ _ => rfl, ?_, r.den_congr (p := fun _ => false) (fun i hi => by cases hi) hr, by rw [hp]; exact hT⟩
  show okP E (ix 0 _ ++ ([] ++ []))
  rw [List.append_nil, List.append_nil]
  exact hok
end Go.Proofs.Ytlfekknonjlopaa
