/- Data, looked into. -/
import Derived.Test.YtlfekknonjlopaaXR
namespace Go.Proofs.Ytlfekknonjlopaa
open Go.RowKit
set_option linter.unusedVariables false
set_option linter.unusedSimpArgs false

def fixD (v0 : Value) (T0 : List Blk) (v : Value) (T : List Blk) : Prop := v = v0 ∧ T = T0
theorem data_set {P : Program} {S : Seat P} {c : Ctx} {E : Nat → Ent} {s : St} {a : Act} {w : World} {i : Nat} {D D' : Value → List Blk → Prop} (hi : s.m[i]? = some (tD D)) (hD : D' (E i).v (E i).T) (H : Hold S c E s a w) : Hold S c E ⟨s.t, s.m.set i (tD D')⟩ a w := by
  refine ⟨H.tm, H.df, ?_, ?_, ?_, ?_⟩
  · show Mem S c (dens E 0 (s.m.set i (tD D'))) w
    rw [dens_set_same E s.m 0 i (tD D) (tD D') hi rfl]
    exact H.mem
  · intro k x hx
    have hx : (s.m.set i (tD D'))[k]? = some x := hx
    rw [List.getElem?_set] at hx
    split at hx
    · rename_i e
      split at hx
      · cases hx
        subst e
        exact hD
      · cases hx
    · exact H.ok k x hx
  · simp only [List.length_set]
    exact H.wt
  · simp only [List.length_set]
    exact all_set H.wm rfl
/-- What data item i is, is named: value v0, blocks T0. -/
theorem xFix {P : Program} {S : Seat P} {c : Ctx} {E0 : Nat → Ent} {n : Nat} {B : Exit → Act → World → Prop} {K : List Fr} {s : St} (i : Nat) {D : Value → List Blk → Prop}
    (h : ∀ v0 T0, D v0 T0 → OK S c E0 n B K ⟨s.t, s.m.set i (tD (fixD v0 T0))⟩) (hi : s.m[i]? = some (tD D) := by kernel_rfl) : OK S c E0 n B K s :=
  ⟨fun E a w hn hE H => (h (E i).v (E i).T (H.ok i _ hi)).out E a w (by simpa using hn) hE (data_set hi ⟨rfl, rfl⟩ H)⟩
/-- Less is told of data item i. -/
theorem xWk {P : Program} {S : Seat P} {c : Ctx} {E0 : Nat → Ent} {n : Nat} {B : Exit → Act → World → Prop} {K : List Fr} {s : St} (i : Nat) {D : Value → List Blk → Prop} (D' : Value → List Blk → Prop) (hw : ∀ v T, D v T → D' v T)
    (k : OK S c E0 n B K ⟨s.t, s.m.set i (tD D')⟩) (hi : s.m[i]? = some (tD D) := by kernel_rfl) : OK S c E0 n B K s :=
  ⟨fun E a w hn hE H => k.out E a w (by simpa using hn) hE (data_set hi (hw _ _ (H.ok i _ hi)) H)⟩
section
variable {P : Program} {S : Seat P} {C : World → Prop}
/-- An operation that looks at data b only. -/
def dRdD (q : VO) (b : Nat) (v0 : Value) (T0 : List Blk) (v : SV) (h : ∀ E w, S.laid w → C w → (E b).v = v0 → (∀ x ∈ T0, w.heap[x.g]? = some x.Z) → (q.sem E).run P w = .ok (.value (v.den E)) w) : Dr S C :=
  dSp fun _ => ⟨q, [(b, tD (fixD v0 T0))], [], [], [], v, fun _ _ => fun E w hL hC T hok => by
    have ho : fixD v0 T0 (E b).v (E b).T := hok (b, tD (fixD v0 T0)) (by simp)
    have hd : denP E ([(b, tD (fixD v0 T0))] ++ []) = T0 := by
      show (E b).T ++ [] = T0
      rw [List.append_nil, ho.2]
    rw [hd] at T
    rw [h E w hL (hC w (grw_refl _ _)) ho.1 T.at_]
    refine ⟨E, fun _ _ => rfl, fun p hp => hok p (by simpa [ix] using hp), rfl, ?_⟩
    have hd2 : denP E ([(b, tD (fixD v0 T0))] ++ (([] : List Nat).zip [] ++ ix b [])) = T0 := hd
    rw [hd]
    show OkT w w T0 (denP E ([(b, tD (fixD v0 T0))] ++ []))
    rw [hd]
    exact OkT.refl T⟩
/-- How long a slice is. -/
def dLenD (t ty : TypeId) (b : Nat) (base : Option Addr) (n cap : Nat) (T0 : List Blk) (hu : P.underlying t = some (.slice (P.elem t)) := by kernel_rfl) : Dr S C :=
  dRdD (oBi .len [t] ty [false] [vW b]) b (.slice base n cap) T0 (vV (.int .i64 (n : Int))) fun E w _ _ hv _ => by
    show (do pure (Next.value (← Builtin.len_ #[t] ty #[(E b).v])) : Sem Next).run P w = _
    rw [hv]
    simp only [Sem.run_bind, run_len_slice w t ty base n cap hu, Result.andThen_ok, Sem.run_pure]
    rfl
/-- An element's place. -/
def dIxD (t : TypeId) (b g n cap i off : Nat) (T0 : List Blk) {e : TypeId} (h : i < n) (ho : off = i * sizeT P e) (hu : P.underlying t = some (.slice e) := by kernel_rfl) (h0 : (P.info? e).isSome = true := by kernel_rfl) : Dr S C :=
  dRdD (oOp 4 t 0 [] [vW b, vV (.int .i64 (i : Int))]) b (.slice (some ⟨g, 0, none⟩) n cap) T0 (vV (.pointer (some ⟨g, off, none⟩))) fun E w _ _ hv _ => by
    show (semV (Instr.indexAt t (E b).v (.int .i64 (i : Int)))).run P w = _
    rw [hv]
    exact run_ixsl (a := none) hu h0 h (by rw [ho, Nat.zero_add])
/-- What lies there: cells, -/
def dLdF (t : TypeId) (b : Nat) (v0 : Value) (T0 : List Blk) (g off : Nat) (Z : List Value) (e : TypeId) (cs : List Value) (hg : (⟨g, .cells Z.toArray e (0, 0)⟩ : Blk) ∈ T0) (hc : ∀ j x, cs[j]? = some x → Z[off + j]? = some x) (hs : cs.length = sizeT P t := by kernel_rfl) (ha : aggT P t = some true := by kernel_rfl) : Dr S C :=
  dRdD (oOp 2 t 0 [] [vV (.pointer (some ⟨g, off, none⟩))]) b v0 T0 (vG (cs.map vV)) fun E w _ _ _ hT => by
    have h := hT _ hg
    rw [vG_map]
    exact load_row ha hs (info_some ha) fun j x hx => by rw [cell_at h]; exact hc j x hx
/-- or one. -/
def dLdF1 (t : TypeId) (b : Nat) (v0 : Value) (T0 : List Blk) (g off : Nat) (Z : List Value) (e : TypeId) (x : Value) (hg : (⟨g, .cells Z.toArray e (0, 0)⟩ : Blk) ∈ T0) (hc : Z[off]? = some x) (ha : aggT P t = some false := by kernel_rfl) : Dr S C :=
  dRdD (oOp 2 t 0 [] [vV (.pointer (some ⟨g, off, none⟩))]) b v0 T0 (vV x) fun E w _ _ _ hT => load_one ha (by rw [cell_at (hT _ hg)]; exact hc)
end
end Go.Proofs.Ytlfekknonjlopaa
