/- Data, asked without being opened. -/
import Derived.Test.YtlfekknonjlopaaXV
namespace Go.Proofs.Ytlfekknonjlopaa
open Go.RowKit
set_option linter.unusedVariables false
set_option linter.unusedSimpArgs false
/-- Data item i gets a new number. -/
theorem xMove {P : Program} {S : Seat P} {c : Ctx} {E0 : Nat → Ent} {n : Nat} {B : Exit → Act → World → Prop} {K : List Fr} {s : St} (i : Nat) (ts : List Nat) (cs : List (Nat × Nat)) (D : Value → List Blk → Prop)
    (k : OK S c E0 n B K (packS s [i] D ts cs)) (hi : lk s.m [i] = [(i, tD D)] := by kernel_rfl)
    (hA : ((vW i).isA && (inM s.m [i] && (vW i).al (isLt s.m.length))) = true := by kernel_rfl)
    (hT : pickT ts 0 s.t = (pickT ts 0 s.t).map fun _ => vW i := by kernel_rfl)
    (hC : pickC s.m.length cs (gapM s.m [i]) = (pickC s.m.length cs (gapM s.m [i])).map fun _ => vW i := by kernel_rfl) : OK S c E0 n B K s :=
  xPack (vW i) [i] D ts cs (fun E h => by
    rw [hi] at h ⊢
    refine ⟨(E i).one, ?_⟩
    have : denP E [(i, tD D)] = (E i).T := by
      show (E i).T ++ [] = _
      rw [List.append_nil]
    rw [this]
    exact h (i, tD D) (by simp)) k hA hT hC
section
variable {P : Program} {S : Seat P} {C : World → Prop}
/-- An operation that looks at data b only, whatever it is. -/
def dRdE (q : VO) (b : Nat) (D : Value → List Blk → Prop) (v : SV) (h : ∀ E w, S.laid w → C w → D (E b).v (E b).T → (∀ x ∈ (E b).T, w.heap[x.g]? = some x.Z) → (q.sem E).run P w = .ok (.value (v.den E)) w) : Dr S C :=
  dSp fun _ => ⟨q, [(b, tD D)], [], [], [], v, fun _ _ => fun E w hL hC T hok => by
    have hd : denP E ([(b, tD D)] ++ []) = (E b).T := by
      show (E b).T ++ [] = _
      rw [List.append_nil]
    rw [hd] at T
    rw [h E w hL (hC w (grw_refl _ _)) (hok (b, tD D) (by simp)) T.at_]
    refine ⟨E, fun _ _ => rfl, fun p hp => hok p (by simpa [ix] using hp), rfl, ?_⟩
    rw [hd]
    show OkT w w (E b).T (denP E ([(b, tD D)] ++ []))
    rw [hd]
    exact OkT.refl T⟩
theorem RowD.len {α : Type} {K : Nat} {e : TypeId} {el : α → List Value → List Blk → Prop} {l : List α} {v : Value} {T : List Blk} (h : RowD K e el l v T) : ∃ base cap, v = .slice base l.length cap := by
  obtain ⟨cs, Tb, Te, hB, -, -⟩ := h
  rcases hB.2 with ⟨h0, ⟨a, rfl⟩, rfl⟩ | ⟨g, cap, Z, rfl, -⟩
  · exact ⟨a, 0, by rw [h0]⟩
  · exact ⟨_, _, rfl⟩
/-- How long a list is. -/
def dLenR (t ty : TypeId) (b : Nat) {α : Type} (K : Nat) (e : TypeId) (el : α → List Value → List Blk → Prop) (l : List α) (n : Nat) (hn : l.length = n) (hu : P.underlying t = some (.slice (P.elem t)) := by kernel_rfl) : Dr S C :=
  dRdE (oBi .len [t] ty [false] [vW b]) b (RowD K e el l) (vV (.int .i64 (n : Int))) fun E w _ _ hv _ => by
    subst hn
    obtain ⟨base, cap, hv⟩ := RowD.len hv
    show (do pure (Next.value (← Builtin.len_ #[t] ty #[(E b).v])) : Sem Next).run P w = _
    rw [hv]
    simp only [Sem.run_bind, run_len_slice w t ty base l.length cap hu, Result.andThen_ok, Sem.run_pure]
    rfl
end
end Go.Proofs.Ytlfekknonjlopaa
