/- FilterPlays: what was handed over is overwritten. -/
import Derived.Test.YtlfekknonjlopaaGZ
import Derived.Test.YtlfekknonjlopaaXZ
namespace Go.Proofs.Ytlfekknonjlopaa
open Go.RowKit
set_option linter.unusedVariables false
set_option linter.unusedSimpArgs false
set_option maxHeartbeats 0
set_option maxRecDepth 100000
variable {C : World → Prop}
/-- A store into a block that belongs to data; the data stays what it was. -/
theorem ls_dst {D : DP} (t : TypeId) (ga off : Nat) (val : SV) (vs : List Value) (b b1 : Nat) (hval : ∀ E : Nat → Ent, (val.den E).cells.toList = vs) (hs : vs.length = sizeT Try.prog t) (h0 : (Try.prog.info? t).isSome = true) (h1 : ∀ u ∈ vs, u.oneCell' = true)
    (hw : ∀ v T, D v T → (T.map Blk.g).Nodup → ∃ (A B : List Blk) (Z : List Value) (e : TypeId), T = A ++ ⟨ga, .cells Z.toArray e (0, 0)⟩ :: B ∧ off + vs.length ≤ Z.length ∧ ∀ (Z' : List Value) (v' : Value), Z'.length = Z.length → D v' (A ++ ⟨ga, .cells Z'.toArray e (0, 0)⟩ :: B)) :
    LS S0 C (oOp 3 t 0 [] [vV (.pointer (some ⟨ga, off, none⟩)), val]).sem [(b1, tD D)] (newAt b 1) (vV undef) ([(b1, gap)] ++ [(b, tD D)]) := by
  intro E w hL hC T hok
  have hD : D (E b1).v (E b1).T := hok (b1, tD D) (by simp)
  have hden : denP E [(b1, tD D)] = (E b1).T := by
    show (E b1).T ++ [] = _
    rw [List.append_nil]
  rw [hden] at T ⊢
  obtain ⟨A, B, Z, e, hT, hle, hZ⟩ := hw _ _ hD T.nodup
  rw [hT] at T ⊢
  have hg : w.heap[ga]? = some (.cells Z.toArray e (0, 0)) := T.at_ ⟨ga, .cells Z.toArray e (0, 0)⟩ (by simp)
  have hr : ((oOp 3 t 0 [] [vV (.pointer (some ⟨ga, off, none⟩)), val]).sem E).run Try.prog w = .ok .skip (w.setCells ga off vs) := store_run (vs := vs) hg (hval E) hs h0 hle h1
  rw [hr]
  let E' : Nat → Ent := fun i => bif Nat.beq i b then ⟨0, .bool false, A ++ ⟨ga, .cells (Z.take off ++ (vs ++ Z.drop (off + vs.length))).toArray e (0, 0)⟩ :: B, rfl⟩ else E i
  have hbb : E' b = ⟨0, .bool false, A ++ ⟨ga, .cells (Z.take off ++ (vs ++ Z.drop (off + vs.length))).toArray e (0, 0)⟩ :: B, rfl⟩ := by
    have : Nat.beq b b = true := nbeq.2 rfl
    simp only [E', this, cond_true]
  refine ⟨E', fun i hi => ?_, ?_, rfl, ?_⟩
  · have : Nat.beq i b = false := by
      cases hh : Nat.beq i b with
      | false => rfl
      | true =>
        have h2 : newAt b 1 b = true := by simp [newAt, Nat.blt_eq]
        rw [nbeq.1 hh, h2] at hi
        cases hi
    simp only [E', this, cond_false]
  · intro p hp
    simp only [List.cons_append, List.nil_append, List.mem_cons, List.mem_nil_iff, or_false] at hp
    rcases hp with rfl | rfl
    · trivial
    · show D (E' b).v (E' b).T
      rw [hbb]
      exact hZ _ _ (by simp only [List.length_append, List.length_take, List.length_drop]; omega)
  · have hd2 : denP E' ([(b1, gap)] ++ [(b, tD D)]) = A ++ ⟨ga, .cells (Z.take off ++ (vs ++ Z.drop (off + vs.length))).toArray e (0, 0)⟩ :: B := by
      show [] ++ ((E' b).T ++ []) = _
      rw [hbb, List.append_nil]
      rfl
    rw [hd2]
    refine okT_blk T (grw_setCells ga vs w off) ?_
    rw [heap_setCells ga e vs w Z.toArray off hg, setAll_eq vs Z off hle]
def dStD (D : DP) (t : TypeId) (ga off b1 : Nat) (val : SV) (vs : List Value)
    (hw : ∀ v T, D v T → (T.map Blk.g).Nodup → ∃ (A B : List Blk) (Z : List Value) (e : TypeId), T = A ++ ⟨ga, .cells Z.toArray e (0, 0)⟩ :: B ∧ off + vs.length ≤ Z.length ∧ ∀ (Z' : List Value) (v' : Value), Z'.length = Z.length → D v' (A ++ ⟨ga, .cells Z'.toArray e (0, 0)⟩ :: B))
    (hval : ∀ E : Nat → Ent, (val.den E).cells.toList = vs) (h1 : ∀ u ∈ vs, u.oneCell' = true) (hs : Nat.beq vs.length (sizeT Try.prog t) = true := by kernel_rfl) (h0 : (Try.prog.info? t).isSome = true := by kernel_rfl) : Dr S0 C :=
  dSp fun b => ⟨oOp 3 t 0 [] [vV (.pointer (some ⟨ga, off, none⟩)), val], [], [(b1, tD D)], [gap], [tD D], vV undef, fun _ hb => by
    have := ls_dst (C := C) (D := D) t ga off val vs b b1 hval (nbeq.1 hs) h0 h1 hw
    exact this⟩
/-- Room for n elements of K cells each. -/
def ShS (T : List Blk) (n K : Nat) (e : TypeId) (ba : Option Addr) : Prop := 0 < n → ∃ (g o : Nat) (Z : List Value), ba = some ⟨g, o, none⟩ ∧ (⟨g, .cells Z.toArray e (0, 0)⟩ : Blk) ∈ T ∧ o + n * K ≤ Z.length
structure ShR (T : List Blk) (r : Rul) (bs : Nat → Option Addr × Nat) : Prop where
  p : ShS T r.p.length 1 5 (bs 0).1
  s : ShS T r.s.length 6 73 (bs 1).1
  d : ShS T r.d.length 6 73 (bs 2).1
  t : ShS T r.t.length 2 75 (bs 3).1
def spD (g0 o0 : Nat) (l : List Rul) (bs : Nat → Nat → Option Addr × Nat) : DP := fun _ T => (0 < l.length → ∃ Z : List Value, (⟨g0, .cells Z.toArray 67 (0, 0)⟩ : Blk) ∈ T ∧ ∀ i j, i < l.length → j < 4 → Z[o0 + i * 4 + j]? = some (slF l bs i j)) ∧ ∀ i, i < l.length → ShR T (l.getD i ru0) (bs i)
theorem shS_set {A B : List Blk} {g : Nat} {Z Z' : List Value} {e : TypeId} (hl : Z'.length = Z.length) {n K : Nat} {e' : TypeId} {ba : Option Addr} (h : ShS (A ++ ⟨g, .cells Z.toArray e (0, 0)⟩ :: B) n K e' ba) : ShS (A ++ ⟨g, .cells Z'.toArray e (0, 0)⟩ :: B) n K e' ba := fun hn => by
  obtain ⟨g1, o, Y, h1, h2, h3⟩ := h hn
  rcases List.mem_append.1 h2 with h2 | h2
  · exact ⟨g1, o, Y, h1, List.mem_append_left _ h2, h3⟩
  · rcases List.mem_cons.1 h2 with h2 | h2
    · have e1 : g1 = g := congrArg Blk.g h2
      have e2 : (Obj.cells Y.toArray e' (0, 0)) = Obj.cells Z.toArray e (0, 0) := congrArg Blk.Z h2
      injection e2 with e3 e4
      have e3 : Y = Z := by simpa using congrArg Array.toList e3
      subst e1 e4 e3
      exact ⟨g1, o, Z', h1, List.mem_append_right _ (List.mem_cons_self ..), by rw [hl]; exact h3⟩
    · exact ⟨g1, o, Y, h1, List.mem_append_right _ (List.mem_cons_of_mem _ h2), h3⟩
theorem sp_store {g0 o0 : Nat} {l : List Rul} {bs : Nat → Nat → Option Addr × Nat} {ga oa n K m : Nat} {e : TypeId} {ba : Option Addr} (hba : ba = some ⟨ga, oa, none⟩) (he : e ≠ 67) (hm : m < n) (hp : 0 < l.length) (hS : ∀ v T, spD g0 o0 l bs v T → ShS T n K e ba) :
    ∀ v T, spD g0 o0 l bs v T → (T.map Blk.g).Nodup → ∃ (A B : List Blk) (Z : List Value) (e : TypeId), T = A ++ ⟨ga, .cells Z.toArray e (0, 0)⟩ :: B ∧ (oa + m * K) + K ≤ Z.length ∧ ∀ (Z' : List Value) (v' : Value), Z'.length = Z.length → spD g0 o0 l bs v' (A ++ ⟨ga, .cells Z'.toArray e (0, 0)⟩ :: B) := by
  intro v T hD hn
  obtain ⟨g1, o1, Z, h1, h2, h3⟩ := hS v T hD (by omega)
  rw [hba] at h1
  simp only [Option.some.injEq, Addr.mk.injEq, and_true] at h1
  obtain ⟨rfl, rfl⟩ := h1
  obtain ⟨A, B, rfl⟩ := List.append_of_mem h2
  have hmk : (m + 1) * K ≤ n * K := Nat.mul_le_mul_right _ hm
  rw [Nat.succ_mul] at hmk
  refine ⟨A, B, Z, e, rfl, by omega, fun Z' v' hl => ⟨fun hl0 => ?_, fun i hi => ?_⟩⟩
  · obtain ⟨Y, hY, hY2⟩ := hD.1 hl0
    refine ⟨Y, ?_, hY2⟩
    rcases List.mem_append.1 hY with hY | hY
    · exact List.mem_append_left _ hY
    · rcases List.mem_cons.1 hY with hY | hY
      · have e2 : (Obj.cells Y.toArray 67 (0, 0)) = Obj.cells Z.toArray e (0, 0) := congrArg Blk.Z hY
        injection e2 with e3 e4
        exact absurd e4.symm he
      · exact List.mem_append_right _ (List.mem_cons_of_mem _ hY)
  · obtain ⟨a1, a2, a3, a4⟩ := hD.2 i hi
    exact ⟨shS_set hl a1, shS_set hl a2, shS_set hl a3, shS_set hl a4⟩
/-- A rule's part is read. -/
def dLdSp (g0 o0 : Nat) (l : List Rul) (bs : Nat → Nat → Option Addr × Nat) (t : TypeId) (b i j off : Nat) (v : Value) (h : i < l.length) (hj : j < 4) (hv : slF l bs i j = v) (ho : off = o0 + i * 4 + j := by rfl) (ha : aggT Try.prog t = some false := by kernel_rfl) : Dr S0 C :=
  dRdE (oOp 2 t 0 [] [vV (.pointer (some ⟨g0, off, none⟩))]) b (spD g0 o0 l bs) (vV v) fun E w _ _ hD hT => by
    obtain ⟨Z, hZ, hZ2⟩ := hD.1 (by omega)
    subst ho hv
    exact load_one ha (by rw [cell_at (hT _ hZ)]; exact hZ2 i j h hj)
end Go.Proofs.Ytlfekknonjlopaa
