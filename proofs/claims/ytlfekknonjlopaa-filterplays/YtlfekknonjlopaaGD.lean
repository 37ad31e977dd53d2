/- Copies of all rules. -/
import Derived.Test.YtlfekknonjlopaaGC
import Derived.Test.YtlfekknonjlopaaXZ
namespace Go.Proofs.Ytlfekknonjlopaa
open Go.RowKit
set_option linter.unusedVariables false
set_option linter.unusedSimpArgs false
set_option maxHeartbeats 0
set_option maxRecDepth 100000
variable {C : World → Prop}
def rowF (F : Nat → Nat → Value) (i : Nat) : List Value := [F i 0, F i 1, F i 2, F i 3]
/-- The rows from a place on. -/
def rsF (F : Nat → Nat → Value) (x n : Nat) : List Value := (List.range' x n).flatMap (rowF F)
theorem rsF_len (F : Nat → Nat → Value) : ∀ (n x : Nat), (rsF F x n).length = n * 4
  | 0, _ => rfl
  | n + 1, x => by
    have := rsF_len F n (x + 1)
    unfold rsF at this ⊢
    rw [List.range'_succ, List.flatMap_cons, List.length_append, this]
    show 4 + n * 4 = (n + 1) * 4
    omega
theorem rsF_at (F : Nat → Nat → Value) : ∀ (n x i j : Nat), i < n → j < 4 → (rsF F x n)[i * 4 + j]? = some (F (x + i) j)
  | 0, _, _, _, h, _ => by omega
  | n + 1, x, i, j, hi, hj => by
    have ih := rsF_at F n (x + 1)
    unfold rsF at ih ⊢
    rw [List.range'_succ, List.flatMap_cons]
    cases i with
    | zero =>
      rw [List.getElem?_append_left (by show 0 * 4 + j < 4; omega), Nat.zero_mul, Nat.zero_add]
      match j, hj with
      | 0, _ | 1, _ | 2, _ | 3, _ => rfl
    | succ i =>
      rw [List.getElem?_append_right (by show 4 ≤ _; omega), show (i + 1) * 4 + j - (rowF F x).length = i * 4 + j by show (i + 1) * 4 + j - 4 = _; omega, ih i j (by omega) hj, show x + 1 + i = x + (i + 1) by omega]
theorem rsF_row (F : Nat → Nat → Value) (n : Nat) : Row 4 n F (rsF F 0 n) := ⟨rsF_len F n 0, fun i j hi hj => by rw [rsF_at F n 0 i j hi hj, Nat.zero_add]⟩
theorem rul_one {T : List Blk} {l : List Rul} {F : Nat → Nat → Value} (hF : ∀ i, i < l.length → RulI T (l.getD i ru0) (F i)) : ∀ u ∈ rsF F 0 l.length, u.oneCell' = true := by
  intro u hu
  obtain ⟨i, hi, hx⟩ := List.mem_flatMap.1 hu
  have hi2 := (List.mem_range'_1.1 hi).2
  have h := hF i (by omega)
  obtain ⟨a1, c1, g1, o1, z1, -⟩ := h.p
  obtain ⟨a2, c2, g2, o2, z2, -⟩ := h.s
  obtain ⟨a3, c3, g3, o3, z3, -⟩ := h.d
  obtain ⟨a4, c4, g4, o4, z4, -⟩ := h.t
  simp only [rowF, List.mem_cons, List.mem_nil_iff, or_false] at hx
  rcases hx with rfl | rfl | rfl | rfl
  · rw [z1]; rfl
  · rw [z2]; rfl
  · rw [z3]; rfl
  · rw [z4]; rfl
theorem c_cl0 (T : List Blk) (l : List Rul) (v : Value) (F : Nat → Nat → Value) (hv : Sl T 4 l.length F v) (hF : ∀ i, i < l.length → RulI T (l.getD i ru0) (F i)) (hl : l.length ≤ 1048576) : Ct S0 C 40 [vV v] [tX T] [] [] [tD (Buf 4 67 l.length (rsF F 0 l.length))] (vW 1) := by
  have hv0 := hv
  obtain ⟨base, cap, b0, o, rfl, H⟩ := hv0
  refine xIn Try.f40 fun E0 w0 hL hC hk => ?_
  rcases base with _ | ba
  · have q0 : l = [] := by
      by_cases h : 0 < l.length
      · cases (H h).1
      · exact List.length_eq_zero_iff.1 (by omega)
    subst q0
    refine xR 15 [] ?_
    refine xPk (vV (.slice none 0 0)) [] (Buf 4 67 ([] : List Rul).length (rsF F 0 ([] : List Rul).length)) [2] [] (fun E h => ⟨rfl, buf_nil _ _⟩) ?_
    exact xRetC [1]
  · refine xR 17 [(5, dApN 22 22 67 4 (.agg #[.slice none 0 0, .slice none 0 0, .slice none 0 0, .slice none 0 0]) false (vS 1 0 0 0) (fun E => ⟨some ⟨(E 1).g, 0, none⟩, rfl⟩) 0 (.slice (some ba) l.length cap) hv (rsF F 0 l.length) (rsF_row F _) (rul_one hF) (by omega))] ?_
    refine xR 2 [] ?_
    exact xRetC [2]
/-- The first x rules are copied, the others lie there as they did. -/
def prgD (gq : Nat) (l : List Rul) (F : Nat → Nat → Value) (sp : List Value) (x : Nat) : DP := fun _ T => ∃ cs Te, Els rulEl 4 (rpR l x) cs Te ∧ T = ⟨gq, .cells (cs ++ (rsF F x (l.length - x) ++ sp)).toArray 67 (0, 0)⟩ :: Te
theorem els_len {α : Type} {el : α → List Value → List Blk → Prop} {K : Nat} : ∀ {l : List α} {cs : List Value} {T : List Blk}, Els el K l cs T → cs.length = l.length * K
  | [], _, _, ⟨rfl, _⟩ => by simp
  | x :: l, _, _, ⟨c1, c2, T1, T2, rfl, h1, _, _, h⟩ => by rw [List.length_append, h1, els_len h, List.length_cons, Nat.succ_mul]; omega
/-- What stands at the place of the next one. -/
def dLdP (b gq : Nat) (l : List Rul) (F : Nat → Nat → Value) (sp : List Value) (x : Nat) (cs : List Value) (h : x < l.length) (hc : rowF F x = cs) : Dr S0 C :=
  dRdE (oOp 2 67 0 [] [vV (.pointer (some ⟨gq, x * 4, none⟩))]) b (prgD gq l F sp x) (vG (cs.map vV)) fun E w _ _ hD hT => by
    obtain ⟨c0, Te, h1, h2⟩ := hD
    have hl := els_len h1
    rw [rpR_len] at hl
    have hh := hT ⟨gq, .cells (c0 ++ (rsF F x (l.length - x) ++ sp)).toArray 67 (0, 0)⟩ (by rw [h2]; simp)
    subst hc
    rw [vG_map]
    exact load_row (cs := rowF F x) (by kernel_rfl) rfl (info_some (b := true) (by kernel_rfl)) fun j y hy => by
      have hj : j < 4 := (List.getElem?_eq_some_iff.1 hy).1
      rw [cell_at hh, List.getElem?_append_right (by omega), show x * 4 + j - c0.length = 0 * 4 + j by omega, List.getElem?_append_left (by rw [rsF_len]; omega), rsF_at F _ x 0 j (by omega) hj, Nat.add_zero]
      match j, hj with
      | 0, _ | 1, _ | 2, _ | 3, _ => exact hy
theorem ls_prg (gq : Nat) (l : List Rul) (F : Nat → Nat → Value) (sp : List Value) (x b b1 k1 k2 k3 k4 : Nat) (h : x < l.length) (hb : b1 ≠ b) (pre : List (Nat × It)) (hpre : pre = [(b1, tD (prgD gq l F sp x)), (k1, tD (Buf 1 5 (l.getD x ru0).p.length ((l.getD x ru0).p.flatMap u8C))), (k2, tD (Buf 6 73 (l.getD x ru0).s.length ((l.getD x ru0).s.flatMap spC))), (k3, tD (Buf 6 73 (l.getD x ru0).d.length ((l.getD x ru0).d.flatMap spC))), (k4, tD (Buf 2 75 (l.getD x ru0).t.length ((l.getD x ru0).t.flatMap ptC)))]) :
    LS S0 C (oOp 3 67 0 [] [vV (.pointer (some ⟨gq, x * 4, none⟩)), vG [vW k1, vW k2, vW k3, vW k4]]).sem pre (newAt b 1) (vV undef) (pre.map (fun p => (p.1, gap)) ++ [(b, tD (prgD gq l F sp (x + 1)))]) := by
  intro E w hL hC T hok
  subst hpre
  obtain ⟨cs, Te, hE, hT⟩ : prgD gq l F sp x (E b1).v (E b1).T := hok (b1, tD (prgD gq l F sp x)) (by simp)
  have e1 : Buf 1 5 _ _ (E k1).v (E k1).T := hok (k1, tD (Buf 1 5 (l.getD x ru0).p.length ((l.getD x ru0).p.flatMap u8C))) (by simp)
  have e2 : Buf 6 73 _ _ (E k2).v (E k2).T := hok (k2, tD (Buf 6 73 (l.getD x ru0).s.length ((l.getD x ru0).s.flatMap spC))) (by simp)
  have e3 : Buf 6 73 _ _ (E k3).v (E k3).T := hok (k3, tD (Buf 6 73 (l.getD x ru0).d.length ((l.getD x ru0).d.flatMap spC))) (by simp)
  have e4 : Buf 2 75 _ _ (E k4).v (E k4).T := hok (k4, tD (Buf 2 75 (l.getD x ru0).t.length ((l.getD x ru0).t.flatMap ptC))) (by simp)
  have hcl := els_len hE
  rw [rpR_len] at hcl
  obtain ⟨U, hU⟩ : ∃ U, U = (E k1).T ++ ((E k2).T ++ ((E k3).T ++ (E k4).T)) := ⟨_, rfl⟩
  have hden : denP E [(b1, tD (prgD gq l F sp x)), (k1, tD (Buf 1 5 (l.getD x ru0).p.length ((l.getD x ru0).p.flatMap u8C))), (k2, tD (Buf 6 73 (l.getD x ru0).s.length ((l.getD x ru0).s.flatMap spC))), (k3, tD (Buf 6 73 (l.getD x ru0).d.length ((l.getD x ru0).d.flatMap spC))), (k4, tD (Buf 2 75 (l.getD x ru0).t.length ((l.getD x ru0).t.flatMap ptC)))] = [] ++ ⟨gq, .cells (cs ++ (rsF F x (l.length - x) ++ sp)).toArray 67 (0, 0)⟩ :: (Te ++ U) := by
    show (E b1).T ++ ((E k1).T ++ ((E k2).T ++ ((E k3).T ++ ((E k4).T ++ [])))) = _
    rw [hT, hU, List.append_nil]
    rfl
  rw [hden] at T ⊢
  have hg : w.heap[gq]? = some (.cells (cs ++ (rsF F x (l.length - x) ++ sp)).toArray 67 (0, 0)) := T.at_ ⟨gq, .cells (cs ++ (rsF F x (l.length - x) ++ sp)).toArray 67 (0, 0)⟩ (by simp)
  obtain ⟨vs, hvs⟩ : ∃ vs, vs = [(E k1).v, (E k2).v, (E k3).v, (E k4).v] := ⟨_, rfl⟩
  have hlen : (rsF F x (l.length - x)).length = (l.length - x) * 4 := rsF_len F _ _
  have hle : x * 4 + vs.length ≤ (cs ++ (rsF F x (l.length - x) ++ sp)).length := by
    rw [hvs]
    simp only [List.length_append, hlen, hcl, List.length_cons, List.length_nil]
    omega
  have hr : ((oOp 3 67 0 [] [vV (.pointer (some ⟨gq, x * 4, none⟩)), vG [vW k1, vW k2, vW k3, vW k4]]).sem E).run Try.prog w = .ok .skip (w.setCells gq (x * 4) vs) := by
    refine store_run (vs := vs) hg ?_ ?_ (by kernel_rfl) hle ?_
    · rw [hvs]; rfl
    · rw [hvs]; rfl
    · intro u hu
      rw [hvs] at hu
      simp only [List.mem_cons, List.mem_nil_iff, or_false] at hu
      rcases hu with rfl | rfl | rfl | rfl
      · exact (E k1).one
      · exact (E k2).one
      · exact (E k3).one
      · exact (E k4).one
  rw [hr]
  have hz : (w.setCells gq (x * 4) vs).heap[gq]? = some (.cells ((cs ++ vs) ++ (rsF F (x + 1) (l.length - (x + 1)) ++ sp)).toArray 67 (0, 0)) := by
    rw [heap_setCells _ _ _ _ _ _ hg, setAll_eq _ _ _ hle]
    have a1 : (cs ++ (rsF F x (l.length - x) ++ sp)).take (x * 4) = cs := by rw [← hcl]; exact List.take_left
    have a2 : rsF F x (l.length - x) = rowF F x ++ rsF F (x + 1) (l.length - (x + 1)) := by
      have : l.length - x = (l.length - (x + 1)) + 1 := by omega
      rw [this]
      unfold rsF
      rw [List.range'_succ, List.flatMap_cons]
    have a3 : (cs ++ (rsF F x (l.length - x) ++ sp)).drop (x * 4 + vs.length) = rsF F (x + 1) (l.length - (x + 1)) ++ sp := by
      rw [a2, ← List.append_assoc, ← List.append_assoc, List.append_assoc (cs ++ _)]
      have : x * 4 + vs.length = (cs ++ rowF F x).length := by rw [List.length_append, hcl, hvs]; rfl
      rw [this]
      exact List.drop_left
    rw [a1, a3, List.append_assoc]
  let E' : Nat → Ent := fun i => bif Nat.beq i b then ⟨0, .bool false, ⟨gq, .cells ((cs ++ vs) ++ (rsF F (x + 1) (l.length - (x + 1)) ++ sp)).toArray 67 (0, 0)⟩ :: (Te ++ U), rfl⟩ else E i
  have hbb : E' b = ⟨0, .bool false, ⟨gq, .cells ((cs ++ vs) ++ (rsF F (x + 1) (l.length - (x + 1)) ++ sp)).toArray 67 (0, 0)⟩ :: (Te ++ U), rfl⟩ := by
    have : Nat.beq b b = true := nbeq.2 rfl
    simp only [E', this, cond_true]
  refine ⟨E', fun i hi => ?_, ?_, rfl, ?_⟩
  · have : Nat.beq i b = false := by
      cases hh : Nat.beq i b with
      | false => rfl
      | true =>
        have h2 : newAt b 1 b = true := by simp [newAt, Nat.blt_eq]
        rw [nbeq.1 hh, h2] at hi
        cases hi
    simp only [E', this, cond_false]
  · rw [okP_app]
    refine ⟨fun p hp => ?_, fun p hp => ?_⟩
    · obtain ⟨q, _, rfl⟩ := List.mem_map.1 hp
      exact trivial
    · simp only [List.mem_singleton] at hp
      subst hp
      show prgD gq l F sp (x + 1) (E' b).v (E' b).T
      rw [hbb]
      refine ⟨cs ++ vs, Te ++ U, els_snoc ?_ (by rw [hvs]; rfl) hE, rfl⟩
      exact ⟨_, _, _, _, _, _, _, _, hvs, hU, e1, e2, e3, e4⟩
  · have hd2 : denP E' (([(b1, tD (prgD gq l F sp x)), (k1, tD (Buf 1 5 (l.getD x ru0).p.length ((l.getD x ru0).p.flatMap u8C))), (k2, tD (Buf 6 73 (l.getD x ru0).s.length ((l.getD x ru0).s.flatMap spC))), (k3, tD (Buf 6 73 (l.getD x ru0).d.length ((l.getD x ru0).d.flatMap spC))), (k4, tD (Buf 2 75 (l.getD x ru0).t.length ((l.getD x ru0).t.flatMap ptC)))] : List (Nat × It)).map (fun p => (p.1, gap)) ++ [(b, tD (prgD gq l F sp (x + 1)))]) = [] ++ ⟨gq, .cells ((cs ++ vs) ++ (rsF F (x + 1) (l.length - (x + 1)) ++ sp)).toArray 67 (0, 0)⟩ :: (Te ++ U) := by
      rw [denP_app, denP_gaps, List.nil_append]
      show (E' b).T ++ [] = _
      rw [hbb, List.append_nil]
      rfl
    rw [hd2]
    exact okT_blk T (grw_setCells _ _ _ _) hz
def dStP (gq : Nat) (l : List Rul) (F : Nat → Nat → Value) (sp : List Value) (x b1 k1 k2 k3 k4 : Nat) (h : x < l.length) : Dr S0 C :=
  dSp fun b => ⟨oOp 3 67 0 [] [vV (.pointer (some ⟨gq, x * 4, none⟩)), vG [vW k1, vW k2, vW k3, vW k4]], [], [(b1, tD (prgD gq l F sp x)), (k1, tD (Buf 1 5 (l.getD x ru0).p.length ((l.getD x ru0).p.flatMap u8C))), (k2, tD (Buf 6 73 (l.getD x ru0).s.length ((l.getD x ru0).s.flatMap spC))), (k3, tD (Buf 6 73 (l.getD x ru0).d.length ((l.getD x ru0).d.flatMap spC))), (k4, tD (Buf 2 75 (l.getD x ru0).t.length ((l.getD x ru0).t.flatMap ptC)))], [gap, gap, gap, gap, gap], [tD (prgD gq l F sp (x + 1))], vV undef, fun _ hb => by
    have := ls_prg (C := C) gq l F sp x b b1 k1 k2 k3 k4 h (fun e => absurd (hb (b1, tD (prgD gq l F sp x)) (by simp)) (by simp [e])) _ rfl
    exact this⟩
/-- An element's place, four cells each. -/
def dIx4 (t : TypeId) (g n cap i : Nat) (h : i < n) (hu : Try.prog.underlying t = some (.slice (Try.prog.elem t)) := by kernel_rfl) (h0 : (Try.prog.info? (Try.prog.elem t)).map (·.size) = some 4 := by kernel_rfl) : Dr S0 C :=
  dRd (oOp 4 t 0 [] [vV (.slice (some ⟨g, 0, none⟩) n cap), vV (.int .i64 (i : Int))]) (vV (.pointer (some ⟨g, i * 4, none⟩))) fun _ w _ _ => by
    exact run_ixsl (a := none) hu (by cases hh : Try.prog.info? (Try.prog.elem t) with | none => rw [hh] at h0; cases h0 | some i => rfl) h (by unfold sizeT; rw [h0]; show i * 4 = 0 + i * 4; omega)
theorem c_copyT (T : List Blk) (l : List Rul) (v : Value) (hv : rulT T l v) (ho : rulOk l) : Ct S0 C 26 [vV v] [tX T] [] [] [tD (rulD l)] (vW 1) := by
  obtain ⟨F, hS, hF⟩ := hv
  refine xIn Try.f26 fun E0 w0 hL hC hk => ?_
  refine xR 9 [(2, dC (c_cl0 T l v F hS hF ho.1) [0])] ?_
  refine xOpen (D := Buf 4 67 l.length (rsF F 0 l.length)) 1 fun v0 T0 hv => ?_
  have hv' := hv
  rcases hv'.2 with ⟨h0, ⟨a, rfl⟩, rfl⟩ | ⟨gq, cap, Z, rfl, hc, hZ, hZt, rfl⟩
  · have q0 : l = [] := List.length_eq_zero_iff.1 h0
    subst q0
    refine xR 9 [] ?_
    refine xUn 2 ?_
    refine xR 12 [] ?_
    refine xPk (vV (.slice a 0 0)) [] (rulD []) [2] [] (fun E h => ⟨rfl, [], [], [], ⟨by simp, .inl ⟨rfl, ⟨a, rfl⟩, rfl⟩⟩, ⟨rfl, rfl⟩, rfl⟩) ?_
    exact xRetC [2]
  · obtain ⟨sp, hsp⟩ : ∃ sp, sp = Z.drop (l.length * 4) := ⟨_, rfl⟩
    have hZs : Z = rsF F 0 (l.length - 0) ++ sp := by rw [Nat.sub_zero, hsp, ← hZt, List.take_append_drop]
    have hspl : sp.length = (cap - l.length) * 4 := by
      rw [hsp, List.length_drop, hZ, Nat.sub_mul]
    refine xPk (vV (.bool false)) [(1, tX [⟨gq, .cells Z.toArray 67 (0, 0)⟩])] (prgD gq l F sp 0) [] [] (fun E h => ⟨rfl, [], [], ⟨rfl, rfl⟩, by rw [List.nil_append, ← hZs]; rfl⟩) ?_
    have q9 := ho.1
    refine xR 9 [] ?_
    refine xLp (fun (x : Nat) => [(10, vV (.int .i64 (x : Int)))]) (fun x => [(2, tD (prgD gq l F sp x))]) [11, 12, 13, 14, 5, 4, 15, 16, 17, 18, 19, 20, 21, 22, 23, 24, 25, 26, 27, 28, 29, 30, 31] (fun x => x ≤ l.length) (fun x => l.length - x) 0 (Nat.zero_le _) fun x d hx g => ?_
    by_cases q1 : (x : Int) < (l.length : Int)
    · have hi := hF x (by omega)
      obtain ⟨a1, c1, g1, o1, z1, -⟩ := hi.p
      obtain ⟨a2, c2, g2, o2, z2, -⟩ := hi.s
      obtain ⟨a3, c3, g3, o3, z3, -⟩ := hi.d
      obtain ⟨a4, c4, g4, o4, z4, -⟩ := hi.t
      have e1 : u8T T (l.getD x ru0).p (.slice a1 (l.getD x ru0).p.length c1) := z1 ▸ hi.p
      have e2 : spT T (l.getD x ru0).s (.slice a2 (l.getD x ru0).s.length c2) := z2 ▸ hi.s
      have e3 : spT T (l.getD x ru0).d (.slice a3 (l.getD x ru0).d.length c3) := z3 ▸ hi.d
      have e4 : ptT T (l.getD x ru0).t (.slice a4 (l.getD x ru0).t.length c4) := z4 ▸ hi.t
      obtain ⟨k1, k2, k3, k4⟩ := ho.2 x
      refine xR 19 [(0, dT q1), (2, dIx4 22 gq l.length cap x (by omega)), (3, dLdP 2 gq l F sp x [.slice a1 (l.getD x ru0).p.length c1, .slice a2 (l.getD x ru0).s.length c2, .slice a3 (l.getD x ru0).d.length c3, .slice a4 (l.getD x ru0).t.length c4] (by omega) (four z1 z2 z3 z4)), (11, dC (c_cl1 T _ _ e1 k1) [0]), (14, dC (c_cl2 T _ _ e2 k2) [0]), (17, dC (c_cl2 T _ _ e3 k3) [0]), (20, dC (c_cl3 T _ _ e4 k4) [0]), (21, dBldR 4 5 6 7), (22, dIx4 22 gq l.length cap x (by omega)), (23, dStP gq l F sp x 2 4 5 6 7 (by omega))] ?_
      refine xR 5 [(0, dW ((↑x : Int) + 1) ((↑(x + 1) : Int)) (by omega) (by omega) (by omega))] ?_
      exact xNx g (x + 1) [11, 12, 13, 14, 5, 4, 15, 16, 17, 18, 19, 20, 21, 22, 23, 24, 25, 26, 27, 28, 29, 30, 31] [0, 1, 8] (by omega) (by omega)
    · have q2 : x = l.length := by omega
      subst q2
      refine xR 12 [(0, dF q1)] ?_
      refine xPk (vV (.slice (some ⟨gq, 0, none⟩) l.length cap)) [(2, tD (prgD gq l F sp l.length))] (rulD l) [2] [] (fun E h => ⟨rfl, ?_⟩) ?_
      · obtain ⟨cs, Te, h1, h2⟩ : prgD gq l F sp l.length (E 2).v (E 2).T := h (2, tD (prgD gq l F sp l.length)) (by simp)
        rw [rpR_all] at h1
        have h3 := els_len h1
        rw [Nat.sub_self] at h2
        refine ⟨cs, [⟨gq, .cells (cs ++ (rsF F l.length 0 ++ sp)).toArray 67 (0, 0)⟩], Te, ⟨h3, .inr ⟨gq, cap, cs ++ (rsF F l.length 0 ++ sp), rfl, hc, ?_, ?_, rfl⟩⟩, h1, ?_⟩
        · rw [List.length_append, List.length_append, h3, hspl, rsF_len, Nat.zero_mul, Nat.zero_add, ← Nat.add_mul]
          congr 1
          omega
        · rw [← h3]
          exact List.take_left
        · show (E 2).T ++ [] = _
          rw [List.append_nil, h2]
          rfl
      exact xRetC [3]
theorem c_copyD (l : List Rul) (ho : rulOk l) : Ct S0 C 26 [vW 0] [tD (rulD l)] [] [] [tD (rulD l)] (vW 1) :=
  ct_lift (rulD l) [tD (rulD l)] [vW 0] (fun v => [vV v]) (fun E => rfl) fun v T h => c_copyT T l v (rulD_T h) ho
theorem c_new (l : List Rul) (ho : rulOk l) (most life : Int) (h1 : ¬ most < 1) (h2 : ¬ most > 1024) (h3 : ¬ life < 1) (h4 : ¬ life > 4294967296) : Ct S0 C 10 [vW 0, vV (.int .i64 most), vV (.int .u64 life)] [tD (rulD l)] [] [] [tD (rulD l), tC [vW 1, vW 3] 71, tD (ansD ⟨most, life, 0, []⟩)] (vT [vP 2 0, vV (.int .i64 0)]) := by
  refine xIn Try.f10 fun E0 w0 hL hC hk => ?_
  refine xR 32 [(3, dF h1), (6, dF h2), (10, dF h3), (14, dF h4), (17, dC (c_copyD l ho) [0]), (20, dC (c_noAns most life) [])] ?_
  refine xOpen (D := rulD l) 1 fun v1 T1 hr => ?_
  refine xOpen (D := ansD ⟨most, life, 0, []⟩) 2 fun v0 T0 hv => ?_
  obtain ⟨ga, rfl, hG⟩ := ansD_G hv
  obtain ⟨base, cap, rfl⟩ := RowD.len hr
  refine xR 5 [] ?_
  refine xPk (vV (.slice base l.length cap)) [(1, tX T1)] (rulD l) [] [(3, 0)] (fun E h => ⟨rfl, by show rulD _ _ (T1 ++ []); rw [List.append_nil]; exact hr⟩) ?_
  refine xPk (vV (.pointer (some ⟨ga, 0, none⟩))) [(2, tX T0)] (ansD ⟨most, life, 0, []⟩) [] [(3, 1)] (fun E h => ⟨rfl, by show ansD _ _ (T0 ++ []); rw [List.append_nil]; exact hv⟩) ?_
  exact xRetC [4, 3, 5]
theorem c_setD (r : DP) (ga : Nat) (l : List Rul) (ho : rulOk l) : Ct S0 C 15 [vP 2 0, vW 0] [tD (rulD l), tD r] [tC [vW 1, vV (.pointer (some ⟨ga, 0, none⟩))] 71] [tC [vW 3, vV (.pointer (some ⟨ga, 0, none⟩))] 71] [tD (rulD l)] (vV (.int .i64 0)) := by
  refine xIn Try.f15 fun E0 w0 hL hC hk => ?_
  refine xR 26 [(2, dC (c_made r ga) [1, 2]), (6, dC (c_copyD l ho) [0])] ?_
  exact (xRetC [3])
end Go.Proofs.Ytlfekknonjlopaa
