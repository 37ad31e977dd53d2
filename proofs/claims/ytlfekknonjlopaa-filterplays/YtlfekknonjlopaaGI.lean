/- Which rule matches: the first whose parts all hold. -/
import Derived.Test.YtlfekknonjlopaaGH
import Derived.Test.YtlfekknonjlopaaXZ
namespace Go.Proofs.Ytlfekknonjlopaa
open Go.RowKit
set_option linter.unusedVariables false
set_option linter.unusedSimpArgs false
set_option maxHeartbeats 0
set_option maxRecDepth 100000
variable {C : World → Prop}
/-- A call that only looks. -/
theorem ct_look {f : FuncId} {xs : List SV} {R : List It} {v : SV} (h : ∀ (E : Nat → Ent) w, C w → There S0 w (denP E (ix 0 R)) → okP E (ix 0 R) → Calls Try.prog f (xs.map (SV.den E)).toArray w fun e w' => e = .returned (v.den E) ∧ Below w.heap.size w w')
    (he : (fun (args : Array Value) (w : World) => (callFunc f args).run Try.prog w) = fun args w => .ok (.enter f args) w := by kernel_rfl) : Ct S0 C f xs R [] [] [] v := by
  have he : ∀ (args : Array Value) (w : World), (callFunc f args).run Try.prog w = .ok (.enter f args) w := fun args w => congrFun (congrFun he args) w
  have e0 : R ++ ([] : List It) = R := List.append_nil _
  refine ⟨fun E w hL hC T hok => ?_⟩
  rw [e0] at T hok
  show Fin Try.prog ((callFunc f (xs.map (SV.den E)).toArray).run Try.prog w) _
  rw [he]
  refine (h E w (hC w (grw_refl _ _)) T hok).mono ?_
  rintro e w' ⟨rfl, hb⟩
  have e1 : postC R [] [] [] = ix 0 R := by simp [postC, ix]
  exact ⟨_, rfl, E, fun _ _ => rfl, by rw [e1]; exact hok, rfl, by rw [e1, e0]; exact OkT.below T hb⟩
theorem sl_spans {T : List Blk} {l : List Spn} {v : Value} (hv : spT T l v) (zs : Nat → SpP) (hz : ∀ i, i < l.length → (zs i).1 = l.getD i sp0) {w : World} (hw : ∀ b ∈ T, w.heap[b.g]? = some b.Z) : Spans w.heap.size w v l.length zs := by
  obtain ⟨base, cap, g, o, rfl, H⟩ := hv
  by_cases h0 : l.length = 0
  · exact .inl ⟨base, cap, by rw [h0], h0⟩
  · obtain ⟨rfl, Z, e, fr, h2, h3⟩ := H (by omega)
    have h4 := hw _ h2
    refine .inr ⟨g, o, cap, rfl, (Array.getElem?_eq_some_iff.1 h4).1, fun j hj i x hx => ?_⟩
    have hi : i < 6 := by
      have := (List.getElem?_eq_some_iff.1 hx).1
      simpa [spC] using this
    have h5 := h3 j i hj hi
    have h6 : (spC (l.getD j sp0)).getD i undef = x := by rw [← hz j hj, List.getD_eq_getElem?_getD, hx]; rfl
    rw [show spF l j i = x from h6] at h5
    have h4' : w.heap[g]? = some (.cells Z e fr) := h4
    simp [World.cell?, h4', h5]
theorem c_within (a : Adr) (T : List Blk) (l : List Spn) (v : Value) (hv : spT T l v) (hl : l.length ≤ 1048576) (hn : ∀ i, i < l.length → 0 ≤ (l.getD i sp0).a.l ∧ 0 ≤ (l.getD i sp0).b.l) : Ct S0 C 49 [vF (.func 60) [] [vP 0 0], adS a] [tC [vV v] 64, tX T] [] [] [] (vV (.bool (l.any fun s => inB s a))) := by
  refine ct_look fun E w _ hT hok => ?_
  let zs : Nat → SpP := fun i => if h : i < l.length then ⟨l.getD i sp0, hn i h⟩ else ⟨sp0, by decide, by decide⟩
  have hz : ∀ i, i < l.length → (zs i).1 = l.getD i sp0 := fun i hi => by simp only [zs, dif_pos hi]
  have hb := hT.at_ _ (List.Mem.head _)
  have hb' : w.heap[(E 0).g]? = some (.cells #[v] 64 (0, 0)) := hb
  have hs := sl_spans hv zs hz (w := w) fun b hb => hT.at_ b (List.Mem.tail _ (List.mem_append.2 (.inr (List.mem_append.2 (.inl hb)))))
  have key := within_in Fence.wide (fun l => rfl) rfl trivial trivial a (E 0).g v l.length zs hl w (Array.getElem?_eq_some_iff.1 hb').1 (by simp [World.cell?, hb']) hs
  have e : ((List.range l.length).any fun j => inB (zs j).1 a) = l.any fun s => inB s a := by
    rw [Bool.eq_iff_iff, List.any_eq_true, List.any_eq_true]
    constructor
    · rintro ⟨j, hj, h⟩
      rw [List.mem_range] at hj
      refine ⟨l.getD j sp0, ?_, by rw [← hz j hj]; exact h⟩
      rw [List.getD_eq_getElem?_getD, List.getElem?_eq_getElem hj]
      exact List.getElem_mem hj
    · rintro ⟨s, hs, h⟩
      obtain ⟨j, hj, rfl⟩ := List.getElem_of_mem hs
      refine ⟨j, List.mem_range.2 hj, ?_⟩
      rw [hz j hj, List.getD_eq_getElem?_getD, List.getElem?_eq_getElem hj]
      exact h
  rw [e] at key
  exact callsIn_wide.1 key
theorem c_vals (base : Option Addr) (n cap : Nat) : Ct S0 C 50 [vV (.slice base n cap)] [] [] [] [tC [vV (.slice base n cap)] 64] (vF (.func 60) [] [vP 0 0]) := by
  refine xIn Try.f50 fun E0 w0 hL hC hk => ?_
  refine xR 10 [] ?_
  exact (xRetC [0])
theorem c_conU (T : List Blk) (l : List Int) (v : Value) (x : Int) (hv : u8T T l v) (hl : l.length ≤ 1048576) : Ct S0 C 57 [vV v, vV (.int .u8 x)] [tX T] [] [] [] (vV (.bool (decide (x ∈ l)))) := by
  by_cases q : x ∈ l
  · have q2 : ∃ k, k < l.length ∧ (∀ i, i < k → ¬ x = l.getD i 0) ∧ x = l.getD k 0 := by
      clear hv hl
      induction l with
      | nil => cases q
      | cons y l ih =>
        by_cases e : x = y
        · exact ⟨0, by simp, fun i hi => absurd hi (Nat.not_lt_zero _), by simpa using e⟩
        · obtain ⟨k, h1, h2, h3⟩ := ih ((List.mem_cons.1 q).resolve_left e)
          refine ⟨k + 1, by simpa using h1, fun i hi => ?_, by simpa using h3⟩
          cases i with
          | zero => simpa using e
          | succ i => simpa using h2 i (by omega)
    obtain ⟨k, k1, k2, k3⟩ := q2
    have cI := fun C => c_ixU1 (C := C) T l v x k hv k1 k2 k3 hl
    rw [show decide (x ∈ l) = true from decide_eq_true q]
    refine xIn Try.f57 fun E0 w0 hL hC hk => ?_
    refine xR 12 [(3, dC (cI _) [0])] ?_
    exact (xRetC [])
  · have k2 : ∀ i, i < l.length → ¬ x = l.getD i 0 := fun i hi e => q (by rw [e, List.getD_eq_getElem?_getD, List.getElem?_eq_getElem hi]; exact List.getElem_mem hi)
    have cI := fun C => c_ixU0 (C := C) T l v x hv k2 hl
    rw [show decide (x ∈ l) = false from decide_eq_false q]
    refine xIn Try.f57 fun E0 w0 hL hC hk => ?_
    refine xR 12 [(3, dC (cI _) [0])] ?_
    exact (xRetC [])
def proB (l : List Int) (x : Int) : Bool := decide (l.length = 0) || decide (x ∈ l)
theorem c_byPro (T : List Blk) (l : List Int) (v : Value) (x : Flw) (hv : u8T T l v) (hl : l.length ≤ 1048576) : Ct S0 C 48 [vV v, flS x] [tX T] [] [] [] (vV (.bool (proB l x.p))) := by
  have cI := fun C => c_conU (C := C) T l v x.p hv hl
  refine xIn Try.f48 fun E0 w0 hL hC hk => ?_
  by_cases q1 : (l.length : Int) = 0
  · have e : proB l x.p = true := by simp only [proB]; rw [decide_eq_true (show l.length = 0 by omega)]; rfl
    rw [e]
    refine xR 18 [(3, dLenS 63 3 v hv), (4, dB ((iEq ((↑l.length : Int)) 0).trans (DT q1)))] ?_
    exact (xRetC [])
  · have e : proB l x.p = decide (x.p ∈ l) := by simp only [proB]; rw [decide_eq_false (show ¬ l.length = 0 by omega)]; rfl
    rw [e]
    refine xR 18 [(3, dLenS 63 3 v hv), (4, dB ((iEq ((↑l.length : Int)) 0).trans (DF q1))), (9, dC (cI _) [0])] ?_
    exact (xRetC [])
def porB1 (s : Prt) (x : Int) : Bool := decide (s.1 ≤ x) && decide (x ≤ s.2)
theorem c_byPort1 (x : Flw) (s : Prt) : Ct S0 C 61 [vG [vV (.int .u16 s.1), vV (.int .u16 s.2)], vP 0 0] [tC (flC x |>.map vV) 42] [] [] [] (vV (.bool (porB1 s x.to))) := by
  refine xIn Try.f61 fun E0 w0 hL hC hk => ?_
  by_cases q1 : s.1 ≤ x.to
  · have e : porB1 s x.to = decide (x.to ≤ s.2) := by simp [porB1, q1]
    rw [e]
    refine xR 21 [(6, dT q1)] ?_
    exact (xRetC [])
  · have e : porB1 s x.to = false := by simp [porB1, q1]
    rw [e]
    refine xR 21 [(6, dF q1)] ?_
    exact (xRetC [])
theorem c_ixP0 (T : List Blk) (l : List Prt) (v : Value) (x : Flw) (hv : ptT T l v) (q0 : ∀ i, i < l.length → porB1 (l.getD i pt0) x.to = false) (hl : l.length ≤ 1048576) : Ct S0 C 66 [vV v, vF (.func 61) [] [vP 0 0]] [tC (flC x |>.map vV) 42, tX T] [] [] [] (vV (.int .i64 (-1))) := by
  obtain ⟨base, cap, b0, o, rfl, H⟩ := hv
  refine xIn Try.f66 fun E0 w0 hL hC hk => ?_
  have H1 : SlO T 2 l.length (fun i j => [Value.int .u16 (l.getD i pt0).1, .int .u16 (l.getD i pt0).2].getD j undef) base b0 o := H
  clear H
  refine xR 12 [] ?_
  refine xLp (fun (x : Nat) => [(8, vV (.int .i64 (x : Int)))]) (fun x => []) [9, 10, 5, 11, 12, 13, 14, 15, 16, 17, 4, 18] (fun x => x ≤ l.length) (fun x => l.length - x) 0 (Nat.zero_le _) fun n d hx g => ?_
  by_cases q3 : (n : Int) < (l.length : Int)
  · have q4 := q0 n (by omega)
    have cP := fun C => c_byPort1 (C := C) x (l.getD n pt0)
    rw [q4] at cP
    refine xR 30 [(0, dT q3), (6, dIxR 65 H1 cap n (by omega)), (7, dLdR 75 1 H1 n (by omega)), (8, dC (cP _) [0]), (9, dW ((↑n : Int) + 1) ((↑(n + 1) : Int)) (by omega) (by omega) (by omega))] ?_
    exact xNx g (n + 1) [9, 10, 5, 11, 12, 13, 14, 15, 16, 17, 4, 18] [0, 1] (by omega) (by omega)
  · refine xR 11 [(0, dF q3)] ?_
    exact (xRetC [])
theorem c_ixP1 (T : List Blk) (l : List Prt) (v : Value) (x : Flw) (k : Nat) (hv : ptT T l v) (k1 : k < l.length) (q0 : ∀ i, i < k → porB1 (l.getD i pt0) x.to = false) (q1 : porB1 (l.getD k pt0) x.to = true) (hl : l.length ≤ 1048576) : Ct S0 C 66 [vV v, vF (.func 61) [] [vP 0 0]] [tC (flC x |>.map vV) 42, tX T] [] [] [] (vV (.int .i64 (k : Int))) := by
  obtain ⟨base, cap, b0, o, rfl, H⟩ := hv
  refine xIn Try.f66 fun E0 w0 hL hC hk => ?_
  have H1 : SlO T 2 l.length (fun i j => [Value.int .u16 (l.getD i pt0).1, .int .u16 (l.getD i pt0).2].getD j undef) base b0 o := H
  clear H
  refine xR 12 [] ?_
  refine xLp (fun (x : Nat) => [(8, vV (.int .i64 (x : Int)))]) (fun x => []) [9, 10, 5, 11, 12, 13, 14, 15, 16, 17, 4, 18] (fun x => x ≤ k) (fun x => k - x) 0 (Nat.zero_le _) fun n d hx g => ?_
  have q3 : (n : Int) < (l.length : Int) := by omega
  have cP := fun C => c_byPort1 (C := C) x (l.getD n pt0)
  by_cases q4 : n = k
  · subst q4
    rw [q1] at cP
    refine xR 29 [(0, dT q3), (6, dIxR 65 H1 cap n k1), (7, dLdR 75 1 H1 n k1), (8, dC (cP _) [0])] ?_
    exact (xRetC [])
  · have q5 := q0 n (by omega)
    rw [q5] at cP
    refine xR 30 [(0, dT q3), (6, dIxR 65 H1 cap n (by omega)), (7, dLdR 75 1 H1 n (by omega)), (8, dC (cP _) [0]), (9, dW ((↑n : Int) + 1) ((↑(n + 1) : Int)) (by omega) (by omega) (by omega))] ?_
    exact xNx g (n + 1) [9, 10, 5, 11, 12, 13, 14, 15, 16, 17, 4, 18] [0, 1] (by omega) (by omega)
/-- Where the first is that p takes; or none. -/
theorem fst_ix {α : Type} (p : α → Bool) (z : α) : ∀ l : List α, (∃ k, k < l.length ∧ (∀ i, i < k → p (l.getD i z) = false) ∧ p (l.getD k z) = true ∧ l.any p = true) ∨ ((∀ i, i < l.length → p (l.getD i z) = false) ∧ l.any p = false)
  | [] => .inr ⟨fun i hi => absurd hi (Nat.not_lt_zero _), rfl⟩
  | y :: l => by
    cases e : p y
    · rcases fst_ix p z l with ⟨k, h1, h2, h3, h4⟩ | ⟨h1, h2⟩
      · refine .inl ⟨k + 1, by simpa using h1, fun i hi => ?_, by simpa using h3, by simp [e, h4]⟩
        cases i with
        | zero => simpa using e
        | succ i => simpa using h2 i (by omega)
      · refine .inr ⟨fun i hi => ?_, by simp [e, h2]⟩
        cases i with
        | zero => simpa using e
        | succ i => simpa using h1 i (by simpa using hi)
    · exact .inl ⟨0, by simp, fun i hi => absurd hi (Nat.not_lt_zero _), by simpa using e, by simp [e]⟩
theorem c_conP (T : List Blk) (l : List Prt) (v : Value) (x : Flw) (hv : ptT T l v) (hl : l.length ≤ 1048576) : Ct S0 C 62 [vV v, vF (.func 61) [] [vP 0 0]] [tC (flC x |>.map vV) 42, tX T] [] [] [] (vV (.bool (l.any fun s => porB1 s x.to))) := by
  rcases fst_ix (fun s => porB1 s x.to) pt0 l with ⟨k, h1, h2, h3, h4⟩ | ⟨h1, h2⟩
  · have cI := fun C => c_ixP1 (C := C) T l v x k hv h1 h2 h3 hl
    rw [h4]
    refine xIn Try.f62 fun E0 w0 hL hC hk => ?_
    clear h2 h3 h4
    refine xR 12 [(3, dC (cI _) [0, 1])] ?_
    exact (xRetC [])
  · have cI := fun C => c_ixP0 (C := C) T l v x hv h1 hl
    rw [h2]
    refine xIn Try.f62 fun E0 w0 hL hC hk => ?_
    clear h1 h2
    refine xR 12 [(3, dC (cI _) [0, 1])] ?_
    exact (xRetC [])
def porB (l : List Prt) (x : Flw) : Bool := decide (l.length = 0) || ((decide (x.p = 6) || decide (x.p = 17)) && l.any fun s => porB1 s x.to)
theorem c_byPort (T : List Blk) (l : List Prt) (v : Value) (x : Flw) (hv : ptT T l v) (hl : l.length ≤ 1048576) : Ct S0 C 51 [vV v, flS x] [tX T] [] [] [] (vV (.bool (porB l x))) := by
  have cI := fun C => c_conP (C := C) T l v x hv hl
  refine xIn Try.f51 fun E0 w0 hL hC hk => ?_
  unfold porB
  generalize (l.any fun s => porB1 s x.to) = m at cI
  by_cases q1 : (l.length : Int) = 0
  · have e : decide (l.length = 0) = true := decide_eq_true (show l.length = 0 by omega)
    rw [e, Bool.true_or]
    by_cases h1 : x.p = 6
    · refine xR 37 [(4, dB (((iEq x.p 6)).trans (DT h1))), (14, dLenS 65 3 v hv), (15, dB ((iEq ((↑l.length : Int)) 0).trans (DT q1)))] ?_
      exact (xRetC [])
    · refine xR 37 [(4, dB (((iEq x.p 6)).trans (DF h1))), (8, dB (iEq x.p 17)), (14, dLenS 65 3 v hv), (15, dB ((iEq ((↑l.length : Int)) 0).trans (DT q1)))] ?_
      exact (xRetC [])
  · have e : decide (l.length = 0) = false := decide_eq_false (show ¬ l.length = 0 by omega)
    rw [e, Bool.false_or]
    by_cases q2 : x.p = 6
    · rw [decide_eq_true q2, Bool.true_or, Bool.true_and]
      refine xR 37 [(4, dB ((iEq x.p 6).trans (DT q2))), (14, dLenS 65 3 v hv), (15, dB ((iEq ((↑l.length : Int)) 0).trans (DF q1))), (21, dC (cI _) [1, 0])] ?_
      exact (xRetC [])
    · rw [decide_eq_false q2, Bool.false_or]
      by_cases q3 : x.p = 17
      · rw [decide_eq_true q3, Bool.true_and]
        refine xR 37 [(4, dB ((iEq x.p 6).trans (DF q2))), (8, dB ((iEq x.p 17).trans (DT q3))), (14, dLenS 65 3 v hv), (15, dB ((iEq ((↑l.length : Int)) 0).trans (DF q1))), (21, dC (cI _) [1, 0])] ?_
        exact (xRetC [])
      · rw [decide_eq_false q3, Bool.false_and]
        refine xR 37 [(4, dB ((iEq x.p 6).trans (DF q2))), (8, dB ((iEq x.p 17).trans (DF q3))), (14, dLenS 65 3 v hv), (15, dB ((iEq ((↑l.length : Int)) 0).trans (DF q1)))] ?_
        exact (xRetC [])
end Go.Proofs.Ytlfekknonjlopaa
