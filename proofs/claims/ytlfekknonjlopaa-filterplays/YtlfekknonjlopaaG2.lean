/- All answers; time passes. -/
import Derived.Test.YtlfekknonjlopaaG1
import Derived.Test.YtlfekknonjlopaaXY
namespace Go.Proofs.Ytlfekknonjlopaa
open Go.RowKit
set_option linter.unusedVariables false
set_option linter.unusedSimpArgs false
set_option maxHeartbeats 0
set_option maxRecDepth 100000
variable {C : World → Prop}
def livEl (x : Liv) (c : List Value) (T : List Blk) : Prop := c = lvC x ∧ T = []
abbrev livD (l : List Liv) : DP := RowD 10 55 livEl l
def dApp_livEl (l : List Liv) (b1 b2 : Nat) (p : Int) (a : Bool) (b c : Int) (d : Bool) (e f i j u : Int) (hle : l.length < 500000) : Dr S0 C := dApp 34 34 55 10 (.agg #[.int .u8 0, .bool false, .int .u64 0, .int .u64 0, .bool false, .int .u64 0, .int .u64 0, .int .u16 0, .int .u16 0, .int .u64 0]) livEl l ⟨⟨p, ⟨a, b, c⟩, ⟨d, e, f⟩, i, j⟩, u⟩ b1 b2 55 [vV (.int .u8 p), vV (.bool a), vV (.int .u64 b), vV (.int .u64 c), vV (.bool d), vV (.int .u64 e), vV (.int .u64 f), vV (.int .u16 i), vV (.int .u16 j), vV (.int .u64 u)] [] hle (fun E _ => ⟨rfl, rfl⟩)
def lv0 : Nat × Liv := (0, ⟨⟨0, ⟨false, 0, 0⟩, ⟨false, 0, 0⟩, 0, 0⟩, 0⟩)
/-- What lies behind the pointers. -/
theorem buf_slo {L : List (Nat × Liv)} {base : Option Addr} {cap : Nat} {Tl : List Blk} (h : Buf 1 89 L.length (L.map fun p => ptr p.1) (.slice base L.length cap) Tl) : ∃ g, SlO Tl 1 L.length (fun i _ => .pointer (some ⟨(L.getD i lv0).1, 0, none⟩)) base g 0 := by
  rcases h.2 with ⟨h0, -, -⟩ | ⟨g, cap', Z, e, hc, hZ, hZt, rfl⟩
  · exact ⟨0, fun h => by omega⟩
  · cases e
    refine ⟨g, fun _ => ⟨rfl, Z.toArray, 89, (0, 0), by simp, fun i j hi hj => ?_⟩⟩
    have hj : j = 0 := by omega
    subst hj
    have h1 : (Z.take (L.length * 1))[i]? = Z[i]? := by rw [List.getElem?_take, if_pos (by omega)]
    rw [Nat.zero_add, Nat.mul_one, Nat.add_zero, List.getElem?_toArray, ← h1, hZt, List.getElem?_map, List.getElem?_eq_getElem hi]
    simp only [List.getD_eq_getElem?_getD, List.getElem?_eq_getElem hi]
    rfl
theorem take_succD {α : Type} (l : List α) (d : α) (x : Nat) (h : x < l.length) : l.take (x + 1) = l.take x ++ [l.getD x d] := by
  rw [List.take_add_one, List.getElem?_eq_getElem h, List.getD_eq_getElem?_getD, List.getElem?_eq_getElem h]
  rfl
theorem lvB_mem {L : List (Nat × Liv)} {x : Nat} (h : x < L.length) : livB (L.getD x lv0).1 (L.getD x lv0).2 ∈ lvB L := by
  rw [List.getD_eq_getElem?_getD, List.getElem?_eq_getElem h]
  exact List.mem_map_of_mem (f := fun p => livB p.1 p.2) (List.getElem_mem h)
def lsR (L : List (Nat × Liv)) : Nat → List Liv
  | 0 => []
  | x + 1 => lsR L x ++ [(L.getD x lv0).2]
theorem lsR_take (L : List (Nat × Liv)) : ∀ x, x ≤ L.length → lsR L x = (L.map (·.2)).take x
  | 0, _ => rfl
  | x + 1, h => by
    rw [lsR, lsR_take L x (by omega), take_succD _ lv0.2 x (by rw [List.length_map]; omega)]
    congr 2
    rw [List.getD_eq_getElem?_getD, List.getD_eq_getElem?_getD, List.getElem?_map]
    cases L[x]? <;> rfl
theorem lsR_len (L : List (Nat × Liv)) : ∀ x, (lsR L x).length = x
  | 0 => rfl
  | x + 1 => by rw [lsR, List.length_append, lsR_len L x]; rfl
theorem c_all (ga : Nat) (a : Ans) (hl : a.l.length < 100000) : Ct S0 C 36 [vV (.pointer (some ⟨ga, 0, none⟩))] [] [tD (ansG ga a)] [gap] [tD (ansG ga a), tD (livD a.l)] (vW 2) := by
  refine xIn Try.f36 fun E0 w0 hL hC hk => ?_
  refine xOpen (D := ansG ga a) 0 fun v0 T0 hv => ?_
  obtain ⟨gm, lv, Tl, L, ms, clock, hT, h1, h2, h3⟩ := hv
  obtain ⟨base, cap, rfl⟩ := buf_len h1
  have q1 : L.length = a.l.length := by rw [← h3, List.length_map]
  obtain ⟨gl, H0⟩ := buf_slo h1
  have H : SlO T0 1 L.length (fun i _ => .pointer (some ⟨(L.getD i lv0).1, 0, none⟩)) base gl 0 := H0.sub fun b hb => by rw [hT]; simp [hb]
  have hm : (⟨ga, .cells [.int .i64 a.most, .int .u64 a.life, .int .u64 a.now, .map (some gm), .slice base L.length cap].toArray 88 (0, 0)⟩ : Blk) ∈ T0 := by rw [hT]; simp
  have hm2 : ∀ x, x < L.length → livB (L.getD x lv0).1 (L.getD x lv0).2 ∈ T0 := fun x hx => by
    rw [hT]
    exact List.mem_append_right _ (List.mem_append_right _ (List.mem_append_right _ (lvB_mem hx)))
  have q2 : lsR L L.length = a.l := by rw [lsR_take L _ (Nat.le_refl _), h3, q1, List.take_length]
  refine xR 19 [(5, dLdX 86 0 _ _ 4 _ _ (Value.slice base L.length cap) hm rfl)] ?_
  refine xPack (vV (.slice none 0 0)) [] (livD (lsR L 0)) [3] [] (fun _ _ => ⟨rfl, row_nil _ _ _⟩) ?_
  refine xLp (fun (x : Nat) => [(11, vV (.int .i64 (x : Int))), (3, vW 1)]) (fun x => [(1, tD (livD (lsR L x)))]) [12, 13, 14, 5, 15, 16, 17, 18, 19, 20, 21] (fun x => x ≤ L.length) (fun x => L.length - x) 0 (Nat.zero_le _) fun x d hx g => ?_
  by_cases q3 : (x : Int) < (L.length : Int)
  · have hm3 : (⟨(L.getD x lv0).1, .cells (lvC (L.getD x lv0).2).toArray 55 (0, 0)⟩ : Blk) ∈ T0 := hm2 x (by omega)
    have q6 := lsR_len L x
    refine xR 29 [(0, dT q3), (1, dIxR 86 H0 cap x (by omega)), (2, dLdR1 89 0 H x 0 (0 + x * 1) (by omega)), (7, dLdXn 55 0 _ _ 0 _ _ [Value.int IntKind.u8 (L.getD x lv0).snd.f.p, Value.bool (L.getD x lv0).snd.f.s.v, Value.int IntKind.u64 (L.getD x lv0).snd.f.s.h, Value.int IntKind.u64 (L.getD x lv0).snd.f.s.l, Value.bool (L.getD x lv0).snd.f.d.v, Value.int IntKind.u64 (L.getD x lv0).snd.f.d.h, Value.int IntKind.u64 (L.getD x lv0).snd.f.d.l, Value.int IntKind.u16 (L.getD x lv0).snd.f.fr, Value.int IntKind.u16 (L.getD x lv0).snd.f.to, Value.int IntKind.u64 (L.getD x lv0).snd.u] hm3 (cells_at rfl)), (9, dApp_livEl (lsR L x) 1 2 ((L.getD x lv0).snd.f.p) ((L.getD x lv0).snd.f.s.v) ((L.getD x lv0).snd.f.s.h) ((L.getD x lv0).snd.f.s.l) ((L.getD x lv0).snd.f.d.v) ((L.getD x lv0).snd.f.d.h) ((L.getD x lv0).snd.f.d.l) ((L.getD x lv0).snd.f.fr) ((L.getD x lv0).snd.f.to) ((L.getD x lv0).snd.u) (by omega)), (11, dW ((↑x : Int) + 1) ((↑(x + 1) : Int)) (by omega) (by omega) (by omega))] ?_
    exact xNx g (x + 1) [12, 13, 14, 5, 15, 16, 17, 18, 19, 20, 21] [0, 3] (by omega) (by omega)
  · have q7 : x = L.length := by omega
    subst q7
    refine xR 12 [(0, dF q3)] ?_
    refine xPk (vV (.bool false)) [(0, tX T0)] (ansG ga a) [] [] (fun E h => ⟨rfl, gm, _, Tl, L, ms, clock, by rw [← hT]; exact List.append_nil T0, h1, h2, h3⟩) ?_
    rw [← q2]
    exact xRetC [2, 1]
end Go.Proofs.Ytlfekknonjlopaa
