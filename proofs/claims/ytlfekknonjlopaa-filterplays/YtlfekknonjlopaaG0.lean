/- The seat of the filter; flows. -/
import Derived.Test.YtlfekknonjlopaaXY
import Derived.Test.YtlfekknonjlopaaProg
namespace Go.Proofs.Ytlfekknonjlopaa
open Go.RowKit
variable {C : World → Prop}
set_option maxRecDepth 100000
set_option linter.unusedVariables false
set_option linter.unusedSimpArgs false
set_option maxHeartbeats 0
def S0 : Seat Try.prog := ⟨0, fun _ => True, fun _ _ => Nat.zero_le _, fun _ _ _ _ _ => trivial, by kernel_rfl⟩
section
variable {P : Program}
theorem eqF_all (d : Nat) (xs ys : Array Value) (w : World) : ∀ (fs : List Field) (es : List (TypeId × Nat × Value × Value × Bool)), fs.map (fun f => (f.name == "_", f.type, f.offset)) = es.map (fun e => (false, e.1, e.2.1)) →
    (∀ e ∈ es, (part e.1 xs e.2.1).run P w = .ok e.2.2.1 w ∧ (part e.1 ys e.2.1).run P w = .ok e.2.2.2.1 w ∧ (Op.equalIn d e.1 e.2.2.1 e.2.2.2.1).run P w = .ok e.2.2.2.2 w) →
    (Op.eqFields d xs ys fs).run P w = .ok (es.all (·.2.2.2.2)) w
  | [], es, h, _ => by
    cases es with
    | nil => rfl
    | cons e es => simp at h
  | f :: fs, es, h, hp => by
    cases es with
    | nil => simp at h
    | cons e es =>
      simp only [List.map_cons, List.cons.injEq, Prod.mk.injEq] at h
      obtain ⟨⟨h1, h2, h3⟩, h4⟩ := h
      obtain ⟨p1, p2, p3⟩ := hp e (List.mem_cons_self ..)
      have hn : f.name ≠ "_" := by simpa using h1
      unfold Op.eqFields
      rw [if_pos hn]
      simp only [Sem.run_bind, h2, h3, p1, p2, p3, Result.andThen_ok, List.all_cons]
      cases hb : e.2.2.2.2
      · simp
      · simp only [Bool.not_true, Bool.false_eq_true, if_false, Bool.true_and]
        exact eqF_all d xs ys w fs es h4 fun e he => hp e (List.mem_cons_of_mem _ he)
end
theorem dec_bool (a b : Bool) : (a == b) = decide (a = b) := by cases a <;> cases b <;> rfl
theorem dec_int (a b : Int) : (a == b) = decide (a = b) := by
  rw [Bool.eq_iff_iff]
  simp
theorem run_eqS {P : Program} {t : TypeId} {a b : Array Value} {r : Bool} {w : World} (hg : P.eqGuardType P.depth t = false) (h : (Op.equalIn 10000 t (.agg a) (.agg b)).run P w = .ok r w) : (semV (do eqGuard .eql t (.tmp 0) (.tmp 0) (.agg a) (.agg b); binOp .eql t (.agg a) (.agg b))).run P w = .ok (.value (.bool r)) w := by
  have h1 : (binOp .eql t (.agg a) (.agg b)).run P w = .ok (.bool r) w := by
    rw [run_eql_struct, h]
    rfl
  simp [semV, eqGuard, hg, h1]
theorem run_neS {P : Program} {t : TypeId} {a b : Array Value} {r : Bool} {w : World} (hg : P.eqGuardType P.depth t = false) (h : (Op.equalIn 10000 t (.agg a) (.agg b)).run P w = .ok r w) : (semV (do eqGuard .neq t (.tmp 0) (.tmp 0) (.agg a) (.agg b); binOp .neq t (.agg a) (.agg b))).run P w = .ok (.value (.bool !r)) w := by
  have h1 : (binOp .neq t (.agg a) (.agg b)).run P w = .ok (.bool !r) w := by
    rw [run_neq_struct, h]
    rfl
  simp [semV, eqGuard, hg, h1]
/-- Addresses, flows, flows that may come in till a time. -/
abbrev Adr := Bool × Int × Int
abbrev Adr.v (x : Adr) : Bool := x.1
abbrev Adr.h (x : Adr) : Int := x.2.1
abbrev Adr.l (x : Adr) : Int := x.2.2
abbrev Flw := Int × Adr × Adr × Int × Int
abbrev Flw.p (x : Flw) : Int := x.1
abbrev Flw.s (x : Flw) : Adr := x.2.1
abbrev Flw.d (x : Flw) : Adr := x.2.2.1
abbrev Flw.fr (x : Flw) : Int := x.2.2.2.1
abbrev Flw.to (x : Flw) : Int := x.2.2.2.2
abbrev Liv := Flw × Int
abbrev Liv.f (x : Liv) : Flw := x.1
abbrev Liv.u (x : Liv) : Int := x.2
def adC (x : Adr) : List Value := [.bool x.v, .int .u64 x.h, .int .u64 x.l]
def flC (x : Flw) : List Value := [.int .u8 x.p, .bool x.s.v, .int .u64 x.s.h, .int .u64 x.s.l, .bool x.d.v, .int .u64 x.d.h, .int .u64 x.d.l, .int .u16 x.fr, .int .u16 x.to]
def lvC (x : Liv) : List Value := [.int .u8 x.f.p, .bool x.f.s.v, .int .u64 x.f.s.h, .int .u64 x.f.s.l, .bool x.f.d.v, .int .u64 x.f.d.h, .int .u64 x.f.d.l, .int .u16 x.f.fr, .int .u16 x.f.to, .int .u64 x.u]
def flV (x : Flw) : Value := .agg (flC x).toArray
theorem eqI39 (d : Nat) (v : Bool) (h l : Int) (v' : Bool) (h' l' : Int) (w : World) : (Op.equalIn (d + 2) 39 (.agg #[.bool v, .int .u64 h, .int .u64 l]) (.agg #[.bool v', .int .u64 h', .int .u64 l'])).run Try.prog w = .ok (decide (v = v' ∧ h = h' ∧ l = l')) w := by
  rw [run_equalIn_struct w (d + 1) 39 _ _ (by kernel_rfl) (by kernel_rfl)]
  rw [eqF_all (d + 1) _ _ w _ [(4, 0, .bool v, .bool v', v == v'), (23, 1, .int .u64 h, .int .u64 h', h == h'), (23, 2, .int .u64 l, .int .u64 l', l == l')] (by kernel_rfl) (by
    intro e he
    simp only [List.mem_cons, List.mem_nil_iff, or_false] at he
    rcases he with rfl | rfl | rfl
    · exact ⟨by kernel_rfl, by kernel_rfl, run_equalIn_bool' w d 4 v v' Try.underlying4⟩
    · exact ⟨by kernel_rfl, by kernel_rfl, run_equalIn_int w d 23 .u64 .u64 h h' Try.underlying23⟩
    · exact ⟨by kernel_rfl, by kernel_rfl, run_equalIn_int w d 23 .u64 .u64 l l' Try.underlying23⟩)]
  simp [dec_bool, Bool.decide_and, dec_int]
theorem eqI42 (d : Nat) (x y : Flw) (w : World) : (Op.equalIn (d + 3) 42 (flV x) (flV y)).run Try.prog w = .ok (decide (x = y)) w := by
  obtain ⟨p, ⟨a, b, c⟩, ⟨e, f, g⟩, i, j⟩ := x
  obtain ⟨p', ⟨a', b', c'⟩, ⟨e', f', g'⟩, i', j'⟩ := y
  rw [show flV ⟨p, ⟨a, b, c⟩, ⟨e, f, g⟩, i, j⟩ = .agg #[.int .u8 p, .bool a, .int .u64 b, .int .u64 c, .bool e, .int .u64 f, .int .u64 g, .int .u16 i, .int .u16 j] from rfl, show flV ⟨p', ⟨a', b', c'⟩, ⟨e', f', g'⟩, i', j'⟩ = .agg #[.int .u8 p', .bool a', .int .u64 b', .int .u64 c', .bool e', .int .u64 f', .int .u64 g', .int .u16 i', .int .u16 j'] from rfl]
  rw [run_equalIn_struct w (d + 2) 42 _ _ (by kernel_rfl) (by kernel_rfl)]
  rw [eqF_all (d + 2) _ _ w _ [(5, 0, .int .u8 p, .int .u8 p', p == p'), (39, 1, .agg #[.bool a, .int .u64 b, .int .u64 c], .agg #[.bool a', .int .u64 b', .int .u64 c'], decide (a = a' ∧ b = b' ∧ c = c')), (39, 4, .agg #[.bool e, .int .u64 f, .int .u64 g], .agg #[.bool e', .int .u64 f', .int .u64 g'], decide (e = e' ∧ f = f' ∧ g = g')), (40, 7, .int .u16 i, .int .u16 i', i == i'), (40, 8, .int .u16 j, .int .u16 j', j == j')] (by kernel_rfl) (by
    intro z hz
    simp only [List.mem_cons, List.mem_nil_iff, or_false] at hz
    rcases hz with rfl | rfl | rfl | rfl | rfl
    · exact ⟨by kernel_rfl, by kernel_rfl, run_equalIn_int w (d + 1) 5 .u8 .u8 p p' Try.underlying5⟩
    · exact ⟨by kernel_rfl, by kernel_rfl, eqI39 d a b c a' b' c' w⟩
    · exact ⟨by kernel_rfl, by kernel_rfl, eqI39 d e f g e' f' g' w⟩
    · exact ⟨by kernel_rfl, by kernel_rfl, run_equalIn_int w (d + 1) 40 .u16 .u16 i i' Try.underlying40⟩
    · exact ⟨by kernel_rfl, by kernel_rfl, run_equalIn_int w (d + 1) 40 .u16 .u16 j j' Try.underlying40⟩)]
  simp [Bool.decide_and, dec_int, Bool.and_assoc]
theorem kmF : KM Try.prog 42 flV := km_ask (d := .struct (Try.prog.fieldsOf 42)) (by kernel_rfl) (fun _ _ => rfl) (fun em w x => by kernel_rfl) (fun w x y => eqI42 9997 x y w)
/-- Flows are compared. -/
def dEq42 (p : Int) (a : Bool) (b c : Int) (e : Bool) (f g i j p' : Int) (a' : Bool) (b' c' : Int) (e' : Bool) (f' g' i' j' : Int) (r : Bool) (hr : decide ((⟨p, ⟨a, b, c⟩, ⟨e, f, g⟩, i, j⟩ : Flw) = ⟨p', ⟨a', b', c'⟩, ⟨e', f', g'⟩, i', j'⟩) = r) : Dr S0 C := dRd (oOp 13 42 0 [] [vG [vV (.int .u8 p), vV (.bool a), vV (.int .u64 b), vV (.int .u64 c), vV (.bool e), vV (.int .u64 f), vV (.int .u64 g), vV (.int .u16 i), vV (.int .u16 j)], vG [vV (.int .u8 p'), vV (.bool a'), vV (.int .u64 b'), vV (.int .u64 c'), vV (.bool e'), vV (.int .u64 f'), vV (.int .u64 g'), vV (.int .u16 i'), vV (.int .u16 j')]]) (vV (.bool r)) fun E w _ _ => by
  subst hr
  exact run_eqS (by kernel_rfl) (eqI42 9997 ⟨p, ⟨a, b, c⟩, ⟨e, f, g⟩, i, j⟩ ⟨p', ⟨a', b', c'⟩, ⟨e', f', g'⟩, i', j'⟩ w)
end Go.Proofs.Ytlfekknonjlopaa
