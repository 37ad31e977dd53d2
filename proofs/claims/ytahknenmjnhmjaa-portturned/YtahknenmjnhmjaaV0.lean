/- Words of 16 bits; structs that are compared. -/
import Derived.Test.YtahknenmjnhmjaaQ0
import Derived.Laws.StructEq
namespace Go.Proofs.Ytahknenmjnhmjaa
open Go.RowKit

def vn (x y : Int) : Int := IntKind.wrap .u32 (BitVec.ofInt 32 x &&& BitVec.ofInt 32 y).toNat
def yn (x y : Int) : Int := IntKind.wrap .u16 (BitVec.ofInt 16 x &&& BitVec.ofInt 16 y).toNat
def yo (x y : Int) : Int := IntKind.wrap .u16 (BitVec.ofInt 16 x ||| BitVec.ofInt 16 y).toNat
def yx (x y : Int) : Int := IntKind.wrap .u16 (BitVec.ofInt 16 x ^^^ BitVec.ofInt 16 y).toNat
def yd (x y : Int) : Int := IntKind.wrap .u16 (BitVec.ofInt 16 x &&& ~~~ BitVec.ofInt 16 y).toNat
def ya (x y : Int) : Int := IntKind.wrap .u16 (x + y)
def ys (x y : Int) : Int := IntKind.wrap .u16 (x - y)
def a8 (x y : Int) : Int := IntKind.wrap .u8 (x + y)
def s8 (x y : Int) : Int := IntKind.wrap .u8 (x - y)
def w16 (f : Nat → Int) : Nat → Value := fun i => .int .u16 (f i)
theorem put_w16 (f : Nat → Int) (k : Nat) (v : Int) (j : Nat) : (if j = k then .int .u16 v else w16 f j) = w16 (upd f k v) j := by
  unfold w16 upd
  split <;> rfl
section
variable {P : Program}
/-- What two structs are field by field. -/
theorem eqF_all (d : Nat) (xs ys : Array Value) (w : World) : ∀ (fs : List Field) (es : List (TypeId × Nat × Value × Value × Bool)), fs.map (fun f => (f.name == "_", f.type, f.offset)) = es.map (fun e => (false, e.1, e.2.1)) →
    (∀ e ∈ es, (part e.1 xs e.2.1).run P w = .ok e.2.2.1 w ∧ (part e.1 ys e.2.1).run P w = .ok e.2.2.2.1 w ∧ (Op.equalIn d e.1 e.2.2.1 e.2.2.2.1).run P w = .ok e.2.2.2.2 w) →
    (Op.eqFields d xs ys fs).run P w = .ok (es.all (·.2.2.2.2)) w
  | [], es, h, _ => by
    cases es with
    | nil => rfl
    | cons e es => simp at h
  | f :: fs, es, h, hp => by
    cases es with
    | nil => simp at h
    | cons e es =>
      simp only [List.map_cons, List.cons.injEq, Prod.mk.injEq] at h
      obtain ⟨⟨h1, h2, h3⟩, h4⟩ := h
      obtain ⟨p1, p2, p3⟩ := hp e (List.mem_cons_self ..)
      have hn : f.name ≠ "_" := by simpa using h1
      unfold Op.eqFields
      rw [if_pos hn]
      simp only [Sem.run_bind, h2, h3, p1, p2, p3, Result.andThen_ok, List.all_cons]
      cases hb : e.2.2.2.2
      · simp
      · simp only [Bool.not_true, Bool.false_eq_true, if_false, Bool.true_and]
        exact eqF_all d xs ys w fs es h4 fun e he => hp e (List.mem_cons_of_mem _ he)
end
theorem dec_bool (a b : Bool) : (a == b) = decide (a = b) := by cases a <;> cases b <;> rfl
theorem dec_int (a b : Int) : (a == b) = decide (a = b) := by
  rw [Bool.eq_iff_iff]
  simp
theorem dec_str (a b : ByteArray) : (a.toList == b.toList) = decide (a = b) := by
  by_cases h : a = b
  · rw [seq_pos h, decide_eq_true h]
  · rw [seq_neg h, decide_eq_false h]
theorem eqI24 (d : Nat) (v v' : Bool) (h h' l l' : Int) (w : World) : (Op.equalIn (d + 2) 24 (.agg (av 3 (ls [.bool v, .int .u64 h, .int .u64 l]))) (.agg (av 3 (ls [.bool v', .int .u64 h', .int .u64 l'])))).run Try.prog w = .ok (decide (v = v' ∧ h = h' ∧ l = l')) w := by
  rw [run_equalIn_struct w (d + 1) 24 _ _ (by kernel_rfl) (by kernel_rfl)]
  rw [eqF_all (d + 1) _ _ w _ [(4, 0, .bool v, .bool v', v == v'), (22, 1, .int .u64 h, .int .u64 h', h == h'), (22, 2, .int .u64 l, .int .u64 l', l == l')] (by kernel_rfl) (by
    intro e he
    simp only [List.mem_cons, List.mem_nil_iff, or_false] at he
    rcases he with rfl | rfl | rfl
    · exact ⟨by kernel_rfl, by kernel_rfl, run_equalIn_bool' w d 4 v v' Try.underlying4⟩
    · exact ⟨by kernel_rfl, by kernel_rfl, run_equalIn_int w d 22 .u64 .u64 h h' Try.underlying22⟩
    · exact ⟨by kernel_rfl, by kernel_rfl, run_equalIn_int w d 22 .u64 .u64 l l' Try.underlying22⟩)]
  simp [dec_bool, Bool.decide_and, dec_int]
theorem eql24w (v v' : Bool) (h h' l l' : Int) (w : World) : (binOp .eql 24 (.agg (av 3 (ls [.bool v, .int .u64 h, .int .u64 l]))) (.agg (av 3 (ls [.bool v', .int .u64 h', .int .u64 l'])))).run Try.prog w = .ok (.bool (decide (v = v' ∧ h = h' ∧ l = l'))) w := by
  rw [run_eql_struct]
  have := eqI24 9998 v v' h h' l l' w
  rw [show (10000 : Nat) = 9998 + 2 from rfl, this]
  rfl
theorem neq24w (v v' : Bool) (h h' l l' : Int) (w : World) : (binOp .neq 24 (.agg (av 3 (ls [.bool v, .int .u64 h, .int .u64 l]))) (.agg (av 3 (ls [.bool v', .int .u64 h', .int .u64 l'])))).run Try.prog w = .ok (.bool (!decide (v = v' ∧ h = h' ∧ l = l'))) w := by
  rw [run_neq_struct]
  have := eqI24 9998 v v' h h' l l' w
  rw [show (10000 : Nat) = 9998 + 2 from rfl, this]
  rfl
theorem eqI26 (d : Nat) (v0 v0' : Bool) (h0 h0' l0 l0' : Int) (v1 v1' : Bool) (h1 h1' l1 l1' p p' t t' : Int) (s s' : ByteArray) (w : World) : (Op.equalIn (d + 3) 26 (.agg (av 9 (ls [.bool v0, .int .u64 h0, .int .u64 l0, .bool v1, .int .u64 h1, .int .u64 l1, .int .u8 p, .int .u8 t, .string s]))) (.agg (av 9 (ls [.bool v0', .int .u64 h0', .int .u64 l0', .bool v1', .int .u64 h1', .int .u64 l1', .int .u8 p', .int .u8 t', .string s'])))).run Try.prog w = .ok (decide (v0 = v0' ∧ h0 = h0' ∧ l0 = l0' ∧ v1 = v1' ∧ h1 = h1' ∧ l1 = l1' ∧ p = p' ∧ t = t' ∧ s = s')) w := by
  rw [run_equalIn_struct w (d + 2) 26 _ _ (by kernel_rfl) (by kernel_rfl)]
  rw [eqF_all (d + 2) _ _ w _ [(24, 0, (.agg (av 3 (ls [.bool v0, .int .u64 h0, .int .u64 l0]))), (.agg (av 3 (ls [.bool v0', .int .u64 h0', .int .u64 l0']))), decide (v0 = v0' ∧ h0 = h0' ∧ l0 = l0')), (24, 3, (.agg (av 3 (ls [.bool v1, .int .u64 h1, .int .u64 l1]))), (.agg (av 3 (ls [.bool v1', .int .u64 h1', .int .u64 l1']))), decide (v1 = v1' ∧ h1 = h1' ∧ l1 = l1')), (5, 6, .int .u8 p, .int .u8 p', p == p'), (5, 7, .int .u8 t, .int .u8 t', t == t'), (9, 8, .string s, .string s', s.toList == s'.toList)] (by kernel_rfl) (by
    intro e he
    simp only [List.mem_cons, List.mem_nil_iff, or_false] at he
    rcases he with rfl | rfl | rfl | rfl | rfl
    · exact ⟨by kernel_rfl, by kernel_rfl, eqI24 d v0 v0' h0 h0' l0 l0' w⟩
    · exact ⟨by kernel_rfl, by kernel_rfl, eqI24 d v1 v1' h1 h1' l1 l1' w⟩
    · exact ⟨by kernel_rfl, by kernel_rfl, run_equalIn_int w (d + 1) 5 .u8 .u8 p p' Try.underlying5⟩
    · exact ⟨by kernel_rfl, by kernel_rfl, run_equalIn_int w (d + 1) 5 .u8 .u8 t t' Try.underlying5⟩
    · exact ⟨by kernel_rfl, by kernel_rfl, run_equalIn_string w (d + 1) 9 s s' Try.underlying9⟩)]
  simp [Bool.decide_and, dec_int, Bool.and_assoc, dec_str]
theorem eql26w (v0 v0' : Bool) (h0 h0' l0 l0' : Int) (v1 v1' : Bool) (h1 h1' l1 l1' p p' t t' : Int) (s s' : ByteArray) (w : World) : (binOp .eql 26 (.agg (av 9 (ls [.bool v0, .int .u64 h0, .int .u64 l0, .bool v1, .int .u64 h1, .int .u64 l1, .int .u8 p, .int .u8 t, .string s]))) (.agg (av 9 (ls [.bool v0', .int .u64 h0', .int .u64 l0', .bool v1', .int .u64 h1', .int .u64 l1', .int .u8 p', .int .u8 t', .string s'])))).run Try.prog w = .ok (.bool (decide (v0 = v0' ∧ h0 = h0' ∧ l0 = l0' ∧ v1 = v1' ∧ h1 = h1' ∧ l1 = l1' ∧ p = p' ∧ t = t' ∧ s = s'))) w := by
  rw [run_eql_struct]
  have := eqI26 9997 v0 v0' h0 h0' l0 l0' v1 v1' h1 h1' l1 l1' p p' t t' s s' w
  rw [show (10000 : Nat) = 9997 + 3 from rfl, this]
  rfl
theorem neq26w (v0 v0' : Bool) (h0 h0' l0 l0' : Int) (v1 v1' : Bool) (h1 h1' l1 l1' p p' t t' : Int) (s s' : ByteArray) (w : World) : (binOp .neq 26 (.agg (av 9 (ls [.bool v0, .int .u64 h0, .int .u64 l0, .bool v1, .int .u64 h1, .int .u64 l1, .int .u8 p, .int .u8 t, .string s]))) (.agg (av 9 (ls [.bool v0', .int .u64 h0', .int .u64 l0', .bool v1', .int .u64 h1', .int .u64 l1', .int .u8 p', .int .u8 t', .string s'])))).run Try.prog w = .ok (.bool (!decide (v0 = v0' ∧ h0 = h0' ∧ l0 = l0' ∧ v1 = v1' ∧ h1 = h1' ∧ l1 = l1' ∧ p = p' ∧ t = t' ∧ s = s'))) w := by
  rw [run_neq_struct]
  have := eqI26 9997 v0 v0' h0 h0' l0 l0' v1 v1' h1 h1' l1 l1' p p' t t' s s' w
  rw [show (10000 : Nat) = 9997 + 3 from rfl, this]
  rfl
theorem eqI29 (d : Nat) (p p' : Int) (v0 v0' : Bool) (h0 h0' l0 l0' : Int) (v1 v1' : Bool) (h1 h1' l1 l1' f f' g g' : Int) (w : World) : (Op.equalIn (d + 3) 29 (.agg (av 9 (ls [.int .u8 p, .bool v0, .int .u64 h0, .int .u64 l0, .bool v1, .int .u64 h1, .int .u64 l1, .int .u16 f, .int .u16 g]))) (.agg (av 9 (ls [.int .u8 p', .bool v0', .int .u64 h0', .int .u64 l0', .bool v1', .int .u64 h1', .int .u64 l1', .int .u16 f', .int .u16 g'])))).run Try.prog w = .ok (decide (p = p' ∧ v0 = v0' ∧ h0 = h0' ∧ l0 = l0' ∧ v1 = v1' ∧ h1 = h1' ∧ l1 = l1' ∧ f = f' ∧ g = g')) w := by
  rw [run_equalIn_struct w (d + 2) 29 _ _ (by kernel_rfl) (by kernel_rfl)]
  rw [eqF_all (d + 2) _ _ w _ [(5, 0, .int .u8 p, .int .u8 p', p == p'), (24, 1, (.agg (av 3 (ls [.bool v0, .int .u64 h0, .int .u64 l0]))), (.agg (av 3 (ls [.bool v0', .int .u64 h0', .int .u64 l0']))), decide (v0 = v0' ∧ h0 = h0' ∧ l0 = l0')), (24, 4, (.agg (av 3 (ls [.bool v1, .int .u64 h1, .int .u64 l1]))), (.agg (av 3 (ls [.bool v1', .int .u64 h1', .int .u64 l1']))), decide (v1 = v1' ∧ h1 = h1' ∧ l1 = l1')), (27, 7, .int .u16 f, .int .u16 f', f == f'), (27, 8, .int .u16 g, .int .u16 g', g == g')] (by kernel_rfl) (by
    intro e he
    simp only [List.mem_cons, List.mem_nil_iff, or_false] at he
    rcases he with rfl | rfl | rfl | rfl | rfl
    · exact ⟨by kernel_rfl, by kernel_rfl, run_equalIn_int w (d + 1) 5 .u8 .u8 p p' Try.underlying5⟩
    · exact ⟨by kernel_rfl, by kernel_rfl, eqI24 d v0 v0' h0 h0' l0 l0' w⟩
    · exact ⟨by kernel_rfl, by kernel_rfl, eqI24 d v1 v1' h1 h1' l1 l1' w⟩
    · exact ⟨by kernel_rfl, by kernel_rfl, run_equalIn_int w (d + 1) 27 .u16 .u16 f f' Try.underlying27⟩
    · exact ⟨by kernel_rfl, by kernel_rfl, run_equalIn_int w (d + 1) 27 .u16 .u16 g g' Try.underlying27⟩)]
  simp [Bool.decide_and, dec_int, Bool.and_assoc]
theorem eql29w (p p' : Int) (v0 v0' : Bool) (h0 h0' l0 l0' : Int) (v1 v1' : Bool) (h1 h1' l1 l1' f f' g g' : Int) (w : World) : (binOp .eql 29 (.agg (av 9 (ls [.int .u8 p, .bool v0, .int .u64 h0, .int .u64 l0, .bool v1, .int .u64 h1, .int .u64 l1, .int .u16 f, .int .u16 g]))) (.agg (av 9 (ls [.int .u8 p', .bool v0', .int .u64 h0', .int .u64 l0', .bool v1', .int .u64 h1', .int .u64 l1', .int .u16 f', .int .u16 g'])))).run Try.prog w = .ok (.bool (decide (p = p' ∧ v0 = v0' ∧ h0 = h0' ∧ l0 = l0' ∧ v1 = v1' ∧ h1 = h1' ∧ l1 = l1' ∧ f = f' ∧ g = g'))) w := by
  rw [run_eql_struct]
  have := eqI29 9997 p p' v0 v0' h0 h0' l0 l0' v1 v1' h1 h1' l1 l1' f f' g g' w
  rw [show (10000 : Nat) = 9997 + 3 from rfl, this]
  rfl
theorem neq29w (p p' : Int) (v0 v0' : Bool) (h0 h0' l0 l0' : Int) (v1 v1' : Bool) (h1 h1' l1 l1' f f' g g' : Int) (w : World) : (binOp .neq 29 (.agg (av 9 (ls [.int .u8 p, .bool v0, .int .u64 h0, .int .u64 l0, .bool v1, .int .u64 h1, .int .u64 l1, .int .u16 f, .int .u16 g]))) (.agg (av 9 (ls [.int .u8 p', .bool v0', .int .u64 h0', .int .u64 l0', .bool v1', .int .u64 h1', .int .u64 l1', .int .u16 f', .int .u16 g'])))).run Try.prog w = .ok (.bool (!decide (p = p' ∧ v0 = v0' ∧ h0 = h0' ∧ l0 = l0' ∧ v1 = v1' ∧ h1 = h1' ∧ l1 = l1' ∧ f = f' ∧ g = g'))) w := by
  rw [run_neq_struct]
  have := eqI29 9997 p p' v0 v0' h0 h0' l0 l0' v1 v1' h1 h1' l1 l1' f f' g g' w
  rw [show (10000 : Nat) = 9997 + 3 from rfl, this]
  rfl
theorem eqI32 (d : Nat) (p p' : Int) (v0 v0' : Bool) (h0 h0' l0 l0' : Int) (v1 v1' : Bool) (h1 h1' l1 l1' f f' g g' : Int) (q q' k k' c c' z z' : Int) (w : World) : (Op.equalIn (d + 4) 32 (.agg (av 13 (ls [.int .u8 p, .bool v0, .int .u64 h0, .int .u64 l0, .bool v1, .int .u64 h1, .int .u64 l1, .int .u16 f, .int .u16 g, .int .u8 q, .int .u8 k, .int .u8 c, .int .i64 z]))) (.agg (av 13 (ls [.int .u8 p', .bool v0', .int .u64 h0', .int .u64 l0', .bool v1', .int .u64 h1', .int .u64 l1', .int .u16 f', .int .u16 g', .int .u8 q', .int .u8 k', .int .u8 c', .int .i64 z'])))).run Try.prog w = .ok (decide (p = p' ∧ v0 = v0' ∧ h0 = h0' ∧ l0 = l0' ∧ v1 = v1' ∧ h1 = h1' ∧ l1 = l1' ∧ f = f' ∧ g = g' ∧ q = q' ∧ k = k' ∧ c = c' ∧ z = z')) w := by
  rw [run_equalIn_struct w (d + 3) 32 _ _ (by kernel_rfl) (by kernel_rfl)]
  rw [eqF_all (d + 3) _ _ w _ [(29, 0, (.agg (av 9 (ls [.int .u8 p, .bool v0, .int .u64 h0, .int .u64 l0, .bool v1, .int .u64 h1, .int .u64 l1, .int .u16 f, .int .u16 g]))), (.agg (av 9 (ls [.int .u8 p', .bool v0', .int .u64 h0', .int .u64 l0', .bool v1', .int .u64 h1', .int .u64 l1', .int .u16 f', .int .u16 g']))), decide (p = p' ∧ v0 = v0' ∧ h0 = h0' ∧ l0 = l0' ∧ v1 = v1' ∧ h1 = h1' ∧ l1 = l1' ∧ f = f' ∧ g = g')), (5, 9, .int .u8 q, .int .u8 q', q == q'), (5, 10, .int .u8 k, .int .u8 k', k == k'), (5, 11, .int .u8 c, .int .u8 c', c == c'), (3, 12, .int .i64 z, .int .i64 z', z == z')] (by kernel_rfl) (by
    intro e he
    simp only [List.mem_cons, List.mem_nil_iff, or_false] at he
    rcases he with rfl | rfl | rfl | rfl | rfl
    · exact ⟨by kernel_rfl, by kernel_rfl, eqI29 d p p' v0 v0' h0 h0' l0 l0' v1 v1' h1 h1' l1 l1' f f' g g' w⟩
    · exact ⟨by kernel_rfl, by kernel_rfl, run_equalIn_int w (d + 2) 5 .u8 .u8 q q' Try.underlying5⟩
    · exact ⟨by kernel_rfl, by kernel_rfl, run_equalIn_int w (d + 2) 5 .u8 .u8 k k' Try.underlying5⟩
    · exact ⟨by kernel_rfl, by kernel_rfl, run_equalIn_int w (d + 2) 5 .u8 .u8 c c' Try.underlying5⟩
    · exact ⟨by kernel_rfl, by kernel_rfl, run_equalIn_int w (d + 2) 3 .i64 .i64 z z' Try.underlying3⟩)]
  simp [Bool.decide_and, dec_int, Bool.and_assoc]
theorem eql32w (p p' : Int) (v0 v0' : Bool) (h0 h0' l0 l0' : Int) (v1 v1' : Bool) (h1 h1' l1 l1' f f' g g' : Int) (q q' k k' c c' z z' : Int) (w : World) : (binOp .eql 32 (.agg (av 13 (ls [.int .u8 p, .bool v0, .int .u64 h0, .int .u64 l0, .bool v1, .int .u64 h1, .int .u64 l1, .int .u16 f, .int .u16 g, .int .u8 q, .int .u8 k, .int .u8 c, .int .i64 z]))) (.agg (av 13 (ls [.int .u8 p', .bool v0', .int .u64 h0', .int .u64 l0', .bool v1', .int .u64 h1', .int .u64 l1', .int .u16 f', .int .u16 g', .int .u8 q', .int .u8 k', .int .u8 c', .int .i64 z'])))).run Try.prog w = .ok (.bool (decide (p = p' ∧ v0 = v0' ∧ h0 = h0' ∧ l0 = l0' ∧ v1 = v1' ∧ h1 = h1' ∧ l1 = l1' ∧ f = f' ∧ g = g' ∧ q = q' ∧ k = k' ∧ c = c' ∧ z = z'))) w := by
  rw [run_eql_struct]
  have := eqI32 9996 p p' v0 v0' h0 h0' l0 l0' v1 v1' h1 h1' l1 l1' f f' g g' q q' k k' c c' z z' w
  rw [show (10000 : Nat) = 9996 + 4 from rfl, this]
  rfl
theorem neq32w (p p' : Int) (v0 v0' : Bool) (h0 h0' l0 l0' : Int) (v1 v1' : Bool) (h1 h1' l1 l1' f f' g g' : Int) (q q' k k' c c' z z' : Int) (w : World) : (binOp .neq 32 (.agg (av 13 (ls [.int .u8 p, .bool v0, .int .u64 h0, .int .u64 l0, .bool v1, .int .u64 h1, .int .u64 l1, .int .u16 f, .int .u16 g, .int .u8 q, .int .u8 k, .int .u8 c, .int .i64 z]))) (.agg (av 13 (ls [.int .u8 p', .bool v0', .int .u64 h0', .int .u64 l0', .bool v1', .int .u64 h1', .int .u64 l1', .int .u16 f', .int .u16 g', .int .u8 q', .int .u8 k', .int .u8 c', .int .i64 z'])))).run Try.prog w = .ok (.bool (!decide (p = p' ∧ v0 = v0' ∧ h0 = h0' ∧ l0 = l0' ∧ v1 = v1' ∧ h1 = h1' ∧ l1 = l1' ∧ f = f' ∧ g = g' ∧ q = q' ∧ k = k' ∧ c = c' ∧ z = z'))) w := by
  rw [run_neq_struct]
  have := eqI32 9996 p p' v0 v0' h0 h0' l0 l0' v1 v1' h1 h1' l1 l1' f f' g g' q q' k k' c c' z z' w
  rw [show (10000 : Nat) = 9996 + 4 from rfl, this]
  rfl
section
variable {P : Program} {a : Act} {o : Oper}
theorem run_bin (op : BinOp) (t : TypeId) (x y : Operand) {rt : TypeId} (ho : o.op = .binOp op t x y rt) {xs ys : Array Value} {v : Value} (hx : a.eval x = .agg xs) (hy : a.eval y = .agg ys) (hm : P.eqGuardType P.depth t = false) (hb : ∀ w, (binOp op t (.agg xs) (.agg ys)).run P w = .ok v w) (w : World) :
    (execOp a.eval o).run P w = .ok (.value v) w := by
  unfold execOp
  simp only [ho, hx, hy, Sem.run_bind, Result.andThen_ok, run_eqGuard_agg (hm := hm), hb, Sem.run_pure]
end
theorem eql24 {a : Act} {o : Oper} (v v' : Bool) (h h' l l' : Int) (x y : Operand) {rt : TypeId} (ho : o.op = .binOp .eql 24 x y rt) (hx : a.eval x = (.agg (av 3 (ls [.bool v, .int .u64 h, .int .u64 l])))) (hy : a.eval y = (.agg (av 3 (ls [.bool v', .int .u64 h', .int .u64 l'])))) (w : World) :
    (execOp a.eval o).run Try.prog w = .ok (.value (.bool (decide (v = v' ∧ h = h' ∧ l = l')))) w := run_bin .eql 24 x y ho hx hy (by kernel_rfl) (eql24w v v' h h' l l') w
theorem eql26 {a : Act} {o : Oper} (v0 v0' : Bool) (h0 h0' l0 l0' : Int) (v1 v1' : Bool) (h1 h1' l1 l1' p p' t t' : Int) (s s' : ByteArray) (x y : Operand) {rt : TypeId} (ho : o.op = .binOp .eql 26 x y rt) (hx : a.eval x = (.agg (av 9 (ls [.bool v0, .int .u64 h0, .int .u64 l0, .bool v1, .int .u64 h1, .int .u64 l1, .int .u8 p, .int .u8 t, .string s])))) (hy : a.eval y = (.agg (av 9 (ls [.bool v0', .int .u64 h0', .int .u64 l0', .bool v1', .int .u64 h1', .int .u64 l1', .int .u8 p', .int .u8 t', .string s'])))) (w : World) :
    (execOp a.eval o).run Try.prog w = .ok (.value (.bool (decide (v0 = v0' ∧ h0 = h0' ∧ l0 = l0' ∧ v1 = v1' ∧ h1 = h1' ∧ l1 = l1' ∧ p = p' ∧ t = t' ∧ s = s')))) w := run_bin .eql 26 x y ho hx hy (by kernel_rfl) (eql26w v0 v0' h0 h0' l0 l0' v1 v1' h1 h1' l1 l1' p p' t t' s s') w
theorem eql29 {a : Act} {o : Oper} (p p' : Int) (v0 v0' : Bool) (h0 h0' l0 l0' : Int) (v1 v1' : Bool) (h1 h1' l1 l1' f f' g g' : Int) (x y : Operand) {rt : TypeId} (ho : o.op = .binOp .eql 29 x y rt) (hx : a.eval x = (.agg (av 9 (ls [.int .u8 p, .bool v0, .int .u64 h0, .int .u64 l0, .bool v1, .int .u64 h1, .int .u64 l1, .int .u16 f, .int .u16 g])))) (hy : a.eval y = (.agg (av 9 (ls [.int .u8 p', .bool v0', .int .u64 h0', .int .u64 l0', .bool v1', .int .u64 h1', .int .u64 l1', .int .u16 f', .int .u16 g'])))) (w : World) :
    (execOp a.eval o).run Try.prog w = .ok (.value (.bool (decide (p = p' ∧ v0 = v0' ∧ h0 = h0' ∧ l0 = l0' ∧ v1 = v1' ∧ h1 = h1' ∧ l1 = l1' ∧ f = f' ∧ g = g')))) w := run_bin .eql 29 x y ho hx hy (by kernel_rfl) (eql29w p p' v0 v0' h0 h0' l0 l0' v1 v1' h1 h1' l1 l1' f f' g g') w
theorem eql32 {a : Act} {o : Oper} (p p' : Int) (v0 v0' : Bool) (h0 h0' l0 l0' : Int) (v1 v1' : Bool) (h1 h1' l1 l1' f f' g g' : Int) (q q' k k' c c' z z' : Int) (x y : Operand) {rt : TypeId} (ho : o.op = .binOp .eql 32 x y rt) (hx : a.eval x = (.agg (av 13 (ls [.int .u8 p, .bool v0, .int .u64 h0, .int .u64 l0, .bool v1, .int .u64 h1, .int .u64 l1, .int .u16 f, .int .u16 g, .int .u8 q, .int .u8 k, .int .u8 c, .int .i64 z])))) (hy : a.eval y = (.agg (av 13 (ls [.int .u8 p', .bool v0', .int .u64 h0', .int .u64 l0', .bool v1', .int .u64 h1', .int .u64 l1', .int .u16 f', .int .u16 g', .int .u8 q', .int .u8 k', .int .u8 c', .int .i64 z'])))) (w : World) :
    (execOp a.eval o).run Try.prog w = .ok (.value (.bool (decide (p = p' ∧ v0 = v0' ∧ h0 = h0' ∧ l0 = l0' ∧ v1 = v1' ∧ h1 = h1' ∧ l1 = l1' ∧ f = f' ∧ g = g' ∧ q = q' ∧ k = k' ∧ c = c' ∧ z = z')))) w := run_bin .eql 32 x y ho hx hy (by kernel_rfl) (eql32w p p' v0 v0' h0 h0' l0 l0' v1 v1' h1 h1' l1 l1' f f' g g' q q' k k' c c' z z') w
theorem neq24 {a : Act} {o : Oper} (v v' : Bool) (h h' l l' : Int) (x y : Operand) {rt : TypeId} (ho : o.op = .binOp .neq 24 x y rt) (hx : a.eval x = (.agg (av 3 (ls [.bool v, .int .u64 h, .int .u64 l])))) (hy : a.eval y = (.agg (av 3 (ls [.bool v', .int .u64 h', .int .u64 l'])))) (w : World) :
    (execOp a.eval o).run Try.prog w = .ok (.value (.bool (!decide (v = v' ∧ h = h' ∧ l = l')))) w := run_bin .neq 24 x y ho hx hy (by kernel_rfl) (neq24w v v' h h' l l') w
theorem neq26 {a : Act} {o : Oper} (v0 v0' : Bool) (h0 h0' l0 l0' : Int) (v1 v1' : Bool) (h1 h1' l1 l1' p p' t t' : Int) (s s' : ByteArray) (x y : Operand) {rt : TypeId} (ho : o.op = .binOp .neq 26 x y rt) (hx : a.eval x = (.agg (av 9 (ls [.bool v0, .int .u64 h0, .int .u64 l0, .bool v1, .int .u64 h1, .int .u64 l1, .int .u8 p, .int .u8 t, .string s])))) (hy : a.eval y = (.agg (av 9 (ls [.bool v0', .int .u64 h0', .int .u64 l0', .bool v1', .int .u64 h1', .int .u64 l1', .int .u8 p', .int .u8 t', .string s'])))) (w : World) :
    (execOp a.eval o).run Try.prog w = .ok (.value (.bool (!decide (v0 = v0' ∧ h0 = h0' ∧ l0 = l0' ∧ v1 = v1' ∧ h1 = h1' ∧ l1 = l1' ∧ p = p' ∧ t = t' ∧ s = s')))) w := run_bin .neq 26 x y ho hx hy (by kernel_rfl) (neq26w v0 v0' h0 h0' l0 l0' v1 v1' h1 h1' l1 l1' p p' t t' s s') w
theorem neq29 {a : Act} {o : Oper} (p p' : Int) (v0 v0' : Bool) (h0 h0' l0 l0' : Int) (v1 v1' : Bool) (h1 h1' l1 l1' f f' g g' : Int) (x y : Operand) {rt : TypeId} (ho : o.op = .binOp .neq 29 x y rt) (hx : a.eval x = (.agg (av 9 (ls [.int .u8 p, .bool v0, .int .u64 h0, .int .u64 l0, .bool v1, .int .u64 h1, .int .u64 l1, .int .u16 f, .int .u16 g])))) (hy : a.eval y = (.agg (av 9 (ls [.int .u8 p', .bool v0', .int .u64 h0', .int .u64 l0', .bool v1', .int .u64 h1', .int .u64 l1', .int .u16 f', .int .u16 g'])))) (w : World) :
    (execOp a.eval o).run Try.prog w = .ok (.value (.bool (!decide (p = p' ∧ v0 = v0' ∧ h0 = h0' ∧ l0 = l0' ∧ v1 = v1' ∧ h1 = h1' ∧ l1 = l1' ∧ f = f' ∧ g = g')))) w := run_bin .neq 29 x y ho hx hy (by kernel_rfl) (neq29w p p' v0 v0' h0 h0' l0 l0' v1 v1' h1 h1' l1 l1' f f' g g') w
theorem neq32 {a : Act} {o : Oper} (p p' : Int) (v0 v0' : Bool) (h0 h0' l0 l0' : Int) (v1 v1' : Bool) (h1 h1' l1 l1' f f' g g' : Int) (q q' k k' c c' z z' : Int) (x y : Operand) {rt : TypeId} (ho : o.op = .binOp .neq 32 x y rt) (hx : a.eval x = (.agg (av 13 (ls [.int .u8 p, .bool v0, .int .u64 h0, .int .u64 l0, .bool v1, .int .u64 h1, .int .u64 l1, .int .u16 f, .int .u16 g, .int .u8 q, .int .u8 k, .int .u8 c, .int .i64 z])))) (hy : a.eval y = (.agg (av 13 (ls [.int .u8 p', .bool v0', .int .u64 h0', .int .u64 l0', .bool v1', .int .u64 h1', .int .u64 l1', .int .u16 f', .int .u16 g', .int .u8 q', .int .u8 k', .int .u8 c', .int .i64 z'])))) (w : World) :
    (execOp a.eval o).run Try.prog w = .ok (.value (.bool (!decide (p = p' ∧ v0 = v0' ∧ h0 = h0' ∧ l0 = l0' ∧ v1 = v1' ∧ h1 = h1' ∧ l1 = l1' ∧ f = f' ∧ g = g' ∧ q = q' ∧ k = k' ∧ c = c' ∧ z = z')))) w := run_bin .neq 32 x y ho hx hy (by kernel_rfl) (neq32w p p' v0 v0' h0 h0' l0 l0' v1 v1' h1 h1' l1 l1' f f' g g' q q' k k' c c' z z') w

end Go.Proofs.Ytahknenmjnhmjaa
