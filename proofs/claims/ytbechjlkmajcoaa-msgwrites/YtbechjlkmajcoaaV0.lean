/- Words of 16 bits; structs that are compared. -/
import Derived.Test.YtbechjlkmajcoaaQ0
import Derived.Laws.StructEq
namespace Go.Proofs.Ytbechjlkmajcoaa
open Go.RowKit

def vn (x y : Int) : Int := IntKind.wrap .u32 (BitVec.ofInt 32 x &&& BitVec.ofInt 32 y).toNat
def yn (x y : Int) : Int := IntKind.wrap .u16 (BitVec.ofInt 16 x &&& BitVec.ofInt 16 y).toNat
def yo (x y : Int) : Int := IntKind.wrap .u16 (BitVec.ofInt 16 x ||| BitVec.ofInt 16 y).toNat
def yx (x y : Int) : Int := IntKind.wrap .u16 (BitVec.ofInt 16 x ^^^ BitVec.ofInt 16 y).toNat
def yd (x y : Int) : Int := IntKind.wrap .u16 (BitVec.ofInt 16 x &&& ~~~ BitVec.ofInt 16 y).toNat
def ya (x y : Int) : Int := IntKind.wrap .u16 (x + y)
def ys (x y : Int) : Int := IntKind.wrap .u16 (x - y)
def a8 (x y : Int) : Int := IntKind.wrap .u8 (x + y)
def s8 (x y : Int) : Int := IntKind.wrap .u8 (x - y)
def w16 (f : Nat → Int) : Nat → Value := fun i => .int .u16 (f i)
theorem put_w16 (f : Nat → Int) (k : Nat) (v : Int) (j : Nat) : (if j = k then .int .u16 v else w16 f j) = w16 (upd f k v) j := by
  unfold w16 upd
  split <;> rfl
section
variable {P : Program}
/-- What two structs are field by field. -/
theorem eqF_all (d : Nat) (xs ys : Array Value) (w : World) : ∀ (fs : List Field) (es : List (TypeId × Nat × Value × Value × Bool)), fs.map (fun f => (f.name == "_", f.type, f.offset)) = es.map (fun e => (false, e.1, e.2.1)) →
    (∀ e ∈ es, (part e.1 xs e.2.1).run P w = .ok e.2.2.1 w ∧ (part e.1 ys e.2.1).run P w = .ok e.2.2.2.1 w ∧ (Op.equalIn d e.1 e.2.2.1 e.2.2.2.1).run P w = .ok e.2.2.2.2 w) →
    (Op.eqFields d xs ys fs).run P w = .ok (es.all (·.2.2.2.2)) w
  | [], es, h, _ => by
    cases es with
    | nil => rfl
    | cons e es => simp at h
  | f :: fs, es, h, hp => by
    cases es with
    | nil => simp at h
    | cons e es =>
      simp only [List.map_cons, List.cons.injEq, Prod.mk.injEq] at h
      obtain ⟨⟨h1, h2, h3⟩, h4⟩ := h
      obtain ⟨p1, p2, p3⟩ := hp e (List.mem_cons_self ..)
      have hn : f.name ≠ "_" := by simpa using h1
      unfold Op.eqFields
      rw [if_pos hn]
      simp only [Sem.run_bind, h2, h3, p1, p2, p3, Result.andThen_ok, List.all_cons]
      cases hb : e.2.2.2.2
      · simp
      · simp only [Bool.not_true, Bool.false_eq_true, if_false, Bool.true_and]
        exact eqF_all d xs ys w fs es h4 fun e he => hp e (List.mem_cons_of_mem _ he)
end
theorem dec_bool (a b : Bool) : (a == b) = decide (a = b) := by cases a <;> cases b <;> rfl
theorem dec_int (a b : Int) : (a == b) = decide (a = b) := by
  rw [Bool.eq_iff_iff]
  simp
theorem dec_str (a b : ByteArray) : (a.toList == b.toList) = decide (a = b) := by
  by_cases h : a = b
  · rw [seq_pos h, decide_eq_true h]
  · rw [seq_neg h, decide_eq_false h]
set_option linter.unusedSimpArgs false in
theorem eqI25 (d : Nat) (x0 x0' : Bool) (x1 x1' : Int) (x2 x2' : Int) (w : World) : (Op.equalIn (d + 2) 25 (.agg (av 3 (ls [.bool x0, .int .u64 x1, .int .u64 x2]))) (.agg (av 3 (ls [.bool x0', .int .u64 x1', .int .u64 x2'])))).run Try.prog w = .ok (decide (x0 = x0' ∧ x1 = x1' ∧ x2 = x2')) w := by
  rw [run_equalIn_struct w (d + 1) 25 _ _ (by kernel_rfl) (by kernel_rfl)]
  rw [eqF_all (d + 1) _ _ w _ [(4, 0, .bool x0, .bool x0', x0 == x0'), (23, 1, .int .u64 x1, .int .u64 x1', x1 == x1'), (23, 2, .int .u64 x2, .int .u64 x2', x2 == x2')] (by kernel_rfl) (by
    intro e he
    simp only [List.mem_cons, List.mem_nil_iff, or_false] at he
    rcases he with rfl | rfl | rfl
    · exact ⟨by kernel_rfl, by kernel_rfl, run_equalIn_bool' w d 4 x0 x0' Try.underlying4⟩
    · exact ⟨by kernel_rfl, by kernel_rfl, run_equalIn_int w d 23 .u64 .u64 x1 x1' Try.underlying23⟩
    · exact ⟨by kernel_rfl, by kernel_rfl, run_equalIn_int w d 23 .u64 .u64 x2 x2' Try.underlying23⟩)]
  simp [dec_bool, Bool.decide_and, dec_int, Bool.and_assoc, dec_str]
theorem eql25w (x0 x0' : Bool) (x1 x1' : Int) (x2 x2' : Int) (w : World) : (binOp .eql 25 (.agg (av 3 (ls [.bool x0, .int .u64 x1, .int .u64 x2]))) (.agg (av 3 (ls [.bool x0', .int .u64 x1', .int .u64 x2'])))).run Try.prog w = .ok (.bool (decide (x0 = x0' ∧ x1 = x1' ∧ x2 = x2'))) w := by
  rw [run_eql_struct]
  have := eqI25 9998 x0 x0' x1 x1' x2 x2' w
  rw [show (10000 : Nat) = 9998 + 2 from rfl, this]
  rfl
theorem neq25w (x0 x0' : Bool) (x1 x1' : Int) (x2 x2' : Int) (w : World) : (binOp .neq 25 (.agg (av 3 (ls [.bool x0, .int .u64 x1, .int .u64 x2]))) (.agg (av 3 (ls [.bool x0', .int .u64 x1', .int .u64 x2'])))).run Try.prog w = .ok (.bool (!decide (x0 = x0' ∧ x1 = x1' ∧ x2 = x2'))) w := by
  rw [run_neq_struct]
  have := eqI25 9998 x0 x0' x1 x1' x2 x2' w
  rw [show (10000 : Nat) = 9998 + 2 from rfl, this]
  rfl
set_option linter.unusedSimpArgs false in
theorem eqI28 (d : Nat) (x0 x0' : Bool) (x1 x1' : Int) (x2 x2' : Int) (x3 x3' : Int) (w : World) : (Op.equalIn (d + 3) 28 (.agg (av 4 (ls [.bool x0, .int .u64 x1, .int .u64 x2, .int .u16 x3]))) (.agg (av 4 (ls [.bool x0', .int .u64 x1', .int .u64 x2', .int .u16 x3'])))).run Try.prog w = .ok (decide (x0 = x0' ∧ x1 = x1' ∧ x2 = x2' ∧ x3 = x3')) w := by
  rw [run_equalIn_struct w (d + 2) 28 _ _ (by kernel_rfl) (by kernel_rfl)]
  rw [eqF_all (d + 2) _ _ w _ [(25, 0, (.agg (av 3 (ls [.bool x0, .int .u64 x1, .int .u64 x2]))), (.agg (av 3 (ls [.bool x0', .int .u64 x1', .int .u64 x2']))), decide (x0 = x0' ∧ x1 = x1' ∧ x2 = x2')), (26, 3, .int .u16 x3, .int .u16 x3', x3 == x3')] (by kernel_rfl) (by
    intro e he
    simp only [List.mem_cons, List.mem_nil_iff, or_false] at he
    rcases he with rfl | rfl
    · exact ⟨by kernel_rfl, by kernel_rfl, eqI25 d x0 x0' x1 x1' x2 x2' w⟩
    · exact ⟨by kernel_rfl, by kernel_rfl, run_equalIn_int w (d + 1) 26 .u16 .u16 x3 x3' Try.underlying26⟩)]
  simp [dec_bool, Bool.decide_and, dec_int, Bool.and_assoc, dec_str]
theorem eql28w (x0 x0' : Bool) (x1 x1' : Int) (x2 x2' : Int) (x3 x3' : Int) (w : World) : (binOp .eql 28 (.agg (av 4 (ls [.bool x0, .int .u64 x1, .int .u64 x2, .int .u16 x3]))) (.agg (av 4 (ls [.bool x0', .int .u64 x1', .int .u64 x2', .int .u16 x3'])))).run Try.prog w = .ok (.bool (decide (x0 = x0' ∧ x1 = x1' ∧ x2 = x2' ∧ x3 = x3'))) w := by
  rw [run_eql_struct]
  have := eqI28 9997 x0 x0' x1 x1' x2 x2' x3 x3' w
  rw [show (10000 : Nat) = 9997 + 3 from rfl, this]
  rfl
theorem neq28w (x0 x0' : Bool) (x1 x1' : Int) (x2 x2' : Int) (x3 x3' : Int) (w : World) : (binOp .neq 28 (.agg (av 4 (ls [.bool x0, .int .u64 x1, .int .u64 x2, .int .u16 x3]))) (.agg (av 4 (ls [.bool x0', .int .u64 x1', .int .u64 x2', .int .u16 x3'])))).run Try.prog w = .ok (.bool (!decide (x0 = x0' ∧ x1 = x1' ∧ x2 = x2' ∧ x3 = x3'))) w := by
  rw [run_neq_struct]
  have := eqI28 9997 x0 x0' x1 x1' x2 x2' x3 x3' w
  rw [show (10000 : Nat) = 9997 + 3 from rfl, this]
  rfl
set_option linter.unusedSimpArgs false in
theorem eqI86 (d : Nat) (x0 x0' : Int) (x1 x1' : ByteArray) (x2 x2' : Bool) (x3 x3' : Int) (x4 x4' : Int) (x5 x5' : Int) (w : World) : (Op.equalIn (d + 4) 86 (.agg (av 6 (ls [.int .u64 x0, .string x1, .bool x2, .int .u64 x3, .int .u64 x4, .int .u16 x5]))) (.agg (av 6 (ls [.int .u64 x0', .string x1', .bool x2', .int .u64 x3', .int .u64 x4', .int .u16 x5'])))).run Try.prog w = .ok (decide (x0 = x0' ∧ x1 = x1' ∧ x2 = x2' ∧ x3 = x3' ∧ x4 = x4' ∧ x5 = x5')) w := by
  rw [run_equalIn_struct w (d + 3) 86 _ _ (by kernel_rfl) (by kernel_rfl)]
  rw [eqF_all (d + 3) _ _ w _ [(23, 0, .int .u64 x0, .int .u64 x0', x0 == x0'), (9, 1, .string x1, .string x1', x1.toList == x1'.toList), (28, 2, (.agg (av 4 (ls [.bool x2, .int .u64 x3, .int .u64 x4, .int .u16 x5]))), (.agg (av 4 (ls [.bool x2', .int .u64 x3', .int .u64 x4', .int .u16 x5']))), decide (x2 = x2' ∧ x3 = x3' ∧ x4 = x4' ∧ x5 = x5'))] (by kernel_rfl) (by
    intro e he
    simp only [List.mem_cons, List.mem_nil_iff, or_false] at he
    rcases he with rfl | rfl | rfl
    · exact ⟨by kernel_rfl, by kernel_rfl, run_equalIn_int w (d + 2) 23 .u64 .u64 x0 x0' Try.underlying23⟩
    · exact ⟨by kernel_rfl, by kernel_rfl, run_equalIn_string w (d + 2) 9 x1 x1' Try.underlying9⟩
    · exact ⟨by kernel_rfl, by kernel_rfl, eqI28 d x2 x2' x3 x3' x4 x4' x5 x5' w⟩)]
  simp [dec_bool, Bool.decide_and, dec_int, Bool.and_assoc, dec_str]
theorem eql86w (x0 x0' : Int) (x1 x1' : ByteArray) (x2 x2' : Bool) (x3 x3' : Int) (x4 x4' : Int) (x5 x5' : Int) (w : World) : (binOp .eql 86 (.agg (av 6 (ls [.int .u64 x0, .string x1, .bool x2, .int .u64 x3, .int .u64 x4, .int .u16 x5]))) (.agg (av 6 (ls [.int .u64 x0', .string x1', .bool x2', .int .u64 x3', .int .u64 x4', .int .u16 x5'])))).run Try.prog w = .ok (.bool (decide (x0 = x0' ∧ x1 = x1' ∧ x2 = x2' ∧ x3 = x3' ∧ x4 = x4' ∧ x5 = x5'))) w := by
  rw [run_eql_struct]
  have := eqI86 9996 x0 x0' x1 x1' x2 x2' x3 x3' x4 x4' x5 x5' w
  rw [show (10000 : Nat) = 9996 + 4 from rfl, this]
  rfl
theorem neq86w (x0 x0' : Int) (x1 x1' : ByteArray) (x2 x2' : Bool) (x3 x3' : Int) (x4 x4' : Int) (x5 x5' : Int) (w : World) : (binOp .neq 86 (.agg (av 6 (ls [.int .u64 x0, .string x1, .bool x2, .int .u64 x3, .int .u64 x4, .int .u16 x5]))) (.agg (av 6 (ls [.int .u64 x0', .string x1', .bool x2', .int .u64 x3', .int .u64 x4', .int .u16 x5'])))).run Try.prog w = .ok (.bool (!decide (x0 = x0' ∧ x1 = x1' ∧ x2 = x2' ∧ x3 = x3' ∧ x4 = x4' ∧ x5 = x5'))) w := by
  rw [run_neq_struct]
  have := eqI86 9996 x0 x0' x1 x1' x2 x2' x3 x3' x4 x4' x5 x5' w
  rw [show (10000 : Nat) = 9996 + 4 from rfl, this]
  rfl
set_option linter.unusedSimpArgs false in
theorem eqI30 (d : Nat) (x0 x0' : Int) (x1 x1' : ByteArray) (x2 x2' : ByteArray) (x3 x3' : Int) (x4 x4' : Int) (x5 x5' : Int) (x6 x6' : Int) (x7 x7' : Int) (x8 x8' : ByteArray) (x9 x9' : Bool) (x10 x10' : Int) (x11 x11' : Int) (x12 x12' : Int) (x13 x13' : Int) (x14 x14' : ByteArray) (x15 x15' : ByteArray) (x16 x16' : ByteArray) (w : World) : (Op.equalIn (d + 4) 30 (.agg (av 17 (ls [.int .u8 x0, .string x1, .string x2, .int .u32 x3, .int .u32 x4, .int .u64 x5, .int .u64 x6, .int .u64 x7, .string x8, .bool x9, .int .u64 x10, .int .u64 x11, .int .u16 x12, .int .u16 x13, .string x14, .string x15, .string x16]))) (.agg (av 17 (ls [.int .u8 x0', .string x1', .string x2', .int .u32 x3', .int .u32 x4', .int .u64 x5', .int .u64 x6', .int .u64 x7', .string x8', .bool x9', .int .u64 x10', .int .u64 x11', .int .u16 x12', .int .u16 x13', .string x14', .string x15', .string x16'])))).run Try.prog w = .ok (decide (x0 = x0' ∧ x1 = x1' ∧ x2 = x2' ∧ x3 = x3' ∧ x4 = x4' ∧ x5 = x5' ∧ x6 = x6' ∧ x7 = x7' ∧ x8 = x8' ∧ x9 = x9' ∧ x10 = x10' ∧ x11 = x11' ∧ x12 = x12' ∧ x13 = x13' ∧ x14 = x14' ∧ x15 = x15' ∧ x16 = x16')) w := by
  rw [run_equalIn_struct w (d + 3) 30 _ _ (by kernel_rfl) (by kernel_rfl)]
  rw [eqF_all (d + 3) _ _ w _ [(5, 0, .int .u8 x0, .int .u8 x0', x0 == x0'), (9, 1, .string x1, .string x1', x1.toList == x1'.toList), (9, 2, .string x2, .string x2', x2.toList == x2'.toList), (22, 3, .int .u32 x3, .int .u32 x3', x3 == x3'), (22, 4, .int .u32 x4, .int .u32 x4', x4 == x4'), (23, 5, .int .u64 x5, .int .u64 x5', x5 == x5'), (23, 6, .int .u64 x6, .int .u64 x6', x6 == x6'), (23, 7, .int .u64 x7, .int .u64 x7', x7 == x7'), (9, 8, .string x8, .string x8', x8.toList == x8'.toList), (28, 9, (.agg (av 4 (ls [.bool x9, .int .u64 x10, .int .u64 x11, .int .u16 x12]))), (.agg (av 4 (ls [.bool x9', .int .u64 x10', .int .u64 x11', .int .u16 x12']))), decide (x9 = x9' ∧ x10 = x10' ∧ x11 = x11' ∧ x12 = x12')), (26, 13, .int .u16 x13, .int .u16 x13', x13 == x13'), (9, 14, .string x14, .string x14', x14.toList == x14'.toList), (9, 15, .string x15, .string x15', x15.toList == x15'.toList), (9, 16, .string x16, .string x16', x16.toList == x16'.toList)] (by kernel_rfl) (by
    intro e he
    simp only [List.mem_cons, List.mem_nil_iff, or_false] at he
    rcases he with rfl | rfl | rfl | rfl | rfl | rfl | rfl | rfl | rfl | rfl | rfl | rfl | rfl | rfl
    · exact ⟨by kernel_rfl, by kernel_rfl, run_equalIn_int w (d + 2) 5 .u8 .u8 x0 x0' Try.underlying5⟩
    · exact ⟨by kernel_rfl, by kernel_rfl, run_equalIn_string w (d + 2) 9 x1 x1' Try.underlying9⟩
    · exact ⟨by kernel_rfl, by kernel_rfl, run_equalIn_string w (d + 2) 9 x2 x2' Try.underlying9⟩
    · exact ⟨by kernel_rfl, by kernel_rfl, run_equalIn_int w (d + 2) 22 .u32 .u32 x3 x3' Try.underlying22⟩
    · exact ⟨by kernel_rfl, by kernel_rfl, run_equalIn_int w (d + 2) 22 .u32 .u32 x4 x4' Try.underlying22⟩
    · exact ⟨by kernel_rfl, by kernel_rfl, run_equalIn_int w (d + 2) 23 .u64 .u64 x5 x5' Try.underlying23⟩
    · exact ⟨by kernel_rfl, by kernel_rfl, run_equalIn_int w (d + 2) 23 .u64 .u64 x6 x6' Try.underlying23⟩
    · exact ⟨by kernel_rfl, by kernel_rfl, run_equalIn_int w (d + 2) 23 .u64 .u64 x7 x7' Try.underlying23⟩
    · exact ⟨by kernel_rfl, by kernel_rfl, run_equalIn_string w (d + 2) 9 x8 x8' Try.underlying9⟩
    · exact ⟨by kernel_rfl, by kernel_rfl, eqI28 d x9 x9' x10 x10' x11 x11' x12 x12' w⟩
    · exact ⟨by kernel_rfl, by kernel_rfl, run_equalIn_int w (d + 2) 26 .u16 .u16 x13 x13' Try.underlying26⟩
    · exact ⟨by kernel_rfl, by kernel_rfl, run_equalIn_string w (d + 2) 9 x14 x14' Try.underlying9⟩
    · exact ⟨by kernel_rfl, by kernel_rfl, run_equalIn_string w (d + 2) 9 x15 x15' Try.underlying9⟩
    · exact ⟨by kernel_rfl, by kernel_rfl, run_equalIn_string w (d + 2) 9 x16 x16' Try.underlying9⟩)]
  simp [dec_bool, Bool.decide_and, dec_int, Bool.and_assoc, dec_str]
theorem eql30w (x0 x0' : Int) (x1 x1' : ByteArray) (x2 x2' : ByteArray) (x3 x3' : Int) (x4 x4' : Int) (x5 x5' : Int) (x6 x6' : Int) (x7 x7' : Int) (x8 x8' : ByteArray) (x9 x9' : Bool) (x10 x10' : Int) (x11 x11' : Int) (x12 x12' : Int) (x13 x13' : Int) (x14 x14' : ByteArray) (x15 x15' : ByteArray) (x16 x16' : ByteArray) (w : World) : (binOp .eql 30 (.agg (av 17 (ls [.int .u8 x0, .string x1, .string x2, .int .u32 x3, .int .u32 x4, .int .u64 x5, .int .u64 x6, .int .u64 x7, .string x8, .bool x9, .int .u64 x10, .int .u64 x11, .int .u16 x12, .int .u16 x13, .string x14, .string x15, .string x16]))) (.agg (av 17 (ls [.int .u8 x0', .string x1', .string x2', .int .u32 x3', .int .u32 x4', .int .u64 x5', .int .u64 x6', .int .u64 x7', .string x8', .bool x9', .int .u64 x10', .int .u64 x11', .int .u16 x12', .int .u16 x13', .string x14', .string x15', .string x16'])))).run Try.prog w = .ok (.bool (decide (x0 = x0' ∧ x1 = x1' ∧ x2 = x2' ∧ x3 = x3' ∧ x4 = x4' ∧ x5 = x5' ∧ x6 = x6' ∧ x7 = x7' ∧ x8 = x8' ∧ x9 = x9' ∧ x10 = x10' ∧ x11 = x11' ∧ x12 = x12' ∧ x13 = x13' ∧ x14 = x14' ∧ x15 = x15' ∧ x16 = x16'))) w := by
  rw [run_eql_struct]
  have := eqI30 9996 x0 x0' x1 x1' x2 x2' x3 x3' x4 x4' x5 x5' x6 x6' x7 x7' x8 x8' x9 x9' x10 x10' x11 x11' x12 x12' x13 x13' x14 x14' x15 x15' x16 x16' w
  rw [show (10000 : Nat) = 9996 + 4 from rfl, this]
  rfl
theorem neq30w (x0 x0' : Int) (x1 x1' : ByteArray) (x2 x2' : ByteArray) (x3 x3' : Int) (x4 x4' : Int) (x5 x5' : Int) (x6 x6' : Int) (x7 x7' : Int) (x8 x8' : ByteArray) (x9 x9' : Bool) (x10 x10' : Int) (x11 x11' : Int) (x12 x12' : Int) (x13 x13' : Int) (x14 x14' : ByteArray) (x15 x15' : ByteArray) (x16 x16' : ByteArray) (w : World) : (binOp .neq 30 (.agg (av 17 (ls [.int .u8 x0, .string x1, .string x2, .int .u32 x3, .int .u32 x4, .int .u64 x5, .int .u64 x6, .int .u64 x7, .string x8, .bool x9, .int .u64 x10, .int .u64 x11, .int .u16 x12, .int .u16 x13, .string x14, .string x15, .string x16]))) (.agg (av 17 (ls [.int .u8 x0', .string x1', .string x2', .int .u32 x3', .int .u32 x4', .int .u64 x5', .int .u64 x6', .int .u64 x7', .string x8', .bool x9', .int .u64 x10', .int .u64 x11', .int .u16 x12', .int .u16 x13', .string x14', .string x15', .string x16'])))).run Try.prog w = .ok (.bool (!decide (x0 = x0' ∧ x1 = x1' ∧ x2 = x2' ∧ x3 = x3' ∧ x4 = x4' ∧ x5 = x5' ∧ x6 = x6' ∧ x7 = x7' ∧ x8 = x8' ∧ x9 = x9' ∧ x10 = x10' ∧ x11 = x11' ∧ x12 = x12' ∧ x13 = x13' ∧ x14 = x14' ∧ x15 = x15' ∧ x16 = x16'))) w := by
  rw [run_neq_struct]
  have := eqI30 9996 x0 x0' x1 x1' x2 x2' x3 x3' x4 x4' x5 x5' x6 x6' x7 x7' x8 x8' x9 x9' x10 x10' x11 x11' x12 x12' x13 x13' x14 x14' x15 x15' x16 x16' w
  rw [show (10000 : Nat) = 9996 + 4 from rfl, this]
  rfl
section
variable {P : Program} {a : Act} {o : Oper}
theorem run_bin (op : BinOp) (t : TypeId) (x y : Operand) {rt : TypeId} (ho : o.op = .binOp op t x y rt) {xs ys : Array Value} {v : Value} (hx : a.eval x = .agg xs) (hy : a.eval y = .agg ys) (hm : P.eqGuardType P.depth t = false) (hb : ∀ w, (binOp op t (.agg xs) (.agg ys)).run P w = .ok v w) (w : World) :
    (execOp a.eval o).run P w = .ok (.value v) w := by
  unfold execOp
  simp only [ho, hx, hy, Sem.run_bind, Result.andThen_ok, run_eqGuard_agg (hm := hm), hb, Sem.run_pure]
end
theorem eql25 {a : Act} {o : Oper} (x0 x0' : Bool) (x1 x1' : Int) (x2 x2' : Int) (x y : Operand) {rt : TypeId} (ho : o.op = .binOp .eql 25 x y rt) (hx : a.eval x = (.agg (av 3 (ls [.bool x0, .int .u64 x1, .int .u64 x2])))) (hy : a.eval y = (.agg (av 3 (ls [.bool x0', .int .u64 x1', .int .u64 x2'])))) (w : World) :
    (execOp a.eval o).run Try.prog w = .ok (.value (.bool (decide (x0 = x0' ∧ x1 = x1' ∧ x2 = x2')))) w := run_bin .eql 25 x y ho hx hy (by kernel_rfl) (eql25w x0 x0' x1 x1' x2 x2') w
theorem neq25 {a : Act} {o : Oper} (x0 x0' : Bool) (x1 x1' : Int) (x2 x2' : Int) (x y : Operand) {rt : TypeId} (ho : o.op = .binOp .neq 25 x y rt) (hx : a.eval x = (.agg (av 3 (ls [.bool x0, .int .u64 x1, .int .u64 x2])))) (hy : a.eval y = (.agg (av 3 (ls [.bool x0', .int .u64 x1', .int .u64 x2'])))) (w : World) :
    (execOp a.eval o).run Try.prog w = .ok (.value (.bool (!decide (x0 = x0' ∧ x1 = x1' ∧ x2 = x2')))) w := run_bin .neq 25 x y ho hx hy (by kernel_rfl) (neq25w x0 x0' x1 x1' x2 x2') w
theorem eql28 {a : Act} {o : Oper} (x0 x0' : Bool) (x1 x1' : Int) (x2 x2' : Int) (x3 x3' : Int) (x y : Operand) {rt : TypeId} (ho : o.op = .binOp .eql 28 x y rt) (hx : a.eval x = (.agg (av 4 (ls [.bool x0, .int .u64 x1, .int .u64 x2, .int .u16 x3])))) (hy : a.eval y = (.agg (av 4 (ls [.bool x0', .int .u64 x1', .int .u64 x2', .int .u16 x3'])))) (w : World) :
    (execOp a.eval o).run Try.prog w = .ok (.value (.bool (decide (x0 = x0' ∧ x1 = x1' ∧ x2 = x2' ∧ x3 = x3')))) w := run_bin .eql 28 x y ho hx hy (by kernel_rfl) (eql28w x0 x0' x1 x1' x2 x2' x3 x3') w
theorem neq28 {a : Act} {o : Oper} (x0 x0' : Bool) (x1 x1' : Int) (x2 x2' : Int) (x3 x3' : Int) (x y : Operand) {rt : TypeId} (ho : o.op = .binOp .neq 28 x y rt) (hx : a.eval x = (.agg (av 4 (ls [.bool x0, .int .u64 x1, .int .u64 x2, .int .u16 x3])))) (hy : a.eval y = (.agg (av 4 (ls [.bool x0', .int .u64 x1', .int .u64 x2', .int .u16 x3'])))) (w : World) :
    (execOp a.eval o).run Try.prog w = .ok (.value (.bool (!decide (x0 = x0' ∧ x1 = x1' ∧ x2 = x2' ∧ x3 = x3')))) w := run_bin .neq 28 x y ho hx hy (by kernel_rfl) (neq28w x0 x0' x1 x1' x2 x2' x3 x3') w
theorem eql86 {a : Act} {o : Oper} (x0 x0' : Int) (x1 x1' : ByteArray) (x2 x2' : Bool) (x3 x3' : Int) (x4 x4' : Int) (x5 x5' : Int) (x y : Operand) {rt : TypeId} (ho : o.op = .binOp .eql 86 x y rt) (hx : a.eval x = (.agg (av 6 (ls [.int .u64 x0, .string x1, .bool x2, .int .u64 x3, .int .u64 x4, .int .u16 x5])))) (hy : a.eval y = (.agg (av 6 (ls [.int .u64 x0', .string x1', .bool x2', .int .u64 x3', .int .u64 x4', .int .u16 x5'])))) (w : World) :
    (execOp a.eval o).run Try.prog w = .ok (.value (.bool (decide (x0 = x0' ∧ x1 = x1' ∧ x2 = x2' ∧ x3 = x3' ∧ x4 = x4' ∧ x5 = x5')))) w := run_bin .eql 86 x y ho hx hy (by kernel_rfl) (eql86w x0 x0' x1 x1' x2 x2' x3 x3' x4 x4' x5 x5') w
theorem neq86 {a : Act} {o : Oper} (x0 x0' : Int) (x1 x1' : ByteArray) (x2 x2' : Bool) (x3 x3' : Int) (x4 x4' : Int) (x5 x5' : Int) (x y : Operand) {rt : TypeId} (ho : o.op = .binOp .neq 86 x y rt) (hx : a.eval x = (.agg (av 6 (ls [.int .u64 x0, .string x1, .bool x2, .int .u64 x3, .int .u64 x4, .int .u16 x5])))) (hy : a.eval y = (.agg (av 6 (ls [.int .u64 x0', .string x1', .bool x2', .int .u64 x3', .int .u64 x4', .int .u16 x5'])))) (w : World) :
    (execOp a.eval o).run Try.prog w = .ok (.value (.bool (!decide (x0 = x0' ∧ x1 = x1' ∧ x2 = x2' ∧ x3 = x3' ∧ x4 = x4' ∧ x5 = x5')))) w := run_bin .neq 86 x y ho hx hy (by kernel_rfl) (neq86w x0 x0' x1 x1' x2 x2' x3 x3' x4 x4' x5 x5') w
theorem eql30 {a : Act} {o : Oper} (x0 x0' : Int) (x1 x1' : ByteArray) (x2 x2' : ByteArray) (x3 x3' : Int) (x4 x4' : Int) (x5 x5' : Int) (x6 x6' : Int) (x7 x7' : Int) (x8 x8' : ByteArray) (x9 x9' : Bool) (x10 x10' : Int) (x11 x11' : Int) (x12 x12' : Int) (x13 x13' : Int) (x14 x14' : ByteArray) (x15 x15' : ByteArray) (x16 x16' : ByteArray) (x y : Operand) {rt : TypeId} (ho : o.op = .binOp .eql 30 x y rt) (hx : a.eval x = (.agg (av 17 (ls [.int .u8 x0, .string x1, .string x2, .int .u32 x3, .int .u32 x4, .int .u64 x5, .int .u64 x6, .int .u64 x7, .string x8, .bool x9, .int .u64 x10, .int .u64 x11, .int .u16 x12, .int .u16 x13, .string x14, .string x15, .string x16])))) (hy : a.eval y = (.agg (av 17 (ls [.int .u8 x0', .string x1', .string x2', .int .u32 x3', .int .u32 x4', .int .u64 x5', .int .u64 x6', .int .u64 x7', .string x8', .bool x9', .int .u64 x10', .int .u64 x11', .int .u16 x12', .int .u16 x13', .string x14', .string x15', .string x16'])))) (w : World) :
    (execOp a.eval o).run Try.prog w = .ok (.value (.bool (decide (x0 = x0' ∧ x1 = x1' ∧ x2 = x2' ∧ x3 = x3' ∧ x4 = x4' ∧ x5 = x5' ∧ x6 = x6' ∧ x7 = x7' ∧ x8 = x8' ∧ x9 = x9' ∧ x10 = x10' ∧ x11 = x11' ∧ x12 = x12' ∧ x13 = x13' ∧ x14 = x14' ∧ x15 = x15' ∧ x16 = x16')))) w := run_bin .eql 30 x y ho hx hy (by kernel_rfl) (eql30w x0 x0' x1 x1' x2 x2' x3 x3' x4 x4' x5 x5' x6 x6' x7 x7' x8 x8' x9 x9' x10 x10' x11 x11' x12 x12' x13 x13' x14 x14' x15 x15' x16 x16') w
theorem neq30 {a : Act} {o : Oper} (x0 x0' : Int) (x1 x1' : ByteArray) (x2 x2' : ByteArray) (x3 x3' : Int) (x4 x4' : Int) (x5 x5' : Int) (x6 x6' : Int) (x7 x7' : Int) (x8 x8' : ByteArray) (x9 x9' : Bool) (x10 x10' : Int) (x11 x11' : Int) (x12 x12' : Int) (x13 x13' : Int) (x14 x14' : ByteArray) (x15 x15' : ByteArray) (x16 x16' : ByteArray) (x y : Operand) {rt : TypeId} (ho : o.op = .binOp .neq 30 x y rt) (hx : a.eval x = (.agg (av 17 (ls [.int .u8 x0, .string x1, .string x2, .int .u32 x3, .int .u32 x4, .int .u64 x5, .int .u64 x6, .int .u64 x7, .string x8, .bool x9, .int .u64 x10, .int .u64 x11, .int .u16 x12, .int .u16 x13, .string x14, .string x15, .string x16])))) (hy : a.eval y = (.agg (av 17 (ls [.int .u8 x0', .string x1', .string x2', .int .u32 x3', .int .u32 x4', .int .u64 x5', .int .u64 x6', .int .u64 x7', .string x8', .bool x9', .int .u64 x10', .int .u64 x11', .int .u16 x12', .int .u16 x13', .string x14', .string x15', .string x16'])))) (w : World) :
    (execOp a.eval o).run Try.prog w = .ok (.value (.bool (!decide (x0 = x0' ∧ x1 = x1' ∧ x2 = x2' ∧ x3 = x3' ∧ x4 = x4' ∧ x5 = x5' ∧ x6 = x6' ∧ x7 = x7' ∧ x8 = x8' ∧ x9 = x9' ∧ x10 = x10' ∧ x11 = x11' ∧ x12 = x12' ∧ x13 = x13' ∧ x14 = x14' ∧ x15 = x15' ∧ x16 = x16')))) w := run_bin .neq 30 x y ho hx hy (by kernel_rfl) (neq30w x0 x0' x1 x1' x2 x2' x3 x3' x4 x4' x5 x5' x6 x6' x7 x7' x8 x8' x9 x9' x10 x10' x11 x11' x12 x12' x13 x13' x14 x14' x15 x15' x16 x16') w

end Go.Proofs.Ytbechjlkmajcoaa
