/- Whatever rules, span of life, steps and flow are handed in, what goes one way is told apart from what goes the other: FilterApart is true; where what is handed in is no bigger than can be handed in. -/
import Derived.Test.YtlfekknonjlopaaGN
import Derived.Test.YtlfekknonjlopaaGO
import Derived.Test.YtlfekknonjlopaaGL
import Derived.Test.YtlfekknonjlopaaRows
namespace Go.Proofs.Ytlfekknonjlopaa
open Go.ChangeShapes Go.WideShapes Go.ChangeAt Go.RowKit Go.Deep

set_option maxRecDepth 100000 in
theorem filterApartContract (H : Type) (enc : TypeId × Value → H) (W : World) (base : Nat) (args : Array Value) (ds gs : List (DataW H)) (before : List MemPlace)
    (hval0 : ∀ (j : Nat) t v, Try.f6.params[j]? = some t → args[j]? = some v → Value.okWide Try.prog W .any base t v)
    (hW : DataW.Whole enc Try.prog Try.f6.params.toList Rows.filterApartSpec.vars false W args.toList ds gs before) (hz : bulks ds ≤ 1048576) :
    Calls Try.prog 6 args W fun e W' => ∃ v, e = .returned v ∧ Rows.filterApartSpec.post enc Try.prog Try.f6 false true false false W args v W' := by
  have hval : ∀ (j : Nat) t v, Try.f6.params[j]? = some t → args[j]? = some v → Value.okWide Try.prog W .any base t v := hval0
  have hW' := hW
  obtain ⟨p, q, hA0, hV, rfl, hfz, hnd⟩ := hW
  have hA : DataW.TrodAll enc Try.prog W 0 (fun _ => true) true Try.f6.params.toList args.toList ds p := hA0
  rw [Try.params6] at hA hval
  obtain ⟨v0, vs0, d0, ds0, p0, q0, hargs, rfl, rfl, h0, r0⟩ := trodAll_cons hA
  obtain ⟨v1, vs1, d1, ds1, p1, q1, rfl, rfl, rfl, h1, r1⟩ := trodAll_cons r0
  obtain ⟨v2, vs2, d2, ds2, p2, q2, rfl, rfl, rfl, h2, r2⟩ := trodAll_cons r1
  obtain ⟨v3, vs3, d3, ds3, p3, q3, rfl, rfl, rfl, h3, r3⟩ := trodAll_cons r2
  obtain ⟨rfl, rfl, rfl⟩ := trodAll_nil r3
  obtain rfl : args = #[v0, v1, v2, v3] := by cases args; simp_all
  obtain ⟨rfl, rfl⟩ := trodVars_none hV
  have hlt0 : ∀ x ∈ p0, x.block < W.heap.size := fun x hx => by simpa using hW'.lt x (by simp [hx])
  have hlt1 : ∀ x ∈ p1, x.block < W.heap.size := fun x hx => by simpa using hW'.lt x (by simp [hx])
  have hlt2 : ∀ x ∈ p2, x.block < W.heap.size := fun x hx => by simpa using hW'.lt x (by simp [hx])
  have hlt3 : ∀ x ∈ p3, x.block < W.heap.size := fun x hx => by simpa using hW'.lt x (by simp [hx])
  have z0 : bulk d0 ≤ 1048576 := Nat.le_trans (bulk_mem (by simp)) hz
  obtain ⟨a0, n0, c0, rfl⟩ := okWide_slice Try.underlying22 (hval 0 22 v0 rfl rfl)
  have t0 := h0
  obtain ⟨m0, t0⟩ := t0
  have t0 : trd enc W m0 22 [.slice a0 n0 c0] (some (d0, p0)) := t0
  obtain ⟨l0, o0, k0, e0⟩ := tr22 t0 z0
  obtain ⟨x1, rfl, r1_⟩ := op40 (hval 1 40 v1 rfl rfl)
  have z2 : bulk d2 ≤ 1048576 := Nat.le_trans (bulk_mem (by simp)) hz
  obtain ⟨a2, n2, c2, rfl⟩ := okWide_slice Try.underlying24 (hval 2 24 v2 rfl rfl)
  have t2 := h2
  obtain ⟨m2, t2⟩ := t2
  have t2 : trd enc W m2 24 [.slice a2 n2 c2] (some (d2, p2)) := t2
  obtain ⟨l2, o2, k2, e2⟩ := tr24 t2 z2
  obtain ⟨p3_, b3_, h3_, l3_, c3_, g3_, k3_, f3_, e3_, rfl, rp3_, rh3_, rl3_, rg3_, rk3_, rf3_, re3_⟩ := op42 (hval 3 42 v3 rfl rfl)
  clear hA0 hval0
  refine ((c_apart (C := fun _ => True) (blksOf W) l0 _ l2 _ o0 k0 o2 k2 e0 (fun i hi => (e2 i hi).1) (p3_, (b3_, h3_, l3_), (c3_, g3_, k3_), f3_, e3_) ⟨rp3_.1, by show _ ≤ _; exact Int.le_of_lt_add_one rp3_.2⟩ x1 ⟨r1_.1, Int.le_of_lt_add_one r1_.2⟩).callsT (fun _ => rfl) (fun _ => rfl) trivial (there_blks W)).mono fun e W' ⟨he, hg⟩ => ?_
  subst he
  exact ⟨_, rfl, _, _, _, _, _, [], hW', trodAll_cons_mk (shut_bool Try.underlying4 _) trodAll_mk0, trodAll_cons_mk (Below.trod laidOut (by kernel_rfl) (of_decide_eq_true (by kernel_rfl)) h0 hg hlt0) (trodAll_cons_mk (Below.trod laidOut (by kernel_rfl) (of_decide_eq_true (by kernel_rfl)) h1 hg hlt1) (trodAll_cons_mk (Below.trod laidOut (by kernel_rfl) (of_decide_eq_true (by kernel_rfl)) h2 hg hlt2) (trodAll_cons_mk (Below.trod laidOut (by kernel_rfl) (of_decide_eq_true (by kernel_rfl)) h3 hg hlt3) (trodAll_mk0)))), rfl, hg.frame _, fun h => by cases h⟩

set_option maxRecDepth 100000 in
theorem filterApartLifted (os : Os) (started : os.Started) (H : Type) (enc : TypeId × Value → H) (F : Stop.Interp) :
    ReturnsInHanded {} Try.checked os 6 .any ((Rows.OpenSpec.upto Rows.filterApartSpec).pre6 enc Try.prog Try.f6 Rows.filterApartUptoRow.domain false) (((Rows.OpenSpec.upto Rows.filterApartSpec).at F).post enc Try.prog Try.f6 false true false false) := by
  refine returnsInHanded_of_cond (C := Try.checked) (s := Rows.OpenSpec.upto Rows.filterApartSpec) (k := Rows.uptoSmall) rfl ownNone started (by kernel_rfl) Try.func6
    (OpenSpec.witness (enc := enc) (C := Try.checked) (s := Rows.OpenSpec.upto Rows.filterApartSpec) (k := Rows.uptoSmall) rfl false ⟨#[], #[.slice none 0 0, .int .u16 0, .slice none 0 0, .agg #[.int .u8 0, .bool false, .int .u64 0, .int .u64 0, .bool false, .int .u64 0, .int .u64 0, .int .u16 0, .int .u16 0]], []⟩ 8 (by kernel_rfl) (by kernel_rfl) (by kernel_rfl)
      (x := ([.nil, .lit (.int .u16 0), .nil, .agg [.lit (.int .u8 0), .agg [.lit (.bool false), .lit (.int .u64 0), .lit (.int .u64 0)], .agg [.lit (.bool false), .lit (.int .u64 0), .lit (.int .u64 0)], .lit (.int .u16 0), .lit (.int .u16 0)]], [], [])) (by kernel_rfl) rfl (by kernel_rfl)) ?_
  intro W base args ds gs before hval hW _ hk _
  have hg : gs = [] := by
    obtain ⟨p, q, hA0, hV, rfl, hfz, hnd⟩ := hW
    exact (trodVars_none hV).1
  subst hg
  rw [List.append_nil] at hk
  exact filterApartContract H enc W base args ds [] before hval hW (of_decide_eq_true hk)

theorem filterApartUpto_holds : Rows.FilterApartUptoSaid :=
  OpenClaim.holds_of_cond 6 Try.f6 rfl rfl rfl rfl rfl rfl rfl ⟨rfl, rfl, rfl, rfl, rfl⟩ rfl rfl rfl rfl rfl (by kernel_rfl) Try.func6 (by kernel_rfl)
    (of_decide_eq_true (by kernel_rfl)) (by unfold Func.isWrapper; rw [if_neg (by decide +kernel)]; exact ⟨rfl, rfl⟩)
    (fun os started H enc _ F => filterApartLifted os started H enc F)

#print axioms filterApartUpto_holds
end Go.Proofs.Ytlfekknonjlopaa
