/- Each text is opened once at most, and as it was sealed, and only till the tunnel is over: TunnelOnce is true; the package variable starts as the text lays it (the card ties it). -/
import Derived.Test.YtenafinbaanicaaDoorT6
import Derived.Test.YtenafinbaanicaaDoorOpn
import Derived.Test.YtenafinbaanicaaDoorLay
import Derived.Test.YtenafinbaanicaaDoorCards
import Derived.Test.YtenafinbaanicaaDoorTie
import Derived.SevenTiedAt
namespace Go.Proofs.YtenafinbaanicaaDoor
open Go.ChangeShapes Go.WideShapes Go.ChangeAt Go.RowKit
open Go.ChangeMaps (open_string shut_string)

theorem nat_u64 {n : Int} (h : (Lit.int .u64 n).wf = true) : ∃ m : Nat, n = (m : Int) ∧ m < 18446744073709551616 := by
  have h2 : 0 ≤ n ∧ n ≤ 18446744073709551615 := by simpa [Lit.wf, IntKind.min, IntKind.max, IntKind.signed, IntKind.bits] using h
  exact ⟨n.toNat, by omega, by omega⟩

theorem c_onceA {rc ct rk lf n : Nat} (z : Int) (l1 l2 : Option Addr) (b1 o1 n1 k1 b2 o2 n2 k2 : Nat) (Y : Nat → ByteArray) (X : Nat → Nat) (hl1 : 0 < n1 → l1 = some ⟨b1, o1, none⟩) (hl2 : 0 < n2 → l2 = some ⟨b2, o2, none⟩) (hm1 : n1 ≤ 9223372036854775807) (hB : ∀ j, j < n1 → (Y j).size ≤ 140737488351232) (hX0 : ∀ j, j < n2 → X j < 256) (hn : n < 18446744073709551616) (w : World) (hL : Laid w) (hY : ∀ j, j < n1 → w.cell? ⟨b1, o1 + j * 1, none⟩ = some (.string (Y j))) (hX : ∀ j, j < n2 → w.cell? ⟨b2, o2 + j * 1, none⟩ = some (.int .u8 ((X j : Nat) : Int))) :
    Calls Tryd.prog 3 #[.agg (av 5 (ls [.int .u64 (rc : Int), .int .u64 (ct : Int), .int .u64 (rk : Int), .int .u64 (lf : Int), .int .i64 z])), .slice l1 n1 k1, .slice l2 n2 k2, .int .u64 (n : Int)] w fun r w' => r = .returned (.bool true) ∧ Below w.heap.size w w' := by
  by_cases h : mbB rc ct rk lf = true ∧ 1 ≤ z ∧ z ≤ 4096
  · obtain ⟨s, rfl⟩ : ∃ s : Nat, z = (s : Int) := ⟨z.toNat, by omega⟩
    exact c_once h.1 (by omega) (by omega) l1 l2 b1 o1 n1 k1 b2 o2 n2 k2 Y X hl1 hl2 hm1 hB hX0 hn w hL hY hX
  · exact c_onceB (fun h1 => Classical.byContradiction fun hc => h ⟨h1, by omega, by omega⟩) l1 l2 b1 o1 n1 k1 n2 k2 Y hl1 hm1 hB w hL hY

set_option maxRecDepth 100000 in
theorem tunnelOncePLifted (os : Os) (started : os.Started) (H : Type) (enc : TypeId × Value → H) :
    ReturnsInHanded {} Tryd.checked os 3 .any (fun w args => (Rows.tunnelOnceSpec.pre enc Tryd.prog Tryd.f3 Rows.tunnelOnceRow.domain false w args ∧ laidMetH Tryd.prog lay6 w) ∧ sizedMet enc Tryd.prog Tryd.f3 (OpenSpec.ofChange Rows.tunnelOnceSpec) false w args)
      (Rows.tunnelOnceSpec.post enc Tryd.prog Tryd.f3 false true false false) := by
  refine returnsInHanded_of_change_and (C := Tryd.checked) (X := fun w _ => laidMetH Tryd.prog lay6 w) (fun _ _ _ hh h => h.of_heap hh) ownNone started (by kernel_rfl) Tryd.func3
    (ChangeSpec.witness_at (enc := enc) (C := Tryd.checked) (os := os) (X := fun w _ => laidMetH Tryd.prog lay6 w) false (World.laidAll Tryd.prog os lay6) #[.agg #[.int .u64 0, .int .u64 0, .int .u64 0, .int .u64 0, .int .i64 0], .slice none 0 0, .slice none 0 0, .int .u64 0] 8 (World.laidAll_os _ _ _) (by kernel_rfl) (by kernel_rfl) (by kernel_rfl) (by kernel_rfl) (by kernel_rfl) (lay_witness os _)) ?_
  intro W base args ds gs before hval0 hW _ hWt hLd _
  have hL := laid_of hLd
  have hval : ∀ (j : Nat) t v, Tryd.f3.params[j]? = some t → args[j]? = some v → Value.okWide Tryd.prog W .any base t v := hval0
  have hW' := hW
  obtain ⟨p, q, hA0, hV, rfl, hfz, hnd⟩ := hW
  have hA : DataW.TrodAll enc Tryd.prog W 0 (fun _ => true) true Tryd.f3.params.toList args.toList ds p := hA0
  rw [Tryd.params3] at hA hval hWt
  obtain ⟨v0, vs0, d0, ds0, p0, q0, hargs, rfl, rfl, h0, r0⟩ := trodAll_cons hA
  obtain ⟨v1, vs1, d1, ds1, p1, q1, rfl, rfl, rfl, h1, r1⟩ := trodAll_cons r0
  obtain ⟨v2, vs2, d2, ds2, p2, q2, rfl, rfl, rfl, h2, r2⟩ := trodAll_cons r1
  obtain ⟨v3, vs3, d3, ds3, p3, q3, rfl, rfl, rfl, h3, r3⟩ := trodAll_cons r2
  obtain ⟨rfl, rfl, rfl⟩ := trodAll_nil r3
  obtain rfl : args = #[v0, v1, v2, v3] := by cases args; simp_all
  obtain ⟨rfl, rfl⟩ := trodVars_none hV
  have hlt0 : ∀ x ∈ p0, x.block < W.heap.size := fun x hx => by simpa using hW'.lt x (by simp [hx])
  have hlt1 : ∀ x ∈ p1, x.block < W.heap.size := fun x hx => by simpa using hW'.lt x (by simp [hx])
  have hlt2 : ∀ x ∈ p2, x.block < W.heap.size := fun x hx => by simpa using hW'.lt x (by simp [hx])
  have hlt3 : ∀ x ∈ p3, x.block < W.heap.size := fun x hx => by simpa using hW'.lt x (by simp [hx])
  have t0 := h0
  have t1 := h1
  have t2 := h2
  have t3 := h3
  obtain ⟨x0, y0⟩ := wt_cons _ _ _ _ _ hWt
  obtain ⟨x1, y1⟩ := wt_cons _ _ _ _ _ y0
  obtain ⟨x2, y2⟩ := wt_cons _ _ _ _ _ y1
  obtain ⟨x3, y3⟩ := wt_cons _ _ _ _ _ y2
  obtain ⟨rc0, ct0, rk0, lf0, z0, rfl, z00, z01⟩ := op_lim (hval 0 24 v0 rfl rfl)
  obtain ⟨l1, b1, o1, n1, k1, Y1, rfl, hm1, hl1, hY1, hB1⟩ := open_texts Tryd.underlying25 (hval 1 25 v1 rfl rfl) h1 x1
  obtain ⟨l2, b2, o2, n2, k2, X2, rfl, hm2, hl2, hX2, hX02⟩ := open_bytes Tryd.underlying26 (hval 2 26 v2 rfl rfl) h2 x2
  obtain ⟨n3_, rfl, rfl, rfl, w3⟩ := open_int Tryd.underlying22 (hval 3 22 v3 rfl rfl) h3
  obtain ⟨m3, rfl, hm3⟩ := nat_u64 w3
  clear hA0 hval0
  refine (c_onceA z0 l1 l2 b1 o1 n1 k1 b2 o2 n2 k2 Y1 X2 hl1 hl2 hm1 hB1 hX02 hm3 W hL hY1 hX2).mono fun e W' ⟨he, hg⟩ => ?_
  subst he
  exact ⟨_, rfl, _, _, _, _, _, [], hW', trodAll_cons_mk (shut_bool Tryd.underlying4 _) trodAll_mk0, trodAll_cons_mk (Below.trod laidOut (by kernel_rfl) (of_decide_eq_true (by kernel_rfl)) t0 hg hlt0) (trodAll_cons_mk (Below.trod laidOut (by kernel_rfl) (of_decide_eq_true (by kernel_rfl)) t1 hg hlt1) (trodAll_cons_mk (Below.trod laidOut (by kernel_rfl) (of_decide_eq_true (by kernel_rfl)) t2 hg hlt2) (trodAll_cons_mk (Below.trod laidOut (by kernel_rfl) (of_decide_eq_true (by kernel_rfl)) t3 hg hlt3) (trodAll_mk0)))), rfl, hg.frame _, fun h => by cases h⟩

theorem tunnelOnce_row : Rows.TunnelOnceSaid :=
  OpenClaim.holds_of_wide 3 Tryd.f3 rfl rfl rfl rfl rfl rfl rfl ⟨rfl, rfl, rfl, rfl, rfl⟩ rfl rfl rfl rfl rfl (by kernel_rfl) Tryd.func3 (by kernel_rfl)
    (of_decide_eq_true (by kernel_rfl)) (by unfold Func.isWrapper; rw [if_neg (by decide +kernel)]; exact ⟨rfl, rfl⟩)
    (fun os started H enc _ => tunnelOncePLifted os started H enc)

theorem tunnelOnce_holds : Rows.TunnelOnceCardSaid :=
  Claim7.holds_tied_plain_at .later [] [.data] true (true, "1a0ec49277e34bc4c5f99a823b2798f9a8b5c74dc6d3a18a8a22e839e461e06b") false
    tunnelOnce_row (fun _ h => by cases h) (by kernel_rfl) (fun _ h => by cases h) tunnelOnce_row_tie rfl ⟨rfl, rfl⟩ (by kernel_rfl) rfl
    (fun f fn hf hfn => by
      obtain rfl : f = 3 := Option.some.inj ((show Tryd.prog.funcNamed "isthmus/isthmuslaw18.TunnelOnce" = some 3 by kernel_rfl).symm.trans hf) |>.symm
      obtain rfl : fn = Tryd.f3 := (Option.some.inj (Tryd.func3.symm.trans hfn)).symm
      exact ⟨by kernel_rfl, fun j t ht => by
        rw [Tryd.params3] at ht
        rcases j with _ | _ | _ | _ | j
        · obtain rfl : t = 24 := by simpa using ht.symm
          exact (show Tryd.prog.wantsStandIn 24 = false by kernel_rfl)
        · obtain rfl : t = 25 := by simpa using ht.symm
          exact (show Tryd.prog.wantsStandIn 25 = false by kernel_rfl)
        · obtain rfl : t = 26 := by simpa using ht.symm
          exact (show Tryd.prog.wantsStandIn 26 = false by kernel_rfl)
        · obtain rfl : t = 22 := by simpa using ht.symm
          exact (show Tryd.prog.wantsStandIn 22 = false by kernel_rfl)
        · simp at ht⟩)
    (by kernel_rfl)

#print axioms tunnelOnce_holds
end Go.Proofs.YtenafinbaanicaaDoor
