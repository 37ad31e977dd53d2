/- Both ends answer every call just as the document says, whatever comes again, late, turned, or under another number, whenever: TunnelPlays is true; the package variable starts as the text lays it (the card ties it). -/
import Derived.Test.YtenafinbaanicaaGreatDoorPa6
import Derived.Test.YtenafinbaanicaaGreatDoorCards
import Derived.Test.YtenafinbaanicaaGreatDoorTie
import Derived.SevenTiedAt
namespace Go.Proofs.YtenafinbaanicaaGreatDoor
open Go.ChangeShapes Go.WideShapes Go.ChangeAt Go.RowKit
open Go.ChangeMaps (open_string shut_string)

theorem nat_u64 {n : Int} (h : (Lit.int .u64 n).wf = true) : ∃ m : Nat, n = (m : Int) ∧ m < 18446744073709551616 := by
  have h2 : 0 ≤ n ∧ n ≤ 18446744073709551615 := by simpa [Lit.wf, IntKind.min, IntKind.max, IntKind.signed, IntKind.bits] using h
  exact ⟨n.toNat, by omega, by omega⟩

theorem c_playsA {y8 y9 sd rv y7 : ByteArray} {mt rc ct rk lf : Nat} (z1 : sd.size ≤ 140737488351232) (z2 : rv.size ≤ 140737488351232) (z : Int) (l4 : Option Addr) (b4 o4 n4 k4 : Nat) (Dd Wh Nn : Nat → Int) (At Nw : Nat → Nat) (Y : Nat → ByteArray) (hl4 : 0 < n4 → l4 = some ⟨b4, o4, none⟩) (hm4 : n4 ≤ 9223372036854775807) (hB : ∀ j, j < n4 → (Y j).size ≤ 140737488351232) (hA : ∀ j, j < n4 → At j < 256) (hN : ∀ j, j < n4 → Nw j < 18446744073709551616) (w : World) (hL : Laid w) (h0 : ∀ j, j < n4 → w.cell? ⟨b4, o4 + j * 6 + 0, none⟩ = some (.int .i64 (Dd j))) (h1 : ∀ j, j < n4 → w.cell? ⟨b4, o4 + j * 6 + 1, none⟩ = some (.int .u8 ((At j : Nat) : Int))) (h2 : ∀ j, j < n4 → w.cell? ⟨b4, o4 + j * 6 + 2, none⟩ = some (.string (Y j))) (h3 : ∀ j, j < n4 → w.cell? ⟨b4, o4 + j * 6 + 3, none⟩ = some (.int .i64 (Wh j))) (h4 : ∀ j, j < n4 → w.cell? ⟨b4, o4 + j * 6 + 4, none⟩ = some (.int .i64 (Nn j))) (h5 : ∀ j, j < n4 → w.cell? ⟨b4, o4 + j * 6 + 5, none⟩ = some (.int .u64 ((Nw j : Nat) : Int))) :
    Calls Tryz.prog 3 #[.agg (av 5 (ls [.string y8, .string y9, .string sd, .string rv, .string y7])), .int .u64 (mt : Int), .agg (av 5 (ls [.int .u64 (rc : Int), .int .u64 (ct : Int), .int .u64 (rk : Int), .int .u64 (lf : Int), .int .i64 z])), .slice l4 n4 k4] w fun r w' => r = .returned (.bool true) ∧ Below w.heap.size w w' := by
  by_cases h : (sd.size = 32 ∧ rv.size = 32) ∧ mbB rc ct rk lf = true ∧ 1 ≤ z ∧ z ≤ 4096
  · obtain ⟨⟨e1, e2⟩, e3, e4, e5⟩ := h
    obtain ⟨s, rfl⟩ : ∃ s : Nat, z = (s : Int) := ⟨z.toNat, by omega⟩
    exact c_plays e1 e2 e3 (by omega) (by omega) l4 b4 o4 n4 k4 Dd Wh Nn At Nw Y hl4 hm4 hB hA hN w hL h0 h1 h2 h3 h4 h5
  · exact c_playsB z1 z2 (fun e1 e2 e3 => h ⟨⟨e1, e2⟩, e3⟩) l4 b4 o4 n4 k4 Y hl4 hm4 hB w hL h2

set_option maxRecDepth 100000 in
theorem tunnelPlaysPLifted (os : Os) (started : os.Started) (H : Type) (enc : TypeId × Value → H) :
    ReturnsInHanded {} Tryz.checked os 3 .any (fun w args => (Rows.tunnelPlaysSpec.pre enc Tryz.prog Tryz.f3 Rows.tunnelPlaysRow.domain false w args ∧ laidMetH Tryz.prog lay6 w) ∧ sizedMet enc Tryz.prog Tryz.f3 (OpenSpec.ofChange Rows.tunnelPlaysSpec) false w args)
      (Rows.tunnelPlaysSpec.post enc Tryz.prog Tryz.f3 false true false false) := by
  refine returnsInHanded_of_change_and (C := Tryz.checked) (X := fun w _ => laidMetH Tryz.prog lay6 w) (fun _ _ _ hh h => h.of_heap hh) ownNone started (by kernel_rfl) Tryz.func3
    (ChangeSpec.witness_at (enc := enc) (C := Tryz.checked) (os := os) (X := fun w _ => laidMetH Tryz.prog lay6 w) false (World.laidAll Tryz.prog os lay6) #[.agg #[.string ByteArray.empty, .string ByteArray.empty, .string ByteArray.empty, .string ByteArray.empty, .string ByteArray.empty], .int .u64 0, .agg #[.int .u64 0, .int .u64 0, .int .u64 0, .int .u64 0, .int .i64 0], .slice none 0 0] 8 (World.laidAll_os _ _ _) (by kernel_rfl) (by kernel_rfl) (by kernel_rfl) (by kernel_rfl) (by kernel_rfl) (lay_witness os _)) ?_
  intro W base args ds gs before hval0 hW _ hWt hLd _
  have hL := laid_of hLd
  have hval : ∀ (j : Nat) t v, Tryz.f3.params[j]? = some t → args[j]? = some v → Value.okWide Tryz.prog W .any base t v := hval0
  have hW' := hW
  obtain ⟨p, q, hA0, hV, rfl, hfz, hnd⟩ := hW
  have hA : DataW.TrodAll enc Tryz.prog W 0 (fun _ => true) true Tryz.f3.params.toList args.toList ds p := hA0
  rw [Tryz.params3] at hA hval hWt
  obtain ⟨v0, vs0, d0, ds0, p0, q0, hargs, rfl, rfl, h0, r0⟩ := trodAll_cons hA
  obtain ⟨v1, vs1, d1, ds1, p1, q1, rfl, rfl, rfl, h1, r1⟩ := trodAll_cons r0
  obtain ⟨v2, vs2, d2, ds2, p2, q2, rfl, rfl, rfl, h2, r2⟩ := trodAll_cons r1
  obtain ⟨v3, vs3, d3, ds3, p3, q3, rfl, rfl, rfl, h3, r3⟩ := trodAll_cons r2
  obtain ⟨rfl, rfl, rfl⟩ := trodAll_nil r3
  obtain rfl : args = #[v0, v1, v2, v3] := by cases args; simp_all
  obtain ⟨rfl, rfl⟩ := trodVars_none hV
  have hlt0 : ∀ x ∈ p0, x.block < W.heap.size := fun x hx => by simpa using hW'.lt x (by simp [hx])
  have hlt1 : ∀ x ∈ p1, x.block < W.heap.size := fun x hx => by simpa using hW'.lt x (by simp [hx])
  have hlt2 : ∀ x ∈ p2, x.block < W.heap.size := fun x hx => by simpa using hW'.lt x (by simp [hx])
  have hlt3 : ∀ x ∈ p3, x.block < W.heap.size := fun x hx => by simpa using hW'.lt x (by simp [hx])
  have t0 := h0
  have t1 := h1
  have t2 := h2
  have t3 := h3
  obtain ⟨x0, y0⟩ := wt_cons _ _ _ _ _ hWt
  obtain ⟨x1, y1⟩ := wt_cons _ _ _ _ _ y0
  obtain ⟨x2, y2⟩ := wt_cons _ _ _ _ _ y1
  obtain ⟨x3, y3⟩ := wt_cons _ _ _ _ _ y2
  obtain ⟨ga0, gb0, gc0, gd0, ge0, rfl⟩ := op_got (hval 0 23 v0 rfl rfl)
  obtain ⟨gz0, gy0⟩ := wt_got h0 x0
  obtain ⟨n1_, rfl, rfl, rfl, w1⟩ := open_int Tryz.underlying24 (hval 1 24 v1 rfl rfl) h1
  obtain ⟨m1, rfl, hm1⟩ := nat_u64 w1
  obtain ⟨rc2, ct2, rk2, lf2, z2, rfl, z20, z21⟩ := op_lim (hval 2 26 v2 rfl rfl)
  obtain ⟨l3, b3, o3, n3, k3, Dd3, Wh3, Nn3, At3, Nw3, Y3, rfl, hm3, hl3, hB3, hA3, hN3, c0, c1, c2, c3, c4, c5⟩ := open_steps (hval 3 27 v3 rfl rfl) h3 x3
  clear hA0 hval0
  refine (c_playsA gz0 gy0 z2 l3 b3 o3 n3 k3 Dd3 Wh3 Nn3 At3 Nw3 Y3 hl3 hm3 hB3 hA3 hN3 W hL c0 c1 c2 c3 c4 c5).mono fun e W' ⟨he, hg⟩ => ?_
  subst he
  exact ⟨_, rfl, _, _, _, _, _, [], hW', trodAll_cons_mk (shut_bool Tryz.underlying4 _) trodAll_mk0, trodAll_cons_mk (Below.trod laidOut (by kernel_rfl) (of_decide_eq_true (by kernel_rfl)) t0 hg hlt0) (trodAll_cons_mk (Below.trod laidOut (by kernel_rfl) (of_decide_eq_true (by kernel_rfl)) t1 hg hlt1) (trodAll_cons_mk (Below.trod laidOut (by kernel_rfl) (of_decide_eq_true (by kernel_rfl)) t2 hg hlt2) (trodAll_cons_mk (Below.trod laidOut (by kernel_rfl) (of_decide_eq_true (by kernel_rfl)) t3 hg hlt3) (trodAll_mk0)))), rfl, hg.frame _, fun h => by cases h⟩

theorem tunnelPlays_row : Rows.TunnelPlaysSaid :=
  OpenClaim.holds_of_wide 3 Tryz.f3 rfl rfl rfl rfl rfl rfl rfl ⟨rfl, rfl, rfl, rfl, rfl⟩ rfl rfl rfl rfl rfl (by kernel_rfl) Tryz.func3 (by kernel_rfl)
    (of_decide_eq_true (by kernel_rfl)) (by unfold Func.isWrapper; rw [if_neg (by decide +kernel)]; exact ⟨rfl, rfl⟩)
    (fun os started H enc _ => tunnelPlaysPLifted os started H enc)

theorem tunnelPlays_holds : Rows.TunnelPlaysCardSaid :=
  Claim7.holds_tied_plain_at .later [] [.data] true (true, "10501d905cef4d6c9ca2b4095860dca5373f16b58e5ab5919e8b474d65ea116d") false
    tunnelPlays_row (fun _ h => by cases h) (by kernel_rfl) (fun _ h => by cases h) tunnelPlays_row_tie rfl ⟨rfl, rfl⟩ (by kernel_rfl) rfl
    (fun f fn hf hfn => by
      obtain rfl : f = 3 := Option.some.inj ((show Tryz.prog.funcNamed "isthmus/isthmuslaw18.TunnelPlays" = some 3 by kernel_rfl).symm.trans hf) |>.symm
      obtain rfl : fn = Tryz.f3 := (Option.some.inj (Tryz.func3.symm.trans hfn)).symm
      exact ⟨by kernel_rfl, fun j t ht => by
        rw [Tryz.params3] at ht
        rcases j with _ | _ | _ | _ | j
        · obtain rfl : t = 23 := by simpa using ht.symm
          exact (show Tryz.prog.wantsStandIn 23 = false by kernel_rfl)
        · obtain rfl : t = 24 := by simpa using ht.symm
          exact (show Tryz.prog.wantsStandIn 24 = false by kernel_rfl)
        · obtain rfl : t = 26 := by simpa using ht.symm
          exact (show Tryz.prog.wantsStandIn 26 = false by kernel_rfl)
        · obtain rfl : t = 27 := by simpa using ht.symm
          exact (show Tryz.prog.wantsStandIn 27 = false by kernel_rfl)
        · simp at ht⟩)
    (by kernel_rfl)

#print axioms tunnelPlays_holds
end Go.Proofs.YtenafinbaanicaaGreatDoor
