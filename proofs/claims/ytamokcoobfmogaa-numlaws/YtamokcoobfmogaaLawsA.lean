/- The law NumLaws, walked: the first number is 0. -/
import Derived.Test.YtamokcoobfmogaaLawsW
namespace Go.Proofs.Ytamokcoobfmogaa
open Go.RowKit
attribute [local go_sem] keepOp keepAt keepUpon

set_option maxRecDepth 100000 in
set_option maxHeartbeats 8000000 in
theorem laws_zero {r s t : ByteArray} {x y z ab ba mab mba abC bc aBC mabC mbc aMbc aDbc mac dsm nx xnx dxy dxyy inv xinv one two x2 p q pp qq : E5} (F : LF r s t true true true x y z ab ba mab mba abC bc aBC mabC mbc aMbc aDbc mac dsm nx xnx dxy dxyy inv xinv one two x2 p q pp qq) (w : World) :
    Calls Try.prog 7 #[.string r, .string s, .string t] w fun r w' => r = .returned (.bool true) ∧ Below w.heap.size w w' := by
  go_enter Try.func7, Try.ntmps7
  go_wp2_with fail
  refine (F.of1 _).mono ?_
  rintro _ w1 ⟨rfl, O⟩
  go_wp2_with fail
  have A := EAt.new w1 x 27
  replace O := O.trans ((new_below w1 (.cells #[.int .u64 x.a, .int .u64 x.b, .int .u64 x.c, .int .u64 x.d, .int .u64 x.e] 27)).mono O.size)
  refine (F.of2 _).mono ?_
  rintro _ w2 ⟨rfl, hb⟩
  replace A := A.keep hb
  replace O := O.trans (hb.mono O.size)
  clear hb
  generalize w1.heap.size = ga at *
  go_wp2_with fail
  have B := EAt.new w2 y 27
  replace A := A.keep (new_below w2 (.cells #[.int .u64 y.a, .int .u64 y.b, .int .u64 y.c, .int .u64 y.d, .int .u64 y.e] 27))
  replace O := O.trans ((new_below w2 (.cells #[.int .u64 y.a, .int .u64 y.b, .int .u64 y.c, .int .u64 y.d, .int .u64 y.e] 27)).mono O.size)
  refine (F.of3 _).mono ?_
  rintro _ w3 ⟨rfl, hb⟩
  replace A := A.keep hb
  replace B := B.keep hb
  replace O := O.trans (hb.mono O.size)
  clear hb
  generalize w2.heap.size = gb at *
  go_wp2_with fail
  have C := EAt.new w3 z 27
  replace A := A.keep (new_below w3 (.cells #[.int .u64 z.a, .int .u64 z.b, .int .u64 z.c, .int .u64 z.d, .int .u64 z.e] 27))
  replace B := B.keep (new_below w3 (.cells #[.int .u64 z.a, .int .u64 z.b, .int .u64 z.c, .int .u64 z.d, .int .u64 z.e] 27))
  replace O := O.trans ((new_below w3 (.cells #[.int .u64 z.a, .int .u64 z.b, .int .u64 z.c, .int .u64 z.d, .int .u64 z.e] 27)).mono O.size)
  have D := EAt.new (w3.alloc (.cells #[.int .u64 z.a, .int .u64 z.b, .int .u64 z.c, .int .u64 z.d, .int .u64 z.e] 27)) zeroE 27
  replace A := A.keep (new_below _ (.cells #[.int .u64 0, .int .u64 0, .int .u64 0, .int .u64 0, .int .u64 0] 27))
  replace B := B.keep (new_below _ (.cells #[.int .u64 0, .int .u64 0, .int .u64 0, .int .u64 0, .int .u64 0] 27))
  replace C := C.keep (new_below _ (.cells #[.int .u64 0, .int .u64 0, .int .u64 0, .int .u64 0, .int .u64 0] 27))
  replace O := O.trans ((new_below _ (.cells #[.int .u64 0, .int .u64 0, .int .u64 0, .int .u64 0, .int .u64 0] 27)).mono O.size)
  rw [World.size_alloc] at D
  refine (F.one1 _).mono ?_
  rintro _ w4 ⟨rfl, hb⟩
  replace A := A.keep hb
  replace B := B.keep hb
  replace C := C.keep hb
  replace D := D.keep hb
  replace O := O.trans (hb.mono O.size)
  clear hb
  generalize w3.heap.size = gc at *
  go_wp2_with fail
  have G := EAt.new w4 one 27
  replace A := A.keep (new_below w4 (.cells #[.int .u64 one.a, .int .u64 one.b, .int .u64 one.c, .int .u64 one.d, .int .u64 one.e] 27))
  replace B := B.keep (new_below w4 (.cells #[.int .u64 one.a, .int .u64 one.b, .int .u64 one.c, .int .u64 one.d, .int .u64 one.e] 27))
  replace C := C.keep (new_below w4 (.cells #[.int .u64 one.a, .int .u64 one.b, .int .u64 one.c, .int .u64 one.d, .int .u64 one.e] 27))
  replace D := D.keep (new_below w4 (.cells #[.int .u64 one.a, .int .u64 one.b, .int .u64 one.c, .int .u64 one.d, .int .u64 one.e] 27))
  replace O := O.trans ((new_below w4 (.cells #[.int .u64 one.a, .int .u64 one.b, .int .u64 one.c, .int .u64 one.d, .int .u64 one.e] 27)).mono O.size)
  generalize w4.heap.size = gg at *
  generalize w4.alloc (.cells #[.int .u64 one.a, .int .u64 one.b, .int .u64 one.c, .int .u64 one.d, .int .u64 one.e] 27) = W at *
  have H1 := hide (And.intro A (And.intro B (And.intro C (And.intro D (And.intro G O)))))
  have hne := KW.some W
  have a0 := A.k0
  have a1 := A.k1
  have a2 := A.k2
  have a3 := A.k3
  have a4 := A.k4
  have b0 := B.k0
  have b1 := B.k1
  have b2 := B.k2
  have b3 := B.k3
  have b4 := B.k4
  have c0 := C.k0
  have c1 := C.k1
  have c2 := C.k2
  have c3 := C.k3
  have c4 := C.k4
  clear A B C D G O
  refine wp_region_keep (by kernel_rfl) (by kernel_rfl) ?_
  go_big_quiet_step (fail)
  go_big_quiet_step (fail)
  go_big_quiet_step ((exact keep_of (F.add1 _)))
  go_big_quiet_step (fail)
  go_big_quiet_step (fail)
  go_big_quiet_step ((exact keep_of (F.add2 _)))
  go_big_quiet_step ((exact keep_of (F.s1 _)))
  go_big_quiet_step (fail)
  go_big_quiet_step (fail)
  go_big_quiet_step (fail)
  go_big_quiet_step (fail)
  go_big_quiet_step ((exact keep_of (F.mul1 _)))
  go_big_quiet_step (fail)
  go_big_quiet_step (fail)
  go_big_quiet_step ((exact keep_of (F.mul2 _)))
  go_big_quiet_step ((exact keep_of (F.s2 _)))
  go_big_quiet_step (fail)
  go_big_quiet_step (fail)
  go_big_quiet_step (fail)
  go_big_quiet_step (fail)
  go_big_quiet_step (fail)
  go_big_quiet_step ((exact keep_of (F.add1 _)))
  go_big_quiet_step (fail)
  go_big_quiet_step ((exact keep_of (F.add3 _)))
  go_big_quiet_step (fail)
  go_big_quiet_step (fail)
  go_big_quiet_step (fail)
  go_big_quiet_step ((exact keep_of (F.add4 _)))
  go_big_quiet_step ((exact keep_of (F.add5 _)))
  go_big_quiet_step ((exact keep_of (F.s3 _)))
  go_big_quiet_step (fail)
  go_big_quiet_step (fail)
  go_big_quiet_step (fail)
  go_big_quiet_step (fail)
  go_big_quiet_step (fail)
  go_big_quiet_step ((exact keep_of (F.mul1 _)))
  go_big_quiet_step (fail)
  go_big_quiet_step ((exact keep_of (F.mul3 _)))
  go_big_quiet_step (fail)
  go_big_quiet_step (fail)
  go_big_quiet_step (fail)
  go_big_quiet_step ((exact keep_of (F.mul4 _)))
  go_big_quiet_step ((exact keep_of (F.mul5 _)))
  go_big_quiet_step ((exact keep_of (F.s4 _)))
  go_big_quiet_step (fail)
  go_big_quiet_step (fail)
  go_big_quiet_step (fail)
  go_big_quiet_step (fail)
  go_big_quiet_step (fail)
  go_big_quiet_step (fail)
  go_big_quiet_step ((exact keep_of (F.add4 _)))
  go_big_quiet_step ((exact keep_of (F.mul6 _)))
  go_big_quiet_step (fail)
  go_big_quiet_step (fail)
  go_big_quiet_step ((exact keep_of (F.mul1 _)))
  go_big_quiet_step (fail)
  go_big_quiet_step (fail)
  go_big_quiet_step ((exact keep_of (F.mul7 _)))
  go_big_quiet_step ((exact keep_of (F.add6 _)))
  go_big_quiet_step ((exact keep_of (F.s5 _)))
  go_big_quiet_step (fail)
  go_big_quiet_step (fail)
  refine wpQuiet_nil ?_
  intro s8
  clear hne a0 a1 a2 a3 a4 b0 b1 b2 b3 b4 c0 c1 c2 c3 c4 
  obtain ⟨A, B, C, D, G, O⟩ := H1.out
  replace A := A.keep s8.keep
  replace B := B.keep s8.keep
  replace C := C.keep s8.keep
  replace D := D.keep s8.keep
  replace G := G.keep s8.keep
  replace O := O.trans (s8.keep.mono O.size)
  clear H1
  generalize s8.w = W8 at *
  go_wp2_with fail
  have H1 := hide (And.intro A (And.intro B (And.intro C (And.intro D (And.intro G O)))))
  have hne := KW.some W8
  have a0 := A.k0
  have a1 := A.k1
  have a2 := A.k2
  have a3 := A.k3
  have a4 := A.k4
  have b0 := B.k0
  have b1 := B.k1
  have b2 := B.k2
  have b3 := B.k3
  have b4 := B.k4
  have d0 := D.k0
  have d1 := D.k1
  have d2 := D.k2
  have d3 := D.k3
  have d4 := D.k4
  have g0 := G.k0
  have g1 := G.k1
  have g2 := G.k2
  have g3 := G.k3
  have g4 := G.k4
  clear A B C D G O
  refine wp_region_keep (by kernel_rfl) (by kernel_rfl) ?_
  go_big_quiet_step (fail)
  go_big_quiet_step (fail)
  go_big_quiet_step ((exact keep_of (F.neg1 _)))
  go_big_quiet_step ((exact keep_of (F.add7 _)))
  go_big_quiet_step (fail)
  go_big_quiet_step ((exact keep_of (F.s6 _)))
  go_big_quiet_step (fail)
  go_big_quiet_step (fail)
  go_big_quiet_step (fail)
  go_big_quiet_step (fail)
  go_big_quiet_step ((exact keep_of (F.sub1 _)))
  go_big_quiet_step (fail)
  go_big_quiet_step ((exact keep_of (F.add8 _)))
  go_big_quiet_step (fail)
  go_big_quiet_step ((exact keep_of (F.s7 _)))
  go_big_quiet_step (fail)
  go_big_quiet_step (fail)
  go_big_quiet_step (fail)
  go_big_quiet_step (fail)
  go_big_quiet_step (fail)
  go_big_quiet_step ((exact keep_of (F.s8 _)))
  go_big_quiet_step (fail)
  go_big_quiet_step (fail)
  go_big_quiet_step ((exact keep_of (F.inv1 _)))
  go_big_quiet_step ((exact keep_of (F.mul8 _)))
  go_big_quiet_step (fail)
  go_big_quiet_step ((exact keep_of (F.s9 _)))
  go_big_quiet_step (fail)
  go_big_quiet_step (fail)
  go_big_quiet_step (fail)
  refine wpQuiet_nil ?_
  intro s10
  clear hne a0 a1 a2 a3 a4 b0 b1 b2 b3 b4 d0 d1 d2 d3 d4 g0 g1 g2 g3 g4 
  obtain ⟨A, B, C, D, G, O⟩ := H1.out
  replace A := A.keep s10.keep
  replace B := B.keep s10.keep
  replace C := C.keep s10.keep
  replace D := D.keep s10.keep
  replace G := G.keep s10.keep
  replace O := O.trans (s10.keep.mono O.size)
  clear H1
  generalize s10.w = W10 at *
  clear B C G
  have A2 := A
  obtain ⟨asz, af, a0, a1, a2, a3, a4⟩ := A2
  have HO := hide O
  clear O
  go_wp2_with fail
  refine (F.r1 _).mono ?_
  rintro _ w12 ⟨rfl, hb⟩
  clear asz af a0 a1 a2 a3 a4
  replace A := A.keep hb
  replace D := D.keep hb
  have O := HO.out.trans (hb.mono HO.out.size)
  clear HO hb
  go_wp2_with fail
  have Pp := EAt.new w12 p 27
  replace A := A.keep (new_below w12 (.cells #[.int .u64 p.a, .int .u64 p.b, .int .u64 p.c, .int .u64 p.d, .int .u64 p.e] 27))
  replace D := D.keep (new_below w12 (.cells #[.int .u64 p.a, .int .u64 p.b, .int .u64 p.c, .int .u64 p.d, .int .u64 p.e] 27))
  replace O := O.trans ((new_below w12 (.cells #[.int .u64 p.a, .int .u64 p.b, .int .u64 p.c, .int .u64 p.d, .int .u64 p.e] 27)).mono O.size)
  generalize w12.heap.size = gp at *
  generalize w12.alloc (.cells #[.int .u64 p.a, .int .u64 p.b, .int .u64 p.c, .int .u64 p.d, .int .u64 p.e] 27) = W12 at *
  refine region_cut (fun a0 a' w' => ∃ gq : Nat, a' = ((((((((a0.put (some 145) x.v).put (some 146) two.v).put (some 147) x2.v).put (some 148) (.tuple #[q.v, .bool true])).put (some 144) (.tuple #[q.v, .bool true])).put (some 149) q.v).put (some 150) (.bool true)).put (some 17) (.pointer (some ⟨gq, 0, none⟩))).put (some 18) (.bool true) ∧ EAt w' ga x ∧ EAt w' (gc + 1) zeroE ∧ EAt w' gp p ∧ EAt w' gq q ∧ Below w.heap.size w w') (by kernel_rfl) ?_ ?_
  rotate_left
  · intro hrest
    replace A := A.drew
    replace D := D.drew
    replace Pp := Pp.drew
    replace O := O.drew
    generalize W12.drew = W0 at *
    refine wpAny_ready (rs := [0, 1, 7]) (by kernel_rfl) (by simp) ?_
    refine ready_value x.v rfl rfl (run_load5 _ rfl (by kernel_rfl) A) ?_ ?_
    · skip
      refine wpAny_ready (rs := [1, 7]) (by kernel_rfl) (by simp) ?_
      refine ready_call 13 #[.int .u32 2] rfl rfl (by kernel_rfl) ?_ ?_
      · refine (F.two1 _).mono ?_
        rintro _ w102 ⟨rfl, hb102⟩
        refine ⟨_, rfl, ?_⟩
        replace A := A.keep hb102
        replace D := D.keep hb102
        replace Pp := Pp.keep hb102
        replace O := O.trans (hb102.mono O.size)
        clear hb102
        refine wpAny_ready (rs := [2, 7]) (by kernel_rfl) (by simp) ?_
        refine ready_call 23 #[x.v, two.v] rfl rfl (by kernel_rfl) ?_ ?_
        · refine (F.mul9 _).mono ?_
          rintro _ w103 ⟨rfl, hb103⟩
          refine ⟨_, rfl, ?_⟩
          replace A := A.keep hb103
          replace D := D.keep hb103
          replace Pp := Pp.keep hb103
          replace O := O.trans (hb103.mono O.size)
          clear hb103
          refine wpAny_ready (rs := [3, 7]) (by kernel_rfl) (by simp) ?_
          refine ready_call 27 #[x2.v] rfl rfl (by kernel_rfl) ?_ ?_
          · refine (F.r2 _).mono ?_
            rintro _ w104 ⟨rfl, hb104⟩
            refine ⟨_, rfl, ?_⟩
            replace A := A.keep hb104
            replace D := D.keep hb104
            replace Pp := Pp.keep hb104
            replace O := O.trans (hb104.mono O.size)
            clear hb104
            refine wpAny_take (i := 4) (v := .tuple #[q.v, .bool true]) rfl (by kernel_rfl) (by kernel_rfl) (by kernel_rfl) (fun _ _ _ h => h) (Or.inl ⟨by rfl, fun _ => by kernel_rfl⟩) ?_
            refine wpAny_take (i := 5) (v := q.v) rfl (by kernel_rfl) (by kernel_rfl) (by kernel_rfl) (fun _ _ _ h => h) (Or.inl ⟨by rfl, fun _ => by kernel_rfl⟩) ?_
            refine wpAny_take (i := 6) (v := .bool true) rfl (by kernel_rfl) (by kernel_rfl) (by kernel_rfl) (fun _ _ _ h => h) (Or.inl ⟨by rfl, fun _ => by kernel_rfl⟩) ?_
            refine wpAny_ready (rs := [7]) (by kernel_rfl) (by simp) ?_
            refine ready_alloc (.cells #[.int .u64 0, .int .u64 0, .int .u64 0, .int .u64 0, .int .u64 0] 27) rfl rfl (by kernel_rfl) ?_ ?_
            · have Qq : EAt (w104.alloc (.cells #[.int .u64 0, .int .u64 0, .int .u64 0, .int .u64 0, .int .u64 0] 27)) w104.heap.size zeroE := EAt.new w104 zeroE 27
              have sA := A.size
              have sD := D.size
              have sP := Pp.size
              have sO := O.size
              replace A := A.keep (new_below _ (.cells #[.int .u64 0, .int .u64 0, .int .u64 0, .int .u64 0, .int .u64 0] 27))
              replace D := D.keep (new_below _ (.cells #[.int .u64 0, .int .u64 0, .int .u64 0, .int .u64 0, .int .u64 0] 27))
              replace Pp := Pp.keep (new_below _ (.cells #[.int .u64 0, .int .u64 0, .int .u64 0, .int .u64 0, .int .u64 0] 27))
              replace O := O.trans ((new_below _ (.cells #[.int .u64 0, .int .u64 0, .int .u64 0, .int .u64 0, .int .u64 0] 27)).mono O.size)
              generalize w104.heap.size = gq at *
              generalize w104.alloc (.cells #[.int .u64 0, .int .u64 0, .int .u64 0, .int .u64 0, .int .u64 0] 27) = w105 at *
              refine wpAny_ready (rs := [8]) (by kernel_rfl) (by simp) ?_
              refine ready_skip (put5 w105 gq q) rfl rfl (run_store5 q _ _ rfl (by kernel_rfl) (by kernel_rfl) Qq) ?_ ?_
              · skip
                refine wpAny_ready (rs := [9]) (by kernel_rfl) (by simp) ?_
                refine ready_value (.bool true) rfl rfl (by kernel_rfl) ?_ ?_
                · skip
                  exact wpAny_done (by kernel_rfl) (hrest _ _ ⟨gq, by kernel_rfl, A.other (by omega) q, D.other (by omega) q, Pp.other (by omega) q, Qq.put q, five O (by omega)⟩) _
                exact AllReady.nil
              exact AllReady.nil
            exact AllReady.nil
          refine ready_alloc (.cells #[.int .u64 0, .int .u64 0, .int .u64 0, .int .u64 0, .int .u64 0] 27) rfl rfl (by kernel_rfl) ?_ ?_
          · have Qq : EAt (w103.alloc (.cells #[.int .u64 0, .int .u64 0, .int .u64 0, .int .u64 0, .int .u64 0] 27)) w103.heap.size zeroE := EAt.new w103 zeroE 27
            have sA := A.size
            have sD := D.size
            have sP := Pp.size
            have sO := O.size
            replace A := A.keep (new_below _ (.cells #[.int .u64 0, .int .u64 0, .int .u64 0, .int .u64 0, .int .u64 0] 27))
            replace D := D.keep (new_below _ (.cells #[.int .u64 0, .int .u64 0, .int .u64 0, .int .u64 0, .int .u64 0] 27))
            replace Pp := Pp.keep (new_below _ (.cells #[.int .u64 0, .int .u64 0, .int .u64 0, .int .u64 0, .int .u64 0] 27))
            replace O := O.trans ((new_below _ (.cells #[.int .u64 0, .int .u64 0, .int .u64 0, .int .u64 0, .int .u64 0] 27)).mono O.size)
            generalize w103.heap.size = gq at *
            generalize w103.alloc (.cells #[.int .u64 0, .int .u64 0, .int .u64 0, .int .u64 0, .int .u64 0] 27) = w108 at *
            refine wpAny_ready (rs := [3]) (by kernel_rfl) (by simp) ?_
            refine ready_call 27 #[x2.v] rfl rfl (by kernel_rfl) ?_ ?_
            · refine (F.r2 _).mono ?_
              rintro _ w109 ⟨rfl, hb109⟩
              refine ⟨_, rfl, ?_⟩
              replace A := A.keep hb109
              replace D := D.keep hb109
              replace Pp := Pp.keep hb109
              replace Qq := Qq.keep hb109
              replace O := O.trans (hb109.mono O.size)
              clear hb109
              refine wpAny_take (i := 4) (v := .tuple #[q.v, .bool true]) rfl (by kernel_rfl) (by kernel_rfl) (by kernel_rfl) (fun _ _ _ h => h) (Or.inl ⟨by rfl, fun _ => by kernel_rfl⟩) ?_
              refine wpAny_take (i := 5) (v := q.v) rfl (by kernel_rfl) (by kernel_rfl) (by kernel_rfl) (fun _ _ _ h => h) (Or.inl ⟨by rfl, fun _ => by kernel_rfl⟩) ?_
              refine wpAny_take (i := 6) (v := .bool true) rfl (by kernel_rfl) (by kernel_rfl) (by kernel_rfl) (fun _ _ _ h => h) (Or.inl ⟨by rfl, fun _ => by kernel_rfl⟩) ?_
              refine wpAny_ready (rs := [8]) (by kernel_rfl) (by simp) ?_
              refine ready_skip (put5 w109 gq q) rfl rfl (run_store5 q _ _ rfl (by kernel_rfl) (by kernel_rfl) Qq) ?_ ?_
              · skip
                refine wpAny_ready (rs := [9]) (by kernel_rfl) (by simp) ?_
                refine ready_value (.bool true) rfl rfl (by kernel_rfl) ?_ ?_
                · skip
                  exact wpAny_done (by kernel_rfl) (hrest _ _ ⟨gq, by kernel_rfl, A.other (by omega) q, D.other (by omega) q, Pp.other (by omega) q, Qq.put q, five O (by omega)⟩) _
                exact AllReady.nil
              exact AllReady.nil
            exact AllReady.nil
          exact AllReady.nil
        refine ready_alloc (.cells #[.int .u64 0, .int .u64 0, .int .u64 0, .int .u64 0, .int .u64 0] 27) rfl rfl (by kernel_rfl) ?_ ?_
        · have Qq : EAt (w102.alloc (.cells #[.int .u64 0, .int .u64 0, .int .u64 0, .int .u64 0, .int .u64 0] 27)) w102.heap.size zeroE := EAt.new w102 zeroE 27
          have sA := A.size
          have sD := D.size
          have sP := Pp.size
          have sO := O.size
          replace A := A.keep (new_below _ (.cells #[.int .u64 0, .int .u64 0, .int .u64 0, .int .u64 0, .int .u64 0] 27))
          replace D := D.keep (new_below _ (.cells #[.int .u64 0, .int .u64 0, .int .u64 0, .int .u64 0, .int .u64 0] 27))
          replace Pp := Pp.keep (new_below _ (.cells #[.int .u64 0, .int .u64 0, .int .u64 0, .int .u64 0, .int .u64 0] 27))
          replace O := O.trans ((new_below _ (.cells #[.int .u64 0, .int .u64 0, .int .u64 0, .int .u64 0, .int .u64 0] 27)).mono O.size)
          generalize w102.heap.size = gq at *
          generalize w102.alloc (.cells #[.int .u64 0, .int .u64 0, .int .u64 0, .int .u64 0, .int .u64 0] 27) = w112 at *
          refine wpAny_ready (rs := [2]) (by kernel_rfl) (by simp) ?_
          refine ready_call 23 #[x.v, two.v] rfl rfl (by kernel_rfl) ?_ ?_
          · refine (F.mul9 _).mono ?_
            rintro _ w113 ⟨rfl, hb113⟩
            refine ⟨_, rfl, ?_⟩
            replace A := A.keep hb113
            replace D := D.keep hb113
            replace Pp := Pp.keep hb113
            replace Qq := Qq.keep hb113
            replace O := O.trans (hb113.mono O.size)
            clear hb113
            refine wpAny_ready (rs := [3]) (by kernel_rfl) (by simp) ?_
            refine ready_call 27 #[x2.v] rfl rfl (by kernel_rfl) ?_ ?_
            · refine (F.r2 _).mono ?_
              rintro _ w114 ⟨rfl, hb114⟩
              refine ⟨_, rfl, ?_⟩
              replace A := A.keep hb114
              replace D := D.keep hb114
              replace Pp := Pp.keep hb114
              replace Qq := Qq.keep hb114
              replace O := O.trans (hb114.mono O.size)
              clear hb114
              refine wpAny_take (i := 4) (v := .tuple #[q.v, .bool true]) rfl (by kernel_rfl) (by kernel_rfl) (by kernel_rfl) (fun _ _ _ h => h) (Or.inl ⟨by rfl, fun _ => by kernel_rfl⟩) ?_
              refine wpAny_take (i := 5) (v := q.v) rfl (by kernel_rfl) (by kernel_rfl) (by kernel_rfl) (fun _ _ _ h => h) (Or.inl ⟨by rfl, fun _ => by kernel_rfl⟩) ?_
              refine wpAny_take (i := 6) (v := .bool true) rfl (by kernel_rfl) (by kernel_rfl) (by kernel_rfl) (fun _ _ _ h => h) (Or.inl ⟨by rfl, fun _ => by kernel_rfl⟩) ?_
              refine wpAny_ready (rs := [8]) (by kernel_rfl) (by simp) ?_
              refine ready_skip (put5 w114 gq q) rfl rfl (run_store5 q _ _ rfl (by kernel_rfl) (by kernel_rfl) Qq) ?_ ?_
              · skip
                refine wpAny_ready (rs := [9]) (by kernel_rfl) (by simp) ?_
                refine ready_value (.bool true) rfl rfl (by kernel_rfl) ?_ ?_
                · skip
                  exact wpAny_done (by kernel_rfl) (hrest _ _ ⟨gq, by kernel_rfl, A.other (by omega) q, D.other (by omega) q, Pp.other (by omega) q, Qq.put q, five O (by omega)⟩) _
                exact AllReady.nil
              exact AllReady.nil
            exact AllReady.nil
          exact AllReady.nil
        exact AllReady.nil
      refine ready_alloc (.cells #[.int .u64 0, .int .u64 0, .int .u64 0, .int .u64 0, .int .u64 0] 27) rfl rfl (by kernel_rfl) ?_ ?_
      · have Qq : EAt (W0.alloc (.cells #[.int .u64 0, .int .u64 0, .int .u64 0, .int .u64 0, .int .u64 0] 27)) W0.heap.size zeroE := EAt.new W0 zeroE 27
        have sA := A.size
        have sD := D.size
        have sP := Pp.size
        have sO := O.size
        replace A := A.keep (new_below _ (.cells #[.int .u64 0, .int .u64 0, .int .u64 0, .int .u64 0, .int .u64 0] 27))
        replace D := D.keep (new_below _ (.cells #[.int .u64 0, .int .u64 0, .int .u64 0, .int .u64 0, .int .u64 0] 27))
        replace Pp := Pp.keep (new_below _ (.cells #[.int .u64 0, .int .u64 0, .int .u64 0, .int .u64 0, .int .u64 0] 27))
        replace O := O.trans ((new_below _ (.cells #[.int .u64 0, .int .u64 0, .int .u64 0, .int .u64 0, .int .u64 0] 27)).mono O.size)
        generalize W0.heap.size = gq at *
        generalize W0.alloc (.cells #[.int .u64 0, .int .u64 0, .int .u64 0, .int .u64 0, .int .u64 0] 27) = w117 at *
        refine wpAny_ready (rs := [1]) (by kernel_rfl) (by simp) ?_
        refine ready_call 13 #[.int .u32 2] rfl rfl (by kernel_rfl) ?_ ?_
        · refine (F.two1 _).mono ?_
          rintro _ w118 ⟨rfl, hb118⟩
          refine ⟨_, rfl, ?_⟩
          replace A := A.keep hb118
          replace D := D.keep hb118
          replace Pp := Pp.keep hb118
          replace Qq := Qq.keep hb118
          replace O := O.trans (hb118.mono O.size)
          clear hb118
          refine wpAny_ready (rs := [2]) (by kernel_rfl) (by simp) ?_
          refine ready_call 23 #[x.v, two.v] rfl rfl (by kernel_rfl) ?_ ?_
          · refine (F.mul9 _).mono ?_
            rintro _ w119 ⟨rfl, hb119⟩
            refine ⟨_, rfl, ?_⟩
            replace A := A.keep hb119
            replace D := D.keep hb119
            replace Pp := Pp.keep hb119
            replace Qq := Qq.keep hb119
            replace O := O.trans (hb119.mono O.size)
            clear hb119
            refine wpAny_ready (rs := [3]) (by kernel_rfl) (by simp) ?_
            refine ready_call 27 #[x2.v] rfl rfl (by kernel_rfl) ?_ ?_
            · refine (F.r2 _).mono ?_
              rintro _ w120 ⟨rfl, hb120⟩
              refine ⟨_, rfl, ?_⟩
              replace A := A.keep hb120
              replace D := D.keep hb120
              replace Pp := Pp.keep hb120
              replace Qq := Qq.keep hb120
              replace O := O.trans (hb120.mono O.size)
              clear hb120
              refine wpAny_take (i := 4) (v := .tuple #[q.v, .bool true]) rfl (by kernel_rfl) (by kernel_rfl) (by kernel_rfl) (fun _ _ _ h => h) (Or.inl ⟨by rfl, fun _ => by kernel_rfl⟩) ?_
              refine wpAny_take (i := 5) (v := q.v) rfl (by kernel_rfl) (by kernel_rfl) (by kernel_rfl) (fun _ _ _ h => h) (Or.inl ⟨by rfl, fun _ => by kernel_rfl⟩) ?_
              refine wpAny_take (i := 6) (v := .bool true) rfl (by kernel_rfl) (by kernel_rfl) (by kernel_rfl) (fun _ _ _ h => h) (Or.inl ⟨by rfl, fun _ => by kernel_rfl⟩) ?_
              refine wpAny_ready (rs := [8]) (by kernel_rfl) (by simp) ?_
              refine ready_skip (put5 w120 gq q) rfl rfl (run_store5 q _ _ rfl (by kernel_rfl) (by kernel_rfl) Qq) ?_ ?_
              · skip
                refine wpAny_ready (rs := [9]) (by kernel_rfl) (by simp) ?_
                refine ready_value (.bool true) rfl rfl (by kernel_rfl) ?_ ?_
                · skip
                  exact wpAny_done (by kernel_rfl) (hrest _ _ ⟨gq, by kernel_rfl, A.other (by omega) q, D.other (by omega) q, Pp.other (by omega) q, Qq.put q, five O (by omega)⟩) _
                exact AllReady.nil
              exact AllReady.nil
            exact AllReady.nil
          exact AllReady.nil
        exact AllReady.nil
      exact AllReady.nil
    refine ready_call 13 #[.int .u32 2] rfl rfl (by kernel_rfl) ?_ ?_
    · refine (F.two1 _).mono ?_
      rintro _ w123 ⟨rfl, hb123⟩
      refine ⟨_, rfl, ?_⟩
      replace A := A.keep hb123
      replace D := D.keep hb123
      replace Pp := Pp.keep hb123
      replace O := O.trans (hb123.mono O.size)
      clear hb123
      refine wpAny_ready (rs := [0, 7]) (by kernel_rfl) (by simp) ?_
      refine ready_value x.v rfl rfl (run_load5 _ rfl (by kernel_rfl) A) ?_ ?_
      · skip
        refine wpAny_ready (rs := [2, 7]) (by kernel_rfl) (by simp) ?_
        refine ready_call 23 #[x.v, two.v] rfl rfl (by kernel_rfl) ?_ ?_
        · refine (F.mul9 _).mono ?_
          rintro _ w125 ⟨rfl, hb125⟩
          refine ⟨_, rfl, ?_⟩
          replace A := A.keep hb125
          replace D := D.keep hb125
          replace Pp := Pp.keep hb125
          replace O := O.trans (hb125.mono O.size)
          clear hb125
          refine wpAny_ready (rs := [3, 7]) (by kernel_rfl) (by simp) ?_
          refine ready_call 27 #[x2.v] rfl rfl (by kernel_rfl) ?_ ?_
          · refine (F.r2 _).mono ?_
            rintro _ w126 ⟨rfl, hb126⟩
            refine ⟨_, rfl, ?_⟩
            replace A := A.keep hb126
            replace D := D.keep hb126
            replace Pp := Pp.keep hb126
            replace O := O.trans (hb126.mono O.size)
            clear hb126
            refine wpAny_take (i := 4) (v := .tuple #[q.v, .bool true]) rfl (by kernel_rfl) (by kernel_rfl) (by kernel_rfl) (fun _ _ _ h => h) (Or.inl ⟨by rfl, fun _ => by kernel_rfl⟩) ?_
            refine wpAny_take (i := 5) (v := q.v) rfl (by kernel_rfl) (by kernel_rfl) (by kernel_rfl) (fun _ _ _ h => h) (Or.inl ⟨by rfl, fun _ => by kernel_rfl⟩) ?_
            refine wpAny_take (i := 6) (v := .bool true) rfl (by kernel_rfl) (by kernel_rfl) (by kernel_rfl) (fun _ _ _ h => h) (Or.inl ⟨by rfl, fun _ => by kernel_rfl⟩) ?_
            refine wpAny_ready (rs := [7]) (by kernel_rfl) (by simp) ?_
            refine ready_alloc (.cells #[.int .u64 0, .int .u64 0, .int .u64 0, .int .u64 0, .int .u64 0] 27) rfl rfl (by kernel_rfl) ?_ ?_
            · have Qq : EAt (w126.alloc (.cells #[.int .u64 0, .int .u64 0, .int .u64 0, .int .u64 0, .int .u64 0] 27)) w126.heap.size zeroE := EAt.new w126 zeroE 27
              have sA := A.size
              have sD := D.size
              have sP := Pp.size
              have sO := O.size
              replace A := A.keep (new_below _ (.cells #[.int .u64 0, .int .u64 0, .int .u64 0, .int .u64 0, .int .u64 0] 27))
              replace D := D.keep (new_below _ (.cells #[.int .u64 0, .int .u64 0, .int .u64 0, .int .u64 0, .int .u64 0] 27))
              replace Pp := Pp.keep (new_below _ (.cells #[.int .u64 0, .int .u64 0, .int .u64 0, .int .u64 0, .int .u64 0] 27))
              replace O := O.trans ((new_below _ (.cells #[.int .u64 0, .int .u64 0, .int .u64 0, .int .u64 0, .int .u64 0] 27)).mono O.size)
              generalize w126.heap.size = gq at *
              generalize w126.alloc (.cells #[.int .u64 0, .int .u64 0, .int .u64 0, .int .u64 0, .int .u64 0] 27) = w127 at *
              refine wpAny_ready (rs := [8]) (by kernel_rfl) (by simp) ?_
              refine ready_skip (put5 w127 gq q) rfl rfl (run_store5 q _ _ rfl (by kernel_rfl) (by kernel_rfl) Qq) ?_ ?_
              · skip
                refine wpAny_ready (rs := [9]) (by kernel_rfl) (by simp) ?_
                refine ready_value (.bool true) rfl rfl (by kernel_rfl) ?_ ?_
                · skip
                  exact wpAny_done (by kernel_rfl) (hrest _ _ ⟨gq, by kernel_rfl, A.other (by omega) q, D.other (by omega) q, Pp.other (by omega) q, Qq.put q, five O (by omega)⟩) _
                exact AllReady.nil
              exact AllReady.nil
            exact AllReady.nil
          refine ready_alloc (.cells #[.int .u64 0, .int .u64 0, .int .u64 0, .int .u64 0, .int .u64 0] 27) rfl rfl (by kernel_rfl) ?_ ?_
          · have Qq : EAt (w125.alloc (.cells #[.int .u64 0, .int .u64 0, .int .u64 0, .int .u64 0, .int .u64 0] 27)) w125.heap.size zeroE := EAt.new w125 zeroE 27
            have sA := A.size
            have sD := D.size
            have sP := Pp.size
            have sO := O.size
            replace A := A.keep (new_below _ (.cells #[.int .u64 0, .int .u64 0, .int .u64 0, .int .u64 0, .int .u64 0] 27))
            replace D := D.keep (new_below _ (.cells #[.int .u64 0, .int .u64 0, .int .u64 0, .int .u64 0, .int .u64 0] 27))
            replace Pp := Pp.keep (new_below _ (.cells #[.int .u64 0, .int .u64 0, .int .u64 0, .int .u64 0, .int .u64 0] 27))
            replace O := O.trans ((new_below _ (.cells #[.int .u64 0, .int .u64 0, .int .u64 0, .int .u64 0, .int .u64 0] 27)).mono O.size)
            generalize w125.heap.size = gq at *
            generalize w125.alloc (.cells #[.int .u64 0, .int .u64 0, .int .u64 0, .int .u64 0, .int .u64 0] 27) = w130 at *
            refine wpAny_ready (rs := [3]) (by kernel_rfl) (by simp) ?_
            refine ready_call 27 #[x2.v] rfl rfl (by kernel_rfl) ?_ ?_
            · refine (F.r2 _).mono ?_
              rintro _ w131 ⟨rfl, hb131⟩
              refine ⟨_, rfl, ?_⟩
              replace A := A.keep hb131
              replace D := D.keep hb131
              replace Pp := Pp.keep hb131
              replace Qq := Qq.keep hb131
              replace O := O.trans (hb131.mono O.size)
              clear hb131
              refine wpAny_take (i := 4) (v := .tuple #[q.v, .bool true]) rfl (by kernel_rfl) (by kernel_rfl) (by kernel_rfl) (fun _ _ _ h => h) (Or.inl ⟨by rfl, fun _ => by kernel_rfl⟩) ?_
              refine wpAny_take (i := 5) (v := q.v) rfl (by kernel_rfl) (by kernel_rfl) (by kernel_rfl) (fun _ _ _ h => h) (Or.inl ⟨by rfl, fun _ => by kernel_rfl⟩) ?_
              refine wpAny_take (i := 6) (v := .bool true) rfl (by kernel_rfl) (by kernel_rfl) (by kernel_rfl) (fun _ _ _ h => h) (Or.inl ⟨by rfl, fun _ => by kernel_rfl⟩) ?_
              refine wpAny_ready (rs := [8]) (by kernel_rfl) (by simp) ?_
              refine ready_skip (put5 w131 gq q) rfl rfl (run_store5 q _ _ rfl (by kernel_rfl) (by kernel_rfl) Qq) ?_ ?_
              · skip
                refine wpAny_ready (rs := [9]) (by kernel_rfl) (by simp) ?_
                refine ready_value (.bool true) rfl rfl (by kernel_rfl) ?_ ?_
                · skip
                  exact wpAny_done (by kernel_rfl) (hrest _ _ ⟨gq, by kernel_rfl, A.other (by omega) q, D.other (by omega) q, Pp.other (by omega) q, Qq.put q, five O (by omega)⟩) _
                exact AllReady.nil
              exact AllReady.nil
            exact AllReady.nil
          exact AllReady.nil
        refine ready_alloc (.cells #[.int .u64 0, .int .u64 0, .int .u64 0, .int .u64 0, .int .u64 0] 27) rfl rfl (by kernel_rfl) ?_ ?_
        · have Qq : EAt (w123.alloc (.cells #[.int .u64 0, .int .u64 0, .int .u64 0, .int .u64 0, .int .u64 0] 27)) w123.heap.size zeroE := EAt.new w123 zeroE 27
          have sA := A.size
          have sD := D.size
          have sP := Pp.size
          have sO := O.size
          replace A := A.keep (new_below _ (.cells #[.int .u64 0, .int .u64 0, .int .u64 0, .int .u64 0, .int .u64 0] 27))
          replace D := D.keep (new_below _ (.cells #[.int .u64 0, .int .u64 0, .int .u64 0, .int .u64 0, .int .u64 0] 27))
          replace Pp := Pp.keep (new_below _ (.cells #[.int .u64 0, .int .u64 0, .int .u64 0, .int .u64 0, .int .u64 0] 27))
          replace O := O.trans ((new_below _ (.cells #[.int .u64 0, .int .u64 0, .int .u64 0, .int .u64 0, .int .u64 0] 27)).mono O.size)
          generalize w123.heap.size = gq at *
          generalize w123.alloc (.cells #[.int .u64 0, .int .u64 0, .int .u64 0, .int .u64 0, .int .u64 0] 27) = w134 at *
          refine wpAny_ready (rs := [2]) (by kernel_rfl) (by simp) ?_
          refine ready_call 23 #[x.v, two.v] rfl rfl (by kernel_rfl) ?_ ?_
          · refine (F.mul9 _).mono ?_
            rintro _ w135 ⟨rfl, hb135⟩
            refine ⟨_, rfl, ?_⟩
            replace A := A.keep hb135
            replace D := D.keep hb135
            replace Pp := Pp.keep hb135
            replace Qq := Qq.keep hb135
            replace O := O.trans (hb135.mono O.size)
            clear hb135
            refine wpAny_ready (rs := [3]) (by kernel_rfl) (by simp) ?_
            refine ready_call 27 #[x2.v] rfl rfl (by kernel_rfl) ?_ ?_
            · refine (F.r2 _).mono ?_
              rintro _ w136 ⟨rfl, hb136⟩
              refine ⟨_, rfl, ?_⟩
              replace A := A.keep hb136
              replace D := D.keep hb136
              replace Pp := Pp.keep hb136
              replace Qq := Qq.keep hb136
              replace O := O.trans (hb136.mono O.size)
              clear hb136
              refine wpAny_take (i := 4) (v := .tuple #[q.v, .bool true]) rfl (by kernel_rfl) (by kernel_rfl) (by kernel_rfl) (fun _ _ _ h => h) (Or.inl ⟨by rfl, fun _ => by kernel_rfl⟩) ?_
              refine wpAny_take (i := 5) (v := q.v) rfl (by kernel_rfl) (by kernel_rfl) (by kernel_rfl) (fun _ _ _ h => h) (Or.inl ⟨by rfl, fun _ => by kernel_rfl⟩) ?_
              refine wpAny_take (i := 6) (v := .bool true) rfl (by kernel_rfl) (by kernel_rfl) (by kernel_rfl) (fun _ _ _ h => h) (Or.inl ⟨by rfl, fun _ => by kernel_rfl⟩) ?_
              refine wpAny_ready (rs := [8]) (by kernel_rfl) (by simp) ?_
              refine ready_skip (put5 w136 gq q) rfl rfl (run_store5 q _ _ rfl (by kernel_rfl) (by kernel_rfl) Qq) ?_ ?_
              · skip
                refine wpAny_ready (rs := [9]) (by kernel_rfl) (by simp) ?_
                refine ready_value (.bool true) rfl rfl (by kernel_rfl) ?_ ?_
                · skip
                  exact wpAny_done (by kernel_rfl) (hrest _ _ ⟨gq, by kernel_rfl, A.other (by omega) q, D.other (by omega) q, Pp.other (by omega) q, Qq.put q, five O (by omega)⟩) _
                exact AllReady.nil
              exact AllReady.nil
            exact AllReady.nil
          exact AllReady.nil
        exact AllReady.nil
      refine ready_alloc (.cells #[.int .u64 0, .int .u64 0, .int .u64 0, .int .u64 0, .int .u64 0] 27) rfl rfl (by kernel_rfl) ?_ ?_
      · have Qq : EAt (w123.alloc (.cells #[.int .u64 0, .int .u64 0, .int .u64 0, .int .u64 0, .int .u64 0] 27)) w123.heap.size zeroE := EAt.new w123 zeroE 27
        have sA := A.size
        have sD := D.size
        have sP := Pp.size
        have sO := O.size
        replace A := A.keep (new_below _ (.cells #[.int .u64 0, .int .u64 0, .int .u64 0, .int .u64 0, .int .u64 0] 27))
        replace D := D.keep (new_below _ (.cells #[.int .u64 0, .int .u64 0, .int .u64 0, .int .u64 0, .int .u64 0] 27))
        replace Pp := Pp.keep (new_below _ (.cells #[.int .u64 0, .int .u64 0, .int .u64 0, .int .u64 0, .int .u64 0] 27))
        replace O := O.trans ((new_below _ (.cells #[.int .u64 0, .int .u64 0, .int .u64 0, .int .u64 0, .int .u64 0] 27)).mono O.size)
        generalize w123.heap.size = gq at *
        generalize w123.alloc (.cells #[.int .u64 0, .int .u64 0, .int .u64 0, .int .u64 0, .int .u64 0] 27) = w139 at *
        refine wpAny_ready (rs := [0]) (by kernel_rfl) (by simp) ?_
        refine ready_value x.v rfl rfl (run_load5 _ rfl (by kernel_rfl) A) ?_ ?_
        · skip
          refine wpAny_ready (rs := [2]) (by kernel_rfl) (by simp) ?_
          refine ready_call 23 #[x.v, two.v] rfl rfl (by kernel_rfl) ?_ ?_
          · refine (F.mul9 _).mono ?_
            rintro _ w141 ⟨rfl, hb141⟩
            refine ⟨_, rfl, ?_⟩
            replace A := A.keep hb141
            replace D := D.keep hb141
            replace Pp := Pp.keep hb141
            replace Qq := Qq.keep hb141
            replace O := O.trans (hb141.mono O.size)
            clear hb141
            refine wpAny_ready (rs := [3]) (by kernel_rfl) (by simp) ?_
            refine ready_call 27 #[x2.v] rfl rfl (by kernel_rfl) ?_ ?_
            · refine (F.r2 _).mono ?_
              rintro _ w142 ⟨rfl, hb142⟩
              refine ⟨_, rfl, ?_⟩
              replace A := A.keep hb142
              replace D := D.keep hb142
              replace Pp := Pp.keep hb142
              replace Qq := Qq.keep hb142
              replace O := O.trans (hb142.mono O.size)
              clear hb142
              refine wpAny_take (i := 4) (v := .tuple #[q.v, .bool true]) rfl (by kernel_rfl) (by kernel_rfl) (by kernel_rfl) (fun _ _ _ h => h) (Or.inl ⟨by rfl, fun _ => by kernel_rfl⟩) ?_
              refine wpAny_take (i := 5) (v := q.v) rfl (by kernel_rfl) (by kernel_rfl) (by kernel_rfl) (fun _ _ _ h => h) (Or.inl ⟨by rfl, fun _ => by kernel_rfl⟩) ?_
              refine wpAny_take (i := 6) (v := .bool true) rfl (by kernel_rfl) (by kernel_rfl) (by kernel_rfl) (fun _ _ _ h => h) (Or.inl ⟨by rfl, fun _ => by kernel_rfl⟩) ?_
              refine wpAny_ready (rs := [8]) (by kernel_rfl) (by simp) ?_
              refine ready_skip (put5 w142 gq q) rfl rfl (run_store5 q _ _ rfl (by kernel_rfl) (by kernel_rfl) Qq) ?_ ?_
              · skip
                refine wpAny_ready (rs := [9]) (by kernel_rfl) (by simp) ?_
                refine ready_value (.bool true) rfl rfl (by kernel_rfl) ?_ ?_
                · skip
                  exact wpAny_done (by kernel_rfl) (hrest _ _ ⟨gq, by kernel_rfl, A.other (by omega) q, D.other (by omega) q, Pp.other (by omega) q, Qq.put q, five O (by omega)⟩) _
                exact AllReady.nil
              exact AllReady.nil
            exact AllReady.nil
          exact AllReady.nil
        exact AllReady.nil
      exact AllReady.nil
    refine ready_alloc (.cells #[.int .u64 0, .int .u64 0, .int .u64 0, .int .u64 0, .int .u64 0] 27) rfl rfl (by kernel_rfl) ?_ ?_
    · have Qq : EAt (W0.alloc (.cells #[.int .u64 0, .int .u64 0, .int .u64 0, .int .u64 0, .int .u64 0] 27)) W0.heap.size zeroE := EAt.new W0 zeroE 27
      have sA := A.size
      have sD := D.size
      have sP := Pp.size
      have sO := O.size
      replace A := A.keep (new_below _ (.cells #[.int .u64 0, .int .u64 0, .int .u64 0, .int .u64 0, .int .u64 0] 27))
      replace D := D.keep (new_below _ (.cells #[.int .u64 0, .int .u64 0, .int .u64 0, .int .u64 0, .int .u64 0] 27))
      replace Pp := Pp.keep (new_below _ (.cells #[.int .u64 0, .int .u64 0, .int .u64 0, .int .u64 0, .int .u64 0] 27))
      replace O := O.trans ((new_below _ (.cells #[.int .u64 0, .int .u64 0, .int .u64 0, .int .u64 0, .int .u64 0] 27)).mono O.size)
      generalize W0.heap.size = gq at *
      generalize W0.alloc (.cells #[.int .u64 0, .int .u64 0, .int .u64 0, .int .u64 0, .int .u64 0] 27) = w145 at *
      refine wpAny_ready (rs := [0, 1]) (by kernel_rfl) (by simp) ?_
      refine ready_value x.v rfl rfl (run_load5 _ rfl (by kernel_rfl) A) ?_ ?_
      · skip
        refine wpAny_ready (rs := [1]) (by kernel_rfl) (by simp) ?_
        refine ready_call 13 #[.int .u32 2] rfl rfl (by kernel_rfl) ?_ ?_
        · refine (F.two1 _).mono ?_
          rintro _ w147 ⟨rfl, hb147⟩
          refine ⟨_, rfl, ?_⟩
          replace A := A.keep hb147
          replace D := D.keep hb147
          replace Pp := Pp.keep hb147
          replace Qq := Qq.keep hb147
          replace O := O.trans (hb147.mono O.size)
          clear hb147
          refine wpAny_ready (rs := [2]) (by kernel_rfl) (by simp) ?_
          refine ready_call 23 #[x.v, two.v] rfl rfl (by kernel_rfl) ?_ ?_
          · refine (F.mul9 _).mono ?_
            rintro _ w148 ⟨rfl, hb148⟩
            refine ⟨_, rfl, ?_⟩
            replace A := A.keep hb148
            replace D := D.keep hb148
            replace Pp := Pp.keep hb148
            replace Qq := Qq.keep hb148
            replace O := O.trans (hb148.mono O.size)
            clear hb148
            refine wpAny_ready (rs := [3]) (by kernel_rfl) (by simp) ?_
            refine ready_call 27 #[x2.v] rfl rfl (by kernel_rfl) ?_ ?_
            · refine (F.r2 _).mono ?_
              rintro _ w149 ⟨rfl, hb149⟩
              refine ⟨_, rfl, ?_⟩
              replace A := A.keep hb149
              replace D := D.keep hb149
              replace Pp := Pp.keep hb149
              replace Qq := Qq.keep hb149
              replace O := O.trans (hb149.mono O.size)
              clear hb149
              refine wpAny_take (i := 4) (v := .tuple #[q.v, .bool true]) rfl (by kernel_rfl) (by kernel_rfl) (by kernel_rfl) (fun _ _ _ h => h) (Or.inl ⟨by rfl, fun _ => by kernel_rfl⟩) ?_
              refine wpAny_take (i := 5) (v := q.v) rfl (by kernel_rfl) (by kernel_rfl) (by kernel_rfl) (fun _ _ _ h => h) (Or.inl ⟨by rfl, fun _ => by kernel_rfl⟩) ?_
              refine wpAny_take (i := 6) (v := .bool true) rfl (by kernel_rfl) (by kernel_rfl) (by kernel_rfl) (fun _ _ _ h => h) (Or.inl ⟨by rfl, fun _ => by kernel_rfl⟩) ?_
              refine wpAny_ready (rs := [8]) (by kernel_rfl) (by simp) ?_
              refine ready_skip (put5 w149 gq q) rfl rfl (run_store5 q _ _ rfl (by kernel_rfl) (by kernel_rfl) Qq) ?_ ?_
              · skip
                refine wpAny_ready (rs := [9]) (by kernel_rfl) (by simp) ?_
                refine ready_value (.bool true) rfl rfl (by kernel_rfl) ?_ ?_
                · skip
                  exact wpAny_done (by kernel_rfl) (hrest _ _ ⟨gq, by kernel_rfl, A.other (by omega) q, D.other (by omega) q, Pp.other (by omega) q, Qq.put q, five O (by omega)⟩) _
                exact AllReady.nil
              exact AllReady.nil
            exact AllReady.nil
          exact AllReady.nil
        exact AllReady.nil
      refine ready_call 13 #[.int .u32 2] rfl rfl (by kernel_rfl) ?_ ?_
      · refine (F.two1 _).mono ?_
        rintro _ w152 ⟨rfl, hb152⟩
        refine ⟨_, rfl, ?_⟩
        replace A := A.keep hb152
        replace D := D.keep hb152
        replace Pp := Pp.keep hb152
        replace Qq := Qq.keep hb152
        replace O := O.trans (hb152.mono O.size)
        clear hb152
        refine wpAny_ready (rs := [0]) (by kernel_rfl) (by simp) ?_
        refine ready_value x.v rfl rfl (run_load5 _ rfl (by kernel_rfl) A) ?_ ?_
        · skip
          refine wpAny_ready (rs := [2]) (by kernel_rfl) (by simp) ?_
          refine ready_call 23 #[x.v, two.v] rfl rfl (by kernel_rfl) ?_ ?_
          · refine (F.mul9 _).mono ?_
            rintro _ w154 ⟨rfl, hb154⟩
            refine ⟨_, rfl, ?_⟩
            replace A := A.keep hb154
            replace D := D.keep hb154
            replace Pp := Pp.keep hb154
            replace Qq := Qq.keep hb154
            replace O := O.trans (hb154.mono O.size)
            clear hb154
            refine wpAny_ready (rs := [3]) (by kernel_rfl) (by simp) ?_
            refine ready_call 27 #[x2.v] rfl rfl (by kernel_rfl) ?_ ?_
            · refine (F.r2 _).mono ?_
              rintro _ w155 ⟨rfl, hb155⟩
              refine ⟨_, rfl, ?_⟩
              replace A := A.keep hb155
              replace D := D.keep hb155
              replace Pp := Pp.keep hb155
              replace Qq := Qq.keep hb155
              replace O := O.trans (hb155.mono O.size)
              clear hb155
              refine wpAny_take (i := 4) (v := .tuple #[q.v, .bool true]) rfl (by kernel_rfl) (by kernel_rfl) (by kernel_rfl) (fun _ _ _ h => h) (Or.inl ⟨by rfl, fun _ => by kernel_rfl⟩) ?_
              refine wpAny_take (i := 5) (v := q.v) rfl (by kernel_rfl) (by kernel_rfl) (by kernel_rfl) (fun _ _ _ h => h) (Or.inl ⟨by rfl, fun _ => by kernel_rfl⟩) ?_
              refine wpAny_take (i := 6) (v := .bool true) rfl (by kernel_rfl) (by kernel_rfl) (by kernel_rfl) (fun _ _ _ h => h) (Or.inl ⟨by rfl, fun _ => by kernel_rfl⟩) ?_
              refine wpAny_ready (rs := [8]) (by kernel_rfl) (by simp) ?_
              refine ready_skip (put5 w155 gq q) rfl rfl (run_store5 q _ _ rfl (by kernel_rfl) (by kernel_rfl) Qq) ?_ ?_
              · skip
                refine wpAny_ready (rs := [9]) (by kernel_rfl) (by simp) ?_
                refine ready_value (.bool true) rfl rfl (by kernel_rfl) ?_ ?_
                · skip
                  exact wpAny_done (by kernel_rfl) (hrest _ _ ⟨gq, by kernel_rfl, A.other (by omega) q, D.other (by omega) q, Pp.other (by omega) q, Qq.put q, five O (by omega)⟩) _
                exact AllReady.nil
              exact AllReady.nil
            exact AllReady.nil
          exact AllReady.nil
        exact AllReady.nil
      exact AllReady.nil
    exact AllReady.nil
  clear A D Pp O
  rintro _ W14 ⟨gq, rfl, A, D, Pp, Qq, O⟩
  go_simp
  have A2 := A
  have D2 := D
  obtain ⟨asz, af, a0, a1, a2, a3, a4⟩ := A2
  obtain ⟨dsz, df, d0, d1, d2, d3, d4⟩ := D2
  have HO := hide O
  clear O
  go_wp2_with fail
  refine (F.s8 _).mono ?_
  rintro _ w15 ⟨rfl, hb⟩
  clear asz af a0 a1 a2 a3 a4 dsz df d0 d1 d2 d3 d4
  replace A := A.keep hb
  replace D := D.keep hb
  replace Pp := Pp.keep hb
  replace Qq := Qq.keep hb
  have O := HO.out.trans (hb.mono HO.out.size)
  clear HO hb
  obtain ⟨ppqsz, ppqf, ppq0, ppq1, ppq2, ppq3, ppq4⟩ := Pp
  obtain ⟨dqsz, dqf, dq0, dq1, dq2, dq3, dq4⟩ := D
  have HO := hide O
  clear O
  go_wp2_with fail
  refine (F.z1 rfl _).mono ?_
  rintro _ w16 ⟨rfl, hb⟩
  have Pp := EAt.keep ⟨ppqsz, ppqf, ppq0, ppq1, ppq2, ppq3, ppq4⟩ hb
  have D := EAt.keep ⟨dqsz, dqf, dq0, dq1, dq2, dq3, dq4⟩ hb
  replace A := A.keep hb
  replace Qq := Qq.keep hb
  clear ppqsz ppqf ppq0 ppq1 ppq2 ppq3 ppq4
  clear dqsz dqf dq0 dq1 dq2 dq3 dq4
  have O := HO.out.trans (hb.mono HO.out.size)
  clear HO hb
  obtain ⟨qqqsz, qqqf, qqq0, qqq1, qqq2, qqq3, qqq4⟩ := Qq
  obtain ⟨dqsz, dqf, dq0, dq1, dq2, dq3, dq4⟩ := D
  have HO := hide O
  clear O
  go_wp2_with fail
  refine (F.z2 rfl _).mono ?_
  rintro _ w17 ⟨rfl, hb⟩
  have Qq := EAt.keep ⟨qqqsz, qqqf, qqq0, qqq1, qqq2, qqq3, qqq4⟩ hb
  have D := EAt.keep ⟨dqsz, dqf, dq0, dq1, dq2, dq3, dq4⟩ hb
  replace A := A.keep hb
  replace Pp := Pp.keep hb
  clear qqqsz qqqf qqq0 qqq1 qqq2 qqq3 qqq4
  clear dqsz dqf dq0 dq1 dq2 dq3 dq4
  have O := HO.out.trans (hb.mono HO.out.size)
  clear HO hb
  have HO := hide O
  clear O
  go_wp2_with fail
  refine (alive_any _).mono ?_
  rintro _ w18 ⟨rfl, hb⟩
  replace A := A.keep hb
  replace D := D.keep hb
  replace Pp := Pp.keep hb
  replace Qq := Qq.keep hb
  have O := HO.out.trans (hb.mono HO.out.size)
  clear HO hb
  go_wp2
  go_ret
  exact ⟨rfl, O⟩

end Go.Proofs.Ytamokcoobfmogaa
