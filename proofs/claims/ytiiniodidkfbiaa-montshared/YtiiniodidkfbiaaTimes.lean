/- The contract of times: the ladder's 255 steps. -/
import Derived.Test.YtiiniodidkfbiaaLad
import Derived.Test.YtiiniodidkfbiaaPlain
import Derived.Deep.Cut
namespace Go.Proofs.Ytiiniodidkfbiaa
open Go.RowKit

theorem setAll_arr (cs : Array Value) (o n : Nat) (f : Nat → Int) (N : Nat) (F : Nat → Int) (hcs : cs = arr N F) (h : o + n ≤ N) : setAll cs o (arr n f).toList = arr N (fun i => if o ≤ i ∧ i < o + n then f (i - o) else F i) := by
  subst hcs
  apply Array.ext_getElem?
  intro i
  rw [setAll_get _ _ _ _ (by simp [arr_size]; omega)]
  have hl : (arr n f).toList.length = n := by simp [arr_size]
  rw [hl]
  by_cases hi : i < N
  · by_cases h1 : o ≤ i ∧ i < o + n
    · rw [if_pos h1, Array.getElem?_toList, arr_get n f (i - o) (by omega), arr_get N _ i hi, if_pos h1]
    · rw [if_neg h1, arr_get N F i hi, arr_get N (fun i => if o ≤ i ∧ i < o + n then f (i - o) else F i) i hi, if_neg h1]
  · rw [if_neg (by omega), Array.getElem?_eq_none (by rw [arr_size]; omega), Array.getElem?_eq_none (by rw [arr_size]; omega)]

theorem Row.mid {W : World} {g : Nat} {T : TypeId} {N : Nat} {F : Nat → Int} (h : Row W g T N F) (o n : Nat) (f : Nat → Int) (hon : o + n ≤ N) : Row (W.setCells g o (arr n f).toList) g T N (fun i => if o ≤ i ∧ i < o + n then f (i - o) else F i) := by
  unfold Row
  rw [heap_setCells g T _ W (arr N F) o h, setAll_arr _ o n f N F rfl hon]
theorem Row.thereAt {W : World} {g : Nat} {T : TypeId} {N : Nat} {F : Nat → Int} (h : Row W g T N F) (o n : Nat) (hon : o + n ≤ N) : W.there g o n := fun j hj => by
  rw [h.cell (i := o + j) (by omega)]
  exact ⟨rfl, h.free _⟩

section
variable {P : Program} {ops : Array Oper} {md : Region.Mode} {Q : Exit → Act → World → Prop}
theorem ready_part {fuel : Nat} {listed : Array Bool} {a : Act} {w : World} {i : Nat} {o : Oper} {rs : List Nat} (ho : ops[i]? = some o) (hgd : o.guard = none) (ty : TypeId) (x : Operand) (hop : o.op = .load ty x) (g off : Nat) (hx : a.eval x = .pointer (some ⟨g, off, none⟩)) (k : Nat) (f : Nat → Int)
    (hr : w.rangeAt g off (arr k f).toList) (d : TypeDesc) (hu : P.underlying ty = some d) (hd : d.isRow = true) (hi : (P.info? ty).map (·.size) = some k)
    (h : wpAny P md ops Q fuel (listed.setIfInBounds i true) (a.put o.dst (.agg (arr k f))) w) (hs : AllReady P md ops Q fuel listed a w rs) : AllReady P md ops Q fuel listed a w (i :: rs) :=
  ready_step ho hgd (wp_load_mid ty x hop g off hx (arr k f).toList d hr hu hd (by rw [hi]; simp [arr_size]) (by simpa using h)) hs

theorem ready_puts {fuel : Nat} {listed : Array Bool} {a : Act} {w : World} {i : Nat} {o : Oper} {rs : List Nat} {b T N : Nat} {F : Nat → Int} (R : Row w b T N F) (off n : Nat) (f : Nat → Int) (hon : off + n ≤ N) (ho : ops[i]? = some o) (hgd : o.guard = none) (ty : TypeId) (x y : Operand) (hop : o.op = .store ty x y)
    (hx : a.eval x = .pointer (some ⟨b, off, none⟩)) (hy : a.eval y = .agg (arr n f)) (hi : (P.info? ty).map (·.size) = some (arr n f).size)
    (h : ∀ w', Row w' b T N (fun i => if off ≤ i ∧ i < off + n then f (i - off) else F i) → (∀ k, k ≠ b → w'.heap[k]? = w.heap[k]?) → (∀ B u, B ≤ b → Below B u w → Below B u w') → wpAny P md ops Q fuel (listed.setIfInBounds i true) (a.put o.dst undef) w') (hs : AllReady P md ops Q fuel listed a w rs) : AllReady P md ops Q fuel listed a w (i :: rs) :=
  ready_store ho hgd ty x y hop b off (arr n f) hx hy (by rw [arr_size]; exact R.thereAt off n hon) hi (arr_one _ _) (h _ (R.mid off n f hon) (fun k hk => heap_setCells_other b k hk _ _ _) (fun B u hB hu => below_setCells hB _ off hu)) hs
end

theorem quiet_part {P : Program} {C : World → Prop} {o : Oper} {a : Act} {K : Act → Prop} (ty : TypeId) (x : Operand) (ho : o.op = .load ty x) (g off : Nat) (hx : a.eval x = .pointer (some ⟨g, off, none⟩)) (k : Nat) (f : Nat → Int)
    (hr : ∀ w, C w → w.rangeAt g off (arr k f).toList) (d : TypeDesc) (hu : P.underlying ty = some d) (hd : d.isRow = true) (hi : (P.info? ty).map (·.size) = some k) (hk : K (a.put o.dst (.agg (arr k f)))) : o.quiet P a C K := by
  refine ⟨.agg (arr k f), fun w hw => ?_, hk⟩
  unfold Oper.quietAt execOp
  have hl := run_loadAt_mid (P := P) w g off ty (arr k f).toList d (hr w hw) hu hd (by rw [hi]; simp [arr_size])
  simp only [ho, hx, Sem.run_bind, hl, Result.andThen_ok, Sem.run_pure]
  exact ⟨rfl, by simp⟩

/-- Both points of the ladder, behind k steps. -/
def ladF (s : ByteArray) (x : E5) : Nat → St
  | 0 => ⟨smallF 1, zeroE, x, smallF 1⟩
  | k + 1 => if bit s (254 - k) = 0 then stepF (ladF s x k).dx (ladF s x k).dz (ladF s x k).px (ladF s x k).pz x
    else ⟨(stepF (ladF s x k).px (ladF s x k).pz (ladF s x k).dx (ladF s x k).dz x).px, (stepF (ladF s x k).px (ladF s x k).pz (ladF s x k).dx (ladF s x k).dz x).pz, (stepF (ladF s x k).px (ladF s x k).pz (ladF s x k).dx (ladF s x k).dz x).dx, (stepF (ladF s x k).px (ladF s x k).pz (ladF s x k).dx (ladF s x k).dz x).dz⟩

theorem ladF_ok (s : ByteArray) {x : E5} (hx : x.Ok) : ∀ k, (ladF s x k).Ok
  | 0 => ⟨smallF_ok (by decide) (by decide), zeroE_ok, hx, smallF_ok (by decide) (by decide)⟩
  | k + 1 => by
    have ih := ladF_ok s hx k
    unfold ladF
    by_cases h : bit s (254 - k) = 0
    · rw [if_pos h]
      exact stepF_ok ih.dx ih.dz ih.px ih.pz hx
    · rw [if_neg h]
      have := stepF_ok ih.px ih.pz ih.dx ih.dz hx
      exact ⟨this.px, this.pz, this.dx, this.dz⟩

theorem info55 : (Try.prog.info? 55).map (·.size) = some 20 := by kernel_rfl
/-- The words of two points. -/
def qj (p q : Nat → Int) : Nat → Int := fun i => if i < 10 then p i else q (i - 10)
def qs (l : St) : Nat → Int := qj (pj l.dx.f l.dz.f) (pj l.px.f l.pz.f)

theorem Row.q0 {W : World} {g : Nat} {p q : Nat → Int} (h : Row W g 55 20 (qj p q)) : W.rangeAt g 0 (arr 10 p).toList :=
  h.range 0 10 p (by omega) fun i hi => by simp [qj, hi]
theorem Row.q1 {W : World} {g : Nat} {p q : Nat → Int} (h : Row W g 55 20 (qj p q)) : W.rangeAt g 10 (arr 10 q).toList :=
  h.range 10 10 q (by omega) fun i hi => by
    unfold qj
    rw [if_neg (by omega), show 10 + i - 10 = i by omega]
theorem Row.q0x {W : World} {g : Nat} {x z q : Nat → Int} (h : Row W g 55 20 (qj (pj x z) q)) : W.rangeAt g 0 (arr 5 x).toList :=
  h.range 0 5 x (by omega) fun i hi => by
    unfold qj pj
    rw [if_pos (by omega), if_pos (by omega), Nat.zero_add]
theorem Row.q0z {W : World} {g : Nat} {x z q : Nat → Int} (h : Row W g 55 20 (qj (pj x z) q)) : W.rangeAt g 5 (arr 5 z).toList :=
  h.range 5 5 z (by omega) fun i hi => by
    unfold qj pj
    rw [if_pos (by omega), if_neg (by omega), show 5 + i - 5 = i by omega]

theorem qj01 (p q d b : Nat → Int) (i : Nat) (hi : i < 20) : (if 10 ≤ i ∧ i < 10 + 10 then b (i - 10) else if 0 ≤ i ∧ i < 0 + 10 then d (i - 0) else qj p q i) = qj d b i := by
  unfold qj
  by_cases h : i < 10
  · rw [if_neg (by omega), if_pos (by omega), if_pos h, Nat.sub_zero]
  · rw [if_pos (by omega), if_neg h]
theorem qj10 (p q d b : Nat → Int) (i : Nat) (hi : i < 20) : (if 0 ≤ i ∧ i < 0 + 10 then b (i - 0) else if 10 ≤ i ∧ i < 10 + 10 then d (i - 10) else qj p q i) = qj b d i := by
  unfold qj
  by_cases h : i < 10
  · rw [if_pos (by omega), if_pos h, Nat.sub_zero]
  · rw [if_neg (by omega), if_pos (by omega), if_neg h]


set_option maxRecDepth 100000 in
set_option maxHeartbeats 8000000 in
theorem times_any (s : ByteArray) (e : E5) (w : World) (hs : s.size = 32) (hx : e.Ok) :
    Calls Try.prog 16 #[.string s, .agg (arr 5 e.f)] w fun r w' => r = .returned (.agg (arr 5 (mulF (ladF s e 255).dx (invF (ladF s e 255).dz)).f)) ∧ Below w.heap.size w w' := by
  have HS : Hid (∀ w, Calls Try.prog 20 #[.int .u32 1] w fun r w' => r = .returned (.agg (arr 5 (smallF 1).f)) ∧ Below w.heap.size w w') := hide fun w => small_any 1 w (by decide) (by decide)
  have RX : Row ((w.alloc (.cells (arr 5 e.f) 41)).alloc (.cells #[Value.int IntKind.u64 0, Value.int IntKind.u64 0, Value.int IntKind.u64 0, Value.int IntKind.u64 0, Value.int IntKind.u64 0] 41)) w.heap.size 41 5 e.f := (Row.new w 41 5 _).alloc _
  have RZ : Row ((w.alloc (.cells (arr 5 e.f) 41)).alloc (.cells #[Value.int IntKind.u64 0, Value.int IntKind.u64 0, Value.int IntKind.u64 0, Value.int IntKind.u64 0, Value.int IntKind.u64 0] 41)) (w.heap.size + 1) 41 5 (fun _ => 0) := Row.new' _ 41 5 (fun _ => 0) (by simp)
  have O : Below w.heap.size w ((w.alloc (.cells (arr 5 e.f) 41)).alloc (.cells #[Value.int IntKind.u64 0, Value.int IntKind.u64 0, Value.int IntKind.u64 0, Value.int IntKind.u64 0, Value.int IntKind.u64 0] 41)) := ((Below.refl _ _).alloc (Nat.le_refl _) _).alloc (by simp) _
  have HQ : Hid (qj (pj (smallF 1).f (fun _ => 0)) (pj e.f (smallF 1).f) = qs (ladF s e 0)) := hide (by
    have e0 : zeroE.f = fun _ => 0 := by
      funext i
      unfold E5.f zeroE
      match i with
      | 0 => rfl
      | 1 => rfl
      | 2 => rfl
      | 3 => rfl
      | 4 => rfl
      | n + 5 => rfl
    show _ = qj (pj (smallF 1).f zeroE.f) (pj e.f (smallF 1).f)
    rw [e0])
  have HE := hide (fun k => ladF_ok s hx k)
  generalize hxf : e.f = x at *
  have HX := hide hxf
  clear hxf
  generalize hone : (smallF 1).f = one at *
  clear hone
  go_enter Try.func16, Try.ntmps16
  go_upto_region 1 with fail
  generalize ((w.alloc (.cells (arr 5 x) 41)).alloc (.cells #[Value.int IntKind.u64 0, Value.int IntKind.u64 0, Value.int IntKind.u64 0, Value.int IntKind.u64 0, Value.int IntKind.u64 0] 41)) = W0 at *
  refine wp_region_lit ?_
  refine wpList_call rfl 20 #[.int .u32 1] (.agg (arr 5 one)) (fun _ => by kernel_rfl) HS.out ?_
  intro w1 hb
  replace RX := RX.keep hb
  replace RZ := RZ.keep hb
  replace O := O.trans (hb.mono O.size)
  clear hb HS
  refine wpList_new rfl (fun g => .pointer (some ⟨g, 0, none⟩)) (.cells #[Value.int IntKind.u64 0, Value.int IntKind.u64 0, Value.int IntKind.u64 0, Value.int IntKind.u64 0, Value.int IntKind.u64 0] 41) (fun _ => by kernel_rfl) ?_
  intro g5 w2 R5 n5 hb
  replace R5 : Row w2 g5 41 5 (fun _ => 0) := R5
  have lx := RX.lt
  have lz := RZ.lt
  replace RX := RX.keep hb
  replace RZ := RZ.keep hb
  have lo := O.size
  replace O := O.trans (hb.mono O.size)
  clear hb
  refine wpList_put rfl R5 one 41 _ _ rfl (by kernel_rfl) (by kernel_rfl) info41 ?_
  intro w3 R5 ho hu
  replace RX := RX.at_ (ho _ (by omega))
  replace RZ := RZ.at_ (ho _ (by omega))
  replace O := hu _ _ (by omega) O
  clear ho hu lx lz lo n5
  refine wpList_nil ?_
  go_simp
  go_upto_region 2 with fail
  refine wp_region_lit ?_
  refine wpList_part rfl 41 _ rfl g5 0 (by kernel_rfl) 5 one R5.all _ Try.underlying41 rfl info41 ?_
  refine wpList_value rfl (.agg (arr 10 (pj one fun _ => 0))) (fun _ => by kernel_rfl) ?_
  refine wpList_part rfl 41 _ rfl w.heap.size 0 (by kernel_rfl) 5 x RX.all _ Try.underlying41 rfl info41 ?_
  refine wpList_part rfl 41 _ rfl g5 0 (by kernel_rfl) 5 one R5.all _ Try.underlying41 rfl info41 ?_
  refine wpList_value rfl (.agg (arr 10 (pj x one))) (fun _ => by kernel_rfl) ?_
  refine wpList_value rfl (.agg (arr 20 (qj (pj one fun _ => 0) (pj x one)))) (fun _ => by kernel_rfl) ?_
  refine wpList_new rfl (fun g => .pointer (some ⟨g, 0, none⟩)) (.cells #[Value.int IntKind.u64 0, Value.int IntKind.u64 0, Value.int IntKind.u64 0, Value.int IntKind.u64 0, Value.int IntKind.u64 0, Value.int IntKind.u64 0, Value.int IntKind.u64 0, Value.int IntKind.u64 0, Value.int IntKind.u64 0, Value.int IntKind.u64 0, Value.int IntKind.u64 0, Value.int IntKind.u64 0, Value.int IntKind.u64 0, Value.int IntKind.u64 0, Value.int IntKind.u64 0, Value.int IntKind.u64 0, Value.int IntKind.u64 0, Value.int IntKind.u64 0, Value.int IntKind.u64 0, Value.int IntKind.u64 0] 55) (fun _ => by kernel_rfl) ?_
  intro gp w4 RP n5 hb
  replace RP : Row w4 gp 55 20 (fun _ => 0) := RP
  have lx := RX.lt
  have lz := RZ.lt
  have hxp : w.heap.size ≠ gp := by omega
  have hzp : w.heap.size + 1 ≠ gp := by omega
  have hle : w.heap.size ≤ gp := by have := O.size; omega
  replace RX := RX.keep hb
  replace RZ := RZ.keep hb
  replace O := O.trans (hb.mono O.size)
  clear hb lx lz n5 R5
  refine wpList_put rfl RP (qj (pj one fun _ => 0) (pj x one)) 55 _ _ rfl (by kernel_rfl) (by kernel_rfl) info55 ?_
  intro w5 RP ho hu
  replace RX := RX.at_ (ho _ hxp)
  replace RZ := RZ.at_ (ho _ hzp)
  replace O := hu _ _ hle O
  clear ho hu
  rw [HQ.out] at RP
  refine wpList_nil ?_
  go_simp
  go_wp2_with fail
  go_loopw [16] (fun v wr => ∃ k : Nat, k ≤ 255 ∧ v = .int .i64 k ∧ Row wr w.heap.size 41 5 x ∧ Row wr (w.heap.size + 1) 41 5 (fun _ => 0) ∧ Row wr gp 55 20 (qs (ladF s e k)) ∧ Below w.heap.size w wr) (fun v _ => 255 - (intOf v).toNat)
  case atStart => exact ⟨0, by omega, rfl, RX, RZ, RP, O⟩
  case round =>
    clear RX RZ RP O HQ
    obtain ⟨k, hk, rfl, RX, RZ, RP, O⟩ := hrel
    by_cases hlt : k < 255
    · have HBT : Hid (∀ w, Calls Try.prog 25 #[.string s, .int .i64 (254 - (k : Int))] w fun r w' => r = .returned (.int .i64 (bit s (254 - k))) ∧ Below w.heap.size w w') := hide fun w => by
        have h := bitAt_any s (254 - k) w (by omega) (by omega)
        rwa [show ((254 - k : Nat) : Int) = 254 - (k : Int) by omega] at h
      have i1 : (0 : Int) ≤ (k : Int) := by omega
      have i2 : (k : Int) < 255 := by omega
      have HL := hide (HE.out k)
      have HN : Hid (ladF s e (k + 1) = if bit s (254 - k) = 0 then stepF (ladF s e k).dx (ladF s e k).dz (ladF s e k).px (ladF s e k).pz e
        else ⟨(stepF (ladF s e k).px (ladF s e k).pz (ladF s e k).dx (ladF s e k).dz e).px, (stepF (ladF s e k).px (ladF s e k).pz (ladF s e k).dx (ladF s e k).dz e).pz, (stepF (ladF s e k).px (ladF s e k).pz (ladF s e k).dx (ladF s e k).dz e).dx, (stepF (ladF s e k).px (ladF s e k).pz (ladF s e k).dx (ladF s e k).dz e).dz⟩) := hide rfl
      unfold qs at RP
      generalize ladF s e k = l at *
      go_wp2_with fail
      refine (HBT.out _).mono ?_
      rintro _ w6 ⟨rfl, hb⟩
      replace RX := RX.keep hb
      replace RZ := RZ.keep hb
      replace RP := RP.keep hb
      replace O := O.trans (hb.mono O.size)
      clear hb HBT
      rcases bit_two s (254 - k) with hbit | hbit
      · rw [hbit] at HN ⊢
        have HT : Hid (qs (ladF s e (k + 1)) = qj (pj (stepF l.dx l.dz l.px l.pz e).dx.f (stepF l.dx l.dz l.px l.pz e).dz.f) (pj (stepF l.dx l.dz l.px l.pz e).px.f (stepF l.dx l.dz l.px l.pz e).pz.f)) := hide (by rw [HN.out]; rfl)
        have HC : Hid (∀ w, Calls Try.prog 26 #[.agg (arr 10 (pj l.dx.f l.dz.f)), .agg (arr 10 (pj l.px.f l.pz.f)), .agg (arr 5 x)] w fun r w' => r = .returned (.tuple #[.agg (arr 10 (pj (stepF l.dx l.dz l.px l.pz e).dx.f (stepF l.dx l.dz l.px l.pz e).dz.f)), .agg (arr 10 (pj (stepF l.dx l.dz l.px l.pz e).px.f (stepF l.dx l.dz l.px l.pz e).pz.f))]) ∧ Below w.heap.size w w') := hide fun w => by
          rw [← HX.out]
          exact step_any _ _ _ _ _ w HL.out.dx HL.out.dz HL.out.px HL.out.pz hx
        generalize pj l.dx.f l.dz.f = p at *
        generalize pj l.px.f l.pz.f = q at *
        generalize pj (stepF l.dx l.dz l.px l.pz e).dx.f (stepF l.dx l.dz l.px l.pz e).dz.f = d at *
        generalize pj (stepF l.dx l.dz l.px l.pz e).px.f (stepF l.dx l.dz l.px l.pz e).pz.f = b at *
        clear HN HL hbit
        go_wp2_with fail
        refine region_cut (fun a0 a' w' => a' = (((((((((((((((((a0.put (some 24) (.int .i64 0)).put (some 25) (.int .i64 0)).put (some 26) (.int .i64 1)).put (some 27) (.int .i64 0)).put (some 28) (.pointer (some ⟨gp, 0, none⟩))).put (some 29) (.agg (arr 10 p))).put (some 30) (.int .i64 0)).put (some 31) (.int .i64 1)).put (some 32) (.pointer (some ⟨gp, 10, none⟩))).put (some 33) (.agg (arr 10 q))).put (some 34) (.agg (arr 5 x))).put (some 35) (.tuple #[.agg (arr 10 d), .agg (arr 10 b)])).put (some 23) (.tuple #[.agg (arr 10 d), .agg (arr 10 b)])).put (some 36) (.agg (arr 10 d))).put (some 37) (.agg (arr 10 b))).put (some 38) (.pointer (some ⟨gp, 0, none⟩))).put (some 39) (.pointer (some ⟨gp, 10, none⟩))) ∧ Row w' w.heap.size 41 5 x ∧ Row w' (w.heap.size + 1) 41 5 (fun _ => 0) ∧ Row w' gp 55 20 (qj d b) ∧ Below w.heap.size w w') (by kernel_rfl) ?_ ?_
        · clear RX RZ RP O
          rintro _ w9 ⟨rfl, RX, RZ, RP, O⟩
          rw [← HT.out] at RP
          clear HC HT
          go_simp
          go_wp2_with fail
          exact ⟨⟨k + 1, by omega, by go_num, RX, RZ, RP, O⟩, by simp [intOf]; omega⟩
        · intro hrest
          replace RX := rowD RX
          replace RZ := rowD RZ
          replace RP := rowD RP
          replace O := O.drew
          generalize w6.drew = W0 at *
          refine wpAny_take (i := 0) (v := .int .i64 0) rfl (by kernel_rfl) (by kernel_rfl) (by kernel_rfl) (fun _ _ _ h => h) (Or.inl ⟨by rfl, fun _ => by kernel_rfl⟩) ?_
          refine wpAny_take (i := 1) (v := .int .i64 0) rfl (by kernel_rfl) (by kernel_rfl) (by kernel_rfl) (fun _ _ _ h => h) (Or.inl ⟨by rfl, fun _ => by kernel_rfl⟩) ?_
          refine wpAny_take (i := 2) (v := .int .i64 1) rfl (by kernel_rfl) (by kernel_rfl) (by kernel_rfl) (fun _ _ _ h => h) (Or.inl ⟨by rfl, fun _ => by kernel_rfl⟩) ?_
          refine wpAny_take (i := 3) (v := .int .i64 0) rfl (by kernel_rfl) (by kernel_rfl) (by kernel_rfl) (fun _ _ _ h => h) (Or.inl ⟨by rfl, fun _ => by kernel_rfl⟩) ?_
          refine wpAny_take (i := 4) (v := .pointer (some ⟨gp, 0, none⟩)) rfl (by kernel_rfl) (by kernel_rfl) (by kernel_rfl) (fun _ _ _ h => h) (Or.inl ⟨by rfl, fun _ => by kernel_rfl⟩) ?_
          refine wpAny_take (i := 6) (v := .int .i64 0) rfl (by kernel_rfl) (by kernel_rfl) (by kernel_rfl) (fun _ _ _ h => h) (Or.inl ⟨by rfl, fun _ => by kernel_rfl⟩) ?_
          refine wpAny_take (i := 7) (v := .int .i64 1) rfl (by kernel_rfl) (by kernel_rfl) (by kernel_rfl) (fun _ _ _ h => h) (Or.inl ⟨by rfl, fun _ => by kernel_rfl⟩) ?_
          refine wpAny_take (i := 8) (v := .pointer (some ⟨gp, 10, none⟩)) rfl (by kernel_rfl) (by kernel_rfl) (by kernel_rfl) (fun _ _ _ h => h) (Or.inl ⟨by rfl, fun _ => by kernel_rfl⟩) ?_
          refine wpAny_ready (rs := [5, 9, 10]) (by kernel_rfl) (by simp) ?_
          refine ready_part rfl rfl 54 _ rfl gp 0 (by kernel_rfl) 10 p RP.q0 _ Try.underlying54 rfl info54 ?_ ?_
          · skip
            refine wpAny_ready (rs := [9, 10]) (by kernel_rfl) (by simp) ?_
            refine ready_part rfl rfl 54 _ rfl gp 10 (by kernel_rfl) 10 q RP.q1 _ Try.underlying54 rfl info54 ?_ ?_
            · skip
              refine wpAny_ready (rs := [10]) (by kernel_rfl) (by simp) ?_
              refine ready_part rfl rfl 41 _ rfl w.heap.size 0 (by kernel_rfl) 5 x RX.all _ Try.underlying41 rfl info41 ?_ ?_
              · skip
                refine wpAny_ready (rs := [11]) (by kernel_rfl) (by simp) ?_
                refine ready_call 26 #[.agg (arr 10 p), .agg (arr 10 q), .agg (arr 5 x)] rfl rfl (by kernel_rfl) ?_ ?_
                · refine (HC.out _).mono ?_
                  rintro _ w104 ⟨rfl, hb⟩
                  refine ⟨_, rfl, ?_⟩
                  replace RX := RX.keep hb
                  replace RZ := RZ.keep hb
                  replace RP := RP.keep hb
                  replace O := O.trans (hb.mono O.size)
                  clear hb
                  refine wpAny_take (i := 12) (v := .tuple #[.agg (arr 10 d), .agg (arr 10 b)]) rfl (by kernel_rfl) (by kernel_rfl) (by kernel_rfl) (fun _ _ _ h => h) (Or.inl ⟨by rfl, fun _ => by kernel_rfl⟩) ?_
                  refine wpAny_take (i := 13) (v := .agg (arr 10 d)) rfl (by kernel_rfl) (by kernel_rfl) (by kernel_rfl) (fun _ _ _ h => h) (Or.inl ⟨by rfl, fun _ => by kernel_rfl⟩) ?_
                  refine wpAny_take (i := 14) (v := .agg (arr 10 b)) rfl (by kernel_rfl) (by kernel_rfl) (by kernel_rfl) (fun _ _ _ h => h) (Or.inl ⟨by rfl, fun _ => by kernel_rfl⟩) ?_
                  refine wpAny_take (i := 15) (v := .pointer (some ⟨gp, 0, none⟩)) rfl (by kernel_rfl) (by kernel_rfl) (by kernel_rfl) (fun _ _ _ h => h) (Or.inl ⟨by rfl, fun _ => by kernel_rfl⟩) ?_
                  refine wpAny_ready (rs := [16]) (by kernel_rfl) (by simp) ?_
                  refine ready_puts RP 0 10 d (by omega) rfl rfl 54 _ _ rfl (by kernel_rfl) (by kernel_rfl) (inf54 _) ?_ ?_
                  · intro w105 RP ho hu
                    replace RX := RX.at_ (ho _ hxp)
                    replace RZ := RZ.at_ (ho _ hzp)
                    replace O := hu _ _ hle O
                    clear ho hu
                    refine wpAny_take (i := 17) (v := .pointer (some ⟨gp, 10, none⟩)) rfl (by kernel_rfl) (by kernel_rfl) (by kernel_rfl) (fun _ _ _ h => h) (Or.inl ⟨by rfl, fun _ => by kernel_rfl⟩) ?_
                    refine wpAny_ready (rs := [18]) (by kernel_rfl) (by simp) ?_
                    refine ready_puts RP 10 10 b (by omega) rfl rfl 54 _ _ rfl (by kernel_rfl) (by kernel_rfl) (inf54 _) ?_ ?_
                    · intro w106 RP ho hu
                      replace RX := RX.at_ (ho _ hxp)
                      replace RZ := RZ.at_ (ho _ hzp)
                      replace O := hu _ _ hle O
                      clear ho hu
                      exact wpAny_done (by kernel_rfl) (hrest _ _ ⟨by kernel_rfl, RX, RZ, RP.congr (fun i hi => qj01 p q d b i hi), O⟩) _
                    exact AllReady.nil
                  exact AllReady.nil
                exact AllReady.nil
              exact AllReady.nil
            refine ready_part rfl rfl 41 _ rfl w.heap.size 0 (by kernel_rfl) 5 x RX.all _ Try.underlying41 rfl info41 ?_ ?_
            · skip
              refine wpAny_ready (rs := [9]) (by kernel_rfl) (by simp) ?_
              refine ready_part rfl rfl 54 _ rfl gp 10 (by kernel_rfl) 10 q RP.q1 _ Try.underlying54 rfl info54 ?_ ?_
              · skip
                refine wpAny_ready (rs := [11]) (by kernel_rfl) (by simp) ?_
                refine ready_call 26 #[.agg (arr 10 p), .agg (arr 10 q), .agg (arr 5 x)] rfl rfl (by kernel_rfl) ?_ ?_
                · refine (HC.out _).mono ?_
                  rintro _ w109 ⟨rfl, hb⟩
                  refine ⟨_, rfl, ?_⟩
                  replace RX := RX.keep hb
                  replace RZ := RZ.keep hb
                  replace RP := RP.keep hb
                  replace O := O.trans (hb.mono O.size)
                  clear hb
                  refine wpAny_take (i := 12) (v := .tuple #[.agg (arr 10 d), .agg (arr 10 b)]) rfl (by kernel_rfl) (by kernel_rfl) (by kernel_rfl) (fun _ _ _ h => h) (Or.inl ⟨by rfl, fun _ => by kernel_rfl⟩) ?_
                  refine wpAny_take (i := 13) (v := .agg (arr 10 d)) rfl (by kernel_rfl) (by kernel_rfl) (by kernel_rfl) (fun _ _ _ h => h) (Or.inl ⟨by rfl, fun _ => by kernel_rfl⟩) ?_
                  refine wpAny_take (i := 14) (v := .agg (arr 10 b)) rfl (by kernel_rfl) (by kernel_rfl) (by kernel_rfl) (fun _ _ _ h => h) (Or.inl ⟨by rfl, fun _ => by kernel_rfl⟩) ?_
                  refine wpAny_take (i := 15) (v := .pointer (some ⟨gp, 0, none⟩)) rfl (by kernel_rfl) (by kernel_rfl) (by kernel_rfl) (fun _ _ _ h => h) (Or.inl ⟨by rfl, fun _ => by kernel_rfl⟩) ?_
                  refine wpAny_ready (rs := [16]) (by kernel_rfl) (by simp) ?_
                  refine ready_puts RP 0 10 d (by omega) rfl rfl 54 _ _ rfl (by kernel_rfl) (by kernel_rfl) (inf54 _) ?_ ?_
                  · intro w110 RP ho hu
                    replace RX := RX.at_ (ho _ hxp)
                    replace RZ := RZ.at_ (ho _ hzp)
                    replace O := hu _ _ hle O
                    clear ho hu
                    refine wpAny_take (i := 17) (v := .pointer (some ⟨gp, 10, none⟩)) rfl (by kernel_rfl) (by kernel_rfl) (by kernel_rfl) (fun _ _ _ h => h) (Or.inl ⟨by rfl, fun _ => by kernel_rfl⟩) ?_
                    refine wpAny_ready (rs := [18]) (by kernel_rfl) (by simp) ?_
                    refine ready_puts RP 10 10 b (by omega) rfl rfl 54 _ _ rfl (by kernel_rfl) (by kernel_rfl) (inf54 _) ?_ ?_
                    · intro w111 RP ho hu
                      replace RX := RX.at_ (ho _ hxp)
                      replace RZ := RZ.at_ (ho _ hzp)
                      replace O := hu _ _ hle O
                      clear ho hu
                      exact wpAny_done (by kernel_rfl) (hrest _ _ ⟨by kernel_rfl, RX, RZ, RP.congr (fun i hi => qj01 p q d b i hi), O⟩) _
                    exact AllReady.nil
                  exact AllReady.nil
                exact AllReady.nil
              exact AllReady.nil
            exact AllReady.nil
          refine ready_part rfl rfl 54 _ rfl gp 10 (by kernel_rfl) 10 q RP.q1 _ Try.underlying54 rfl info54 ?_ ?_
          · skip
            refine wpAny_ready (rs := [5, 10]) (by kernel_rfl) (by simp) ?_
            refine ready_part rfl rfl 54 _ rfl gp 0 (by kernel_rfl) 10 p RP.q0 _ Try.underlying54 rfl info54 ?_ ?_
            · skip
              refine wpAny_ready (rs := [10]) (by kernel_rfl) (by simp) ?_
              refine ready_part rfl rfl 41 _ rfl w.heap.size 0 (by kernel_rfl) 5 x RX.all _ Try.underlying41 rfl info41 ?_ ?_
              · skip
                refine wpAny_ready (rs := [11]) (by kernel_rfl) (by simp) ?_
                refine ready_call 26 #[.agg (arr 10 p), .agg (arr 10 q), .agg (arr 5 x)] rfl rfl (by kernel_rfl) ?_ ?_
                · refine (HC.out _).mono ?_
                  rintro _ w115 ⟨rfl, hb⟩
                  refine ⟨_, rfl, ?_⟩
                  replace RX := RX.keep hb
                  replace RZ := RZ.keep hb
                  replace RP := RP.keep hb
                  replace O := O.trans (hb.mono O.size)
                  clear hb
                  refine wpAny_take (i := 12) (v := .tuple #[.agg (arr 10 d), .agg (arr 10 b)]) rfl (by kernel_rfl) (by kernel_rfl) (by kernel_rfl) (fun _ _ _ h => h) (Or.inl ⟨by rfl, fun _ => by kernel_rfl⟩) ?_
                  refine wpAny_take (i := 13) (v := .agg (arr 10 d)) rfl (by kernel_rfl) (by kernel_rfl) (by kernel_rfl) (fun _ _ _ h => h) (Or.inl ⟨by rfl, fun _ => by kernel_rfl⟩) ?_
                  refine wpAny_take (i := 14) (v := .agg (arr 10 b)) rfl (by kernel_rfl) (by kernel_rfl) (by kernel_rfl) (fun _ _ _ h => h) (Or.inl ⟨by rfl, fun _ => by kernel_rfl⟩) ?_
                  refine wpAny_take (i := 15) (v := .pointer (some ⟨gp, 0, none⟩)) rfl (by kernel_rfl) (by kernel_rfl) (by kernel_rfl) (fun _ _ _ h => h) (Or.inl ⟨by rfl, fun _ => by kernel_rfl⟩) ?_
                  refine wpAny_ready (rs := [16]) (by kernel_rfl) (by simp) ?_
                  refine ready_puts RP 0 10 d (by omega) rfl rfl 54 _ _ rfl (by kernel_rfl) (by kernel_rfl) (inf54 _) ?_ ?_
                  · intro w116 RP ho hu
                    replace RX := RX.at_ (ho _ hxp)
                    replace RZ := RZ.at_ (ho _ hzp)
                    replace O := hu _ _ hle O
                    clear ho hu
                    refine wpAny_take (i := 17) (v := .pointer (some ⟨gp, 10, none⟩)) rfl (by kernel_rfl) (by kernel_rfl) (by kernel_rfl) (fun _ _ _ h => h) (Or.inl ⟨by rfl, fun _ => by kernel_rfl⟩) ?_
                    refine wpAny_ready (rs := [18]) (by kernel_rfl) (by simp) ?_
                    refine ready_puts RP 10 10 b (by omega) rfl rfl 54 _ _ rfl (by kernel_rfl) (by kernel_rfl) (inf54 _) ?_ ?_
                    · intro w117 RP ho hu
                      replace RX := RX.at_ (ho _ hxp)
                      replace RZ := RZ.at_ (ho _ hzp)
                      replace O := hu _ _ hle O
                      clear ho hu
                      exact wpAny_done (by kernel_rfl) (hrest _ _ ⟨by kernel_rfl, RX, RZ, RP.congr (fun i hi => qj01 p q d b i hi), O⟩) _
                    exact AllReady.nil
                  exact AllReady.nil
                exact AllReady.nil
              exact AllReady.nil
            refine ready_part rfl rfl 41 _ rfl w.heap.size 0 (by kernel_rfl) 5 x RX.all _ Try.underlying41 rfl info41 ?_ ?_
            · skip
              refine wpAny_ready (rs := [5]) (by kernel_rfl) (by simp) ?_
              refine ready_part rfl rfl 54 _ rfl gp 0 (by kernel_rfl) 10 p RP.q0 _ Try.underlying54 rfl info54 ?_ ?_
              · skip
                refine wpAny_ready (rs := [11]) (by kernel_rfl) (by simp) ?_
                refine ready_call 26 #[.agg (arr 10 p), .agg (arr 10 q), .agg (arr 5 x)] rfl rfl (by kernel_rfl) ?_ ?_
                · refine (HC.out _).mono ?_
                  rintro _ w120 ⟨rfl, hb⟩
                  refine ⟨_, rfl, ?_⟩
                  replace RX := RX.keep hb
                  replace RZ := RZ.keep hb
                  replace RP := RP.keep hb
                  replace O := O.trans (hb.mono O.size)
                  clear hb
                  refine wpAny_take (i := 12) (v := .tuple #[.agg (arr 10 d), .agg (arr 10 b)]) rfl (by kernel_rfl) (by kernel_rfl) (by kernel_rfl) (fun _ _ _ h => h) (Or.inl ⟨by rfl, fun _ => by kernel_rfl⟩) ?_
                  refine wpAny_take (i := 13) (v := .agg (arr 10 d)) rfl (by kernel_rfl) (by kernel_rfl) (by kernel_rfl) (fun _ _ _ h => h) (Or.inl ⟨by rfl, fun _ => by kernel_rfl⟩) ?_
                  refine wpAny_take (i := 14) (v := .agg (arr 10 b)) rfl (by kernel_rfl) (by kernel_rfl) (by kernel_rfl) (fun _ _ _ h => h) (Or.inl ⟨by rfl, fun _ => by kernel_rfl⟩) ?_
                  refine wpAny_take (i := 15) (v := .pointer (some ⟨gp, 0, none⟩)) rfl (by kernel_rfl) (by kernel_rfl) (by kernel_rfl) (fun _ _ _ h => h) (Or.inl ⟨by rfl, fun _ => by kernel_rfl⟩) ?_
                  refine wpAny_ready (rs := [16]) (by kernel_rfl) (by simp) ?_
                  refine ready_puts RP 0 10 d (by omega) rfl rfl 54 _ _ rfl (by kernel_rfl) (by kernel_rfl) (inf54 _) ?_ ?_
                  · intro w121 RP ho hu
                    replace RX := RX.at_ (ho _ hxp)
                    replace RZ := RZ.at_ (ho _ hzp)
                    replace O := hu _ _ hle O
                    clear ho hu
                    refine wpAny_take (i := 17) (v := .pointer (some ⟨gp, 10, none⟩)) rfl (by kernel_rfl) (by kernel_rfl) (by kernel_rfl) (fun _ _ _ h => h) (Or.inl ⟨by rfl, fun _ => by kernel_rfl⟩) ?_
                    refine wpAny_ready (rs := [18]) (by kernel_rfl) (by simp) ?_
                    refine ready_puts RP 10 10 b (by omega) rfl rfl 54 _ _ rfl (by kernel_rfl) (by kernel_rfl) (inf54 _) ?_ ?_
                    · intro w122 RP ho hu
                      replace RX := RX.at_ (ho _ hxp)
                      replace RZ := RZ.at_ (ho _ hzp)
                      replace O := hu _ _ hle O
                      clear ho hu
                      exact wpAny_done (by kernel_rfl) (hrest _ _ ⟨by kernel_rfl, RX, RZ, RP.congr (fun i hi => qj01 p q d b i hi), O⟩) _
                    exact AllReady.nil
                  exact AllReady.nil
                exact AllReady.nil
              exact AllReady.nil
            exact AllReady.nil
          refine ready_part rfl rfl 41 _ rfl w.heap.size 0 (by kernel_rfl) 5 x RX.all _ Try.underlying41 rfl info41 ?_ ?_
          · skip
            refine wpAny_ready (rs := [5, 9]) (by kernel_rfl) (by simp) ?_
            refine ready_part rfl rfl 54 _ rfl gp 0 (by kernel_rfl) 10 p RP.q0 _ Try.underlying54 rfl info54 ?_ ?_
            · skip
              refine wpAny_ready (rs := [9]) (by kernel_rfl) (by simp) ?_
              refine ready_part rfl rfl 54 _ rfl gp 10 (by kernel_rfl) 10 q RP.q1 _ Try.underlying54 rfl info54 ?_ ?_
              · skip
                refine wpAny_ready (rs := [11]) (by kernel_rfl) (by simp) ?_
                refine ready_call 26 #[.agg (arr 10 p), .agg (arr 10 q), .agg (arr 5 x)] rfl rfl (by kernel_rfl) ?_ ?_
                · refine (HC.out _).mono ?_
                  rintro _ w126 ⟨rfl, hb⟩
                  refine ⟨_, rfl, ?_⟩
                  replace RX := RX.keep hb
                  replace RZ := RZ.keep hb
                  replace RP := RP.keep hb
                  replace O := O.trans (hb.mono O.size)
                  clear hb
                  refine wpAny_take (i := 12) (v := .tuple #[.agg (arr 10 d), .agg (arr 10 b)]) rfl (by kernel_rfl) (by kernel_rfl) (by kernel_rfl) (fun _ _ _ h => h) (Or.inl ⟨by rfl, fun _ => by kernel_rfl⟩) ?_
                  refine wpAny_take (i := 13) (v := .agg (arr 10 d)) rfl (by kernel_rfl) (by kernel_rfl) (by kernel_rfl) (fun _ _ _ h => h) (Or.inl ⟨by rfl, fun _ => by kernel_rfl⟩) ?_
                  refine wpAny_take (i := 14) (v := .agg (arr 10 b)) rfl (by kernel_rfl) (by kernel_rfl) (by kernel_rfl) (fun _ _ _ h => h) (Or.inl ⟨by rfl, fun _ => by kernel_rfl⟩) ?_
                  refine wpAny_take (i := 15) (v := .pointer (some ⟨gp, 0, none⟩)) rfl (by kernel_rfl) (by kernel_rfl) (by kernel_rfl) (fun _ _ _ h => h) (Or.inl ⟨by rfl, fun _ => by kernel_rfl⟩) ?_
                  refine wpAny_ready (rs := [16]) (by kernel_rfl) (by simp) ?_
                  refine ready_puts RP 0 10 d (by omega) rfl rfl 54 _ _ rfl (by kernel_rfl) (by kernel_rfl) (inf54 _) ?_ ?_
                  · intro w127 RP ho hu
                    replace RX := RX.at_ (ho _ hxp)
                    replace RZ := RZ.at_ (ho _ hzp)
                    replace O := hu _ _ hle O
                    clear ho hu
                    refine wpAny_take (i := 17) (v := .pointer (some ⟨gp, 10, none⟩)) rfl (by kernel_rfl) (by kernel_rfl) (by kernel_rfl) (fun _ _ _ h => h) (Or.inl ⟨by rfl, fun _ => by kernel_rfl⟩) ?_
                    refine wpAny_ready (rs := [18]) (by kernel_rfl) (by simp) ?_
                    refine ready_puts RP 10 10 b (by omega) rfl rfl 54 _ _ rfl (by kernel_rfl) (by kernel_rfl) (inf54 _) ?_ ?_
                    · intro w128 RP ho hu
                      replace RX := RX.at_ (ho _ hxp)
                      replace RZ := RZ.at_ (ho _ hzp)
                      replace O := hu _ _ hle O
                      clear ho hu
                      exact wpAny_done (by kernel_rfl) (hrest _ _ ⟨by kernel_rfl, RX, RZ, RP.congr (fun i hi => qj01 p q d b i hi), O⟩) _
                    exact AllReady.nil
                  exact AllReady.nil
                exact AllReady.nil
              exact AllReady.nil
            refine ready_part rfl rfl 54 _ rfl gp 10 (by kernel_rfl) 10 q RP.q1 _ Try.underlying54 rfl info54 ?_ ?_
            · skip
              refine wpAny_ready (rs := [5]) (by kernel_rfl) (by simp) ?_
              refine ready_part rfl rfl 54 _ rfl gp 0 (by kernel_rfl) 10 p RP.q0 _ Try.underlying54 rfl info54 ?_ ?_
              · skip
                refine wpAny_ready (rs := [11]) (by kernel_rfl) (by simp) ?_
                refine ready_call 26 #[.agg (arr 10 p), .agg (arr 10 q), .agg (arr 5 x)] rfl rfl (by kernel_rfl) ?_ ?_
                · refine (HC.out _).mono ?_
                  rintro _ w131 ⟨rfl, hb⟩
                  refine ⟨_, rfl, ?_⟩
                  replace RX := RX.keep hb
                  replace RZ := RZ.keep hb
                  replace RP := RP.keep hb
                  replace O := O.trans (hb.mono O.size)
                  clear hb
                  refine wpAny_take (i := 12) (v := .tuple #[.agg (arr 10 d), .agg (arr 10 b)]) rfl (by kernel_rfl) (by kernel_rfl) (by kernel_rfl) (fun _ _ _ h => h) (Or.inl ⟨by rfl, fun _ => by kernel_rfl⟩) ?_
                  refine wpAny_take (i := 13) (v := .agg (arr 10 d)) rfl (by kernel_rfl) (by kernel_rfl) (by kernel_rfl) (fun _ _ _ h => h) (Or.inl ⟨by rfl, fun _ => by kernel_rfl⟩) ?_
                  refine wpAny_take (i := 14) (v := .agg (arr 10 b)) rfl (by kernel_rfl) (by kernel_rfl) (by kernel_rfl) (fun _ _ _ h => h) (Or.inl ⟨by rfl, fun _ => by kernel_rfl⟩) ?_
                  refine wpAny_take (i := 15) (v := .pointer (some ⟨gp, 0, none⟩)) rfl (by kernel_rfl) (by kernel_rfl) (by kernel_rfl) (fun _ _ _ h => h) (Or.inl ⟨by rfl, fun _ => by kernel_rfl⟩) ?_
                  refine wpAny_ready (rs := [16]) (by kernel_rfl) (by simp) ?_
                  refine ready_puts RP 0 10 d (by omega) rfl rfl 54 _ _ rfl (by kernel_rfl) (by kernel_rfl) (inf54 _) ?_ ?_
                  · intro w132 RP ho hu
                    replace RX := RX.at_ (ho _ hxp)
                    replace RZ := RZ.at_ (ho _ hzp)
                    replace O := hu _ _ hle O
                    clear ho hu
                    refine wpAny_take (i := 17) (v := .pointer (some ⟨gp, 10, none⟩)) rfl (by kernel_rfl) (by kernel_rfl) (by kernel_rfl) (fun _ _ _ h => h) (Or.inl ⟨by rfl, fun _ => by kernel_rfl⟩) ?_
                    refine wpAny_ready (rs := [18]) (by kernel_rfl) (by simp) ?_
                    refine ready_puts RP 10 10 b (by omega) rfl rfl 54 _ _ rfl (by kernel_rfl) (by kernel_rfl) (inf54 _) ?_ ?_
                    · intro w133 RP ho hu
                      replace RX := RX.at_ (ho _ hxp)
                      replace RZ := RZ.at_ (ho _ hzp)
                      replace O := hu _ _ hle O
                      clear ho hu
                      exact wpAny_done (by kernel_rfl) (hrest _ _ ⟨by kernel_rfl, RX, RZ, RP.congr (fun i hi => qj01 p q d b i hi), O⟩) _
                    exact AllReady.nil
                  exact AllReady.nil
                exact AllReady.nil
              exact AllReady.nil
            exact AllReady.nil
          exact AllReady.nil
      · rw [hbit] at HN ⊢
        have HT : Hid (qs (ladF s e (k + 1)) = qj (pj (stepF l.px l.pz l.dx l.dz e).px.f (stepF l.px l.pz l.dx l.dz e).pz.f) (pj (stepF l.px l.pz l.dx l.dz e).dx.f (stepF l.px l.pz l.dx l.dz e).dz.f)) := hide (by rw [HN.out]; rfl)
        have HC : Hid (∀ w, Calls Try.prog 26 #[.agg (arr 10 (pj l.px.f l.pz.f)), .agg (arr 10 (pj l.dx.f l.dz.f)), .agg (arr 5 x)] w fun r w' => r = .returned (.tuple #[.agg (arr 10 (pj (stepF l.px l.pz l.dx l.dz e).dx.f (stepF l.px l.pz l.dx l.dz e).dz.f)), .agg (arr 10 (pj (stepF l.px l.pz l.dx l.dz e).px.f (stepF l.px l.pz l.dx l.dz e).pz.f))]) ∧ Below w.heap.size w w') := hide fun w => by
          rw [← HX.out]
          exact step_any _ _ _ _ _ w HL.out.px HL.out.pz HL.out.dx HL.out.dz hx
        generalize pj l.dx.f l.dz.f = p at *
        generalize pj l.px.f l.pz.f = q at *
        generalize pj (stepF l.px l.pz l.dx l.dz e).dx.f (stepF l.px l.pz l.dx l.dz e).dz.f = d at *
        generalize pj (stepF l.px l.pz l.dx l.dz e).px.f (stepF l.px l.pz l.dx l.dz e).pz.f = b at *
        clear HN HL hbit
        go_wp2_with fail
        refine region_cut (fun a0 a' w' => a' = (((((((((((((((((a0.put (some 24) (.int .i64 1)).put (some 25) (.int .i64 1)).put (some 26) (.int .i64 0)).put (some 27) (.int .i64 1)).put (some 28) (.pointer (some ⟨gp, 10, none⟩))).put (some 29) (.agg (arr 10 q))).put (some 30) (.int .i64 1)).put (some 31) (.int .i64 0)).put (some 32) (.pointer (some ⟨gp, 0, none⟩))).put (some 33) (.agg (arr 10 p))).put (some 34) (.agg (arr 5 x))).put (some 35) (.tuple #[.agg (arr 10 d), .agg (arr 10 b)])).put (some 23) (.tuple #[.agg (arr 10 d), .agg (arr 10 b)])).put (some 36) (.agg (arr 10 d))).put (some 37) (.agg (arr 10 b))).put (some 38) (.pointer (some ⟨gp, 10, none⟩))).put (some 39) (.pointer (some ⟨gp, 0, none⟩))) ∧ Row w' w.heap.size 41 5 x ∧ Row w' (w.heap.size + 1) 41 5 (fun _ => 0) ∧ Row w' gp 55 20 (qj b d) ∧ Below w.heap.size w w') (by kernel_rfl) ?_ ?_
        · clear RX RZ RP O
          rintro _ w9 ⟨rfl, RX, RZ, RP, O⟩
          rw [← HT.out] at RP
          clear HC HT
          go_simp
          go_wp2_with fail
          exact ⟨⟨k + 1, by omega, by go_num, RX, RZ, RP, O⟩, by simp [intOf]; omega⟩
        · intro hrest
          replace RX := rowD RX
          replace RZ := rowD RZ
          replace RP := rowD RP
          replace O := O.drew
          generalize w6.drew = W0 at *
          refine wpAny_take (i := 0) (v := .int .i64 1) rfl (by kernel_rfl) (by kernel_rfl) (by kernel_rfl) (fun _ _ _ h => h) (Or.inl ⟨by rfl, fun _ => by kernel_rfl⟩) ?_
          refine wpAny_take (i := 1) (v := .int .i64 1) rfl (by kernel_rfl) (by kernel_rfl) (by kernel_rfl) (fun _ _ _ h => h) (Or.inl ⟨by rfl, fun _ => by kernel_rfl⟩) ?_
          refine wpAny_take (i := 2) (v := .int .i64 0) rfl (by kernel_rfl) (by kernel_rfl) (by kernel_rfl) (fun _ _ _ h => h) (Or.inl ⟨by rfl, fun _ => by kernel_rfl⟩) ?_
          refine wpAny_take (i := 3) (v := .int .i64 1) rfl (by kernel_rfl) (by kernel_rfl) (by kernel_rfl) (fun _ _ _ h => h) (Or.inl ⟨by rfl, fun _ => by kernel_rfl⟩) ?_
          refine wpAny_take (i := 4) (v := .pointer (some ⟨gp, 10, none⟩)) rfl (by kernel_rfl) (by kernel_rfl) (by kernel_rfl) (fun _ _ _ h => h) (Or.inl ⟨by rfl, fun _ => by kernel_rfl⟩) ?_
          refine wpAny_take (i := 6) (v := .int .i64 1) rfl (by kernel_rfl) (by kernel_rfl) (by kernel_rfl) (fun _ _ _ h => h) (Or.inl ⟨by rfl, fun _ => by kernel_rfl⟩) ?_
          refine wpAny_take (i := 7) (v := .int .i64 0) rfl (by kernel_rfl) (by kernel_rfl) (by kernel_rfl) (fun _ _ _ h => h) (Or.inl ⟨by rfl, fun _ => by kernel_rfl⟩) ?_
          refine wpAny_take (i := 8) (v := .pointer (some ⟨gp, 0, none⟩)) rfl (by kernel_rfl) (by kernel_rfl) (by kernel_rfl) (fun _ _ _ h => h) (Or.inl ⟨by rfl, fun _ => by kernel_rfl⟩) ?_
          refine wpAny_ready (rs := [5, 9, 10]) (by kernel_rfl) (by simp) ?_
          refine ready_part rfl rfl 54 _ rfl gp 10 (by kernel_rfl) 10 q RP.q1 _ Try.underlying54 rfl info54 ?_ ?_
          · skip
            refine wpAny_ready (rs := [9, 10]) (by kernel_rfl) (by simp) ?_
            refine ready_part rfl rfl 54 _ rfl gp 0 (by kernel_rfl) 10 p RP.q0 _ Try.underlying54 rfl info54 ?_ ?_
            · skip
              refine wpAny_ready (rs := [10]) (by kernel_rfl) (by simp) ?_
              refine ready_part rfl rfl 41 _ rfl w.heap.size 0 (by kernel_rfl) 5 x RX.all _ Try.underlying41 rfl info41 ?_ ?_
              · skip
                refine wpAny_ready (rs := [11]) (by kernel_rfl) (by simp) ?_
                refine ready_call 26 #[.agg (arr 10 q), .agg (arr 10 p), .agg (arr 5 x)] rfl rfl (by kernel_rfl) ?_ ?_
                · refine (HC.out _).mono ?_
                  rintro _ w104 ⟨rfl, hb⟩
                  refine ⟨_, rfl, ?_⟩
                  replace RX := RX.keep hb
                  replace RZ := RZ.keep hb
                  replace RP := RP.keep hb
                  replace O := O.trans (hb.mono O.size)
                  clear hb
                  refine wpAny_take (i := 12) (v := .tuple #[.agg (arr 10 d), .agg (arr 10 b)]) rfl (by kernel_rfl) (by kernel_rfl) (by kernel_rfl) (fun _ _ _ h => h) (Or.inl ⟨by rfl, fun _ => by kernel_rfl⟩) ?_
                  refine wpAny_take (i := 13) (v := .agg (arr 10 d)) rfl (by kernel_rfl) (by kernel_rfl) (by kernel_rfl) (fun _ _ _ h => h) (Or.inl ⟨by rfl, fun _ => by kernel_rfl⟩) ?_
                  refine wpAny_take (i := 14) (v := .agg (arr 10 b)) rfl (by kernel_rfl) (by kernel_rfl) (by kernel_rfl) (fun _ _ _ h => h) (Or.inl ⟨by rfl, fun _ => by kernel_rfl⟩) ?_
                  refine wpAny_take (i := 15) (v := .pointer (some ⟨gp, 10, none⟩)) rfl (by kernel_rfl) (by kernel_rfl) (by kernel_rfl) (fun _ _ _ h => h) (Or.inl ⟨by rfl, fun _ => by kernel_rfl⟩) ?_
                  refine wpAny_ready (rs := [16]) (by kernel_rfl) (by simp) ?_
                  refine ready_puts RP 10 10 d (by omega) rfl rfl 54 _ _ rfl (by kernel_rfl) (by kernel_rfl) (inf54 _) ?_ ?_
                  · intro w105 RP ho hu
                    replace RX := RX.at_ (ho _ hxp)
                    replace RZ := RZ.at_ (ho _ hzp)
                    replace O := hu _ _ hle O
                    clear ho hu
                    refine wpAny_take (i := 17) (v := .pointer (some ⟨gp, 0, none⟩)) rfl (by kernel_rfl) (by kernel_rfl) (by kernel_rfl) (fun _ _ _ h => h) (Or.inl ⟨by rfl, fun _ => by kernel_rfl⟩) ?_
                    refine wpAny_ready (rs := [18]) (by kernel_rfl) (by simp) ?_
                    refine ready_puts RP 0 10 b (by omega) rfl rfl 54 _ _ rfl (by kernel_rfl) (by kernel_rfl) (inf54 _) ?_ ?_
                    · intro w106 RP ho hu
                      replace RX := RX.at_ (ho _ hxp)
                      replace RZ := RZ.at_ (ho _ hzp)
                      replace O := hu _ _ hle O
                      clear ho hu
                      exact wpAny_done (by kernel_rfl) (hrest _ _ ⟨by kernel_rfl, RX, RZ, RP.congr (fun i hi => qj10 p q d b i hi), O⟩) _
                    exact AllReady.nil
                  exact AllReady.nil
                exact AllReady.nil
              exact AllReady.nil
            refine ready_part rfl rfl 41 _ rfl w.heap.size 0 (by kernel_rfl) 5 x RX.all _ Try.underlying41 rfl info41 ?_ ?_
            · skip
              refine wpAny_ready (rs := [9]) (by kernel_rfl) (by simp) ?_
              refine ready_part rfl rfl 54 _ rfl gp 0 (by kernel_rfl) 10 p RP.q0 _ Try.underlying54 rfl info54 ?_ ?_
              · skip
                refine wpAny_ready (rs := [11]) (by kernel_rfl) (by simp) ?_
                refine ready_call 26 #[.agg (arr 10 q), .agg (arr 10 p), .agg (arr 5 x)] rfl rfl (by kernel_rfl) ?_ ?_
                · refine (HC.out _).mono ?_
                  rintro _ w109 ⟨rfl, hb⟩
                  refine ⟨_, rfl, ?_⟩
                  replace RX := RX.keep hb
                  replace RZ := RZ.keep hb
                  replace RP := RP.keep hb
                  replace O := O.trans (hb.mono O.size)
                  clear hb
                  refine wpAny_take (i := 12) (v := .tuple #[.agg (arr 10 d), .agg (arr 10 b)]) rfl (by kernel_rfl) (by kernel_rfl) (by kernel_rfl) (fun _ _ _ h => h) (Or.inl ⟨by rfl, fun _ => by kernel_rfl⟩) ?_
                  refine wpAny_take (i := 13) (v := .agg (arr 10 d)) rfl (by kernel_rfl) (by kernel_rfl) (by kernel_rfl) (fun _ _ _ h => h) (Or.inl ⟨by rfl, fun _ => by kernel_rfl⟩) ?_
                  refine wpAny_take (i := 14) (v := .agg (arr 10 b)) rfl (by kernel_rfl) (by kernel_rfl) (by kernel_rfl) (fun _ _ _ h => h) (Or.inl ⟨by rfl, fun _ => by kernel_rfl⟩) ?_
                  refine wpAny_take (i := 15) (v := .pointer (some ⟨gp, 10, none⟩)) rfl (by kernel_rfl) (by kernel_rfl) (by kernel_rfl) (fun _ _ _ h => h) (Or.inl ⟨by rfl, fun _ => by kernel_rfl⟩) ?_
                  refine wpAny_ready (rs := [16]) (by kernel_rfl) (by simp) ?_
                  refine ready_puts RP 10 10 d (by omega) rfl rfl 54 _ _ rfl (by kernel_rfl) (by kernel_rfl) (inf54 _) ?_ ?_
                  · intro w110 RP ho hu
                    replace RX := RX.at_ (ho _ hxp)
                    replace RZ := RZ.at_ (ho _ hzp)
                    replace O := hu _ _ hle O
                    clear ho hu
                    refine wpAny_take (i := 17) (v := .pointer (some ⟨gp, 0, none⟩)) rfl (by kernel_rfl) (by kernel_rfl) (by kernel_rfl) (fun _ _ _ h => h) (Or.inl ⟨by rfl, fun _ => by kernel_rfl⟩) ?_
                    refine wpAny_ready (rs := [18]) (by kernel_rfl) (by simp) ?_
                    refine ready_puts RP 0 10 b (by omega) rfl rfl 54 _ _ rfl (by kernel_rfl) (by kernel_rfl) (inf54 _) ?_ ?_
                    · intro w111 RP ho hu
                      replace RX := RX.at_ (ho _ hxp)
                      replace RZ := RZ.at_ (ho _ hzp)
                      replace O := hu _ _ hle O
                      clear ho hu
                      exact wpAny_done (by kernel_rfl) (hrest _ _ ⟨by kernel_rfl, RX, RZ, RP.congr (fun i hi => qj10 p q d b i hi), O⟩) _
                    exact AllReady.nil
                  exact AllReady.nil
                exact AllReady.nil
              exact AllReady.nil
            exact AllReady.nil
          refine ready_part rfl rfl 54 _ rfl gp 0 (by kernel_rfl) 10 p RP.q0 _ Try.underlying54 rfl info54 ?_ ?_
          · skip
            refine wpAny_ready (rs := [5, 10]) (by kernel_rfl) (by simp) ?_
            refine ready_part rfl rfl 54 _ rfl gp 10 (by kernel_rfl) 10 q RP.q1 _ Try.underlying54 rfl info54 ?_ ?_
            · skip
              refine wpAny_ready (rs := [10]) (by kernel_rfl) (by simp) ?_
              refine ready_part rfl rfl 41 _ rfl w.heap.size 0 (by kernel_rfl) 5 x RX.all _ Try.underlying41 rfl info41 ?_ ?_
              · skip
                refine wpAny_ready (rs := [11]) (by kernel_rfl) (by simp) ?_
                refine ready_call 26 #[.agg (arr 10 q), .agg (arr 10 p), .agg (arr 5 x)] rfl rfl (by kernel_rfl) ?_ ?_
                · refine (HC.out _).mono ?_
                  rintro _ w115 ⟨rfl, hb⟩
                  refine ⟨_, rfl, ?_⟩
                  replace RX := RX.keep hb
                  replace RZ := RZ.keep hb
                  replace RP := RP.keep hb
                  replace O := O.trans (hb.mono O.size)
                  clear hb
                  refine wpAny_take (i := 12) (v := .tuple #[.agg (arr 10 d), .agg (arr 10 b)]) rfl (by kernel_rfl) (by kernel_rfl) (by kernel_rfl) (fun _ _ _ h => h) (Or.inl ⟨by rfl, fun _ => by kernel_rfl⟩) ?_
                  refine wpAny_take (i := 13) (v := .agg (arr 10 d)) rfl (by kernel_rfl) (by kernel_rfl) (by kernel_rfl) (fun _ _ _ h => h) (Or.inl ⟨by rfl, fun _ => by kernel_rfl⟩) ?_
                  refine wpAny_take (i := 14) (v := .agg (arr 10 b)) rfl (by kernel_rfl) (by kernel_rfl) (by kernel_rfl) (fun _ _ _ h => h) (Or.inl ⟨by rfl, fun _ => by kernel_rfl⟩) ?_
                  refine wpAny_take (i := 15) (v := .pointer (some ⟨gp, 10, none⟩)) rfl (by kernel_rfl) (by kernel_rfl) (by kernel_rfl) (fun _ _ _ h => h) (Or.inl ⟨by rfl, fun _ => by kernel_rfl⟩) ?_
                  refine wpAny_ready (rs := [16]) (by kernel_rfl) (by simp) ?_
                  refine ready_puts RP 10 10 d (by omega) rfl rfl 54 _ _ rfl (by kernel_rfl) (by kernel_rfl) (inf54 _) ?_ ?_
                  · intro w116 RP ho hu
                    replace RX := RX.at_ (ho _ hxp)
                    replace RZ := RZ.at_ (ho _ hzp)
                    replace O := hu _ _ hle O
                    clear ho hu
                    refine wpAny_take (i := 17) (v := .pointer (some ⟨gp, 0, none⟩)) rfl (by kernel_rfl) (by kernel_rfl) (by kernel_rfl) (fun _ _ _ h => h) (Or.inl ⟨by rfl, fun _ => by kernel_rfl⟩) ?_
                    refine wpAny_ready (rs := [18]) (by kernel_rfl) (by simp) ?_
                    refine ready_puts RP 0 10 b (by omega) rfl rfl 54 _ _ rfl (by kernel_rfl) (by kernel_rfl) (inf54 _) ?_ ?_
                    · intro w117 RP ho hu
                      replace RX := RX.at_ (ho _ hxp)
                      replace RZ := RZ.at_ (ho _ hzp)
                      replace O := hu _ _ hle O
                      clear ho hu
                      exact wpAny_done (by kernel_rfl) (hrest _ _ ⟨by kernel_rfl, RX, RZ, RP.congr (fun i hi => qj10 p q d b i hi), O⟩) _
                    exact AllReady.nil
                  exact AllReady.nil
                exact AllReady.nil
              exact AllReady.nil
            refine ready_part rfl rfl 41 _ rfl w.heap.size 0 (by kernel_rfl) 5 x RX.all _ Try.underlying41 rfl info41 ?_ ?_
            · skip
              refine wpAny_ready (rs := [5]) (by kernel_rfl) (by simp) ?_
              refine ready_part rfl rfl 54 _ rfl gp 10 (by kernel_rfl) 10 q RP.q1 _ Try.underlying54 rfl info54 ?_ ?_
              · skip
                refine wpAny_ready (rs := [11]) (by kernel_rfl) (by simp) ?_
                refine ready_call 26 #[.agg (arr 10 q), .agg (arr 10 p), .agg (arr 5 x)] rfl rfl (by kernel_rfl) ?_ ?_
                · refine (HC.out _).mono ?_
                  rintro _ w120 ⟨rfl, hb⟩
                  refine ⟨_, rfl, ?_⟩
                  replace RX := RX.keep hb
                  replace RZ := RZ.keep hb
                  replace RP := RP.keep hb
                  replace O := O.trans (hb.mono O.size)
                  clear hb
                  refine wpAny_take (i := 12) (v := .tuple #[.agg (arr 10 d), .agg (arr 10 b)]) rfl (by kernel_rfl) (by kernel_rfl) (by kernel_rfl) (fun _ _ _ h => h) (Or.inl ⟨by rfl, fun _ => by kernel_rfl⟩) ?_
                  refine wpAny_take (i := 13) (v := .agg (arr 10 d)) rfl (by kernel_rfl) (by kernel_rfl) (by kernel_rfl) (fun _ _ _ h => h) (Or.inl ⟨by rfl, fun _ => by kernel_rfl⟩) ?_
                  refine wpAny_take (i := 14) (v := .agg (arr 10 b)) rfl (by kernel_rfl) (by kernel_rfl) (by kernel_rfl) (fun _ _ _ h => h) (Or.inl ⟨by rfl, fun _ => by kernel_rfl⟩) ?_
                  refine wpAny_take (i := 15) (v := .pointer (some ⟨gp, 10, none⟩)) rfl (by kernel_rfl) (by kernel_rfl) (by kernel_rfl) (fun _ _ _ h => h) (Or.inl ⟨by rfl, fun _ => by kernel_rfl⟩) ?_
                  refine wpAny_ready (rs := [16]) (by kernel_rfl) (by simp) ?_
                  refine ready_puts RP 10 10 d (by omega) rfl rfl 54 _ _ rfl (by kernel_rfl) (by kernel_rfl) (inf54 _) ?_ ?_
                  · intro w121 RP ho hu
                    replace RX := RX.at_ (ho _ hxp)
                    replace RZ := RZ.at_ (ho _ hzp)
                    replace O := hu _ _ hle O
                    clear ho hu
                    refine wpAny_take (i := 17) (v := .pointer (some ⟨gp, 0, none⟩)) rfl (by kernel_rfl) (by kernel_rfl) (by kernel_rfl) (fun _ _ _ h => h) (Or.inl ⟨by rfl, fun _ => by kernel_rfl⟩) ?_
                    refine wpAny_ready (rs := [18]) (by kernel_rfl) (by simp) ?_
                    refine ready_puts RP 0 10 b (by omega) rfl rfl 54 _ _ rfl (by kernel_rfl) (by kernel_rfl) (inf54 _) ?_ ?_
                    · intro w122 RP ho hu
                      replace RX := RX.at_ (ho _ hxp)
                      replace RZ := RZ.at_ (ho _ hzp)
                      replace O := hu _ _ hle O
                      clear ho hu
                      exact wpAny_done (by kernel_rfl) (hrest _ _ ⟨by kernel_rfl, RX, RZ, RP.congr (fun i hi => qj10 p q d b i hi), O⟩) _
                    exact AllReady.nil
                  exact AllReady.nil
                exact AllReady.nil
              exact AllReady.nil
            exact AllReady.nil
          refine ready_part rfl rfl 41 _ rfl w.heap.size 0 (by kernel_rfl) 5 x RX.all _ Try.underlying41 rfl info41 ?_ ?_
          · skip
            refine wpAny_ready (rs := [5, 9]) (by kernel_rfl) (by simp) ?_
            refine ready_part rfl rfl 54 _ rfl gp 10 (by kernel_rfl) 10 q RP.q1 _ Try.underlying54 rfl info54 ?_ ?_
            · skip
              refine wpAny_ready (rs := [9]) (by kernel_rfl) (by simp) ?_
              refine ready_part rfl rfl 54 _ rfl gp 0 (by kernel_rfl) 10 p RP.q0 _ Try.underlying54 rfl info54 ?_ ?_
              · skip
                refine wpAny_ready (rs := [11]) (by kernel_rfl) (by simp) ?_
                refine ready_call 26 #[.agg (arr 10 q), .agg (arr 10 p), .agg (arr 5 x)] rfl rfl (by kernel_rfl) ?_ ?_
                · refine (HC.out _).mono ?_
                  rintro _ w126 ⟨rfl, hb⟩
                  refine ⟨_, rfl, ?_⟩
                  replace RX := RX.keep hb
                  replace RZ := RZ.keep hb
                  replace RP := RP.keep hb
                  replace O := O.trans (hb.mono O.size)
                  clear hb
                  refine wpAny_take (i := 12) (v := .tuple #[.agg (arr 10 d), .agg (arr 10 b)]) rfl (by kernel_rfl) (by kernel_rfl) (by kernel_rfl) (fun _ _ _ h => h) (Or.inl ⟨by rfl, fun _ => by kernel_rfl⟩) ?_
                  refine wpAny_take (i := 13) (v := .agg (arr 10 d)) rfl (by kernel_rfl) (by kernel_rfl) (by kernel_rfl) (fun _ _ _ h => h) (Or.inl ⟨by rfl, fun _ => by kernel_rfl⟩) ?_
                  refine wpAny_take (i := 14) (v := .agg (arr 10 b)) rfl (by kernel_rfl) (by kernel_rfl) (by kernel_rfl) (fun _ _ _ h => h) (Or.inl ⟨by rfl, fun _ => by kernel_rfl⟩) ?_
                  refine wpAny_take (i := 15) (v := .pointer (some ⟨gp, 10, none⟩)) rfl (by kernel_rfl) (by kernel_rfl) (by kernel_rfl) (fun _ _ _ h => h) (Or.inl ⟨by rfl, fun _ => by kernel_rfl⟩) ?_
                  refine wpAny_ready (rs := [16]) (by kernel_rfl) (by simp) ?_
                  refine ready_puts RP 10 10 d (by omega) rfl rfl 54 _ _ rfl (by kernel_rfl) (by kernel_rfl) (inf54 _) ?_ ?_
                  · intro w127 RP ho hu
                    replace RX := RX.at_ (ho _ hxp)
                    replace RZ := RZ.at_ (ho _ hzp)
                    replace O := hu _ _ hle O
                    clear ho hu
                    refine wpAny_take (i := 17) (v := .pointer (some ⟨gp, 0, none⟩)) rfl (by kernel_rfl) (by kernel_rfl) (by kernel_rfl) (fun _ _ _ h => h) (Or.inl ⟨by rfl, fun _ => by kernel_rfl⟩) ?_
                    refine wpAny_ready (rs := [18]) (by kernel_rfl) (by simp) ?_
                    refine ready_puts RP 0 10 b (by omega) rfl rfl 54 _ _ rfl (by kernel_rfl) (by kernel_rfl) (inf54 _) ?_ ?_
                    · intro w128 RP ho hu
                      replace RX := RX.at_ (ho _ hxp)
                      replace RZ := RZ.at_ (ho _ hzp)
                      replace O := hu _ _ hle O
                      clear ho hu
                      exact wpAny_done (by kernel_rfl) (hrest _ _ ⟨by kernel_rfl, RX, RZ, RP.congr (fun i hi => qj10 p q d b i hi), O⟩) _
                    exact AllReady.nil
                  exact AllReady.nil
                exact AllReady.nil
              exact AllReady.nil
            refine ready_part rfl rfl 54 _ rfl gp 0 (by kernel_rfl) 10 p RP.q0 _ Try.underlying54 rfl info54 ?_ ?_
            · skip
              refine wpAny_ready (rs := [5]) (by kernel_rfl) (by simp) ?_
              refine ready_part rfl rfl 54 _ rfl gp 10 (by kernel_rfl) 10 q RP.q1 _ Try.underlying54 rfl info54 ?_ ?_
              · skip
                refine wpAny_ready (rs := [11]) (by kernel_rfl) (by simp) ?_
                refine ready_call 26 #[.agg (arr 10 q), .agg (arr 10 p), .agg (arr 5 x)] rfl rfl (by kernel_rfl) ?_ ?_
                · refine (HC.out _).mono ?_
                  rintro _ w131 ⟨rfl, hb⟩
                  refine ⟨_, rfl, ?_⟩
                  replace RX := RX.keep hb
                  replace RZ := RZ.keep hb
                  replace RP := RP.keep hb
                  replace O := O.trans (hb.mono O.size)
                  clear hb
                  refine wpAny_take (i := 12) (v := .tuple #[.agg (arr 10 d), .agg (arr 10 b)]) rfl (by kernel_rfl) (by kernel_rfl) (by kernel_rfl) (fun _ _ _ h => h) (Or.inl ⟨by rfl, fun _ => by kernel_rfl⟩) ?_
                  refine wpAny_take (i := 13) (v := .agg (arr 10 d)) rfl (by kernel_rfl) (by kernel_rfl) (by kernel_rfl) (fun _ _ _ h => h) (Or.inl ⟨by rfl, fun _ => by kernel_rfl⟩) ?_
                  refine wpAny_take (i := 14) (v := .agg (arr 10 b)) rfl (by kernel_rfl) (by kernel_rfl) (by kernel_rfl) (fun _ _ _ h => h) (Or.inl ⟨by rfl, fun _ => by kernel_rfl⟩) ?_
                  refine wpAny_take (i := 15) (v := .pointer (some ⟨gp, 10, none⟩)) rfl (by kernel_rfl) (by kernel_rfl) (by kernel_rfl) (fun _ _ _ h => h) (Or.inl ⟨by rfl, fun _ => by kernel_rfl⟩) ?_
                  refine wpAny_ready (rs := [16]) (by kernel_rfl) (by simp) ?_
                  refine ready_puts RP 10 10 d (by omega) rfl rfl 54 _ _ rfl (by kernel_rfl) (by kernel_rfl) (inf54 _) ?_ ?_
                  · intro w132 RP ho hu
                    replace RX := RX.at_ (ho _ hxp)
                    replace RZ := RZ.at_ (ho _ hzp)
                    replace O := hu _ _ hle O
                    clear ho hu
                    refine wpAny_take (i := 17) (v := .pointer (some ⟨gp, 0, none⟩)) rfl (by kernel_rfl) (by kernel_rfl) (by kernel_rfl) (fun _ _ _ h => h) (Or.inl ⟨by rfl, fun _ => by kernel_rfl⟩) ?_
                    refine wpAny_ready (rs := [18]) (by kernel_rfl) (by simp) ?_
                    refine ready_puts RP 0 10 b (by omega) rfl rfl 54 _ _ rfl (by kernel_rfl) (by kernel_rfl) (inf54 _) ?_ ?_
                    · intro w133 RP ho hu
                      replace RX := RX.at_ (ho _ hxp)
                      replace RZ := RZ.at_ (ho _ hzp)
                      replace O := hu _ _ hle O
                      clear ho hu
                      exact wpAny_done (by kernel_rfl) (hrest _ _ ⟨by kernel_rfl, RX, RZ, RP.congr (fun i hi => qj10 p q d b i hi), O⟩) _
                    exact AllReady.nil
                  exact AllReady.nil
                exact AllReady.nil
              exact AllReady.nil
            exact AllReady.nil
          exact AllReady.nil
    · have hk' : k = 255 := by omega
      subst hk'
      have hl := HE.out 255
      have HR : Hid (∀ w, Calls Try.prog 28 #[.agg (arr 5 (ladF s e 255).dz.f)] w fun r w' => r = .returned (.agg (arr 5 (invF (ladF s e 255).dz).f)) ∧ Below w.heap.size w w') := hide fun w => inv_any _ w hl.dz
      have HM : Hid (∀ w, Calls Try.prog 27 #[.agg (arr 5 (ladF s e 255).dx.f), .agg (arr 5 (invF (ladF s e 255).dz).f)] w fun r w' => r = .returned (.agg (arr 5 (mulF (ladF s e 255).dx (invF (ladF s e 255).dz)).f)) ∧ Below w.heap.size w w') := hide fun w => mul_any _ _ w hl.dx (invF_ok hl.dz)
      unfold qs at RP
      generalize hres : (mulF (ladF s e 255).dx (invF (ladF s e 255).dz)).f = r at *
      have HRES := hide hres
      clear hres hl
      generalize (invF (ladF s e 255).dz).f = iv at *
      generalize (ladF s e 255).dx.f = fx at *
      generalize (ladF s e 255).dz.f = fz at *
      generalize pj (ladF s e 255).px.f (ladF s e 255).pz.f = fq at *
      go_wp2_with fail
      have hne := KW.some wr
      have HA : Hid (∀ w', (∃ s : KW wr, w' = s.w) → w'.rangeAt gp 0 (arr 5 fx).toList) := hide (by rintro _ ⟨s, rfl⟩; exact (RP.keep s.keep).q0x)
      have HB : Hid (∀ w', (∃ s : KW wr, w' = s.w) → w'.rangeAt gp 5 (arr 5 fz).toList) := hide (by rintro _ ⟨s, rfl⟩; exact (RP.keep s.keep).q0z)
      have KK := hide (And.intro RZ O)
      clear RX RP RZ O
      refine wp_region_keep_tail 8 (by kernel_rfl) (by kernel_rfl) ?_
      simp only [List.take_succ_cons, List.take_zero, List.drop_succ_cons, List.drop_zero]
      go_big_quiet_step (fail)
      go_big_quiet_step (fail)
      go_big_quiet_want
      refine quiet_part 41 _ rfl gp 0 rfl 5 fx HA.out _ Try.underlying41 rfl info41 ?_
      go_simp
      go_big_quiet_on
      go_big_quiet_step (fail)
      go_big_quiet_step (fail)
      go_big_quiet_want
      refine quiet_part 41 _ rfl gp 5 rfl 5 fz HB.out _ Try.underlying41 rfl info41 ?_
      go_simp
      go_big_quiet_on
      go_big_quiet_step ((exact keep_of (HR.out _)))
      go_big_quiet_step ((exact keep_of (HM.out _)))
      refine wpQuiet_nil ?_
      intro t
      obtain ⟨RZ, O⟩ := KK.out
      replace RZ := RZ.keep t.keep
      replace O := O.trans (t.keep.mono O.size)
      clear KK HA HB hne HR HM
      refine wpList_put rfl RZ r 41 _ _ rfl (by kernel_rfl) (by kernel_rfl) info41 ?_
      intro w7 RZ _ hu
      replace O := hu _ _ (by omega) O
      clear hu
      refine wpList_nil ?_
      go_simp
      go_wp2_with fail
      exact bodyPost_ret (v := .agg (arr 5 r)) (results_cell_row Try.results16 _ _ (w.heap.size + 1) 41 (arr 5 r) (0, 0) _ rfl RZ Try.underlying41 rfl (inf41 _)) rfl ⟨by rw [HRES.out], O⟩

end Go.Proofs.Ytiiniodidkfbiaa
