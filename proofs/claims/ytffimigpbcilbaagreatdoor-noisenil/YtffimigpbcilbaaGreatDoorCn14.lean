/- Part 14 of the walks and facts. -/
import Derived.Test.YtffimigpbcilbaaGreatDoorCnDef
import Derived.Test.YtffimigpbcilbaaGreatDoorCn13
set_option maxHeartbeats 16000000
set_option maxRecDepth 100000
set_option linter.unusedSimpArgs false
namespace Go.Proofs.YtffimigpbcilbaaGreatDoor
open Go.RowKit
section
variable (q : Mon.RS)
def yA : Int := (q.x2 + q.z2) % Mon.Pm
def yAA : Int := yA q * yA q % Mon.Pm
def yD : Int := (q.x2 - q.z2) % Mon.Pm
def yDD : Int := yD q * yD q % Mon.Pm
def yE : Int := (yAA q - yDD q) % Mon.Pm
def yU : Int := (q.x3 - q.z3) % Mon.Pm
def yDA : Int := yU q * yA q % Mon.Pm
def yV : Int := (q.x3 + q.z3) % Mon.Pm
def yCB : Int := yV q * yD q % Mon.Pm
def yS : Int := (yDA q + yCB q) % Mon.Pm
def yT : Int := (yDA q - yCB q) % Mon.Pm
def yTT : Int := yT q * yT q % Mon.Pm
def yX3 : Int := yS q * yS q % Mon.Pm
def yX2 : Int := yAA q * yDD q % Mon.Pm
def yF : Int := 121665 * yE q % Mon.Pm
def yG : Int := (yAA q + yF q) % Mon.Pm
def yZ2 : Int := yE q * yG q % Mon.Pm
def yZ3 (x : Int) : Int := x * yTT q % Mon.Pm
end
abbrev nF (X : Int) : Nat → Value := w64 (Mon.d16 X)
abbrev BdP (X : Int) : Prop := 0 ≤ X ∧ X < Mon.Pm
section
variable {X Y : Int}
theorem l_add (hx : BdP X) (hy : BdP Y) (w : World) : Cs 40 #[.agg (av 16 (nF X)), .agg (av 16 (nF Y))] w (.agg (av 16 (nF ((X + Y) % Mon.Pm)))) := by
 have h := Mon.radd_any (Mon.d16 X) (Mon.d16 Y) w (Mon.d16_dig _ 16) (Mon.d16_dig _ 16)
 rwa [Mon.dSP hx, Mon.dSP hy] at h
theorem l_sub (hx : BdP X) (hy : BdP Y) (w : World) : Cs 42 #[.agg (av 16 (nF X)), .agg (av 16 (nF Y))] w (.agg (av 16 (nF ((X - Y) % Mon.Pm)))) := by
 have h := Mon.rsub_any (Mon.d16 X) (Mon.d16 Y) w (Mon.d16_dig _ 16) (Mon.d16_dig _ 16) (by rw [Mon.dSP hy]; exact hy.2)
 rwa [Mon.dSP hx, Mon.dSP hy] at h
theorem l_mul (hx : BdP X) (hy : BdP Y) (w : World) : Cs 41 #[.agg (av 16 (nF X)), .agg (av 16 (nF Y))] w (.agg (av 16 (nF (X * Y % Mon.Pm)))) := by
 have h := Mon.rmul_any (Mon.d16 X) (Mon.d16 Y) w (Mon.d16_dig _ 16) (Mon.d16_dig _ 16)
 rwa [Mon.dSP hx, Mon.dSP hy] at h
theorem l_inv (hx : BdP X) (w : World) : Cs 43 #[.agg (av 16 (nF X))] w (.agg (av 16 (nF (Mon.pwm X (Mon.xbit 255 21) 255)))) := by
 have h := Mon.rinv_any (Mon.d16 X) w (Mon.d16_dig _ 16)
 rwa [Mon.dSP hx] at h
end
theorem l_small (n : Int) (w : World) (h0 : 0 ≤ n) (h1 : n < 4294967296) : Cs 39 #[.int .u32 n] w (.agg (av 16 (nF n))) := Mon.rsmall_any n w h0 h1
theorem l_bytes (X : Int) (w : World) (hL : Laid w) : Cs 44 #[.agg (av 16 (nF X))] w (.string (bs (Mon.rb (Mon.d16 X) 32))) := l_rbytes _ (Mon.d16_dig _ 16) w hL
theorem l_of {u : Yb} {x : Int} (h : Mon.val (Mon.mkS u) % Mon.Pm = x) (w : World) (hL : Laid w) : Cs 38 #[.string (Mon.mkS u)] w (.agg (av 16 (nF x))) := by
 subst h
 exact l_rof (Mon.mkS u) (Mon.mkS_size u) w hL
theorem l_clamp {s K : Yb} (h : Mon.clS s = K) (hs : s.size = 32) (w : World) : Cs 37 #[.string s] w (.string K) := h ▸ Mon.rclamp_yes s w hs
theorem run_shr8 {P : Program} {a : Act} {o : Oper} (t rt : TypeId) (x y : Operand) (ho : o.op = .binOp .shr t x y rt) (k : Int) (ky : IntKind) (m : Nat) (hx : a.eval x = .int .u8 k) (hy : a.eval y = .int ky (m : Int)) (_hm : m ≤ 8) (w : World) :
  (execOp a.eval o).run P w = .ok (.value (.int .u8 (k / 2 ^ m))) w := by
 unfold execOp
 simp [ho, hx, hy, eqGuard, binOp]
theorem run_remM {P : Program} {a : Act} {o : Oper} (t rt : TypeId) (x y : Operand) (ho : o.op = .binOp .rem t x y rt) (m d : Nat) (hx : a.eval x = .int .i64 (m : Int)) (hy : a.eval y = .int .i64 (d : Int)) (hd : 0 < d) (w : World) :
  (execOp a.eval o).run P w = .ok (.value (.int .i64 ((m % d : Nat) : Int))) w := by
 have h0 : ¬ d = 0 := by omega
 have e : Int.tmod (m : Int) (d : Int) = (m : Int) % (d : Int) := rfl
 unfold execOp
 simp [ho, hx, hy, eqGuard, binOp, Op.intDiv, h0, e]
theorem quo8 (j : Nat) (hj : j < 1000000) : IntKind.wrap .i64 ((j : Int).tdiv 8) = ((j / 8 : Nat) : Int) := by
 rw [Int.tdiv_eq_ediv_of_nonneg (by omega), wrap64 (by omega) (by omega)]
 omega
theorem mk_set {u : Yb} (h : u.size = 32) : bs ((sb u).set 31 (bits .and .u8 (bt u 31) 127)) = Mon.mkS u := by
 show _ = bs ((List.range 32).map (Mon.mkF u))
 congr 1
 apply List.ext_getElem?
 intro i
 rw [List.getElem?_set, List.getElem?_map, sb_length, h]
 by_cases h31 : 31 = i
 ·subst h31
  simp [Mon.mkF, Mon.upd] <;> rfl
 ·rw [if_neg h31]
  by_cases hi : i < 32
  ·rw [sb_get u i (by omega), List.getElem?_range hi]
   simp [Mon.mkF, Mon.upd, Ne.symm h31] <;> rfl
  ·rw [List.getElem?_eq_none (by rw [sb_length]; omega), List.getElem?_eq_none (by rw [List.length_range]; omega)]
   rfl
theorem wrapU {x : Int} (h0 : 0 ≤ x) (h1 : x < 18446744073709551616) : IntKind.wrap .u64 x = x := by
 unfold IntKind.wrap
 simp [IntKind.bits, IntKind.signed]
 omega
theorem bd127 (x : Int) : 0 ≤ bits .and .u8 x 127 ∧ bits .and .u8 x 127 < 256 := cv8_nn _
theorem bit_eq (K : Yb) (p : Nat) : bits .and .u8 (bt K (p / 8) / 2 ^ (p % 8)) 1 = Mon.bit K p := by
 have h := bt_nn K (p / 8)
 have h2 : bt K (p / 8) / 2 ^ (p % 8) ≤ bt K (p / 8) := Int.ediv_le_self _ h.1
 have h3 : 0 ≤ bt K (p / 8) / 2 ^ (p % 8) := Int.ediv_nonneg h.1 (Int.le_of_lt (Int.pow_pos (by decide)))
 exact Mon.and1u h3 (by omega)
theorem l_ladder (sec u K : Yb) (x1 : Int) (hsec : sec.size = 32) (hu : u.size = 32) (hK : Mon.clS sec = K) (h1 : Mon.val (Mon.mkS u) % Mon.Pm = x1) (w : World) (hL : Laid w)  : Cs 20 #[.string sec, .string u] w (.string (bs (Mon.rb (Mon.d16 ((Mon.rladF K x1 255).x2 * Mon.pwm (Mon.rladF K x1 255).z2 (Mon.xbit 255 21) 255 % Mon.Pm)) 32))) := by
 go_enter Tryz.func20, Tryz.ntmps20
 have M := Mem.start hL
 have hX : BdP x1 := h1 ▸ Mon.pmod _
 have hKs : K.size = 32 := hK ▸ Mon.clS_size sec
 refine sq <| sR <| rV 1 <| pD M 24 (.string K) (fun w M => l_clamp hK hsec w) fun u1 M => rV 1 <| nT <| sR <| rV 1 <| pl_conv M (want_no rfl) (some 26) rfl _ rfl u (by kernel_rfl) ?_
 intro g1 cpg1 Zg1 u2 hZg1 M
 replace M := M.nf
 refine rV 1 <| nT <| sR <| rV 2 <| pH 29 (.pointer (some ⟨g1, 31, none⟩)) (run_ix0 61 5 Tryz.underlying61 inz5 _ _ rfl g1 u.size cpg1 (by kernel_rfl) .i64 31 (by kernel_rfl) (by omega)) ?_
 refine pE M 30 g1 31 (.int .u8 (bt u 31)) (fun w M => hZg1.cell (M.get 0 rfl) (by unfold vs8; rw [List.getElem?_map, sb_get _ _ (by omega)]; rfl)) ?_
 refine rV 1 <| pH 32 (.pointer (some ⟨g1, 31, none⟩)) (run_ix0 61 5 Tryz.underlying61 inz5 _ _ rfl g1 u.size cpg1 (by kernel_rfl) .i64 31 (by kernel_rfl) (by omega)) <| pl_putS M (want_no rfl) rfl 5 _ _ rfl 0 g1 31 (by kernel_rfl) _ rfl cpg1 _ hZg1 (by rw [vs8_length, sb_length]; omega) (.int .u8 (bits .and .u8 (bt u 31) 127)) (by kernel_rfl) inz5 rfl rfl ?_
 intro ZA u3 hZA M
 rw [show (vs8 (sb u)).set 31 (.int .u8 (bits .and .u8 (bt u 31) 127)) = vs8 ((sb u).set 31 (bits .and .u8 (bt u 31) 127)) by unfold vs8; rw [List.map_set]] at hZA
 replace M := M.nf
 refine nT <| sR <| rV 1 <| pl_back M (want_no rfl) (some 34) rfl _ rfl 0 g1 u.size cpg1 (by kernel_rfl) _ rfl ((sb u).set 31 (bits .and .u8 (bt u 31) 127)) cpg1 hZA (by rw [List.length_set, sb_length]) (fun y hy => by rcases List.mem_or_eq_of_mem_set hy with h | h; exact sb_nn u y h; rw [h]; exact bd127 _) ?_
 rw [mk_set hu]
 refine pD M 35 (.agg (av 16 (nF x1))) (fun w M => l_of h1 w M.laid) fun u4 M => pN M 7 (.cells (av 16 (w64 (fun _ => 0))) 88) fun g2 u5 M => ?_
 replace M := M.nf
 refine ZG M 1 16 (nF x1) fun u6 M => ?_
 replace M := M.nf
 refine nT <| sR <| pD M 36 (.agg (av 16 (nF 1))) (fun w M => l_small 1 w (by decide) (by decide)) fun u7 M => pN M 8 (.cells (av 16 (w64 (fun _ => 0))) 88) fun g3 u8 M => ?_
 replace M := M.nf
 refine ZG M 2 16 (nF 1) fun u9 M => ?_
 replace M := M.nf
 refine nT <| sR <| rV 1 <| pN M 9 (.cells (av 16 (w64 (fun _ => 0))) 88) fun g4 u10 M => ?_
 replace M := M.nf
 refine ZG M 3 16 (nF 0) fun u11 M => ?_
 replace M := M.nf
 refine nT <| sR <| pA M 38 1 16 (nF x1) <| pN M 10 (.cells (av 16 (w64 (fun _ => 0))) 88) fun g5 u12 M => ?_
 replace M := M.nf
 refine ZG M 4 16 (nF x1) fun u13 M => ?_
 replace M := M.nf
 refine nT <| sR <| pD M 39 (.agg (av 16 (nF 1))) (fun w M => l_small 1 w (by decide) (by decide)) fun u14 M => pN M 11 (.cells (av 16 (w64 (fun _ => 0))) 88) fun g6 u15 M => ?_
 replace M := M.nf
 refine ZG M 5 16 (nF 1) fun u16 M => ?_
 replace M := M.nf
 refine nT <| wp_seq <| sq <| wp_block ?_
 refine au_loop (fun j a w' => ∃ v1 : NV, a = (fm ([.string sec, .string u] ++ vr v1 2 2 ++ [.string ⟨#[]⟩, .string K, .slice (some ⟨g1, 0, none⟩) u.size cpg1, .pointer (some ⟨g2, 0, none⟩), .pointer (some ⟨g3, 0, none⟩), .pointer (some ⟨g4, 0, none⟩), .pointer (some ⟨g5, 0, none⟩), .pointer (some ⟨g6, 0, none⟩), .int .i64 (254 - ((j : Nat) : Int))] ++ vr v1 13 105)) ∧ Mem ⟨w, []⟩ [⟨g1, ZA⟩, ⟨g2, .cells (av 16 (nF x1)) 88⟩, ⟨g3, .cells (av 16 (nF (Mon.rladF K x1 j).x2)) 88⟩, ⟨g4, .cells (av 16 (nF (Mon.rladF K x1 j).z2)) 88⟩, ⟨g5, .cells (av 16 (nF (Mon.rladF K x1 j).x3)) 88⟩, ⟨g6, .cells (av 16 (nF (Mon.rladF K x1 j).z3)) 88⟩] w') 255 (exS M) ?_ ?_
 ·intro j a u0 hj hI
  obtain ⟨v1, rfl, M⟩ := hI
  obtain ⟨q, hqe⟩ : ∃ q, Mon.rladF K x1 j = q := ⟨_, rfl⟩
  have hq : q.Ok := hqe ▸ Mon.rladF_ok K hX j
  rw [hqe] at M
  obtain ⟨p, hp⟩ : ∃ p : Nat, 254 - j = p := ⟨_, rfl⟩
  have hpi : (254 : Int) - ((j : Nat) : Int) = (p : Int) := by omega
  rw [hpi]
  refine wp_seq <| sR <| rV 1 <| ZT 41 ((0 : Int) ≤ (p : Int)) <| nT <| cT <| wp_skip <| au_then <| wp_seq <| wp_block <| sR <| rV 2 <| ZQ 46 .i64 (IntKind.wrap .i64 ((p : Int).tdiv 8)) (quo8 p (by omega)) <| pH 47 (.int .u8 (bt K (p / 8))) (run_ixS 9 Tryz.underlying9 _ _ rfl K (by kernel_rfl) .i64 (p / 8) (by kernel_rfl) (by omega)) <| rV 1 <| pH 49 (.int .i64 ((p % 8 : Nat) : Int)) (run_remM 3 3 _ _ rfl p 8 (by kernel_rfl) (by kernel_rfl) (by decide)) ?_
  refine zJ 50 (.int .u64 ((p % 8 : Nat) : Int)) (.int .u64 (IntKind.wrap .u64 ((p % 8 : Nat) : Int))) (by rw [show IntKind.wrap .u64 ((p % 8 : Nat) : Int) = ((p % 8 : Nat) : Int) from wrapU (by omega) (by omega)]) <| pH 51 (.int .u8 (bt K (p / 8) / 2 ^ (p % 8))) (run_shr8 5 92 _ _ rfl (bt K (p / 8)) .u64 (p % 8) (by kernel_rfl) (by kernel_rfl) (by omega)) <| rV 1 ?_
  by_cases c0 : (Mon.bit K p) = 0
  ·refine zJ 53 (.bool false) (.bool (decide (bits .and .u8 (bt K (p / 8) / 2 ^ (p % 8)) 1 = 1))) (by rw [bit_eq, decide_eq_false (by have := Mon.bit_two K p; omega)]) <| rV 1 <| nT <| wp_seq <| sq <| cF <| wp_skip <| au_then <| sR <| pA M 59 2 16 (nF q.x2) <| pA M 60 3 16 (nF q.z2) <| pD M 61 (.agg (av 16 (nF (yA q)))) (fun w M => l_add hq.x2 hq.z2 w) fun u17 M => pN M 14 (.cells (av 16 (w64 (fun _ => 0))) 88) fun g7 u18 M => ?_
   replace M := M.nf
   refine ZG M 6 16 (nF (yA q)) fun u19 M => ?_
   replace M := M.nf
   refine nT <| sR <| pA M 62 6 16 (nF (yA q)) <| pA M 63 6 16 (nF (yA q)) <| pC M 64 41 #[.agg (av 16 (nF (yA q))), .agg (av 16 (nF (yA q)))] (.agg (av 16 (nF (yAA q)))) (fun w M => l_mul (Mon.pmod _) (Mon.pmod _) w) fun u20 M => pN M 15 (.cells (av 16 (w64 (fun _ => 0))) 88) fun g8 u21 M => ?_
   replace M := M.nf
   refine ZG M 7 16 (nF (yAA q)) fun u22 M => ?_
   replace M := M.nf
   refine nT <| sR <| pA M 65 2 16 (nF q.x2) <| pA M 66 3 16 (nF q.z2) <| pD M 67 (.agg (av 16 (nF (yD q)))) (fun w M => l_sub hq.x2 hq.z2 w) fun u23 M => pN M 16 (.cells (av 16 (w64 (fun _ => 0))) 88) fun g9 u24 M => ?_
   replace M := M.nf
   refine ZG M 8 16 (nF (yD q)) fun u25 M => ?_
   replace M := M.nf
   refine nT <| sR <| pA M 68 8 16 (nF (yD q)) <| pA M 69 8 16 (nF (yD q)) <| pC M 70 41 #[.agg (av 16 (nF (yD q))), .agg (av 16 (nF (yD q)))] (.agg (av 16 (nF (yDD q)))) (fun w M => l_mul (Mon.pmod _) (Mon.pmod _) w) fun u26 M => pN M 17 (.cells (av 16 (w64 (fun _ => 0))) 88) fun g10 u27 M => ?_
   replace M := M.nf
   refine ZG M 9 16 (nF (yDD q)) fun u28 M => ?_
   replace M := M.nf
   refine nT <| sR <| pA M 71 7 16 (nF (yAA q)) <| pA M 72 9 16 (nF (yDD q)) <| pC M 73 42 #[.agg (av 16 (nF (yAA q))), .agg (av 16 (nF (yDD q)))] (.agg (av 16 (nF (yE q)))) (fun w M => l_sub (Mon.pmod _) (Mon.pmod _) w) fun u29 M => pN M 18 (.cells (av 16 (w64 (fun _ => 0))) 88) fun g11 u30 M => ?_
   replace M := M.nf
   refine ZG M 10 16 (nF (yE q)) fun u31 M => ?_
   replace M := M.nf
   refine nT <| wp_seq <| rg_allocs M 5 [(19, fun g => .pointer (some ⟨g, 0, none⟩), .cells (av 16 (w64 (fun _ => 0))) 88)] (by kernel_rfl) (by kernel_rfl) (⟨rfl, rfl, fun _ _ => by kernel_rfl, trivial⟩) (by decide) ?_
   simp only [List.take_succ_cons, List.take_zero]
   refine kA M 74 4 16 (nF q.x3) <| kA M 75 5 16 (nF q.z3) <| kD M 76 (.agg (av 16 (nF (yU q)))) (fun w M => l_sub hq.x3 hq.z3 w) <| kA M 77 6 16 (nF (yA q)) <| kC M 78 41 #[.agg (av 16 (nF (yU q))), .agg (av 16 (nF (yA q)))] (.agg (av 16 (nF (yDA q)))) (fun w M => l_mul (Mon.pmod _) (Mon.pmod _) w) <| kl_nil fun u32 g12 M => ?_
   replace M := M.nf
   refine ZG M 11 16 (nF (yDA q)) fun u33 M => ?_
   replace M := M.nf
   refine nT <| wp_seq <| rg_allocs M 5 [(20, fun g => .pointer (some ⟨g, 0, none⟩), .cells (av 16 (w64 (fun _ => 0))) 88)] (by kernel_rfl) (by kernel_rfl) (⟨rfl, rfl, fun _ _ => by kernel_rfl, trivial⟩) (by decide) ?_
   simp only [List.take_succ_cons, List.take_zero]
   refine kA M 79 4 16 (nF q.x3) <| kA M 80 5 16 (nF q.z3) <| kD M 81 (.agg (av 16 (nF (yV q)))) (fun w M => l_add hq.x3 hq.z3 w) <| kA M 82 8 16 (nF (yD q)) <| kC M 83 41 #[.agg (av 16 (nF (yV q))), .agg (av 16 (nF (yD q)))] (.agg (av 16 (nF (yCB q)))) (fun w M => l_mul (Mon.pmod _) (Mon.pmod _) w) <| kl_nil fun u34 g13 M => ?_
   replace M := M.nf
   refine ZG M 12 16 (nF (yCB q)) fun u35 M => ?_
   replace M := M.nf
   refine nT <| sR <| pA M 84 11 16 (nF (yDA q)) <| pA M 85 12 16 (nF (yCB q)) <| pC M 86 40 #[.agg (av 16 (nF (yDA q))), .agg (av 16 (nF (yCB q)))] (.agg (av 16 (nF (yS q)))) (fun w M => l_add (Mon.pmod _) (Mon.pmod _) w) fun u36 M => pN M 21 (.cells (av 16 (w64 (fun _ => 0))) 88) fun g14 u37 M => ?_
   replace M := M.nf
   refine ZG M 13 16 (nF (yS q)) fun u38 M => ?_
   replace M := M.nf
   refine nT <| sR <| pA M 87 13 16 (nF (yS q)) <| pA M 88 13 16 (nF (yS q)) <| pC M 89 41 #[.agg (av 16 (nF (yS q))), .agg (av 16 (nF (yS q)))] (.agg (av 16 (nF (yX3 q)))) (fun w M => l_mul (Mon.pmod _) (Mon.pmod _) w) fun u39 M => ZG M 4 16 (nF (yX3 q)) fun u40 M => ?_
   replace M := M.nf
   refine nT <| sR <| pA M 90 11 16 (nF (yDA q)) <| pA M 91 12 16 (nF (yCB q)) <| pC M 92 42 #[.agg (av 16 (nF (yDA q))), .agg (av 16 (nF (yCB q)))] (.agg (av 16 (nF (yT q)))) (fun w M => l_sub (Mon.pmod _) (Mon.pmod _) w) fun u41 M => pN M 22 (.cells (av 16 (w64 (fun _ => 0))) 88) fun g15 u42 M => ?_
   replace M := M.nf
   refine ZG M 14 16 (nF (yT q)) fun u43 M => ?_
   replace M := M.nf
   refine nT <| wp_seq <| rg_tail M 5 (by kernel_rfl) (by kernel_rfl) ?_
   simp only [List.take_succ_cons, List.take_zero]
   refine kA M 93 1 16 (nF x1) <| kA M 94 14 16 (nF (yT q)) <| kA M 95 14 16 (nF (yT q)) <| kC M 96 41 #[.agg (av 16 (nF (yT q))), .agg (av 16 (nF (yT q)))] (.agg (av 16 (nF (yTT q)))) (fun w M => l_mul (Mon.pmod _) (Mon.pmod _) w) <| kC M 97 41 #[.agg (av 16 (nF x1)), .agg (av 16 (nF (yTT q)))] (.agg (av 16 (nF (yZ3 q x1)))) (fun w M => l_mul hX (Mon.pmod _) w) <| kl_nil fun u44 M => ?_
   replace M := M.nf
   refine ZG M 5 16 (nF (yZ3 q x1)) fun u45 M => ?_
   replace M := M.nf
   refine nT <| sR <| pA M 98 7 16 (nF (yAA q)) <| pA M 99 9 16 (nF (yDD q)) <| pC M 100 41 #[.agg (av 16 (nF (yAA q))), .agg (av 16 (nF (yDD q)))] (.agg (av 16 (nF (yX2 q)))) (fun w M => l_mul (Mon.pmod _) (Mon.pmod _) w) fun u46 M => ZG M 2 16 (nF (yX2 q)) fun u47 M => ?_
   replace M := M.nf
   refine nT <| wp_seq <| rg_tail M 7 (by kernel_rfl) (by kernel_rfl) ?_
   simp only [List.take_succ_cons, List.take_zero]
   refine kA M 101 10 16 (nF (yE q)) <| kA M 102 7 16 (nF (yAA q)) <| kD M 103 (.agg (av 16 (nF 121665))) (fun w M => l_small 121665 w (by decide) (by decide)) <| kA M 104 10 16 (nF (yE q)) <| kC M 105 41 #[.agg (av 16 (nF 121665)), .agg (av 16 (nF (yE q)))] (.agg (av 16 (nF (yF q)))) (fun w M => l_mul ⟨by decide, by decide⟩ (Mon.pmod _) w) <| kC M 106 40 #[.agg (av 16 (nF (yAA q))), .agg (av 16 (nF (yF q)))] (.agg (av 16 (nF (yG q)))) (fun w M => l_add (Mon.pmod _) (Mon.pmod _) w) <| kC M 107 41 #[.agg (av 16 (nF (yE q))), .agg (av 16 (nF (yG q)))] (.agg (av 16 (nF (yZ2 q)))) (fun w M => l_mul (Mon.pmod _) (Mon.pmod _) w) <| kl_nil fun u48 M => ?_
   replace M := M.nf
   refine ZG M 3 16 (nF (yZ2 q)) fun u49 M => ?_
   replace M := M.nf
   refine nT <| sq <| cF <| wp_skip <| au_block <| au_then <| rg_lit <| rV 1 <| ZI 43 ((p : Int) - 1) (254 - ((j + 1 : Nat) : Int)) <| rV 1 <| nT ?_
   have e0 : Mon.rladF K x1 (j + 1) = ⟨(yX2 q), (yZ2 q), (yX3 q), (yZ3 q x1)⟩ := by
    show (if Mon.bit K (254 - j) = 0 then _ else _) = _
    rw [hp, if_pos c0, hqe]
    rfl
   exact exS (by rw [e0]; exact M.drop (.cons_cons _ (.cons_cons _ (.cons_cons _ (.cons_cons _ (.cons_cons _ (.cons_cons _ (.cons _ (.cons _ (.cons _ (.cons _ (.cons _ (.cons _ (.cons _ (.cons _ (.cons _ (.slnil)))))))))))))))))
  ·refine zJ 53 (.bool true) (.bool (decide (bits .and .u8 (bt K (p / 8) / 2 ^ (p % 8)) 1 = 1))) (by rw [bit_eq, decide_eq_true (by have := Mon.bit_two K p; omega)]) <| rV 1 <| nT <| wp_seq <| sq <| cT <| sR <| pA M 55 4 16 (nF q.x3) <| pA M 56 2 16 (nF q.x2) <| ZG M 2 16 (nF q.x3) fun u17 M => ?_
   replace M := M.nf
   refine ZG M 4 16 (nF q.x2) fun u18 M => ?_
   replace M := M.nf
   refine nT <| rg_lit <| pA M 57 5 16 (nF q.z3) <| pA M 58 3 16 (nF q.z2) <| ZG M 3 16 (nF q.z3) fun u19 M => ?_
   replace M := M.nf
   refine ZG M 5 16 (nF q.z2) fun u20 M => ?_
   replace M := M.nf
   refine nT <| sR <| pA M 59 2 16 (nF q.x3) <| pA M 60 3 16 (nF q.z3) <| pD M 61 (.agg (av 16 (nF (yA q.swap)))) (fun w M => l_add hq.x3 hq.z3 w) fun u21 M => pN M 14 (.cells (av 16 (w64 (fun _ => 0))) 88) fun g7 u22 M => ?_
   replace M := M.nf
   refine ZG M 6 16 (nF (yA q.swap)) fun u23 M => ?_
   replace M := M.nf
   refine nT <| sR <| pA M 62 6 16 (nF (yA q.swap)) <| pA M 63 6 16 (nF (yA q.swap)) <| pC M 64 41 #[.agg (av 16 (nF (yA q.swap))), .agg (av 16 (nF (yA q.swap)))] (.agg (av 16 (nF (yAA q.swap)))) (fun w M => l_mul (Mon.pmod _) (Mon.pmod _) w) fun u24 M => pN M 15 (.cells (av 16 (w64 (fun _ => 0))) 88) fun g8 u25 M => ?_
   replace M := M.nf
   refine ZG M 7 16 (nF (yAA q.swap)) fun u26 M => ?_
   replace M := M.nf
   refine nT <| sR <| pA M 65 2 16 (nF q.x3) <| pA M 66 3 16 (nF q.z3) <| pD M 67 (.agg (av 16 (nF (yD q.swap)))) (fun w M => l_sub hq.x3 hq.z3 w) fun u27 M => pN M 16 (.cells (av 16 (w64 (fun _ => 0))) 88) fun g9 u28 M => ?_
   replace M := M.nf
   refine ZG M 8 16 (nF (yD q.swap)) fun u29 M => ?_
   replace M := M.nf
   refine nT <| sR <| pA M 68 8 16 (nF (yD q.swap)) <| pA M 69 8 16 (nF (yD q.swap)) <| pC M 70 41 #[.agg (av 16 (nF (yD q.swap))), .agg (av 16 (nF (yD q.swap)))] (.agg (av 16 (nF (yDD q.swap)))) (fun w M => l_mul (Mon.pmod _) (Mon.pmod _) w) fun u30 M => pN M 17 (.cells (av 16 (w64 (fun _ => 0))) 88) fun g10 u31 M => ?_
   replace M := M.nf
   refine ZG M 9 16 (nF (yDD q.swap)) fun u32 M => ?_
   replace M := M.nf
   refine nT <| sR <| pA M 71 7 16 (nF (yAA q.swap)) <| pA M 72 9 16 (nF (yDD q.swap)) <| pC M 73 42 #[.agg (av 16 (nF (yAA q.swap))), .agg (av 16 (nF (yDD q.swap)))] (.agg (av 16 (nF (yE q.swap)))) (fun w M => l_sub (Mon.pmod _) (Mon.pmod _) w) fun u33 M => pN M 18 (.cells (av 16 (w64 (fun _ => 0))) 88) fun g11 u34 M => ?_
   replace M := M.nf
   refine ZG M 10 16 (nF (yE q.swap)) fun u35 M => ?_
   replace M := M.nf
   refine nT <| wp_seq <| rg_allocs M 5 [(19, fun g => .pointer (some ⟨g, 0, none⟩), .cells (av 16 (w64 (fun _ => 0))) 88)] (by kernel_rfl) (by kernel_rfl) (⟨rfl, rfl, fun _ _ => by kernel_rfl, trivial⟩) (by decide) ?_
   simp only [List.take_succ_cons, List.take_zero]
   refine kA M 74 4 16 (nF q.x2) <| kA M 75 5 16 (nF q.z2) <| kD M 76 (.agg (av 16 (nF (yU q.swap)))) (fun w M => l_sub hq.x2 hq.z2 w) <| kA M 77 6 16 (nF (yA q.swap)) <| kC M 78 41 #[.agg (av 16 (nF (yU q.swap))), .agg (av 16 (nF (yA q.swap)))] (.agg (av 16 (nF (yDA q.swap)))) (fun w M => l_mul (Mon.pmod _) (Mon.pmod _) w) <| kl_nil fun u36 g12 M => ?_
   replace M := M.nf
   refine ZG M 11 16 (nF (yDA q.swap)) fun u37 M => ?_
   replace M := M.nf
   refine nT <| wp_seq <| rg_allocs M 5 [(20, fun g => .pointer (some ⟨g, 0, none⟩), .cells (av 16 (w64 (fun _ => 0))) 88)] (by kernel_rfl) (by kernel_rfl) (⟨rfl, rfl, fun _ _ => by kernel_rfl, trivial⟩) (by decide) ?_
   simp only [List.take_succ_cons, List.take_zero]
   refine kA M 79 4 16 (nF q.x2) <| kA M 80 5 16 (nF q.z2) <| kD M 81 (.agg (av 16 (nF (yV q.swap)))) (fun w M => l_add hq.x2 hq.z2 w) <| kA M 82 8 16 (nF (yD q.swap)) <| kC M 83 41 #[.agg (av 16 (nF (yV q.swap))), .agg (av 16 (nF (yD q.swap)))] (.agg (av 16 (nF (yCB q.swap)))) (fun w M => l_mul (Mon.pmod _) (Mon.pmod _) w) <| kl_nil fun u38 g13 M => ?_
   replace M := M.nf
   refine ZG M 12 16 (nF (yCB q.swap)) fun u39 M => ?_
   replace M := M.nf
   refine nT <| sR <| pA M 84 11 16 (nF (yDA q.swap)) <| pA M 85 12 16 (nF (yCB q.swap)) <| pC M 86 40 #[.agg (av 16 (nF (yDA q.swap))), .agg (av 16 (nF (yCB q.swap)))] (.agg (av 16 (nF (yS q.swap)))) (fun w M => l_add (Mon.pmod _) (Mon.pmod _) w) fun u40 M => pN M 21 (.cells (av 16 (w64 (fun _ => 0))) 88) fun g14 u41 M => ?_
   replace M := M.nf
   refine ZG M 13 16 (nF (yS q.swap)) fun u42 M => ?_
   replace M := M.nf
   refine nT <| sR <| pA M 87 13 16 (nF (yS q.swap)) <| pA M 88 13 16 (nF (yS q.swap)) <| pC M 89 41 #[.agg (av 16 (nF (yS q.swap))), .agg (av 16 (nF (yS q.swap)))] (.agg (av 16 (nF (yX3 q.swap)))) (fun w M => l_mul (Mon.pmod _) (Mon.pmod _) w) fun u43 M => ZG M 4 16 (nF (yX3 q.swap)) fun u44 M => ?_
   replace M := M.nf
   refine nT <| sR <| pA M 90 11 16 (nF (yDA q.swap)) <| pA M 91 12 16 (nF (yCB q.swap)) <| pC M 92 42 #[.agg (av 16 (nF (yDA q.swap))), .agg (av 16 (nF (yCB q.swap)))] (.agg (av 16 (nF (yT q.swap)))) (fun w M => l_sub (Mon.pmod _) (Mon.pmod _) w) fun u45 M => pN M 22 (.cells (av 16 (w64 (fun _ => 0))) 88) fun g15 u46 M => ?_
   replace M := M.nf
   refine ZG M 14 16 (nF (yT q.swap)) fun u47 M => ?_
   replace M := M.nf
   refine nT <| wp_seq <| rg_tail M 5 (by kernel_rfl) (by kernel_rfl) ?_
   simp only [List.take_succ_cons, List.take_zero]
   refine kA M 93 1 16 (nF x1) <| kA M 94 14 16 (nF (yT q.swap)) <| kA M 95 14 16 (nF (yT q.swap)) <| kC M 96 41 #[.agg (av 16 (nF (yT q.swap))), .agg (av 16 (nF (yT q.swap)))] (.agg (av 16 (nF (yTT q.swap)))) (fun w M => l_mul (Mon.pmod _) (Mon.pmod _) w) <| kC M 97 41 #[.agg (av 16 (nF x1)), .agg (av 16 (nF (yTT q.swap)))] (.agg (av 16 (nF (yZ3 q.swap x1)))) (fun w M => l_mul hX (Mon.pmod _) w) <| kl_nil fun u48 M => ?_
   replace M := M.nf
   refine ZG M 5 16 (nF (yZ3 q.swap x1)) fun u49 M => ?_
   replace M := M.nf
   refine nT <| sR <| pA M 98 7 16 (nF (yAA q.swap)) <| pA M 99 9 16 (nF (yDD q.swap)) <| pC M 100 41 #[.agg (av 16 (nF (yAA q.swap))), .agg (av 16 (nF (yDD q.swap)))] (.agg (av 16 (nF (yX2 q.swap)))) (fun w M => l_mul (Mon.pmod _) (Mon.pmod _) w) fun u50 M => ZG M 2 16 (nF (yX2 q.swap)) fun u51 M => ?_
   replace M := M.nf
   refine nT <| wp_seq <| rg_tail M 7 (by kernel_rfl) (by kernel_rfl) ?_
   simp only [List.take_succ_cons, List.take_zero]
   refine kA M 101 10 16 (nF (yE q.swap)) <| kA M 102 7 16 (nF (yAA q.swap)) <| kD M 103 (.agg (av 16 (nF 121665))) (fun w M => l_small 121665 w (by decide) (by decide)) <| kA M 104 10 16 (nF (yE q.swap)) <| kC M 105 41 #[.agg (av 16 (nF 121665)), .agg (av 16 (nF (yE q.swap)))] (.agg (av 16 (nF (yF q.swap)))) (fun w M => l_mul ⟨by decide, by decide⟩ (Mon.pmod _) w) <| kC M 106 40 #[.agg (av 16 (nF (yAA q.swap))), .agg (av 16 (nF (yF q.swap)))] (.agg (av 16 (nF (yG q.swap)))) (fun w M => l_add (Mon.pmod _) (Mon.pmod _) w) <| kC M 107 41 #[.agg (av 16 (nF (yE q.swap))), .agg (av 16 (nF (yG q.swap)))] (.agg (av 16 (nF (yZ2 q.swap)))) (fun w M => l_mul (Mon.pmod _) (Mon.pmod _) w) <| kl_nil fun u52 M => ?_
   replace M := M.nf
   refine ZG M 3 16 (nF (yZ2 q.swap)) fun u53 M => ?_
   replace M := M.nf
   refine nT <| sq <| cT <| sR <| pA M 109 4 16 (nF (yX3 q.swap)) <| pA M 110 2 16 (nF (yX2 q.swap)) <| ZG M 2 16 (nF (yX3 q.swap)) fun u54 M => ?_
   replace M := M.nf
   refine ZG M 4 16 (nF (yX2 q.swap)) fun u55 M => ?_
   replace M := M.nf
   refine nT <| rg_lit <| pA M 111 5 16 (nF (yZ3 q.swap x1)) <| pA M 112 3 16 (nF (yZ2 q.swap)) <| ZG M 3 16 (nF (yZ3 q.swap x1)) fun u56 M => ?_
   replace M := M.nf
   refine ZG M 5 16 (nF (yZ2 q.swap)) fun u57 M => ?_
   replace M := M.nf
   refine pl_nil <| au_block <| au_then <| rg_lit <| rV 1 <| ZI 43 ((p : Int) - 1) (254 - ((j + 1 : Nat) : Int)) <| rV 1 <| nT ?_
   have e0 : Mon.rladF K x1 (j + 1) = ⟨(yX3 q.swap), (yZ3 q.swap x1), (yX2 q.swap), (yZ2 q.swap)⟩ := by
    show (if Mon.bit K (254 - j) = 0 then _ else _) = _
    rw [hp, if_neg c0, hqe]
    rfl
   exact exS (by rw [e0]; exact M.drop (.cons_cons _ (.cons_cons _ (.cons_cons _ (.cons_cons _ (.cons_cons _ (.cons_cons _ (.cons _ (.cons _ (.cons _ (.cons _ (.cons _ (.cons _ (.cons _ (.cons _ (.cons _ (.slnil)))))))))))))))))
 ·intro a u0 hI
  obtain ⟨v1, rfl, M⟩ := hI
  refine wp_seq <| sR <| rV 1 <| ZF 41 ((0 : Int) ≤ (254 - ((255 : Nat) : Int))) <| nT <| cF <| wp_exit <| au_then_exit <| au_then_exit <| au_block_exit <| au_then <| wp_seq <| rg_tail M 5 (by kernel_rfl) (by kernel_rfl) ?_
  simp only [List.take_succ_cons, List.take_zero]
  refine kA M 113 2 16 (nF (Mon.rladF K x1 255).x2) <| kA M 114 3 16 (nF (Mon.rladF K x1 255).z2) <| kD M 115 (.agg (av 16 (nF (Mon.pwm (Mon.rladF K x1 255).z2 (Mon.xbit 255 21) 255)))) (fun w M => l_inv (Mon.rladF_ok K hX 255).z2 w) <| kC M 116 41 #[.agg (av 16 (nF (Mon.rladF K x1 255).x2)), .agg (av 16 (nF (Mon.pwm (Mon.rladF K x1 255).z2 (Mon.xbit 255 21) 255)))] (.agg (av 16 (nF ((Mon.rladF K x1 255).x2 * (Mon.pwm (Mon.rladF K x1 255).z2 (Mon.xbit 255 21) 255) % Mon.Pm)))) (fun w M => l_mul (Mon.rladF_ok K hX 255).x2 (Mon.pwm_bd _ _ _) w) <| kD M 117 (.string (bs (Mon.rb (Mon.d16 ((Mon.rladF K x1 255).x2 * (Mon.pwm (Mon.rladF K x1 255).z2 (Mon.xbit 255 21) 255) % Mon.Pm)) 32))) (fun w M => l_bytes ((Mon.rladF K x1 255).x2 * (Mon.pwm (Mon.rladF K x1 255).z2 (Mon.xbit 255 21) 255) % Mon.Pm) w M.laid) <| kl_nil fun u17 M => ?_
  replace M := M.nf
  refine rV 1 <| nT <| wp_ret ?_
  exact b1 M
end Go.Proofs.YtffimigpbcilbaaGreatDoor
namespace Go.Proofs.YtffimigpbcilbaaGreatDoor.Mon
open Go.RowKit
theorem rladL (s p : Yb) (w : World) (hL : Laid w) (V : Int) (hs : s.size = 32) (hp : p.size = 32) (hV : shV (clS s) (val (mkS p) % Pm) = V) : Cs 20 #[.string s, .string p] w (.string (lebytes V)) := by
 have h := l_ladder s p (clS s) (val (mkS p) % Pm) hs hp rfl rfl w hL
 have e : lebytes V = bs (rb (d16 ((rladF (clS s) (val (mkS p) % Pm) 255).x2 * pwm (rladF (clS s) (val (mkS p) % Pm) 255).z2 (xbit 255 21) 255 % Pm)) 32) := by
  rw [← hV]
  exact leb_rb (shV_bd _ _)
 rwa [← e] at h
theorem rpub_genL (s S : Yb) (w : World) (hL : Laid w) (hs : s.size = 32) (H : ∀ w, Laid w → Cs 20 #[.string s, .string nineS] w (.string S)) : Cs 9 #[.string s] w (.tuple #[.string S, .int .i64 0]) := by
 have n1 : ((s.size : Int) != 32) = false := by simp [hs]
 clear hs
 have H1 := hide H
 clear H
 have m1 := mk32 w
 have B := bc32 w
 have c0 := B.c 0 (by omega)
 have f0 := B.fz 0 (by omega)
 have gl := B.lt
 have hbk := conv_back (B.set (k := 0) (by omega) 9) 32 (fun i _ => by unfold upd; by_cases h : i = 0 <;> simp [h])
 rw [nine_bs] at hbk
 have O := hide ((new_below w (.cells #[Value.int .u8 0, Value.int .u8 0, Value.int .u8 0, Value.int .u8 0, Value.int .u8 0, Value.int .u8 0, Value.int .u8 0, Value.int .u8 0, Value.int .u8 0, Value.int .u8 0, Value.int .u8 0, Value.int .u8 0, Value.int .u8 0, Value.int .u8 0, Value.int .u8 0, Value.int .u8 0, Value.int .u8 0, Value.int .u8 0, Value.int .u8 0, Value.int .u8 0, Value.int .u8 0, Value.int .u8 0, Value.int .u8 0, Value.int .u8 0, Value.int .u8 0, Value.int .u8 0, Value.int .u8 0, Value.int .u8 0, Value.int .u8 0, Value.int .u8 0, Value.int .u8 0, Value.int .u8 0] 5)).setCell (p := ⟨w.heap.size, 0, none⟩) (Nat.le_refl _) (.int .u8 9))
 clear B
 generalize nineS = N at *
 generalize w.alloc (.cells #[Value.int .u8 0, Value.int .u8 0, Value.int .u8 0, Value.int .u8 0, Value.int .u8 0, Value.int .u8 0, Value.int .u8 0, Value.int .u8 0, Value.int .u8 0, Value.int .u8 0, Value.int .u8 0, Value.int .u8 0, Value.int .u8 0, Value.int .u8 0, Value.int .u8 0, Value.int .u8 0, Value.int .u8 0, Value.int .u8 0, Value.int .u8 0, Value.int .u8 0, Value.int .u8 0, Value.int .u8 0, Value.int .u8 0, Value.int .u8 0, Value.int .u8 0, Value.int .u8 0, Value.int .u8 0, Value.int .u8 0, Value.int .u8 0, Value.int .u8 0, Value.int .u8 0, Value.int .u8 0] 5) = W1 at *
 go_enter Tryz.func9, Tryz.ntmps9
 go_wp2_with fail
 refine (H1.out _ (below_laid O.out hL)).mono ?_
 rintro _ w3 ⟨rfl, hb⟩
 have O2 := O.out.trans (hb.mono O.out.size)
 clear hb H1
 go_wp2_with fail
 exact bodyPost_ret (v := .tuple #[.string S, .int .i64 0]) (by simp [results, Tryz.results9, go_sem]) rfl ⟨rfl, O2⟩
theorem rpubL (s : Yb) (w : World) (hL : Laid w) (hs : s.size = 32) : Cs 9 #[.string s] w (.tuple #[.string (lebytes (shV (clS s) 9)), .int .i64 0]) :=
 rpub_genL s _ w hL hs fun w hL => rladL s nineS w hL _ hs nineS_size (by rw [v9])
end Go.Proofs.YtffimigpbcilbaaGreatDoor.Mon
namespace Go.Proofs.YtffimigpbcilbaaGreatDoor
open Go.RowKit
section
variable {P : Program} {ops : Array Oper} {o o2 o3 : Oper} {a : Act} {w : World} {Q : Exit → Act → World → Prop} {S : World → Prop} {n fuel : Nat} {listed : Array Bool}
theorem hl_name (h : ∀ H : Nat → Array Bool → Act → World → Prop, (∀ f l a w, H f l a w → HL P ops Q S n f l a w) → (∀ f l a w, HL P ops Q S n f l a w → H f l a w) → H fuel listed a w) : HL P ops Q S n fuel listed a w := h _ (fun _ _ _ _ h => h) (fun _ _ _ _ h => h)
end
section
variable {a : Act} {w : World} {Q : Exit → Act → World → Prop}
end
theorem z31 : ∀ x ∈ List.replicate 31 (0 : Int), 0 ≤ x ∧ x < 256 := fun x hx => by
 rw [List.eq_of_mem_replicate hx]
 decide
theorem sb_z : SB (.cells (av 31 (w8 fun _ => 0)) 5) 31 (vs8 (List.replicate 31 0)) := by
 refine ⟨_, 5, (0, 0), rfl, by simp [vs8], by rw [av_size]; exact Nat.le_refl _, fun i hi => ?_, fun i _ => by simp⟩
 rw [vs8_length, List.length_replicate] at hi
 rw [av_get _ _ _ hi]
 unfold vs8 w8
 rw [List.getElem?_map, List.getElem?_replicate, if_pos hi]
 rfl
theorem sb_one (c : Int) : SB (.cells (av 1 (fun _ => .int .u8 c)) 5) 1 (vs8 [c]) := by
 refine ⟨_, 5, (0, 0), rfl, by simp [vs8], by rw [av_size]; exact Nat.le_refl _, fun i hi => ?_, fun i _ => by simp⟩
 obtain rfl : i = 0 := by rw [vs8_length] at hi; exact Nat.lt_one_iff.1 hi
 rw [av_get _ _ _ (by decide)]
 rfl
theorem c_key (c_ : Int) (h0 : 0 ≤ c_) (h1 : c_ < 256) (w : World) (hL : Laid w)  : Cs 19 #[.int .u8 c_] w (.string (keS c_)) := by
 go_enter Tryz.func19, Tryz.ntmps19
 have M := Mem.start hL
 refine sq <| wp_seq <| rgh M [] 6 fun u1 M => qV M 2 5 (.int .u8 c_) <| hl_name ?_
 intro H hA hB
 have s9 : ∀ (a : Act) (l : Array Bool) (x_3 x_6 : Value) (w0 : World), a = (fm ([.int .u8 c_, undef, .string zb, x_3, .string (bs (List.replicate 31 0)), .int .u8 c_, x_6, .string (bs [c_]), .string ((bs (List.replicate 31 0)) ++ (bs [c_]))])) → l = #[true, true, true, true, true, true, false] → Mem ⟨w, []⟩ [] w0 → H 1 l a w0 := by
  intro a l  x_3 x_6 u0 ha hl M
  subst ha hl
  refine hB _ _ _ _ <| qZ ?_
  refine rV 1 <| nT <| au_then <| wp_ret ?_
  exact bX (.string ((bs (List.replicate 31 0)) ++ (bs [c_]))) ⟨by rw [bs_app]; rfl, below_grown M.old⟩
 have s7 : ∀ (a : Act) (l : Array Bool) (g2 : Nat) (x_3 : Value) (w0 : World), a = (fm ([.int .u8 c_, undef, .string zb, x_3, .string (bs (List.replicate 31 0)), .int .u8 c_, .slice (some ⟨g2, 0, none⟩) 1 1, undef, undef])) → l = #[true, true, true, true, false, false, false] → Mem ⟨w, []⟩ [⟨g2, .cells (av 1 (ls [.int .u8 c_])) 5⟩] w0 → H 3 l a w0 := by
  intro a l g2 x_3 u0 ha hl M
  subst ha hl
  refine hB _ _ _ _ <| qO 4 ?_
  refine pl_back M (want_no rfl) (some 7) rfl _ rfl 0 g2 1 1 (by kernel_rfl) _ rfl [c_] 1 (sb_one _) (by simp) (ker c_ h0 h1) <| nT ?_
  refine ⟨(M.drop (.cons _ (.slnil))), ?_⟩
  refine qH (M.drop (.cons _ (.slnil))) 5 8 (.string ((bs (List.replicate 31 0)) ++ (bs [c_]))) (fun w _ => (run_cat 9 9 _ _ rfl (bs (List.replicate 31 0)) (bs [c_]) (by kernel_rfl) (by kernel_rfl) (by rw [bs_size, bs_size, List.length_replicate]; exact (by decide : 31 + 1 ≤ 9223372036854775807))) w) ?_
  exact hA _ _ _ _ (s9 _ _ (x_3) (.slice (some ⟨g2, 0, none⟩) 1 1) _ (by kernel_rfl) (by kernel_rfl) (M.drop (.cons _ (.slnil))))
 have s8 : ∀ (a : Act) (l : Array Bool) (g1 : Nat) (x_6 : Value) (w0 : World), a = (fm ([.int .u8 c_, undef, .string zb, .slice (some ⟨g1, 0, none⟩) 31 31, undef, .int .u8 c_, x_6, .string (bs [c_]), undef])) → l = #[true, false, true, true, true, false, false] → Mem ⟨w, []⟩ [⟨g1, .cells (av 31 (w8 fun _ => 0)) 5⟩] w0 → H 3 l a w0 := by
  intro a l g1 x_6 u0 ha hl M
  subst ha hl
  refine hB _ _ _ _ <| qO 1 ?_
  refine pl_back M (want_no rfl) (some 4) rfl _ rfl 0 g1 31 31 (by kernel_rfl) _ rfl (List.replicate 31 0) 31 sb_z (by simp) z31 <| nT ?_
  refine ⟨(M.drop (.cons _ (.slnil))), ?_⟩
  refine qH (M.drop (.cons _ (.slnil))) 5 8 (.string ((bs (List.replicate 31 0)) ++ (bs [c_]))) (fun w _ => (run_cat 9 9 _ _ rfl (bs (List.replicate 31 0)) (bs [c_]) (by kernel_rfl) (by kernel_rfl) (by rw [bs_size, bs_size, List.length_replicate]; exact (by decide : 31 + 1 ≤ 9223372036854775807))) w) ?_
  exact hA _ _ _ _ (s9 _ _ (.slice (some ⟨g1, 0, none⟩) 31 31) (x_6) _ (by kernel_rfl) (by kernel_rfl) (M.drop (.cons _ (.slnil))))
 have s3 : ∀ (a : Act) (l : Array Bool) (x_3 : Value) (w0 : World), a = (fm ([.int .u8 c_, undef, .string zb, x_3, .string (bs (List.replicate 31 0)), .int .u8 c_] ++ und 3)) → l = #[true, true, true, false, false, false, false] → Mem ⟨w, []⟩ [] w0 → H 4 l a w0 := by
  intro a l  x_3 u0 ha hl M
  subst ha hl
  refine hB _ _ _ _ <| qO 3 ?_
  refine ZM M 6 (fun g2 => .slice (some ⟨g2, 0, none⟩) 1 1) (.cells (av 1 (ls [.int .u8 c_])) 5) fun g2 u3 M => nT ?_
  refine ⟨(M.drop (.cons _ (.slnil))), ?_⟩
  exact hA _ _ _ _ (s7 _ _ g2 (x_3) _ (by kernel_rfl) (by kernel_rfl) M)
 have s4 : ∀ (a : Act) (l : Array Bool) (g1 g2 : Nat) (w0 : World), a = (fm ([.int .u8 c_, undef, .string zb, .slice (some ⟨g1, 0, none⟩) 31 31, undef, .int .u8 c_, .slice (some ⟨g2, 0, none⟩) 1 1, undef, undef])) → l = #[true, false, true, true, false, false, false] → Mem ⟨w, []⟩ [⟨g1, .cells (av 31 (w8 fun _ => 0)) 5⟩, ⟨g2, .cells (av 1 (ls [.int .u8 c_])) 5⟩] w0 → H 4 l a w0 := by
  intro a l g1 g2  u0 ha hl M
  subst ha hl
  refine hB _ _ _ _ ?_
  refine hl_two 1 4 (by decide) (by decide) (by kernel_rfl) rfl rfl ?_ ?_
  ·refine pl_back M (want_no rfl) (some 4) rfl _ rfl 0 g1 31 31 (by kernel_rfl) _ rfl (List.replicate 31 0) 31 sb_z (by simp) z31 <| nT ?_
   refine ⟨(M.drop (.cons _ (.cons _ (.slnil)))), ?_⟩
   exact hA _ _ _ _ (s7 _ _ g2 (.slice (some ⟨g1, 0, none⟩) 31 31) _ (by kernel_rfl) (by kernel_rfl) (M.drop (.cons _ (.cons_cons _ (.slnil)))))
  ·refine pl_back M (want_no rfl) (some 7) rfl _ rfl 1 g2 1 1 (by kernel_rfl) _ rfl [c_] 1 (sb_one _) (by simp) (ker c_ h0 h1) <| nT ?_
   refine ⟨(M.drop (.cons _ (.cons _ (.slnil)))), ?_⟩
   exact hA _ _ _ _ (s8 _ _ g1 (.slice (some ⟨g2, 0, none⟩) 1 1) _ (by kernel_rfl) (by kernel_rfl) (M.drop (.cons_cons _ (.cons _ (.slnil)))))
 have s5 : ∀ (a : Act) (l : Array Bool) (g1 g2 : Nat) (w0 : World), a = (fm ([.int .u8 c_, undef, .string zb, .slice (some ⟨g2, 0, none⟩) 31 31, undef, .int .u8 c_, .slice (some ⟨g1, 0, none⟩) 1 1, undef, undef])) → l = #[true, false, true, true, false, false, false] → Mem ⟨w, []⟩ [⟨g1, .cells (av 1 (ls [.int .u8 c_])) 5⟩, ⟨g2, .cells (av 31 (w8 fun _ => 0)) 5⟩] w0 → H 4 l a w0 := by
  intro a l g1 g2  u0 ha hl M
  subst ha hl
  refine hB _ _ _ _ ?_
  refine hl_two 1 4 (by decide) (by decide) (by kernel_rfl) rfl rfl ?_ ?_
  ·refine pl_back M (want_no rfl) (some 4) rfl _ rfl 1 g2 31 31 (by kernel_rfl) _ rfl (List.replicate 31 0) 31 sb_z (by simp) z31 <| nT ?_
   refine ⟨(M.drop (.cons _ (.cons _ (.slnil)))), ?_⟩
   exact hA _ _ _ _ (s7 _ _ g1 (.slice (some ⟨g2, 0, none⟩) 31 31) _ (by kernel_rfl) (by kernel_rfl) (M.drop (.cons_cons _ (.cons _ (.slnil)))))
  ·refine pl_back M (want_no rfl) (some 7) rfl _ rfl 0 g1 1 1 (by kernel_rfl) _ rfl [c_] 1 (sb_one _) (by simp) (ker c_ h0 h1) <| nT ?_
   refine ⟨(M.drop (.cons _ (.cons _ (.slnil)))), ?_⟩
   exact hA _ _ _ _ (s8 _ _ g2 (.slice (some ⟨g1, 0, none⟩) 1 1) _ (by kernel_rfl) (by kernel_rfl) (M.drop (.cons _ (.cons_cons _ (.slnil)))))
 have s6 : ∀ (a : Act) (l : Array Bool) (x_6 : Value) (w0 : World), a = (fm ([.int .u8 c_, undef, .string zb, undef, undef, .int .u8 c_, x_6, .string (bs [c_]), undef])) → l = #[false, false, true, true, true, false, false] → Mem ⟨w, []⟩ [] w0 → H 4 l a w0 := by
  intro a l  x_6 u0 ha hl M
  subst ha hl
  refine hB _ _ _ _ <| qO 0 ?_
  refine ZM M 3 (fun g2 => .slice (some ⟨g2, 0, none⟩) 31 31) (.cells (av 31 (w8 fun _ => 0)) 5) fun g2 u3 M => nT ?_
  refine ⟨(M.drop (.cons _ (.slnil))), ?_⟩
  exact hA _ _ _ _ (s8 _ _ g2 (x_6) _ (by kernel_rfl) (by kernel_rfl) M)
 have s1 : ∀ (a : Act) (l : Array Bool) (g1 : Nat) (w0 : World), a = (fm ([.int .u8 c_, undef, .string zb, .slice (some ⟨g1, 0, none⟩) 31 31, undef, .int .u8 c_] ++ und 3)) → l = #[true, false, true, false, false, false, false] → Mem ⟨w, []⟩ [⟨g1, .cells (av 31 (w8 fun _ => 0)) 5⟩] w0 → H 5 l a w0 := by
  intro a l g1  u0 ha hl M
  subst ha hl
  refine hB _ _ _ _ ?_
  refine hl_two 1 3 (by decide) (by decide) (by kernel_rfl) rfl rfl ?_ ?_
  ·refine pl_back M (want_no rfl) (some 4) rfl _ rfl 0 g1 31 31 (by kernel_rfl) _ rfl (List.replicate 31 0) 31 sb_z (by simp) z31 <| nT ?_
   refine ⟨(M.drop (.cons _ (.slnil))), ?_⟩
   exact hA _ _ _ _ (s3 _ _ (.slice (some ⟨g1, 0, none⟩) 31 31) _ (by kernel_rfl) (by kernel_rfl) (M.drop (.cons _ (.slnil))))
  ·refine ZM M 6 (fun g2 => .slice (some ⟨g2, 0, none⟩) 1 1) (.cells (av 1 (ls [.int .u8 c_])) 5) fun g2 u3 M => nT ?_
   refine ⟨(M.drop (.cons _ (.cons _ (.slnil)))), ?_⟩
   exact hA _ _ _ _ (s4 _ _ g1 g2 _ (by kernel_rfl) (by kernel_rfl) M)
 have s2 : ∀ (a : Act) (l : Array Bool) (g1 : Nat) (w0 : World), a = (fm ([.int .u8 c_, undef, .string zb, undef, undef, .int .u8 c_, .slice (some ⟨g1, 0, none⟩) 1 1, undef, undef])) → l = #[false, false, true, true, false, false, false] → Mem ⟨w, []⟩ [⟨g1, .cells (av 1 (ls [.int .u8 c_])) 5⟩] w0 → H 5 l a w0 := by
  intro a l g1  u0 ha hl M
  subst ha hl
  refine hB _ _ _ _ ?_
  refine hl_two 0 4 (by decide) (by decide) (by kernel_rfl) rfl rfl ?_ ?_
  ·refine ZM M 3 (fun g2 => .slice (some ⟨g2, 0, none⟩) 31 31) (.cells (av 31 (w8 fun _ => 0)) 5) fun g2 u3 M => nT ?_
   refine ⟨(M.drop (.cons _ (.cons _ (.slnil)))), ?_⟩
   exact hA _ _ _ _ (s5 _ _ g1 g2 _ (by kernel_rfl) (by kernel_rfl) M)
  ·refine pl_back M (want_no rfl) (some 7) rfl _ rfl 0 g1 1 1 (by kernel_rfl) _ rfl [c_] 1 (sb_one _) (by simp) (ker c_ h0 h1) <| nT ?_
   refine ⟨(M.drop (.cons _ (.slnil))), ?_⟩
   exact hA _ _ _ _ (s6 _ _ (.slice (some ⟨g1, 0, none⟩) 1 1) _ (by kernel_rfl) (by kernel_rfl) (M.drop (.cons _ (.slnil))))
 have s0 : ∀ (a : Act) (l : Array Bool) (w0 : World), a = (fm ([.int .u8 c_, undef, .string zb, undef, undef, .int .u8 c_] ++ und 3)) → l = #[false, false, true, false, false, false, false] → Mem ⟨w, []⟩ [] w0 → H 6 l a w0 := by
  intro a l   u0 ha hl M
  subst ha hl
  refine hB _ _ _ _ ?_
  refine hl_two 0 3 (by decide) (by decide) (by kernel_rfl) rfl rfl ?_ ?_
  ·refine ZM M 3 (fun g1 => .slice (some ⟨g1, 0, none⟩) 31 31) (.cells (av 31 (w8 fun _ => 0)) 5) fun g1 u2 M => nT ?_
   refine ⟨(M.drop (.cons _ (.slnil))), ?_⟩
   exact hA _ _ _ _ (s1 _ _ g1 _ (by kernel_rfl) (by kernel_rfl) M)
  ·refine ZM M 6 (fun g1 => .slice (some ⟨g1, 0, none⟩) 1 1) (.cells (av 1 (ls [.int .u8 c_])) 5) fun g1 u2 M => nT ?_
   refine ⟨(M.drop (.cons _ (.slnil))), ?_⟩
   exact hA _ _ _ _ (s2 _ _ g1 _ (by kernel_rfl) (by kernel_rfl) M)
 exact s0 _ _  _ (by kernel_rfl) (by kernel_rfl) M
theorem c_longT (ra rb re rf rp ro rt : Yb) (hz : ra.size + rb.size + re.size + rf.size + rp.size + ro.size + rt.size < 4611686018427387904) (h : 1024 < ra.size + rb.size + re.size + rf.size + rp.size + ro.size + rt.size) (w : World) (hL : Laid w)  : Cs 7 #[.agg (av 7 (sQ [ra, rb, re, rf, rp, ro, rt]))] w (.bool true) := by
 go_enter Tryz.func7, Tryz.ntmps7
 have M := Mem.start hL
 refine sR <| pN M 1 (.cells (av 7 (sQ [ra, rb, re, rf, rp, ro, rt])) 23) fun g1 u1 M => rV 1 <| nT <| sR <| rV 1 <| ZE M 4 0 0 <| rV 2 <| ZE M 7 0 1 <| rV 1 <| zW 9 ((ra.size : Int) + (rb.size : Int)) <| rV 1 <| ZE M 11 0 2 <| rV 1 <| zW 13 (((ra.size : Int) + (rb.size : Int)) + (re.size : Int)) <| rV 1 ?_
 refine ZE M 15 0 3 <| rV 1 <| zW 17 ((((ra.size : Int) + (rb.size : Int)) + (re.size : Int)) + (rf.size : Int)) <| rV 1 <| ZE M 19 0 4 <| rV 1 <| zW 21 (((((ra.size : Int) + (rb.size : Int)) + (re.size : Int)) + (rf.size : Int)) + (rp.size : Int)) <| rV 1 <| ZE M 23 0 5 <| rV 1 <| zW 25 ((((((ra.size : Int) + (rb.size : Int)) + (re.size : Int)) + (rf.size : Int)) + (rp.size : Int)) + (ro.size : Int)) <| rV 1 <| ZE M 27 0 6 <| rV 1 <| zW 29 (((((((ra.size : Int) + (rb.size : Int)) + (re.size : Int)) + (rf.size : Int)) + (rp.size : Int)) + (ro.size : Int)) + (rt.size : Int)) ?_
 by_cases c0 : 1024 < (((((((ra.size : Int) + (rb.size : Int)) + (re.size : Int)) + (rf.size : Int)) + (rp.size : Int)) + (ro.size : Int)) + (rt.size : Int))
 ·refine wT 30 c0 <| rV 1 <| nT <| wp_ret ?_
  exact b1 M
 ·exact absurd (by omega) c0
theorem c_longF (ra rb re rf rp ro rt : Yb) (h : ¬ 1024 < ra.size + rb.size + re.size + rf.size + rp.size + ro.size + rt.size) (w : World) (hL : Laid w)  : Cs 7 #[.agg (av 7 (sQ [ra, rb, re, rf, rp, ro, rt]))] w (.bool false) := by
 go_enter Tryz.func7, Tryz.ntmps7
 have M := Mem.start hL
 refine sR <| pN M 1 (.cells (av 7 (sQ [ra, rb, re, rf, rp, ro, rt])) 23) fun g1 u1 M => rV 1 <| nT <| sR <| rV 1 <| ZE M 4 0 0 <| rV 2 <| ZE M 7 0 1 <| rV 1 <| zW 9 ((ra.size : Int) + (rb.size : Int)) <| rV 1 <| ZE M 11 0 2 <| rV 1 <| zW 13 (((ra.size : Int) + (rb.size : Int)) + (re.size : Int)) <| rV 1 ?_
 refine ZE M 15 0 3 <| rV 1 <| zW 17 ((((ra.size : Int) + (rb.size : Int)) + (re.size : Int)) + (rf.size : Int)) <| rV 1 <| ZE M 19 0 4 <| rV 1 <| zW 21 (((((ra.size : Int) + (rb.size : Int)) + (re.size : Int)) + (rf.size : Int)) + (rp.size : Int)) <| rV 1 <| ZE M 23 0 5 <| rV 1 <| zW 25 ((((((ra.size : Int) + (rb.size : Int)) + (re.size : Int)) + (rf.size : Int)) + (rp.size : Int)) + (ro.size : Int)) <| rV 1 <| ZE M 27 0 6 <| rV 1 <| zW 29 (((((((ra.size : Int) + (rb.size : Int)) + (re.size : Int)) + (rf.size : Int)) + (rp.size : Int)) + (ro.size : Int)) + (rt.size : Int)) ?_
 by_cases c0 : 1024 < (((((((ra.size : Int) + (rb.size : Int)) + (re.size : Int)) + (rf.size : Int)) + (rp.size : Int)) + (ro.size : Int)) + (rt.size : Int))
 ·exact absurd c0 (by omega)
 ·refine wF 30 c0 <| rV 1 <| nT <| wp_ret ?_
  exact b1 M
theorem c_ReadQ (w : World) (hL : Laid w) : Cs 13 #[.string Mon.bbS, .string qS, .string mK] w (.tuple #[.pointer none, .agg (av 5 (zq 5)), .int .i64 100]) := by
 have h := c_ReadE Mon.bbS qS mK (by rw [read_q]; decide) w hL
 rwa [read_q] at h
theorem c_alive  (w : World) (hL : Laid w)  : Cs 8 #[] w (.bool true) := by
 go_enter Tryz.func8, Tryz.ntmps8
 have M := Mem.start hL
 refine sq <| sR <| ZC M 20 (fun w M => c_key 98 (by decide) (by decide) w M.laid) fun u1 M => pD M 21 (.tuple #[.string (puV Mon.bbS), .int .i64 0]) (fun w M => Mon.rpubL Mon.bbS w M.laid Mon.bbS_size) fun u2 M => rV 5 <| nT <| sR <| ZC M 25 (fun w M => c_key 97 (by decide) (by decide) w M.laid) fun u3 M => pD M 26 (.tuple #[.string (puV Mon.aS), .int .i64 0]) (fun w M => Mon.rpubL Mon.aS w M.laid Mon.aS_size) fun u4 M => rV 5 <| nT <| sR <| ZC M 30 (fun w M => c_key 97 (by decide) (by decide) w M.laid) fun u5 M => rV 1 <| ZC M 32 (fun w M => c_key 101 (by decide) (by decide) w M.laid) fun u6 M => pl_calln M (want_no rfl) (some 33) rfl 10 #[.string Mon.aS, .string (puV Mon.bbS), .string keE, .string ⟨#[112]⟩, .string ⟨#[97, 98, 99]⟩] (fun g1 => .tuple #[.pointer (some ⟨g1, 0, none⟩), .string mK, .int .i64 0]) (.cells (av 7 (stL sK [.string Mon.aS, .string keE, .string (puV Mon.bbS)])) 66) (fun _ => by kernel_rfl) (fun w M => c_BeginG Mon.aS Mon.bbS keE pS abcS Mon.aS_size keE_size (by decide) (by decide) w M.laid) fun g1 u7 M => ?_
 refine rV 7 <| nT <| sR <| ZC M 38 (fun w M => c_key 98 (by decide) (by decide) w M.laid) fun u8 M => rV 1 <| pl_calln M (want_no rfl) (some 40) rfl 13 #[.string Mon.bbS, .string ⟨#[112]⟩, .string mK] (fun g2 => .tuple #[.pointer (some ⟨g2, 0, none⟩), .agg (av 5 (sQ [puV Mon.aS, ⟨#[97, 98, 99]⟩, zb, zb, zb])), .int .i64 0]) (.cells (av 6 (stL sK [.string (puV Mon.aS), .string (puV keE)])) 77) (fun _ => by kernel_rfl) (fun w M => c_ReadG Mon.aS Mon.bbS keE pS abcS Mon.bbS_size (by decide) (by decide) w M.laid) fun g2 u9 M => rV 4 <| pN M 9 (.cells (av 5 (zq 5)) 41) fun g3 u10 M => rV 1 <| ZL M 2 5 (sQ [puV Mon.aS, ⟨#[97, 98, 99]⟩, zb, zb, zb]) fun u11 M => rV 1 <| nT <| sR <| ZC M 45 (fun w M => c_key 98 (by decide) (by decide) w M.laid) fun u12 M => rV 1 <| ZC M 47 (fun w M => c_ReadQ w M.laid) fun u13 M => ?_
 refine rV 4 <| pN M 12 (.cells (av 5 (zq 5)) 41) fun g4 u14 M => rV 1 <| ZL M 3 5 (zq 5) fun u15 M => rV 1 <| nT <| wp_seq <| sR <| rV 17 ?_
 by_cases c0 : (mK.size : Int) = 99
 ·refine wD 68 c0 <| rV 3 <| ZE M 72 2 0 <| rV 1 <| zN 74 (puV Mon.aS) <| rV 3 <| ZE M 78 2 1 <| rV 6 <| nT <| cF <| wp_skip <| au_then <| sR <| rV 1 <| ZC M 87 (fun w M => c_key 102 (by decide) (by decide) w M.laid) fun u16 M => pD M 88 (.tuple #[.string rK, .agg (av 5 (sQ [puV Mon.aS, zb, gB, gA, gH])), .int .i64 0]) (fun w M => c_AnswerG g2 sK Mon.aS keE keF xyS (tS5_h _ _ _ _ _) rfl keF_size (by decide) w M.laid (M.get 1 rfl) (M.ne0 1 rfl)) fun u17 M => ?_
  refine rV 4 <| pN M 15 (.cells (av 5 (zq 5)) 41) fun g5 u18 M => rV 1 <| ZL M 4 5 (sQ [puV Mon.aS, zb, gB, gA, gH]) fun u19 M => rV 1 <| nT <| sR <| rV 2 <| pD M 95 (.tuple #[.agg (av 5 (sQ [puV Mon.bbS, ⟨#[120, 121]⟩, gA, gB, gH])), .int .i64 0]) (fun w M => c_FinishG g1 sK Mon.aS keE (puV Mon.bbS) keF xyS (tS5_h _ _ _ _ _) rfl Mon.aS_size keE_size (by decide) w M.laid (M.get 0 rfl) (M.ne0 0 rfl)) fun u20 M => rV 3 <| pN M 17 (.cells (av 5 (zq 5)) 41) fun g6 u21 M => ZL M 5 5 (sQ [puV Mon.bbS, ⟨#[120, 121]⟩, gA, gB, gH]) fun u22 M => rV 1 <| nT <| sR <| rV 9 ?_
  by_cases c1 : (rK.size : Int) = 50
  ·refine wT 107 c1 <| rV 3 <| ZE M 111 5 1 <| rV 4 <| ZE M 116 4 2 <| rV 1 ?_
   by_cases c2 : (gB.size : Int) = 32
   ·refine wT 118 c2 <| rV 3 <| ZE M 122 4 2 <| rV 1 <| ZE M 124 5 3 <| zT 125 gB <| rV 3 <| ZE M 129 4 3 <| rV 1 <| ZE M 131 5 2 <| zT 132 gA <| rV 3 <| ZE M 136 4 4 <| rV 1 <| ZE M 138 5 4 <| zT 139 gH ?_
    refine rV 3 <| ZE M 143 4 2 <| rV 1 <| ZE M 145 4 3 ?_
    by_cases c3 : gB = gA
    ·exact absurd c3 gAB
    ·refine zJ 146 (.bool true) (.bool (!(gB.toList == gA.toList))) (by rw [seq_neg c3]; rfl) <| rV 2 <| nT <| wp_ret ?_
     exact b1 M
   ·exact absurd (by rw [gB_size]; rfl) c2
  ·exact absurd (by rw [rK_size]; rfl) c1
 ·exact absurd (by rw [mK_size]; rfl) c0
open Go.RowKit
section
variable {P : Program}
theorem eqF_all (d : Nat) (xs ys : Array Value) (w : World) : ∀ (fs : List Field) (es : List (TypeId × Nat × Value × Value × Bool)), fs.map (fun f => (f.name == "_", f.type, f.offset)) = es.map (fun e => (false, e.1, e.2.1)) →
  (∀ e ∈ es, (part e.1 xs e.2.1).run P w = .ok e.2.2.1 w ∧ (part e.1 ys e.2.1).run P w = .ok e.2.2.2.1 w ∧ (Op.equalIn d e.1 e.2.2.1 e.2.2.2.1).run P w = .ok e.2.2.2.2 w) →
  (Op.eqFields d xs ys fs).run P w = .ok (es.all (·.2.2.2.2)) w
 | [], es, h, _ => by
  cases es with
  | nil => rfl
  | cons e es => simp at h
 | f :: fs, es, h, hp => by
  cases es with
  | nil => simp at h
  | cons e es =>
   simp only [List.map_cons, List.cons.injEq, Prod.mk.injEq] at h
   obtain ⟨⟨h1, h2, h3⟩, h4⟩ := h
   obtain ⟨p1, p2, p3⟩ := hp e (List.mem_cons_self ..)
   have hn : f.name ≠ "_" := by simpa using h1
   unfold Op.eqFields
   rw [if_pos hn]
   simp only [Sem.run_bind, h2, h3, p1, p2, p3, Result.andThen_ok, List.all_cons]
   cases hb : e.2.2.2.2
   ·simp
   ·simp only [Bool.not_true, Bool.false_eq_true, if_false, Bool.true_and]
    exact eqF_all d xs ys w fs es h4 fun e he => hp e (List.mem_cons_of_mem _ he)
theorem dec_str (a b : Yb) : (a.toList == b.toList) = decide (a = b) := by
 by_cases h : a = b
 ·rw [seq_pos h, decide_eq_true h]
 ·rw [seq_neg h, decide_eq_false h]
end
theorem run_bin {P : Program} {a : Act} {o : Oper} (op : BinOp) (t : TypeId) (x y : Operand) {rt : TypeId} (ho : o.op = .binOp op t x y rt) {xs ys : Array Value} {v : Value} (hx : a.eval x = .agg xs) (hy : a.eval y = .agg ys) (hm : P.eqGuardType P.depth t = false) (hb : ∀ w, (binOp op t (.agg xs) (.agg ys)).run P w = .ok v w) (w : World) :
  (execOp a.eval o).run P w = .ok (.value v) w := by
 unfold execOp
 simp only [ho, hx, hy, Sem.run_bind, Result.andThen_ok, run_eqGuard_agg (hm := hm), hb, Sem.run_pure]
theorem eqI41 (d : Nat) (x0 x0' : Yb) (x1 x1' : Yb) (x2 x2' : Yb) (x3 x3' : Yb) (x4 x4' : Yb) (w : World) : (Op.equalIn (d + 2) 41 (.agg (av 5 (sQ [x0, x1, x2, x3, x4]))) (.agg (av 5 (sQ [x0', x1', x2', x3', x4'])))).run Tryz.prog w = .ok (decide (x0 = x0' ∧ x1 = x1' ∧ x2 = x2' ∧ x3 = x3' ∧ x4 = x4')) w := by
 rw [run_equalIn_struct w (d + 1) 41 _ _ (by kernel_rfl) (by kernel_rfl)]
 rw [eqF_all (d + 1) _ _ w _ [(9, 0, .string x0, .string x0', x0.toList == x0'.toList), (9, 1, .string x1, .string x1', x1.toList == x1'.toList), (9, 2, .string x2, .string x2', x2.toList == x2'.toList), (9, 3, .string x3, .string x3', x3.toList == x3'.toList), (9, 4, .string x4, .string x4', x4.toList == x4'.toList)] (by kernel_rfl) (by
  intro e he
  simp only [List.mem_cons, List.mem_nil_iff, or_false] at he
  rcases he with rfl | rfl | rfl | rfl | rfl
  ·exact ⟨by kernel_rfl, by kernel_rfl, run_equalIn_string w d 9 x0 x0' Tryz.underlying9⟩
  ·exact ⟨by kernel_rfl, by kernel_rfl, run_equalIn_string w d 9 x1 x1' Tryz.underlying9⟩
  ·exact ⟨by kernel_rfl, by kernel_rfl, run_equalIn_string w d 9 x2 x2' Tryz.underlying9⟩
  ·exact ⟨by kernel_rfl, by kernel_rfl, run_equalIn_string w d 9 x3 x3' Tryz.underlying9⟩
  ·exact ⟨by kernel_rfl, by kernel_rfl, run_equalIn_string w d 9 x4 x4' Tryz.underlying9⟩)]
 simp [Bool.decide_and, Bool.and_assoc, dec_str]
theorem eql41w (x0 x0' : Yb) (x1 x1' : Yb) (x2 x2' : Yb) (x3 x3' : Yb) (x4 x4' : Yb) (w : World) : (binOp .eql 41 (.agg (av 5 (sQ [x0, x1, x2, x3, x4]))) (.agg (av 5 (sQ [x0', x1', x2', x3', x4'])))).run Tryz.prog w = .ok (.bool (decide (x0 = x0' ∧ x1 = x1' ∧ x2 = x2' ∧ x3 = x3' ∧ x4 = x4'))) w := by
 rw [run_eql_struct]
 have := eqI41 9998 x0 x0' x1 x1' x2 x2' x3 x3' x4 x4' w
 rw [show (10000 : Nat) = 9998 + 2 from rfl, this]
 rfl
theorem eql41 {a : Act} {o : Oper} (x0 x0' : Yb) (x1 x1' : Yb) (x2 x2' : Yb) (x3 x3' : Yb) (x4 x4' : Yb) (x y : Operand) {rt : TypeId} (ho : o.op = .binOp .eql 41 x y rt) (hx : a.eval x = (.agg (av 5 (sQ [x0, x1, x2, x3, x4])))) (hy : a.eval y = (.agg (av 5 (sQ [x0', x1', x2', x3', x4'])))) (w : World) :
  (execOp a.eval o).run Tryz.prog w = .ok (.value (.bool (decide (x0 = x0' ∧ x1 = x1' ∧ x2 = x2' ∧ x3 = x3' ∧ x4 = x4')))) w := run_bin .eql 41 x y ho hx hy (by kernel_rfl) (eql41w x0 x0' x1 x1' x2 x2' x3 x3' x4 x4') w
theorem neq41w (x0 x0' : Yb) (x1 x1' : Yb) (x2 x2' : Yb) (x3 x3' : Yb) (x4 x4' : Yb) (w : World) : (binOp .neq 41 (.agg (av 5 (sQ [x0, x1, x2, x3, x4]))) (.agg (av 5 (sQ [x0', x1', x2', x3', x4'])))).run Tryz.prog w = .ok (.bool (!decide (x0 = x0' ∧ x1 = x1' ∧ x2 = x2' ∧ x3 = x3' ∧ x4 = x4'))) w := by
 rw [run_neq_struct]
 have := eqI41 9998 x0 x0' x1 x1' x2 x2' x3 x3' x4 x4' w
 rw [show (10000 : Nat) = 9998 + 2 from rfl, this]
 rfl
theorem neq41 {a : Act} {o : Oper} (x0 x0' : Yb) (x1 x1' : Yb) (x2 x2' : Yb) (x3 x3' : Yb) (x4 x4' : Yb) (x y : Operand) {rt : TypeId} (ho : o.op = .binOp .neq 41 x y rt) (hx : a.eval x = (.agg (av 5 (sQ [x0, x1, x2, x3, x4])))) (hy : a.eval y = (.agg (av 5 (sQ [x0', x1', x2', x3', x4'])))) (w : World) :
  (execOp a.eval o).run Tryz.prog w = .ok (.value (.bool (!decide (x0 = x0' ∧ x1 = x1' ∧ x2 = x2' ∧ x3 = x3' ∧ x4 = x4')))) w := run_bin .neq 41 x y ho hx hy (by kernel_rfl) (neq41w x0 x0' x1 x1' x2 x2' x3 x3' x4 x4') w
section
variable {ops : Array Oper} {rest : List Oper} {o : Oper} {a : Act} {w : World} {c : Ctx} {L : List Blk} {Q : Exit → Act → World → Prop}
theorem z41 (d : Tmp) (x0 x1 x2 x3 x4 : Yb) (h : PL Tryz.prog ops Q rest (a.put (some d) (.bool true)) w) {x y : Operand} {rt : TypeId} (ho : o.op = .binOp .eql 41 x y rt := by exact rfl) (hx : Ev a x (.agg (av 5 (sQ [x0, x1, x2, x3, x4]))) := by exact ⟨by kernel_rfl⟩) (hy : Ev a y (.agg (av 5 (sQ [x0, x1, x2, x3, x4]))) := by exact ⟨by kernel_rfl⟩) (hw : Wn ops o a = true := by first | exact want_no rfl | kernel_rfl) (hd : o.dst = some d := by exact rfl) : PL Tryz.prog ops Q (o :: rest) a w := pH d _ (fun w => (eql41 x0 x0 x1 x1 x2 x2 x3 x3 x4 x4 x y ho hx.out hy.out w).trans (by rw [decide_eq_true ⟨rfl, rfl, rfl, rfl, rfl⟩])) h hw hd
theorem n41 (d : Tmp) (x0 x1 x2 x3 x4 : Yb) (h : PL Tryz.prog ops Q rest (a.put (some d) (.bool false)) w) {x y : Operand} {rt : TypeId} (ho : o.op = .binOp .neq 41 x y rt := by exact rfl) (hx : Ev a x (.agg (av 5 (sQ [x0, x1, x2, x3, x4]))) := by exact ⟨by kernel_rfl⟩) (hy : Ev a y (.agg (av 5 (sQ [x0, x1, x2, x3, x4]))) := by exact ⟨by kernel_rfl⟩) (hw : Wn ops o a = true := by first | exact want_no rfl | kernel_rfl) (hd : o.dst = some d := by exact rfl) : PL Tryz.prog ops Q (o :: rest) a w := pH d _ (fun w => (neq41 x0 x0 x1 x1 x2 x2 x3 x3 x4 x4 x y ho hx.out hy.out w).trans (by rw [decide_eq_true ⟨rfl, rfl, rfl, rfl, rfl⟩]; rfl)) h hw hd
end
theorem c_AnswerN (x y : Yb) (w : World) (hL : Laid w)  : Cs 15 #[.pointer none, .string x, .string y] w (.tuple #[.string zb, .agg (av 5 (zq 5)), .int .i64 1]) := by
 go_enter Tryz.func15, Tryz.ntmps15
 have M := Mem.start hL
 refine sR <| rV 1 <| pN M 7 (.cells (av 5 (zq 5)) 41) fun g1 u1 M => rV 1 <| nT <| wp_seq <| wp_block <| sq <| cT <| sR <| rV 2 <| ZL M 0 5 (zq 5) fun u2 M => rV 1 <| nT <| wp_ret <| au_block_ret ?_
 refine au_then_ret ?_
 exact btct Tryz.results15 M (.string zb) 0 5 (zq 5) (.int .i64 1) ⟨rfl, below_grown M.old⟩
theorem c_FinishN (x : Yb) (w : World) (hL : Laid w)  : Cs 17 #[.pointer none, .string x] w (.tuple #[.agg (av 5 (zq 5)), .int .i64 1]) := by
 go_enter Tryz.func17, Tryz.ntmps17
 have M := Mem.start hL
 refine sR <| pN M 4 (.cells (av 5 (zq 5)) 41) fun g1 u1 M => rV 1 <| nT <| wp_seq <| wp_block <| sq <| cT <| sR <| rV 1 <| ZL M 0 5 (zq 5) fun u2 M => rV 1 <| nT <| wp_ret <| au_block_ret <| au_then_ret ?_
 exact bct Tryz.results17 M 0 5 (zq 5) (.int .i64 1) ⟨rfl, below_grown M.old⟩
theorem c_nil (s : Yb) (w : World) (hL : Laid w)  : Cs 6 #[.string s] w (.bool true) := by
 go_enter Tryz.func6, Tryz.ntmps6
 have M := Mem.start hL
 refine sq <| wp_seq <| sR <| rV 2 ?_
 by_cases c0 : 4096 < (s.size : Int)
 ·refine wT 12 c0 <| nT <| cT <| sR <| ZC M 13 (fun w M => c_alive w M.laid) fun u1 M => rV 1 <| nT <| wp_ret <| au_then_ret ?_
  exact b1 M
 ·refine wF 12 c0 <| nT <| cF <| wp_skip <| au_then <| sq <| sq <| sR <| rV 3 <| ZC M 18 (fun w M => c_AnswerN s s w M.laid) fun u1 M => rV 4 <| pN M 6 (.cells (av 5 (zq 5)) 41) fun g1 u2 M => rV 1 <| ZL M 0 5 (zq 5) fun u3 M => rV 1 <| nT ?_
  refine sR <| rV 2 <| ZC M 25 (fun w M => c_FinishN s w M.laid) fun u4 M => rV 3 <| pN M 8 (.cells (av 5 (zq 5)) 41) fun g2 u5 M => ZL M 1 5 (zq 5) fun u6 M => rV 1 <| nT <| sR <| rV 3 <| pA M 31 0 5 (zq 5) <| rV 1 <| z41 33 zb zb zb zb zb <| rV 6 <| pA M 40 1 5 (zq 5) <| rV 1 ?_
  refine z41 42 zb zb zb zb zb <| rV 6 <| pl_call M (by kernel_rfl) (some 49) rfl 8 #[] (.bool true) (fun _ => by kernel_rfl) (fun w M => c_alive w M.laid) fun u7 M => rV 2 <| nT <| wp_ret ?_
  exact b1 M
open Go.RowKit
theorem vS4_h (s : St) (f x e pl : Yb) : (vS4 s f x e pl).h.size = 32 := mixF_h (vS3 s f x e) (vX s f x e pl)
theorem c_both (ra rb re rf rp ro rt : Yb) (ag : Yb) (hz : ra.size + rb.size + re.size + rf.size + rp.size + ro.size + rt.size < 4611686018427387904) (w : World) (hL : Laid w)  : Cs 5 #[.agg (av 7 (sQ [ra, rb, re, rf, rp, ro, rt])), .string ag] w (.bool true) := by
 go_enter Tryz.func5, Tryz.ntmps5
 have M := Mem.start hL
 refine sR <| pN M 2 (.cells (av 7 (sQ [ra, rb, re, rf, rp, ro, rt])) 23) fun g1 u1 M => rV 1 <| nT <| wp_seq <| sR <| pA M 23 0 7 (sQ [ra, rb, re, rf, rp, ro, rt]) ?_
 by_cases c0 : 1024 < ra.size + rb.size + re.size + rf.size + rp.size + ro.size + rt.size
 ·refine ZC M 24 (fun w M => c_longT ra rb re rf rp ro rt hz c0 w M.laid) fun u2 M => rV 24 <| nT <| cT <| sR <| ZC M 49 (fun w M => c_alive w M.laid) fun u3 M => rV 1 <| nT <| wp_ret <| au_then_ret ?_
  exact b1 M
 ·refine ZC M 24 (fun w M => c_longF ra rb re rf rp ro rt c0 w M.laid) fun u2 M => rV 2 <| ZE M 27 0 0 <| rV 1 ?_
  by_cases c1 : (ra.size : Int) = 32
  ·refine wD 29 c1 <| rV 3 <| ZE M 33 0 1 <| rV 1 ?_
   by_cases c2 : (rb.size : Int) = 32
   ·refine wD 35 c2 <| rV 3 <| ZE M 39 0 2 <| rV 1 ?_
    by_cases c3 : (re.size : Int) = 32
    ·refine wD 41 c3 <| rV 3 <| ZE M 45 0 3 <| rV 1 ?_
     by_cases c4 : (rf.size : Int) = 32
     ·refine wD 47 c4 <| rV 1 <| nT <| cF <| wp_skip <| au_then <| sR <| rV 1 <| ZE M 52 0 0 <| pD M 53 (.tuple #[.string (puV ra), .int .i64 0]) (fun w M => Mon.rpubL ra w M.laid (by omega)) fun u3 M => rV 5 <| nT <| sR <| rV 1 <| ZE M 58 0 1 <| pD M 59 (.tuple #[.string (puV rb), .int .i64 0]) (fun w M => Mon.rpubL rb w M.laid (by omega)) fun u4 M => ?_
      refine rV 5 <| nT <| sR <| rV 1 <| ZE M 64 0 0 <| rV 2 <| ZE M 67 0 2 <| rV 1 <| ZE M 69 0 4 <| rV 1 <| ZE M 71 0 5 <| pl_calln M (want_no rfl) (some 72) rfl 10 #[.string ra, .string (puV rb), .string re, .string rp, .string ro] (fun g2 => .tuple #[.pointer (some ⟨g2, 0, none⟩), .string (tMs ra (puV rb) re rp ro), .int .i64 0]) (.cells (av 7 (stL (endF (tS5 ra (puV rb) re rp ro)) [.string ra, .string re, .string (puV rb)])) 66) (fun _ => by kernel_rfl) (fun w M => c_BeginG ra rb re rp ro (by omega) (by omega) (by omega) (by omega) w M.laid) fun g2 u5 M => rV 7 <| nT <| wp_seq <| sq ?_
      refine cF <| wp_skip <| au_then <| sR <| rV 1 <| ZE M 80 0 1 <| rV 1 <| ZE M 82 0 4 <| rV 1 <| pl_calln M (want_no rfl) (some 84) rfl 13 #[.string rb, .string rp, .string (tMs ra (puV rb) re rp ro)] (fun g3 => .tuple #[.pointer (some ⟨g3, 0, none⟩), .agg (av 5 (sQ [puV ra, ro, zb, zb, zb])), .int .i64 0]) (.cells (av 6 (stL (endF (tS5 ra (puV rb) re rp ro)) [.string (puV ra), .string (puV re)])) 77) (fun _ => by kernel_rfl) (fun w M => c_ReadG ra rb re rp ro (by omega) (by omega) (by omega) w M.laid) fun g3 u6 M => rV 4 <| pN M 13 (.cells (av 5 (zq 5)) 41) fun g4 u7 M => rV 1 <| ZL M 3 5 (sQ [puV ra, ro, zb, zb, zb]) fun u8 M => rV 1 <| nT ?_
      refine wp_seq <| sR <| rV 3 <| pA M 91 3 5 (sQ [puV ra, ro, zb, zb, zb]) <| rV 2 <| ZE M 94 0 5 <| rV 1 <| n41 96 (puV ra) ro zb zb zb <| rV 1 <| nT <| cF <| wp_skip <| au_then <| wp_seq <| sR <| rV 2 ?_
      by_cases c5 : (ag.size : Int) = 32
      ·refine wT 100 c5 <| nT <| cT <| sR <| rV 2 <| pD M 104 (.tuple #[.string (vRp (endF (tS5 ra (puV rb) re rp ro)) (puV ra) (puV re) ag ⟨#[97, 103, 97, 105, 110]⟩), .agg (av 5 (sQ [puV ra, zb, nxB (vS4 (endF (tS5 ra (puV rb) re rp ro)) (puV ra) (puV re) ag ⟨#[97, 103, 97, 105, 110]⟩).c ⟨#[]⟩, nxA (vS4 (endF (tS5 ra (puV rb) re rp ro)) (puV ra) (puV re) ag ⟨#[97, 103, 97, 105, 110]⟩).c ⟨#[]⟩, (vS4 (endF (tS5 ra (puV rb) re rp ro)) (puV ra) (puV re) ag ⟨#[97, 103, 97, 105, 110]⟩).h])), .int .i64 0]) (fun w M => c_AnswerG g3 (endF (tS5 ra (puV rb) re rp ro)) ra re ag ⟨#[97, 103, 97, 105, 110]⟩ (tS5_h _ _ _ _ _) rfl (by omega) (by decide) w M.laid (M.get 2 rfl) (M.ne0 2 rfl)) fun u9 M => rV 4 <| pN M 15 (.cells (av 5 (zq 5)) 41) fun g5 u10 M => rV 1 <| ZL M 4 5 (sQ [puV ra, zb, nxB (vS4 (endF (tS5 ra (puV rb) re rp ro)) (puV ra) (puV re) ag ⟨#[97, 103, 97, 105, 110]⟩).c ⟨#[]⟩, nxA (vS4 (endF (tS5 ra (puV rb) re rp ro)) (puV ra) (puV re) ag ⟨#[97, 103, 97, 105, 110]⟩).c ⟨#[]⟩, (vS4 (endF (tS5 ra (puV rb) re rp ro)) (puV ra) (puV re) ag ⟨#[97, 103, 97, 105, 110]⟩).h]) fun u11 M => rV 1 <| nT <| sR <| rV 2 <| pD M 111 (.tuple #[.agg (av 5 (sQ [puV rb, ⟨#[97, 103, 97, 105, 110]⟩, nxA (vS4 (endF (tS5 ra (puV rb) re rp ro)) (puV ra) (puV re) ag ⟨#[97, 103, 97, 105, 110]⟩).c ⟨#[]⟩, nxB (vS4 (endF (tS5 ra (puV rb) re rp ro)) (puV ra) (puV re) ag ⟨#[97, 103, 97, 105, 110]⟩).c ⟨#[]⟩, (vS4 (endF (tS5 ra (puV rb) re rp ro)) (puV ra) (puV re) ag ⟨#[97, 103, 97, 105, 110]⟩).h])), .int .i64 0]) (fun w M => c_FinishG g2 (endF (tS5 ra (puV rb) re rp ro)) ra re (puV rb) ag ⟨#[97, 103, 97, 105, 110]⟩ (tS5_h _ _ _ _ _) rfl (by omega) (by omega) (by decide) w M.laid (M.get 1 rfl) (M.ne0 1 rfl)) fun u12 M => rV 3 ?_
       refine pN M 17 (.cells (av 5 (zq 5)) 41) fun g6 u13 M => ZL M 5 5 (sQ [puV rb, ⟨#[97, 103, 97, 105, 110]⟩, nxA (vS4 (endF (tS5 ra (puV rb) re rp ro)) (puV ra) (puV re) ag ⟨#[97, 103, 97, 105, 110]⟩).c ⟨#[]⟩, nxB (vS4 (endF (tS5 ra (puV rb) re rp ro)) (puV ra) (puV re) ag ⟨#[97, 103, 97, 105, 110]⟩).c ⟨#[]⟩, (vS4 (endF (tS5 ra (puV rb) re rp ro)) (puV ra) (puV re) ag ⟨#[97, 103, 97, 105, 110]⟩).h]) fun u14 M => rV 1 <| nT <| sR <| rV 8 <| ZE M 122 5 1 <| rV 4 <| ZE M 127 4 2 <| rV 1 <| ZE M 129 5 3 <| zN 130 (nxB (vS4 (endF (tS5 ra (puV rb) re rp ro)) (puV ra) (puV re) ag ⟨#[97, 103, 97, 105, 110]⟩).c ⟨#[]⟩) <| rV 1 <| nT <| cF <| wp_skip ?_
       refine au_then <| sR <| rV 2 <| ZE M 135 0 3 <| rV 1 <| ZE M 137 0 6 <| pD M 138 (.tuple #[.string (vRp (endF (tS5 ra (puV rb) re rp ro)) (puV ra) (puV re) rf rt), .agg (av 5 (sQ [puV ra, zb, nxB (vS4 (endF (tS5 ra (puV rb) re rp ro)) (puV ra) (puV re) rf rt).c ⟨#[]⟩, nxA (vS4 (endF (tS5 ra (puV rb) re rp ro)) (puV ra) (puV re) rf rt).c ⟨#[]⟩, (vS4 (endF (tS5 ra (puV rb) re rp ro)) (puV ra) (puV re) rf rt).h])), .int .i64 0]) (fun w M => c_AnswerG g3 (endF (tS5 ra (puV rb) re rp ro)) ra re rf rt (tS5_h _ _ _ _ _) rfl (by omega) (by omega) w M.laid (M.get 2 rfl) (M.ne0 2 rfl)) fun u15 M => rV 4 <| pN M 20 (.cells (av 5 (zq 5)) 41) fun g7 u16 M => rV 1 <| ZL M 6 5 (sQ [puV ra, zb, nxB (vS4 (endF (tS5 ra (puV rb) re rp ro)) (puV ra) (puV re) rf rt).c ⟨#[]⟩, nxA (vS4 (endF (tS5 ra (puV rb) re rp ro)) (puV ra) (puV re) rf rt).c ⟨#[]⟩, (vS4 (endF (tS5 ra (puV rb) re rp ro)) (puV ra) (puV re) rf rt).h]) fun u17 M => rV 1 <| nT <| sR <| rV 2 <| pD M 145 (.tuple #[.agg (av 5 (sQ [puV rb, rt, nxA (vS4 (endF (tS5 ra (puV rb) re rp ro)) (puV ra) (puV re) rf rt).c ⟨#[]⟩, nxB (vS4 (endF (tS5 ra (puV rb) re rp ro)) (puV ra) (puV re) rf rt).c ⟨#[]⟩, (vS4 (endF (tS5 ra (puV rb) re rp ro)) (puV ra) (puV re) rf rt).h])), .int .i64 0]) (fun w M => c_FinishG g2 (endF (tS5 ra (puV rb) re rp ro)) ra re (puV rb) rf rt (tS5_h _ _ _ _ _) rfl (by omega) (by omega) (by omega) w M.laid (M.get 1 rfl) (M.ne0 1 rfl)) fun u18 M => ?_
       refine rV 3 <| pN M 21 (.cells (av 5 (zq 5)) 41) fun g8 u19 M => ZL M 7 5 (sQ [puV rb, rt, nxA (vS4 (endF (tS5 ra (puV rb) re rp ro)) (puV ra) (puV re) rf rt).c ⟨#[]⟩, nxB (vS4 (endF (tS5 ra (puV rb) re rp ro)) (puV ra) (puV re) rf rt).c ⟨#[]⟩, (vS4 (endF (tS5 ra (puV rb) re rp ro)) (puV ra) (puV re) rf rt).h]) fun u20 M => rV 1 <| nT <| wp_seq <| sR <| rV 8 <| ZE M 156 6 2 <| rV 1 ?_
       by_cases c6 : ((nxB (vS4 (endF (tS5 ra (puV rb) re rp ro)) (puV ra) (puV re) rf rt).c ⟨#[]⟩).size : Int) = 32
       ·refine wD 158 c6 <| rV 3 <| ZE M 162 6 3 <| rV 1 ?_
        by_cases c7 : ((nxA (vS4 (endF (tS5 ra (puV rb) re rp ro)) (puV ra) (puV re) rf rt).c ⟨#[]⟩).size : Int) = 32
        ·refine wD 164 c7 <| rV 3 <| ZE M 168 6 4 <| rV 1 ?_
         by_cases c8 : ((vS4 (endF (tS5 ra (puV rb) re rp ro)) (puV ra) (puV re) rf rt).h.size : Int) = 32
         ·refine wD 170 c8 <| rV 1 <| nT <| cF <| wp_skip <| au_then <| sR <| pA M 172 6 5 (sQ [puV ra, zb, nxB (vS4 (endF (tS5 ra (puV rb) re rp ro)) (puV ra) (puV re) rf rt).c ⟨#[]⟩, nxA (vS4 (endF (tS5 ra (puV rb) re rp ro)) (puV ra) (puV re) rf rt).c ⟨#[]⟩, (vS4 (endF (tS5 ra (puV rb) re rp ro)) (puV ra) (puV re) rf rt).h]) <| rV 2 <| ZE M 175 7 3 <| rV 1 <| ZE M 177 7 2 <| rV 1 <| ZE M 179 7 4 <| rV 1 <| z41 181 (puV ra) zb (nxB (vS4 (endF (tS5 ra (puV rb) re rp ro)) (puV ra) (puV re) rf rt).c ⟨#[]⟩) (nxA (vS4 (endF (tS5 ra (puV rb) re rp ro)) (puV ra) (puV re) rf rt).c ⟨#[]⟩) ((vS4 (endF (tS5 ra (puV rb) re rp ro)) (puV ra) (puV re) rf rt).h) ?_
          refine rV 2 <| ZE M 184 7 0 <| rV 1 <| zT 186 (puV rb) <| rV 3 <| ZE M 190 7 1 <| rV 1 <| ZE M 192 0 6 <| zT 193 rt <| rV 2 <| pl_call M (by kernel_rfl) (some 196) rfl 8 #[] (.bool true) (fun _ => by kernel_rfl) (fun w M => c_alive w M.laid) fun u21 M => rV 2 <| nT <| wp_ret ?_
          exact b1 M
         ·exact absurd (by rw [vS4_h]; rfl) c8
        ·exact absurd (by rw [nxA_size]; rfl) c7
       ·exact absurd (by rw [nxB_size]; rfl) c6
      ·refine wF 100 c5 <| nT <| cF <| wp_skip <| au_then <| sR <| rV 2 <| ZE M 135 0 3 <| rV 1 <| ZE M 137 0 6 <| pD M 138 (.tuple #[.string (vRp (endF (tS5 ra (puV rb) re rp ro)) (puV ra) (puV re) rf rt), .agg (av 5 (sQ [puV ra, zb, nxB (vS4 (endF (tS5 ra (puV rb) re rp ro)) (puV ra) (puV re) rf rt).c ⟨#[]⟩, nxA (vS4 (endF (tS5 ra (puV rb) re rp ro)) (puV ra) (puV re) rf rt).c ⟨#[]⟩, (vS4 (endF (tS5 ra (puV rb) re rp ro)) (puV ra) (puV re) rf rt).h])), .int .i64 0]) (fun w M => c_AnswerG g3 (endF (tS5 ra (puV rb) re rp ro)) ra re rf rt (tS5_h _ _ _ _ _) rfl (by omega) (by omega) w M.laid (M.get 2 rfl) (M.ne0 2 rfl)) fun u9 M => rV 4 <| pN M 20 (.cells (av 5 (zq 5)) 41) fun g5 u10 M => rV 1 <| ZL M 4 5 (sQ [puV ra, zb, nxB (vS4 (endF (tS5 ra (puV rb) re rp ro)) (puV ra) (puV re) rf rt).c ⟨#[]⟩, nxA (vS4 (endF (tS5 ra (puV rb) re rp ro)) (puV ra) (puV re) rf rt).c ⟨#[]⟩, (vS4 (endF (tS5 ra (puV rb) re rp ro)) (puV ra) (puV re) rf rt).h]) fun u11 M => rV 1 ?_
       refine nT <| sR <| rV 2 <| pD M 145 (.tuple #[.agg (av 5 (sQ [puV rb, rt, nxA (vS4 (endF (tS5 ra (puV rb) re rp ro)) (puV ra) (puV re) rf rt).c ⟨#[]⟩, nxB (vS4 (endF (tS5 ra (puV rb) re rp ro)) (puV ra) (puV re) rf rt).c ⟨#[]⟩, (vS4 (endF (tS5 ra (puV rb) re rp ro)) (puV ra) (puV re) rf rt).h])), .int .i64 0]) (fun w M => c_FinishG g2 (endF (tS5 ra (puV rb) re rp ro)) ra re (puV rb) rf rt (tS5_h _ _ _ _ _) rfl (by omega) (by omega) (by omega) w M.laid (M.get 1 rfl) (M.ne0 1 rfl)) fun u12 M => rV 3 <| pN M 21 (.cells (av 5 (zq 5)) 41) fun g6 u13 M => ZL M 5 5 (sQ [puV rb, rt, nxA (vS4 (endF (tS5 ra (puV rb) re rp ro)) (puV ra) (puV re) rf rt).c ⟨#[]⟩, nxB (vS4 (endF (tS5 ra (puV rb) re rp ro)) (puV ra) (puV re) rf rt).c ⟨#[]⟩, (vS4 (endF (tS5 ra (puV rb) re rp ro)) (puV ra) (puV re) rf rt).h]) fun u14 M => rV 1 <| nT <| wp_seq <| sR <| rV 8 <| ZE M 156 4 2 <| rV 1 ?_
       by_cases c6 : ((nxB (vS4 (endF (tS5 ra (puV rb) re rp ro)) (puV ra) (puV re) rf rt).c ⟨#[]⟩).size : Int) = 32
       ·refine wD 158 c6 <| rV 3 <| ZE M 162 4 3 <| rV 1 ?_
        by_cases c7 : ((nxA (vS4 (endF (tS5 ra (puV rb) re rp ro)) (puV ra) (puV re) rf rt).c ⟨#[]⟩).size : Int) = 32
        ·refine wD 164 c7 <| rV 3 <| ZE M 168 4 4 <| rV 1 ?_
         by_cases c8 : ((vS4 (endF (tS5 ra (puV rb) re rp ro)) (puV ra) (puV re) rf rt).h.size : Int) = 32
         ·refine wD 170 c8 <| rV 1 <| nT <| cF <| wp_skip <| au_then <| sR <| pA M 172 4 5 (sQ [puV ra, zb, nxB (vS4 (endF (tS5 ra (puV rb) re rp ro)) (puV ra) (puV re) rf rt).c ⟨#[]⟩, nxA (vS4 (endF (tS5 ra (puV rb) re rp ro)) (puV ra) (puV re) rf rt).c ⟨#[]⟩, (vS4 (endF (tS5 ra (puV rb) re rp ro)) (puV ra) (puV re) rf rt).h]) <| rV 2 <| ZE M 175 5 3 <| rV 1 <| ZE M 177 5 2 <| rV 1 <| ZE M 179 5 4 <| rV 1 <| z41 181 (puV ra) zb (nxB (vS4 (endF (tS5 ra (puV rb) re rp ro)) (puV ra) (puV re) rf rt).c ⟨#[]⟩) (nxA (vS4 (endF (tS5 ra (puV rb) re rp ro)) (puV ra) (puV re) rf rt).c ⟨#[]⟩) ((vS4 (endF (tS5 ra (puV rb) re rp ro)) (puV ra) (puV re) rf rt).h) ?_
          refine rV 2 <| ZE M 184 5 0 <| rV 1 <| zT 186 (puV rb) <| rV 3 <| ZE M 190 5 1 <| rV 1 <| ZE M 192 0 6 <| zT 193 rt <| rV 2 <| pl_call M (by kernel_rfl) (some 196) rfl 8 #[] (.bool true) (fun _ => by kernel_rfl) (fun w M => c_alive w M.laid) fun u15 M => rV 2 <| nT <| wp_ret ?_
          exact b1 M
         ·exact absurd (by rw [vS4_h]; rfl) c8
        ·exact absurd (by rw [nxA_size]; rfl) c7
       ·exact absurd (by rw [nxB_size]; rfl) c6
     ·refine wU 47 c4 <| rV 1 <| nT <| cT <| sR <| ZC M 49 (fun w M => c_alive w M.laid) fun u3 M => rV 1 <| nT <| wp_ret <| au_then_ret ?_
      exact b1 M
    ·refine wU 41 c3 <| rV 7 <| nT <| cT <| sR <| ZC M 49 (fun w M => c_alive w M.laid) fun u3 M => rV 1 <| nT <| wp_ret <| au_then_ret ?_
     exact b1 M
   ·refine wU 35 c2 <| rV 13 <| nT <| cT <| sR <| ZC M 49 (fun w M => c_alive w M.laid) fun u3 M => rV 1 <| nT <| wp_ret <| au_then_ret ?_
    exact b1 M
  ·refine wU 29 c1 <| rV 19 <| nT <| cT <| sR <| ZC M 49 (fun w M => c_alive w M.laid) fun u3 M => rV 1 <| nT <| wp_ret <| au_then_ret ?_
   exact b1 M
end Go.Proofs.YtffimigpbcilbaaGreatDoor
