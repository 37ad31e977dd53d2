/- The walk of Tag. -/
import Derived.Test.YtenafinbaanicaaDoorP3
import Derived.Shelf.Abstract
namespace Go.Proofs.YtenafinbaanicaaDoor.Pol
open Go.RowKit

/-- The number by which is multiplied, and the one that is added at the end. -/
def rF (key : ByteArray) : Nat → Int := noF (fc2 (fc1 (pd (bt (key.extract 0 16)) 16)))
def lF (key : ByteArray) : Nat → Int := noF (pd (bt (key.extract 16 key.size)) 16)
def tgS (key s : ByteArray) : ByteArray := txS (plF (lsF (sm s (rF key) ((s.size + 15) / 16))) (lF key))
theorem c_iterT (sg bd : Code) (hb : Tryd.f65.body.bind findRange = some (sg, bd)) (s : ByteArray) (r : Nat → Int) (hz : s.size ≤ 200000) (gr gl gh gq gs gn lp D cap : Nat) (Zl Zq : Obj) (hZ : SB Zq cap (vs8 (sb s))) (hcap : s.size ≤ cap) (fn : FuncId) (v : Nat → Value) (T : Array Value) (hT : T = tF gr gl gh v) (c : Ctx) (u : World)
    (M : Mem c [⟨gr, .cells (av 5 (w64 r)) 122⟩, ⟨gl, Zl⟩, ⟨gh, .cells (av 5 (w64 (sm s r 0))) 122⟩, ⟨gq, Zq⟩, ⟨gs, .cells (av 1 (fun _ => .slice (some ⟨gq, 0, none⟩) s.size cap)) 26⟩, ⟨gn, .cells (av 1 (fun _ => .int .i64 16)) 3⟩, ⟨D, .deferred (some [])⟩, ⟨lp, .loop (lpr .ready none fn T sg bd D)⟩] u) :
    Calls Tryd.prog 90 #[.func (.yield lp) #[] #[], .pointer (some ⟨gs, 0, none⟩), .pointer (some ⟨gn, 0, none⟩)] u fun e u' => (∃ v, e = .returned v) ∧ ∃ q : Loop, q.state ≠ .busy ∧ q.pending = none ∧ Mem c [⟨gr, .cells (av 5 (w64 r)) 122⟩, ⟨gl, Zl⟩, ⟨gh, .cells (av 5 (w64 (sm s r ((s.size + 15) / 16)))) 122⟩, ⟨gq, Zq⟩, ⟨gs, .cells (av 1 (fun _ => .slice (some ⟨gq, 0, none⟩) s.size cap)) 26⟩, ⟨gn, .cells (av 1 (fun _ => .int .i64 16)) 3⟩, ⟨D, .deferred (some [])⟩, ⟨lp, .loop q⟩] u' := by
  subst hT
  exact (c_iter sg bd hb s r hz gr gl gh gq gs gn lp D cap Zl Zq hZ hcap fn v c u M).mono fun e u' h => ⟨h.1, lpr .ready none fn (tF gr gl gh v) sg bd D, (show LoopState.ready ≠ LoopState.busy by decide), rfl, h.2⟩

set_option maxRecDepth 100000 in
set_option maxHeartbeats 4000000 in
theorem c_TagA (key s : ByteArray) (hk : key.size = 32) (hz : s.size ≤ 200000) (w : World) (hL : Laid w) : Calls Tryd.prog 65 #[.string key, .string s] w fun r w' => r = .returned (.tuple #[.string (tgS key s), .int .i64 0]) ∧ Below w.heap.size w w' := by
  refine (callsIn_wide (n := 0)).1 (callsIn_of_wp_marks Tryd.func65 rfl trivial ?_)
  refine (wpIn_wide (n := 0)).2 ?_
  refine fr_w (b := (fm ([.string key, .string s] ++ und 32))) (by kernel_rfl) ?_
  have M := Mem.start hL
  refine sq ?_
  refine wp_seq ?_
  refine sR ?_
  refine rV 2 ?_
  refine ZD 12 ((key.size : Int) = 32) ?_
  refine nT ?_
  refine wp_cond_false (by kernel_rfl) ?_
  refine wp_skip ?_
  refine au_then ?_
  refine wp_seq ?_
  refine rg_allocs M 6 [(6, fun g => .pointer (some ⟨g, 0, none⟩), (.cells (av 5 (w64 (fun _ => 0))) 122)), (7, fun g => .pointer (some ⟨g, 0, none⟩), (.cells (av 5 (w64 (fun _ => 0))) 122))] (by kernel_rfl) (by kernel_rfl) (⟨rfl, rfl, fun _ _ => by kernel_rfl, ⟨rfl, rfl, fun _ _ => by kernel_rfl, trivial⟩⟩) (by decide) ?_
  simp only [List.take_succ_cons, List.take_zero]
  refine kR 1 ?_
  refine kH 14 (.string (key.extract 0 16)) (run_strh 9 Tryd.underlying9 _ _ rfl key (by kernel_rfl) .i64 16 (by kernel_rfl) (by omega) _ rfl) ?_
  refine kC M 15 75 #[.string (key.extract 0 16)] (.agg (av 5 (w64 (rF key)))) (fun w M => c_factor _ (by rw [ByteArray.size_extract]; omega) w M.laid) ?_
  refine kR 1 ?_
  refine kH 17 (.string (key.extract 16 key.size)) (run_strl 9 Tryd.underlying9 _ _ rfl key (by kernel_rfl) .i64 16 (by kernel_rfl) (by omega) _ rfl) ?_
  refine kC M 18 76 #[.string (key.extract 16 key.size)] (.agg (av 5 (w64 (lF key)))) (fun w M => c_plain _ (by rw [ByteArray.size_extract]; omega) w M.laid) ?_
  refine kl_nil fun u1 g1 g2 M => ?_
  refine ZG M 0 5 (w64 (rF key)) fun u2 M => ?_
  refine ZG M 1 5 (w64 (lF key)) fun u3 M => ?_
  refine nT ?_
  refine sR ?_
  refine pN M 8 (.cells (av 5 (w64 (fun _ => 0))) 122) fun g3 u4 M => ?_
  refine nT ?_
  refine wp_seq ?_
  refine sR ?_
  refine rV 1 ?_
  refine pl_conv M (want_no rfl) (some 20) rfl _ rfl s (by kernel_rfl) ?_
  intro gq capq Zq u5 hZq M
  have hcap : s.size ≤ capq := by have := hZq.le; rwa [vs8_length, sb_length] at this
  refine pl_calltwo M (want_no rfl) (some 21) rfl 77 #[.slice (some ⟨gq, 0, none⟩) s.size capq, .int .i64 16] (fun g k => .func (.func 90) #[] #[.pointer (some ⟨g, 0, none⟩), .pointer (some ⟨k, 0, none⟩)]) (.cells (av 1 (fun _ => .slice (some ⟨gq, 0, none⟩) s.size capq)) 26) (.cells (av 1 (fun _ => .int .i64 16)) 3) (fun _ => by kernel_rfl) (fun w M => c_chunk gq s.size capq w M.laid) ?_
  intro gs gn u6 M
  refine nT ?_
  refine wp_block ?_
  refine fr_w (b := (fm ([.string key, .string s, undef, undef, .string ⟨#[]⟩, .int .i64 0, .pointer (some ⟨g1, 0, none⟩), .pointer (some ⟨g2, 0, none⟩), .pointer (some ⟨g3, 0, none⟩), undef, .string key, .int .i64 (key.size : Int), .bool false, .string key, .string (key.extract 0 16), .agg (av 5 (w64 (rF key))), .string key, .string (key.extract 16 key.size), .agg (av 5 (w64 (lF key))), .string s, .slice (some ⟨gq, 0, none⟩) s.size capq, .func (.func 90) #[] #[.pointer (some ⟨gs, 0, none⟩), .pointer (some ⟨gn, 0, none⟩)]] ++ und 12))) (by kernel_rfl) ?_
  refine wp_range (gf := 90) (lb := #[.pointer (some ⟨gs, 0, none⟩), .pointer (some ⟨gn, 0, none⟩)]) rfl (enters_of Tryd.func90 (by kernel_rfl) rfl) ?_
  intro fn
  refine (c_iterT _ _ rfl s (rF key) hz g1 g2 g3 gq gs gn _ _ capq _ Zq hZq hcap fn (fun k_ => ([.string key, .string s, undef, undef, .string ⟨#[]⟩, .int .i64 0, .pointer (some ⟨g1, 0, none⟩), .pointer (some ⟨g2, 0, none⟩), .pointer (some ⟨g3, 0, none⟩), undef, .string key, .int .i64 (key.size : Int), .bool false, .string key, .string (key.extract 0 16), .agg (av 5 (w64 (rF key))), .string key, .string (key.extract 16 key.size), .agg (av 5 (w64 (lF key))), .string s, .slice (some ⟨gq, 0, none⟩) s.size capq, .func (.func 90) #[] #[.pointer (some ⟨gs, 0, none⟩), .pointer (some ⟨gn, 0, none⟩)], undef, undef, undef, undef, undef, undef, undef, undef, undef, undef, undef, undef] : List Value).getD (k_ - 0) undef) _ (by kernel_rfl) ⟨w, []⟩ _ (M.alloc2 _ _)).mono ?_
  rintro e w3 ⟨he, q, hr1, hr2, M2⟩
  refine ⟨he, q, M2.get 7 rfl, hr1, ?_⟩
  rw [hr2]
  have M3 := M2.putO 7 _ _ (.loop { q with state := .exhausted, pending := none }) rfl
  clear M M2
  have M := M3
  refine au_block ?_
  refine au_then ?_
  refine wp_seq ?_
  refine rg_tail M 6 (by kernel_rfl) (by kernel_rfl) ?_
  simp only [List.take_succ_cons, List.take_zero]
  refine kA M 29 2 5 (w64 (sm s (rF key) ((s.size + 15) / 16))) ?_
  refine kC M 30 81 #[.agg (av 5 (w64 (sm s (rF key) ((s.size + 15) / 16))))] (.agg (av 5 (w64 (lsF (sm s (rF key) ((s.size + 15) / 16)))))) (fun w M => c_least _ w M.laid) ?_
  refine kA M 31 1 5 (w64 (lF key)) ?_
  refine kC M 32 78 #[.agg (av 5 (w64 (lsF (sm s (rF key) ((s.size + 15) / 16))))), .agg (av 5 (w64 (lF key)))] (.agg (av 5 (w64 (plF (lsF (sm s (rF key) ((s.size + 15) / 16))) (lF key))))) (fun w M => c_plus _ _ w M.laid) ?_
  refine kC M 33 82 #[.agg (av 5 (w64 (plF (lsF (sm s (rF key) ((s.size + 15) / 16))) (lF key))))] (.string (tgS key s)) (fun w M => c_text _ w M.laid) ?_
  refine kR 1 ?_
  refine kl_nil fun u7 M => ?_
  refine rV 1 ?_
  refine nT ?_
  refine wp_ret ?_
  refine marks_ret (v := .tuple #[.string (tgS key s), .int .i64 0]) rfl (M.get 6 rfl) (fun w => results_tmp2 Tryd.results65 _ w _ _ (by kernel_rfl) (by kernel_rfl)) ⟨rfl, below_grown (M.putO 6 _ _ (.deferred none) rfl).old⟩

set_option maxRecDepth 100000 in
set_option maxHeartbeats 4000000 in
theorem c_TagB (key s : ByteArray) (hk : key.size ≠ 32) (w : World) (hL : Laid w)  :
    Calls Tryd.prog 65 #[.string key, .string s] w fun r w' => r = .returned (.tuple #[.string ⟨#[]⟩, .int .i64 2]) ∧ Below w.heap.size w w' := by
  go_enter Tryd.func65, Tryd.ntmps65
  have M := Mem.start hL
  refine sq ?_
  refine wp_seq ?_
  refine sR ?_
  refine rV 2 ?_
  refine ZS 12 ((key.size : Int) = 32) ?_
  refine nT ?_
  refine wp_cond_true (by kernel_rfl) ?_
  refine sq ?_
  refine wp_ret ?_
  refine au_then_ret ?_
  exact b1 M


end Go.Proofs.YtenafinbaanicaaDoor.Pol
