/- Decode: the walk. -/
import Derived.Test.YtbechjlkmajcoaaR5
namespace Go.Proofs.Ytbechjlkmajcoaa
open Go.RowKit

/-- What a reader has: what is left, its reader's fault, its own. -/
structure Rs where
  s : ByteArray
  f : Int
  e : Int
def fl (e f : Int) : Int := if e = 0 then f else e
def tkR (r : Rs) (n : Int) : Rs := ⟨tkS r.s r.f n, tkF r.s r.f n, r.e⟩
def rfR (r : Rs) (x : Int) : Rs := ⟨r.s, r.f, if fl r.e r.f = 0 then x else r.e⟩
theorem rfR_s (r : Rs) (x : Int) : (rfR r x).s = r.s := rfl
theorem rfR_f (r : Rs) (x : Int) : (rfR r x).f = r.f := rfl
def xE (r : Rs) : Int := cv .u8 (bnv (tkV r.s r.f 1))
def reM (r : Rs) : Rs := if xE r = 4 then tkR (tkR r 1) 4 else if xE r = 6 then tkR (tkR (tkR r 1) 8) 8 else rfR (tkR r 1) 8
def reS (r : Rs) : Rs := tkR (reM r) 2
def reV (r : Rs) : Bool := if xE r = 4 then false else if xE r = 6 then true else false
def reH (r : Rs) : Int := if xE r = 4 then 0 else if xE r = 6 then bnv (tkV (tkR r 1).s (tkR r 1).f 8) else 0
def reL (r : Rs) : Int := if xE r = 4 then cv .u64 (cv .u32 (bnv (tkV (tkR r 1).s (tkR r 1).f 4))) else if xE r = 6 then bnv (tkV (tkR (tkR r 1) 8).s (tkR (tkR r 1) 8).f 8) else 0
def reP (r : Rs) : Int := cv .u16 (bnv (tkV (reM r).s (reM r).f 2))
def rxN (r : Rs) : Int := cv .i64 (cv .u16 (bnv (tkV r.s r.f 2)))
def rtM (r : Rs) (n : Int) : Rs := if n < rxN r then rfR (tkR r 2) 4 else tkR r 2
def rtS (r : Rs) (n : Int) : Rs := tkR (rtM r n) (rxN r)
def rtV (r : Rs) (n : Int) : ByteArray := tkV (rtM r n).s (rtM r n).f (rxN r)
/-- A field that is read. -/
def rdS (h o : Int) (r : Rs) : Rs := if yn h o = 0 then r else if o = 4 then tkR r 4 else if o = 8 then tkR r 4 else if o = 16 then tkR r 8 else if o = 32 then tkR r 8 else if o = 64 then tkR r 8 else if o = 512 then tkR r 2 else if o = 256 then reS r else if o = 1024 then rtS r (moO o) else if o = 2048 then rtS r (moO o) else tkR r (szO o)
def vN (n : Int) : Vl := ⟨n, ⟨#[]⟩, false, 0, 0, 0⟩
def vT (t : ByteArray) : Vl := ⟨0, t, false, 0, 0, 0⟩
def rdV (h o : Int) (r : Rs) : Vl := if yn h o = 0 then vN 0 else if o = 4 then vN (cv .u64 (cv .u32 (bnv (tkV r.s r.f 4)))) else if o = 8 then vN (cv .u64 (cv .u32 (bnv (tkV r.s r.f 4)))) else if o = 16 then vN (bnv (tkV r.s r.f 8)) else if o = 32 then vN (bnv (tkV r.s r.f 8)) else if o = 64 then vN (bnv (tkV r.s r.f 8)) else if o = 512 then vN (cv .u64 (cv .u16 (bnv (tkV r.s r.f 2)))) else if o = 256 then ⟨0, ⟨#[]⟩, reV r, reH r, reL r, reP r⟩ else if o = 1024 then vT (rtV r (moO o)) else if o = 2048 then vT (rtV r (moO o)) else vT (tkV r.s r.f (szO o))
def rdK (h : Int) (r : Rs) : Nat → Rs
  | 0 => r
  | k + 1 => rdS h (bitV k) (rdK h r k)
def rdO (h : Int) (r : Rs) (k : Nat) : Vl := rdV h (bitV k) (rdK h r k)
/-- The reader of a text: its type, what it has when that is read. -/
def kdP (s : ByteArray) : Int := cv .u8 (bnv (tkV s 0 1))
def r0P (s : ByteArray) : Rs := if shP (kdP s) = 0 then rfR ⟨tkS s 0 1, tkF s 0 1, 0⟩ 150 else ⟨tkS s 0 1, tkF s 0 1, 0⟩
def nE (r : Rs) : Int := if fl r.e r.f = 0 then enF r.s r.f else fl r.e r.f
def m0 (t : Int) : Mg := ⟨t, ⟨#[]⟩, ⟨#[]⟩, 0, 0, 0, 0, 0, ⟨#[]⟩, false, 0, 0, 0, 0, ⟨#[]⟩, ⟨#[]⟩, ⟨#[]⟩⟩
def deE (s : ByteArray) : Int := nE (rdK (shP (kdP s)) (r0P s) 13)
def deM (s : ByteArray) : Mg := if deE s = 0 then outM (m0 (kdP s)) (rdO (shP (kdP s)) (r0P s)) else m0 0
set_option maxRecDepth 100000 in
set_option maxHeartbeats 4000000 in
set_option linter.unusedSimpArgs false in
theorem r_fault (gr g : Nat) (kd h : Int) (r_ : Rs) (w : World) (hL : Laid w)  (hg0 : w.heap[gr]? = some (.cells (av 4 (ls [.int .u8 kd, .int .u16 h, .pointer (some ⟨g, 0, none⟩), .int .i64 r_.e])) 73)) (hg1 : w.heap[g]? = some (.cells (av 3 (ls [.bool true, .string r_.s, .int .i64 r_.f])) 112)) (hne : gr ≠ g) :
    Calls Try.prog 58 #[.pointer (some ⟨gr, 0, none⟩)] w fun r w' => r = .returned (.int .i64 (fl r_.e r_.f)) ∧ Below w.heap.size w w' := by
  go_enter Try.func58, Try.ntmps58
  have M := Mem.startp2 hL hg0 hg1 hne
  refine wp_seq ?_
  refine rg_lit ?_
  refine pl_val (want_no rfl) (some 2) rfl (.int .i64 0) (fun _ => by kernel_rfl) ?_
  refine pl_nil ?_
  refine au_then ?_
  refine wp_seq ?_
  refine wp_seq ?_
  refine rg_lit ?_
  refine pl_val (want_no rfl) (some 3) rfl (.pointer (some ⟨gr, 0, none⟩)) (fun _ => by kernel_rfl) ?_
  refine pl_val (want_no rfl) (some 4) rfl (.pointer (some ⟨gr, 0, none⟩)) (fun _ => by kernel_rfl) ?_
  refine pl_val (want_no rfl) (some 5) rfl (.pointer (some ⟨gr, 3, none⟩)) (fun _ => by kernel_rfl) ?_
  refine pl_cell M (want_no rfl) (some 6) rfl 33 _ rfl gr 3 (by kernel_rfl) (.int .i64 r_.e) (fun _ => by kernel_rfl) (fun w M => M.cell 0 rfl (by decide) rfl) ?_
  by_cases c0 : r_.e = 0
  · skip
    refine pl_val (want_no rfl) (some 7) rfl (.bool false) (fun w => Eq.trans (b := .ok (.value (.bool (!(decide (r_.e = 0))))) w) (by kernel_rfl) (by rw [decide_eq_true (c0)]; rfl)) ?_
    refine pl_nil ?_
    refine au_then ?_
    refine wp_cond_false (by kernel_rfl) ?_
    refine wp_skip ?_
    refine au_then ?_
    refine wp_seq ?_
    refine rg_lit ?_
    refine pl_val (want_no rfl) (some 12) rfl (.pointer (some ⟨gr, 0, none⟩)) (fun _ => by kernel_rfl) ?_
    refine pl_val (want_no rfl) (some 13) rfl (.pointer (some ⟨gr, 0, none⟩)) (fun _ => by kernel_rfl) ?_
    refine pl_val (want_no rfl) (some 14) rfl (.pointer (some ⟨gr, 2, none⟩)) (fun _ => by kernel_rfl) ?_
    refine pl_cell M (want_no rfl) (some 15) rfl 71 _ rfl gr 2 (by kernel_rfl) (.pointer (some ⟨g, 0, none⟩)) (fun _ => by kernel_rfl) (fun w M => M.cell 0 rfl (by decide) rfl) ?_
    refine pl_call M (want_no rfl) (some 16) rfl 73 #[.pointer (some ⟨g, 0, none⟩)] (.int .i64 r_.f) (fun _ => by kernel_rfl) (fun w M => c_Fault g r_.s r_.f w M.laid (M.get 1 rfl)) ?_
    intro u1 M
    refine pl_val (want_no rfl) (some 2) rfl (.int .i64 r_.f) (fun _ => by kernel_rfl) ?_
    refine pl_nil ?_
    refine au_then ?_
    refine wp_ret ?_
    have e0 : (fl r_.e r_.f) = r_.f := by simp only [fl, if_pos c0]
    exact bodyPost_ret (v := .int .i64 r_.f) (results_tmp1 Try.results58 _ _ _ (by kernel_rfl)) (by kernel_rfl) ⟨by rw [e0], ro_below2 M.old hg0 (M.get 0 rfl) hg1 (M.get 1 rfl)⟩
  · skip
    refine pl_val (want_no rfl) (some 7) rfl (.bool true) (fun w => Eq.trans (b := .ok (.value (.bool (!(decide (r_.e = 0))))) w) (by kernel_rfl) (by rw [decide_eq_false (c0)]; rfl)) ?_
    refine pl_nil ?_
    refine au_then ?_
    refine wp_cond_true (by kernel_rfl) ?_
    refine wp_seq ?_
    refine rg_lit ?_
    refine pl_val (want_no rfl) (some 8) rfl (.pointer (some ⟨gr, 0, none⟩)) (fun _ => by kernel_rfl) ?_
    refine pl_val (want_no rfl) (some 9) rfl (.pointer (some ⟨gr, 0, none⟩)) (fun _ => by kernel_rfl) ?_
    refine pl_val (want_no rfl) (some 10) rfl (.pointer (some ⟨gr, 3, none⟩)) (fun _ => by kernel_rfl) ?_
    refine pl_cell M (want_no rfl) (some 11) rfl 33 _ rfl gr 3 (by kernel_rfl) (.int .i64 r_.e) (fun _ => by kernel_rfl) (fun w M => M.cell 0 rfl (by decide) rfl) ?_
    refine pl_val (want_no rfl) (some 2) rfl (.int .i64 r_.e) (fun _ => by kernel_rfl) ?_
    refine pl_nil ?_
    refine au_then ?_
    refine wp_ret ?_
    refine au_then_ret ?_
    have e0 : (fl r_.e r_.f) = r_.e := by simp only [fl, if_neg c0]
    exact bodyPost_ret (v := .int .i64 r_.e) (results_tmp1 Try.results58 _ _ _ (by kernel_rfl)) (by kernel_rfl) ⟨by rw [e0], ro_below2 M.old hg0 (M.get 0 rfl) hg1 (M.get 1 rfl)⟩

set_option maxRecDepth 100000 in
set_option maxHeartbeats 4000000 in
set_option linter.unusedSimpArgs false in
theorem r_refT (gr g : Nat) (kd h : Int) (r_ : Rs) (x : Int) (w : World) (hL : Laid w)  (hg0 : w.heap[gr]? = some (.cells (av 4 (ls [.int .u8 kd, .int .u16 h, .pointer (some ⟨g, 0, none⟩), .int .i64 r_.e])) 73)) (hg1 : w.heap[g]? = some (.cells (av 3 (ls [.bool true, .string r_.s, .int .i64 r_.f])) 112)) (hne : gr ≠ g) :
    Calls Try.prog 51 #[.pointer (some ⟨gr, 0, none⟩), .bool true, .int .i64 x] w fun r w' => r = .returned (.tuple #[]) ∧ Grw w w' [gr, g] ∧ w'.heap[gr]? = some (.cells (av 4 (ls [.int .u8 kd, .int .u16 h, .pointer (some ⟨g, 0, none⟩), .int .i64 (rfR r_ x).e])) 73) ∧ w'.heap[g]? = some (.cells (av 3 (ls [.bool true, .string (rfR r_ x).s, .int .i64 (rfR r_ x).f])) 112) := by
  go_enter Try.func51, Try.ntmps51
  have M := Mem.startp2 hL hg0 hg1 hne
  refine wp_seq ?_
  refine rg_lit ?_
  refine pl_val (want_no rfl) (some 6) rfl (.bool true) (fun _ => by kernel_rfl) ?_
  refine pl_val (want_no rfl) (some 7) rfl (.bool true) (fun _ => by kernel_rfl) ?_
  refine pl_val (want_on 1 true rfl 7 rfl (by kernel_rfl)) (some 8) rfl (.pointer (some ⟨gr, 0, none⟩)) (fun _ => by kernel_rfl) ?_
  refine pl_call M (want_on 1 true rfl 7 rfl (by kernel_rfl)) (some 9) rfl 58 #[.pointer (some ⟨gr, 0, none⟩)] (.int .i64 (fl r_.e r_.f)) (fun _ => by kernel_rfl) (fun w M => r_fault gr g kd h r_ w M.laid (M.get 0 rfl) (M.get 1 rfl) (nodup_at M.nodup (i := 0) (j := 1) rfl rfl (by decide))) ?_
  intro u1 M
  by_cases c0 : (fl r_.e r_.f) = 0
  · skip
    refine pl_val (want_on 1 true rfl 7 rfl (by kernel_rfl)) (some 10) rfl (.bool true) (fun w => Eq.trans (b := .ok (.value (.bool (decide ((fl r_.e r_.f) = 0)))) w) (by kernel_rfl) (by rw [decide_eq_true (c0)])) ?_
    refine pl_val (want_no rfl) (some 11) rfl (.bool true) (fun _ => by kernel_rfl) ?_
    refine pl_nil ?_
    refine au_then ?_
    refine wp_cond_true (by kernel_rfl) ?_
    refine rg_lit ?_
    refine pl_val (want_no rfl) (some 12) rfl (.pointer (some ⟨gr, 0, none⟩)) (fun _ => by kernel_rfl) ?_
    refine pl_val (want_no rfl) (some 13) rfl (.int .i64 x) (fun _ => by kernel_rfl) ?_
    refine pl_val (want_no rfl) (some 14) rfl (.pointer (some ⟨gr, 0, none⟩)) (fun _ => by kernel_rfl) ?_
    refine pl_val (want_no rfl) (some 15) rfl (.pointer (some ⟨gr, 3, none⟩)) (fun _ => by kernel_rfl) ?_
    refine pl_put1 M (want_no rfl) rfl 33 _ _ rfl 0 gr 3 (by kernel_rfl) 4 73 (ls [.int .u8 kd, .int .u16 h, .pointer (some ⟨g, 0, none⟩), .int .i64 r_.e]) rfl (.int .i64 x) (ls [.int .u8 kd, .int .u16 h, .pointer (some ⟨g, 0, none⟩), .int .i64 x]) (by kernel_rfl) inz33 (by decide) rfl rfl (put_ls _ 3 _ _ rfl) ?_
    intro u2 M
    replace M : Mem ⟨w, [gr, g]⟩ [⟨gr, .cells (av 4 (ls [.int .u8 kd, .int .u16 h, .pointer (some ⟨g, 0, none⟩), .int .i64 x])) 73⟩, ⟨g, .cells (av 3 (ls [.bool true, .string r_.s, .int .i64 r_.f])) 112⟩] u2 := M
    refine pl_nil ?_
    have e0 : (rfR r_ x).e = x := by simp only [rfR, if_pos c0]
    have e1 : (rfR r_ x).s = r_.s := by simp only [rfR, if_pos c0]
    have e2 : (rfR r_ x).f = r_.f := by simp only [rfR, if_pos c0]
    exact bodyPost_end (v := .tuple #[]) (results_none Try.results51 _ _) (by kernel_rfl) ⟨rfl, M.old, by simpa only [e0, e1, e2] using M.get 0 rfl, by simpa only [e0, e1, e2] using M.get 1 rfl⟩
  · skip
    refine pl_val (want_on 1 true rfl 7 rfl (by kernel_rfl)) (some 10) rfl (.bool false) (fun w => Eq.trans (b := .ok (.value (.bool (decide ((fl r_.e r_.f) = 0)))) w) (by kernel_rfl) (by rw [decide_eq_false (c0)])) ?_
    refine pl_val (want_no rfl) (some 11) rfl (.bool false) (fun _ => by kernel_rfl) ?_
    refine pl_nil ?_
    refine au_then ?_
    refine wp_cond_false (by kernel_rfl) ?_
    refine wp_skip ?_
    have e0 : (rfR r_ x).e = r_.e := by simp only [rfR, if_neg c0]
    have e1 : (rfR r_ x).s = r_.s := by simp only [rfR, if_neg c0]
    have e2 : (rfR r_ x).f = r_.f := by simp only [rfR, if_neg c0]
    exact bodyPost_end (v := .tuple #[]) (results_none Try.results51 _ _) (by kernel_rfl) ⟨rfl, M.old, by simpa only [e0, e1, e2] using M.get 0 rfl, by simpa only [e0, e1, e2] using M.get 1 rfl⟩

set_option maxRecDepth 100000 in
set_option maxHeartbeats 4000000 in
set_option linter.unusedSimpArgs false in
theorem r_refF (gr g : Nat) (kd h : Int) (r_ : Rs) (x : Int) (w : World) (hL : Laid w)  (hg0 : w.heap[gr]? = some (.cells (av 4 (ls [.int .u8 kd, .int .u16 h, .pointer (some ⟨g, 0, none⟩), .int .i64 r_.e])) 73)) (hg1 : w.heap[g]? = some (.cells (av 3 (ls [.bool true, .string r_.s, .int .i64 r_.f])) 112)) (hne : gr ≠ g) :
    Calls Try.prog 51 #[.pointer (some ⟨gr, 0, none⟩), .bool false, .int .i64 x] w fun r w' => r = .returned (.tuple #[]) ∧ Below w.heap.size w w' := by
  go_enter Try.func51, Try.ntmps51
  have M := Mem.startp2 hL hg0 hg1 hne
  refine wp_seq ?_
  refine rg_lit ?_
  refine pl_val (want_no rfl) (some 6) rfl (.bool false) (fun _ => by kernel_rfl) ?_
  refine pl_val (want_no rfl) (some 7) rfl (.bool false) (fun _ => by kernel_rfl) ?_
  refine pl_skip (want_off 1 true rfl 7 rfl (by kernel_rfl)) (some 8) rfl ?_
  refine pl_skip (want_off 1 true rfl 7 rfl (by kernel_rfl)) (some 9) rfl ?_
  refine pl_skip (want_off 1 true rfl 7 rfl (by kernel_rfl)) (some 10) rfl ?_
  refine pl_val (want_no rfl) (some 11) rfl (.bool false) (fun _ => by kernel_rfl) ?_
  refine pl_nil ?_
  refine au_then ?_
  refine wp_cond_false (by kernel_rfl) ?_
  refine wp_skip ?_
  exact bodyPost_end (v := .tuple #[]) (results_none Try.results51 _ _) (by kernel_rfl) ⟨rfl, ro_below2 M.old hg0 (M.get 0 rfl) hg1 (M.get 1 rfl)⟩

set_option maxRecDepth 100000 in
set_option maxHeartbeats 4000000 in
set_option linter.unusedSimpArgs false in
theorem r_end (gr g : Nat) (kd h : Int) (r_ : Rs) (w : World) (hL : Laid w)  (hg0 : w.heap[gr]? = some (.cells (av 4 (ls [.int .u8 kd, .int .u16 h, .pointer (some ⟨g, 0, none⟩), .int .i64 r_.e])) 73)) (hg1 : w.heap[g]? = some (.cells (av 3 (ls [.bool true, .string r_.s, .int .i64 r_.f])) 112)) (hne : gr ≠ g) :
    Calls Try.prog 33 #[.pointer (some ⟨gr, 0, none⟩)] w fun r w' => r = .returned (.int .i64 (nE r_)) ∧ Below w.heap.size w w' := by
  go_enter Try.func33, Try.ntmps33
  have M := Mem.startp2 hL hg0 hg1 hne
  refine wp_seq ?_
  refine rg_lit ?_
  refine pl_val (want_no rfl) (some 2) rfl (.int .i64 0) (fun _ => by kernel_rfl) ?_
  refine pl_nil ?_
  refine au_then ?_
  refine wp_seq ?_
  refine wp_seq ?_
  refine rg_lit ?_
  refine pl_val (want_no rfl) (some 4) rfl (.pointer (some ⟨gr, 0, none⟩)) (fun _ => by kernel_rfl) ?_
  refine pl_call M (want_no rfl) (some 5) rfl 58 #[.pointer (some ⟨gr, 0, none⟩)] (.int .i64 (fl r_.e r_.f)) (fun _ => by kernel_rfl) (fun w M => r_fault gr g kd h r_ w M.laid (M.get 0 rfl) (M.get 1 rfl) (nodup_at M.nodup (i := 0) (j := 1) rfl rfl (by decide))) ?_
  intro u1 M
  refine pl_val (want_no rfl) (some 3) rfl (.int .i64 (fl r_.e r_.f)) (fun _ => by kernel_rfl) ?_
  refine pl_nil ?_
  refine au_then ?_
  refine wp_seq ?_
  refine rg_lit ?_
  refine pl_val (want_no rfl) (some 6) rfl (.int .i64 (fl r_.e r_.f)) (fun _ => by kernel_rfl) ?_
  by_cases c0 : (fl r_.e r_.f) = 0
  · skip
    refine pl_val (want_no rfl) (some 7) rfl (.bool false) (fun w => Eq.trans (b := .ok (.value (.bool (!(decide ((fl r_.e r_.f) = 0))))) w) (by kernel_rfl) (by rw [decide_eq_true (c0)]; rfl)) ?_
    refine pl_nil ?_
    refine au_then ?_
    refine wp_cond_false (by kernel_rfl) ?_
    refine wp_skip ?_
    refine au_then ?_
    refine wp_seq ?_
    refine rg_lit ?_
    refine pl_val (want_no rfl) (some 9) rfl (.pointer (some ⟨gr, 0, none⟩)) (fun _ => by kernel_rfl) ?_
    refine pl_val (want_no rfl) (some 10) rfl (.pointer (some ⟨gr, 0, none⟩)) (fun _ => by kernel_rfl) ?_
    refine pl_val (want_no rfl) (some 11) rfl (.pointer (some ⟨gr, 2, none⟩)) (fun _ => by kernel_rfl) ?_
    refine pl_cell M (want_no rfl) (some 12) rfl 71 _ rfl gr 2 (by kernel_rfl) (.pointer (some ⟨g, 0, none⟩)) (fun _ => by kernel_rfl) (fun w M => M.cell 0 rfl (by decide) rfl) ?_
    refine pl_call M (want_no rfl) (some 13) rfl 59 #[.pointer (some ⟨g, 0, none⟩)] (.int .i64 (enF r_.s r_.f)) (fun _ => by kernel_rfl) (fun w M => c_End g r_.s r_.f w M.laid (M.get 1 rfl)) ?_
    intro u2 M
    refine pl_val (want_no rfl) (some 2) rfl (.int .i64 (enF r_.s r_.f)) (fun _ => by kernel_rfl) ?_
    refine pl_nil ?_
    refine au_then ?_
    refine wp_ret ?_
    have e0 : (nE r_) = (enF r_.s r_.f) := by simp only [nE, if_pos c0]
    exact bodyPost_ret (v := .int .i64 (enF r_.s r_.f)) (results_tmp1 Try.results33 _ _ _ (by kernel_rfl)) (by kernel_rfl) ⟨by rw [e0], ro_below2 M.old hg0 (M.get 0 rfl) hg1 (M.get 1 rfl)⟩
  · skip
    refine pl_val (want_no rfl) (some 7) rfl (.bool true) (fun w => Eq.trans (b := .ok (.value (.bool (!(decide ((fl r_.e r_.f) = 0))))) w) (by kernel_rfl) (by rw [decide_eq_false (c0)]; rfl)) ?_
    refine pl_nil ?_
    refine au_then ?_
    refine wp_cond_true (by kernel_rfl) ?_
    refine wp_seq ?_
    refine rg_lit ?_
    refine pl_val (want_no rfl) (some 8) rfl (.int .i64 (fl r_.e r_.f)) (fun _ => by kernel_rfl) ?_
    refine pl_val (want_no rfl) (some 2) rfl (.int .i64 (fl r_.e r_.f)) (fun _ => by kernel_rfl) ?_
    refine pl_nil ?_
    refine au_then ?_
    refine wp_ret ?_
    refine au_then_ret ?_
    have e0 : (nE r_) = (fl r_.e r_.f) := by simp only [nE, if_neg c0]
    exact bodyPost_ret (v := .int .i64 (fl r_.e r_.f)) (results_tmp1 Try.results33 _ _ _ (by kernel_rfl)) (by kernel_rfl) ⟨by rw [e0], ro_below2 M.old hg0 (M.get 0 rfl) hg1 (M.get 1 rfl)⟩

set_option maxRecDepth 100000 in
set_option maxHeartbeats 4000000 in
set_option linter.unusedSimpArgs false in
theorem r_readEnd (gr g : Nat) (kd h : Int) (r_ : Rs) (w : World) (hL : Laid w)  (hg0 : w.heap[gr]? = some (.cells (av 4 (ls [.int .u8 kd, .int .u16 h, .pointer (some ⟨g, 0, none⟩), .int .i64 r_.e])) 73)) (hg1 : w.heap[g]? = some (.cells (av 3 (ls [.bool true, .string r_.s, .int .i64 r_.f])) 112)) (hne : gr ≠ g) :
    Calls Try.prog 55 #[.pointer (some ⟨gr, 0, none⟩)] w fun r w' => r = .returned (.agg (av 4 (ls [.bool (reV r_), .int .u64 (reH r_), .int .u64 (reL r_), .int .u16 (reP r_)]))) ∧ Grw w w' [gr, g] ∧ w'.heap[gr]? = some (.cells (av 4 (ls [.int .u8 kd, .int .u16 h, .pointer (some ⟨g, 0, none⟩), .int .i64 (reS r_).e])) 73) ∧ w'.heap[g]? = some (.cells (av 3 (ls [.bool true, .string (reS r_).s, .int .i64 (reS r_).f])) 112) := by
  go_enter Try.func55, Try.ntmps55
  have M := Mem.startp2 hL hg0 hg1 hne
  refine wp_seq ?_
  refine rg_lit ?_
  refine pl_new M (want_no rfl) (some 2) rfl (.cells (av 4 (ls [.bool false, .int .u64 0, .int .u64 0, .int .u16 0])) 28) (fun _ => by kernel_rfl) ?_
  intro g1 u1 M
  replace M : Mem ⟨w, [gr, g]⟩ [⟨gr, .cells (av 4 (ls [.int .u8 kd, .int .u16 h, .pointer (some ⟨g, 0, none⟩), .int .i64 r_.e])) 73⟩, ⟨g, .cells (av 3 (ls [.bool true, .string r_.s, .int .i64 r_.f])) 112⟩, ⟨g1, .cells (av 4 (ls [.bool false, .int .u64 0, .int .u64 0, .int .u16 0])) 28⟩] u1 := M
  refine pl_nil ?_
  refine au_then ?_
  refine wp_seq ?_
  refine rg_lit ?_
  refine pl_new M (want_no rfl) (some 3) rfl (.cells (av 4 (ls [.bool false, .int .u64 0, .int .u64 0, .int .u16 0])) 28) (fun _ => by kernel_rfl) ?_
  intro g2 u2 M
  replace M : Mem ⟨w, [gr, g]⟩ [⟨gr, .cells (av 4 (ls [.int .u8 kd, .int .u16 h, .pointer (some ⟨g, 0, none⟩), .int .i64 r_.e])) 73⟩, ⟨g, .cells (av 3 (ls [.bool true, .string r_.s, .int .i64 r_.f])) 112⟩, ⟨g1, .cells (av 4 (ls [.bool false, .int .u64 0, .int .u64 0, .int .u16 0])) 28⟩, ⟨g2, .cells (av 4 (ls [.bool false, .int .u64 0, .int .u64 0, .int .u16 0])) 28⟩] u2 := M
  refine pl_nil ?_
  refine au_then ?_
  refine wp_seq ?_
  refine wp_seq ?_
  refine rg_lit ?_
  refine pl_val (want_no rfl) (some 4) rfl (.pointer (some ⟨gr, 0, none⟩)) (fun _ => by kernel_rfl) ?_
  refine pl_val (want_no rfl) (some 5) rfl (.pointer (some ⟨gr, 0, none⟩)) (fun _ => by kernel_rfl) ?_
  refine pl_val (want_no rfl) (some 6) rfl (.pointer (some ⟨gr, 2, none⟩)) (fun _ => by kernel_rfl) ?_
  refine pl_cell M (want_no rfl) (some 7) rfl 71 _ rfl gr 2 (by kernel_rfl) (.pointer (some ⟨g, 0, none⟩)) (fun _ => by kernel_rfl) (fun w M => M.cell 0 rfl (by decide) rfl) ?_
  refine pl_callp M (want_no rfl) (some 8) rfl 50 #[.pointer (some ⟨g, 0, none⟩)] (.int .u8 (xE r_)) 1 g (.cells (av 3 (ls [.bool true, .string r_.s, .int .i64 r_.f])) 112) (.cells (av 3 (ls [.bool true, .string (tkS r_.s r_.f 1), .int .i64 (tkF r_.s r_.f 1)])) 112) rfl (fun _ => by kernel_rfl) (fun w M => r_U8 g r_.s r_.f w M.laid (M.get 1 rfl)) ?_
  intro u3 M
  replace M : Mem ⟨w, [gr, g]⟩ [⟨gr, .cells (av 4 (ls [.int .u8 kd, .int .u16 h, .pointer (some ⟨g, 0, none⟩), .int .i64 r_.e])) 73⟩, ⟨g, .cells (av 3 (ls [.bool true, .string (tkS r_.s r_.f 1), .int .i64 (tkF r_.s r_.f 1)])) 112⟩, ⟨g1, .cells (av 4 (ls [.bool false, .int .u64 0, .int .u64 0, .int .u16 0])) 28⟩, ⟨g2, .cells (av 4 (ls [.bool false, .int .u64 0, .int .u64 0, .int .u16 0])) 28⟩] u3 := M
  refine pl_nil ?_
  refine au_then ?_
  refine wp_block ?_
  refine wp_seq ?_
  refine rg_lit ?_
  by_cases c0 : (xE r_) = 4
  · skip
    refine pl_val (want_no rfl) (some 12) rfl (.bool true) (fun w => Eq.trans (b := .ok (.value (.bool (decide ((xE r_) = 4)))) w) (by kernel_rfl) (by rw [decide_eq_true (c0)])) ?_
    refine pl_val (want_no rfl) (some 11) rfl (.bool true) (fun _ => by kernel_rfl) ?_
    refine pl_nil ?_
    refine au_then ?_
    refine wp_cond_true (by kernel_rfl) ?_
    refine rg_lit ?_
    refine pl_val (want_no rfl) (some 13) rfl (.pointer (some ⟨gr, 0, none⟩)) (fun _ => by kernel_rfl) ?_
    refine pl_val (want_no rfl) (some 14) rfl (.pointer (some ⟨gr, 0, none⟩)) (fun _ => by kernel_rfl) ?_
    refine pl_val (want_no rfl) (some 15) rfl (.pointer (some ⟨gr, 2, none⟩)) (fun _ => by kernel_rfl) ?_
    refine pl_cell M (want_no rfl) (some 16) rfl 71 _ rfl gr 2 (by kernel_rfl) (.pointer (some ⟨g, 0, none⟩)) (fun _ => by kernel_rfl) (fun w M => M.cell 0 rfl (by decide) rfl) ?_
    refine pl_callp M (want_no rfl) (some 17) rfl 52 #[.pointer (some ⟨g, 0, none⟩)] (.int .u32 (cv .u32 (bnv (tkV (tkS r_.s r_.f 1) (tkF r_.s r_.f 1) 4)))) 1 g (.cells (av 3 (ls [.bool true, .string (tkS r_.s r_.f 1), .int .i64 (tkF r_.s r_.f 1)])) 112) (.cells (av 3 (ls [.bool true, .string (tkS (tkS r_.s r_.f 1) (tkF r_.s r_.f 1) 4), .int .i64 (tkF (tkS r_.s r_.f 1) (tkF r_.s r_.f 1) 4)])) 112) rfl (fun _ => by kernel_rfl) (fun w M => r_U32 g (tkS r_.s r_.f 1) (tkF r_.s r_.f 1) w M.laid (M.get 1 rfl)) ?_
    intro u4 M
    replace M : Mem ⟨w, [gr, g]⟩ [⟨gr, .cells (av 4 (ls [.int .u8 kd, .int .u16 h, .pointer (some ⟨g, 0, none⟩), .int .i64 r_.e])) 73⟩, ⟨g, .cells (av 3 (ls [.bool true, .string (tkS (tkS r_.s r_.f 1) (tkF r_.s r_.f 1) 4), .int .i64 (tkF (tkS r_.s r_.f 1) (tkF r_.s r_.f 1) 4)])) 112⟩, ⟨g1, .cells (av 4 (ls [.bool false, .int .u64 0, .int .u64 0, .int .u16 0])) 28⟩, ⟨g2, .cells (av 4 (ls [.bool false, .int .u64 0, .int .u64 0, .int .u16 0])) 28⟩] u4 := M
    refine pl_val (want_no rfl) (some 18) rfl (.int .u64 (cv .u64 (cv .u32 (bnv (tkV (tkS r_.s r_.f 1) (tkF r_.s r_.f 1) 4))))) (fun _ => by kernel_rfl) ?_
    refine pl_val (want_no rfl) (some 19) rfl (.pointer (some ⟨g2, 0, none⟩)) (fun _ => by kernel_rfl) ?_
    refine pl_val (want_no rfl) (some 20) rfl (.pointer (some ⟨g2, 2, none⟩)) (fun _ => by kernel_rfl) ?_
    refine pl_put1 M (want_no rfl) rfl 23 _ _ rfl 3 g2 2 (by kernel_rfl) 4 28 (ls [.bool false, .int .u64 0, .int .u64 0, .int .u16 0]) rfl (.int .u64 (cv .u64 (cv .u32 (bnv (tkV (tkS r_.s r_.f 1) (tkF r_.s r_.f 1) 4))))) (ls [.bool false, .int .u64 0, .int .u64 (cv .u64 (cv .u32 (bnv (tkV (tkS r_.s r_.f 1) (tkF r_.s r_.f 1) 4)))), .int .u16 0]) (by kernel_rfl) inz23 (by decide) rfl rfl (put_ls _ 2 _ _ rfl) ?_
    intro u5 M
    replace M : Mem ⟨w, [gr, g]⟩ [⟨gr, .cells (av 4 (ls [.int .u8 kd, .int .u16 h, .pointer (some ⟨g, 0, none⟩), .int .i64 r_.e])) 73⟩, ⟨g, .cells (av 3 (ls [.bool true, .string (tkS (tkS r_.s r_.f 1) (tkF r_.s r_.f 1) 4), .int .i64 (tkF (tkS r_.s r_.f 1) (tkF r_.s r_.f 1) 4)])) 112⟩, ⟨g1, .cells (av 4 (ls [.bool false, .int .u64 0, .int .u64 0, .int .u16 0])) 28⟩, ⟨g2, .cells (av 4 (ls [.bool false, .int .u64 0, .int .u64 (cv .u64 (cv .u32 (bnv (tkV (tkS r_.s r_.f 1) (tkF r_.s r_.f 1) 4)))), .int .u16 0])) 28⟩] u5 := M
    refine pl_nil ?_
    refine au_block ?_
    refine au_then ?_
    refine wp_seq ?_
    refine rg_lit ?_
    refine pl_val (want_no rfl) (some 39) rfl (.pointer (some ⟨gr, 0, none⟩)) (fun _ => by kernel_rfl) ?_
    refine pl_val (want_no rfl) (some 40) rfl (.pointer (some ⟨gr, 0, none⟩)) (fun _ => by kernel_rfl) ?_
    refine pl_val (want_no rfl) (some 41) rfl (.pointer (some ⟨gr, 2, none⟩)) (fun _ => by kernel_rfl) ?_
    refine pl_cell M (want_no rfl) (some 42) rfl 71 _ rfl gr 2 (by kernel_rfl) (.pointer (some ⟨g, 0, none⟩)) (fun _ => by kernel_rfl) (fun w M => M.cell 0 rfl (by decide) rfl) ?_
    refine pl_callp M (want_no rfl) (some 43) rfl 54 #[.pointer (some ⟨g, 0, none⟩)] (.int .u16 (cv .u16 (bnv (tkV (tkS (tkS r_.s r_.f 1) (tkF r_.s r_.f 1) 4) (tkF (tkS r_.s r_.f 1) (tkF r_.s r_.f 1) 4) 2)))) 1 g (.cells (av 3 (ls [.bool true, .string (tkS (tkS r_.s r_.f 1) (tkF r_.s r_.f 1) 4), .int .i64 (tkF (tkS r_.s r_.f 1) (tkF r_.s r_.f 1) 4)])) 112) (.cells (av 3 (ls [.bool true, .string (tkS (tkS (tkS r_.s r_.f 1) (tkF r_.s r_.f 1) 4) (tkF (tkS r_.s r_.f 1) (tkF r_.s r_.f 1) 4) 2), .int .i64 (tkF (tkS (tkS r_.s r_.f 1) (tkF r_.s r_.f 1) 4) (tkF (tkS r_.s r_.f 1) (tkF r_.s r_.f 1) 4) 2)])) 112) rfl (fun _ => by kernel_rfl) (fun w M => r_U16 g (tkS (tkS r_.s r_.f 1) (tkF r_.s r_.f 1) 4) (tkF (tkS r_.s r_.f 1) (tkF r_.s r_.f 1) 4) w M.laid (M.get 1 rfl)) ?_
    intro u6 M
    replace M : Mem ⟨w, [gr, g]⟩ [⟨gr, .cells (av 4 (ls [.int .u8 kd, .int .u16 h, .pointer (some ⟨g, 0, none⟩), .int .i64 r_.e])) 73⟩, ⟨g, .cells (av 3 (ls [.bool true, .string (tkS (tkS (tkS r_.s r_.f 1) (tkF r_.s r_.f 1) 4) (tkF (tkS r_.s r_.f 1) (tkF r_.s r_.f 1) 4) 2), .int .i64 (tkF (tkS (tkS r_.s r_.f 1) (tkF r_.s r_.f 1) 4) (tkF (tkS r_.s r_.f 1) (tkF r_.s r_.f 1) 4) 2)])) 112⟩, ⟨g1, .cells (av 4 (ls [.bool false, .int .u64 0, .int .u64 0, .int .u16 0])) 28⟩, ⟨g2, .cells (av 4 (ls [.bool false, .int .u64 0, .int .u64 (cv .u64 (cv .u32 (bnv (tkV (tkS r_.s r_.f 1) (tkF r_.s r_.f 1) 4)))), .int .u16 0])) 28⟩] u6 := M
    refine pl_val (want_no rfl) (some 44) rfl (.pointer (some ⟨g2, 3, none⟩)) (fun _ => by kernel_rfl) ?_
    refine pl_put1 M (want_no rfl) rfl 26 _ _ rfl 3 g2 3 (by kernel_rfl) 4 28 (ls [.bool false, .int .u64 0, .int .u64 (cv .u64 (cv .u32 (bnv (tkV (tkS r_.s r_.f 1) (tkF r_.s r_.f 1) 4)))), .int .u16 0]) rfl (.int .u16 (cv .u16 (bnv (tkV (tkS (tkS r_.s r_.f 1) (tkF r_.s r_.f 1) 4) (tkF (tkS r_.s r_.f 1) (tkF r_.s r_.f 1) 4) 2)))) (ls [.bool false, .int .u64 0, .int .u64 (cv .u64 (cv .u32 (bnv (tkV (tkS r_.s r_.f 1) (tkF r_.s r_.f 1) 4)))), .int .u16 (cv .u16 (bnv (tkV (tkS (tkS r_.s r_.f 1) (tkF r_.s r_.f 1) 4) (tkF (tkS r_.s r_.f 1) (tkF r_.s r_.f 1) 4) 2)))]) (by kernel_rfl) inz26 (by decide) rfl rfl (put_ls _ 3 _ _ rfl) ?_
    intro u7 M
    replace M : Mem ⟨w, [gr, g]⟩ [⟨gr, .cells (av 4 (ls [.int .u8 kd, .int .u16 h, .pointer (some ⟨g, 0, none⟩), .int .i64 r_.e])) 73⟩, ⟨g, .cells (av 3 (ls [.bool true, .string (tkS (tkS (tkS r_.s r_.f 1) (tkF r_.s r_.f 1) 4) (tkF (tkS r_.s r_.f 1) (tkF r_.s r_.f 1) 4) 2), .int .i64 (tkF (tkS (tkS r_.s r_.f 1) (tkF r_.s r_.f 1) 4) (tkF (tkS r_.s r_.f 1) (tkF r_.s r_.f 1) 4) 2)])) 112⟩, ⟨g1, .cells (av 4 (ls [.bool false, .int .u64 0, .int .u64 0, .int .u16 0])) 28⟩, ⟨g2, .cells (av 4 (ls [.bool false, .int .u64 0, .int .u64 (cv .u64 (cv .u32 (bnv (tkV (tkS r_.s r_.f 1) (tkF r_.s r_.f 1) 4)))), .int .u16 (cv .u16 (bnv (tkV (tkS (tkS r_.s r_.f 1) (tkF r_.s r_.f 1) 4) (tkF (tkS r_.s r_.f 1) (tkF r_.s r_.f 1) 4) 2)))])) 28⟩] u7 := M
    refine pl_nil ?_
    refine au_then ?_
    refine wp_seq ?_
    refine rg_lit ?_
    refine pl_load M (want_no rfl) (some 45) rfl 28 _ rfl 3 g2 0 (by kernel_rfl) 4 28 (ls [.bool false, .int .u64 0, .int .u64 (cv .u64 (cv .u32 (bnv (tkV (tkS r_.s r_.f 1) (tkF r_.s r_.f 1) 4)))), .int .u16 (cv .u16 (bnv (tkV (tkS (tkS r_.s r_.f 1) (tkF r_.s r_.f 1) 4) (tkF (tkS r_.s r_.f 1) (tkF r_.s r_.f 1) 4) 2)))]) rfl 4 (ls [.bool false, .int .u64 0, .int .u64 (cv .u64 (cv .u32 (bnv (tkV (tkS r_.s r_.f 1) (tkF r_.s r_.f 1) 4)))), .int .u16 (cv .u16 (bnv (tkV (tkS (tkS r_.s r_.f 1) (tkF r_.s r_.f 1) 4) (tkF (tkS r_.s r_.f 1) (tkF r_.s r_.f 1) 4) 2)))]) (fun j _ => by rw [Nat.zero_add]) (by decide) _ Try.underlying28 rfl inz28 ?_
    refine pl_put M (want_no rfl) rfl 28 _ _ rfl 2 g1 0 (by kernel_rfl) 4 28 (ls [.bool false, .int .u64 0, .int .u64 0, .int .u16 0]) rfl 4 (ls [.bool false, .int .u64 0, .int .u64 (cv .u64 (cv .u32 (bnv (tkV (tkS r_.s r_.f 1) (tkF r_.s r_.f 1) 4)))), .int .u16 (cv .u16 (bnv (tkV (tkS (tkS r_.s r_.f 1) (tkF r_.s r_.f 1) 4) (tkF (tkS r_.s r_.f 1) (tkF r_.s r_.f 1) 4) 2)))]) (ls [.bool false, .int .u64 0, .int .u64 (cv .u64 (cv .u32 (bnv (tkV (tkS r_.s r_.f 1) (tkF r_.s r_.f 1) 4)))), .int .u16 (cv .u16 (bnv (tkV (tkS (tkS r_.s r_.f 1) (tkF r_.s r_.f 1) 4) (tkF (tkS r_.s r_.f 1) (tkF r_.s r_.f 1) 4) 2)))]) (by kernel_rfl) inz28 (by decide) (one_ls _ rfl) (fun j hj => by rw [if_pos (by omega), Nat.sub_zero]) ?_
    intro u8 M
    replace M : Mem ⟨w, [gr, g]⟩ [⟨gr, .cells (av 4 (ls [.int .u8 kd, .int .u16 h, .pointer (some ⟨g, 0, none⟩), .int .i64 r_.e])) 73⟩, ⟨g, .cells (av 3 (ls [.bool true, .string (tkS (tkS (tkS r_.s r_.f 1) (tkF r_.s r_.f 1) 4) (tkF (tkS r_.s r_.f 1) (tkF r_.s r_.f 1) 4) 2), .int .i64 (tkF (tkS (tkS r_.s r_.f 1) (tkF r_.s r_.f 1) 4) (tkF (tkS r_.s r_.f 1) (tkF r_.s r_.f 1) 4) 2)])) 112⟩, ⟨g1, .cells (av 4 (ls [.bool false, .int .u64 0, .int .u64 (cv .u64 (cv .u32 (bnv (tkV (tkS r_.s r_.f 1) (tkF r_.s r_.f 1) 4)))), .int .u16 (cv .u16 (bnv (tkV (tkS (tkS r_.s r_.f 1) (tkF r_.s r_.f 1) 4) (tkF (tkS r_.s r_.f 1) (tkF r_.s r_.f 1) 4) 2)))])) 28⟩, ⟨g2, .cells (av 4 (ls [.bool false, .int .u64 0, .int .u64 (cv .u64 (cv .u32 (bnv (tkV (tkS r_.s r_.f 1) (tkF r_.s r_.f 1) 4)))), .int .u16 (cv .u16 (bnv (tkV (tkS (tkS r_.s r_.f 1) (tkF r_.s r_.f 1) 4) (tkF (tkS r_.s r_.f 1) (tkF r_.s r_.f 1) 4) 2)))])) 28⟩] u8 := M
    refine pl_nil ?_
    refine au_then ?_
    refine wp_ret ?_
    have e0 : reV r_ = false := by simp only [reS, reM, reV, reH, reL, reP, tkR, rfR_s, rfR_f, if_pos c0]
    have e1 : (reH r_) = 0 := by simp only [reS, reM, reV, reH, reL, reP, tkR, rfR_s, rfR_f, if_pos c0]
    have e2 : (reL r_) = (cv .u64 (cv .u32 (bnv (tkV (tkS r_.s r_.f 1) (tkF r_.s r_.f 1) 4)))) := by simp only [reS, reM, reV, reH, reL, reP, tkR, rfR_s, rfR_f, if_pos c0]
    have e3 : (reP r_) = (cv .u16 (bnv (tkV (tkS (tkS r_.s r_.f 1) (tkF r_.s r_.f 1) 4) (tkF (tkS r_.s r_.f 1) (tkF r_.s r_.f 1) 4) 2))) := by simp only [reS, reM, reV, reH, reL, reP, tkR, rfR_s, rfR_f, if_pos c0]
    have e4 : (reS r_).e = r_.e := by simp only [reS, reM, reV, reH, reL, reP, tkR, rfR_s, rfR_f, if_pos c0]
    have e5 : (reS r_).s = (tkS (tkS (tkS r_.s r_.f 1) (tkF r_.s r_.f 1) 4) (tkF (tkS r_.s r_.f 1) (tkF r_.s r_.f 1) 4) 2) := by simp only [reS, reM, reV, reH, reL, reP, tkR, rfR_s, rfR_f, if_pos c0]
    have e6 : (reS r_).f = (tkF (tkS (tkS r_.s r_.f 1) (tkF r_.s r_.f 1) 4) (tkF (tkS r_.s r_.f 1) (tkF r_.s r_.f 1) 4) 2) := by simp only [reS, reM, reV, reH, reL, reP, tkR, rfR_s, rfR_f, if_pos c0]
    exact bodyPost_ret (v := .agg (av 4 (ls [.bool false, .int .u64 0, .int .u64 (cv .u64 (cv .u32 (bnv (tkV (tkS r_.s r_.f 1) (tkF r_.s r_.f 1) 4)))), .int .u16 (cv .u16 (bnv (tkV (tkS (tkS r_.s r_.f 1) (tkF r_.s r_.f 1) 4) (tkF (tkS r_.s r_.f 1) (tkF r_.s r_.f 1) 4) 2)))]))) (results_cell_row Try.results55 _ _ g1 28 (av 4 (ls [.bool false, .int .u64 0, .int .u64 (cv .u64 (cv .u32 (bnv (tkV (tkS r_.s r_.f 1) (tkF r_.s r_.f 1) 4)))), .int .u16 (cv .u16 (bnv (tkV (tkS (tkS r_.s r_.f 1) (tkF r_.s r_.f 1) 4) (tkF (tkS r_.s r_.f 1) (tkF r_.s r_.f 1) 4) 2)))])) (0, 0) _ (by kernel_rfl) (M.get 2 rfl) Try.underlying28 rfl (by rw [av_size]; exact inz28)) (by kernel_rfl) ⟨by rw [e0, e1, e2, e3], M.old, by simpa only [e0, e1, e2, e3, e4, e5, e6] using M.get 0 rfl, by simpa only [e0, e1, e2, e3, e4, e5, e6] using M.get 1 rfl⟩
  · skip
    refine pl_val (want_no rfl) (some 12) rfl (.bool false) (fun w => Eq.trans (b := .ok (.value (.bool (decide ((xE r_) = 4)))) w) (by kernel_rfl) (by rw [decide_eq_false (c0)])) ?_
    refine pl_val (want_no rfl) (some 11) rfl (.bool false) (fun _ => by kernel_rfl) ?_
    refine pl_nil ?_
    refine au_then ?_
    refine wp_cond_false (by kernel_rfl) ?_
    refine wp_seq ?_
    refine rg_lit ?_
    by_cases c1 : (xE r_) = 6
    · skip
      refine pl_val (want_no rfl) (some 22) rfl (.bool true) (fun w => Eq.trans (b := .ok (.value (.bool (decide ((xE r_) = 6)))) w) (by kernel_rfl) (by rw [decide_eq_true (c1)])) ?_
      refine pl_val (want_no rfl) (some 21) rfl (.bool true) (fun _ => by kernel_rfl) ?_
      refine pl_nil ?_
      refine au_then ?_
      refine wp_cond_true (by kernel_rfl) ?_
      refine wp_seq ?_
      refine rg_lit ?_
      refine pl_val (want_no rfl) (some 23) rfl (.pointer (some ⟨g2, 0, none⟩)) (fun _ => by kernel_rfl) ?_
      refine pl_val (want_no rfl) (some 24) rfl (.pointer (some ⟨g2, 0, none⟩)) (fun _ => by kernel_rfl) ?_
      refine pl_put1 M (want_no rfl) rfl 4 _ _ rfl 3 g2 0 (by kernel_rfl) 4 28 (ls [.bool false, .int .u64 0, .int .u64 0, .int .u16 0]) rfl (.bool true) (ls [.bool true, .int .u64 0, .int .u64 0, .int .u16 0]) (by kernel_rfl) inz4 (by decide) rfl rfl (put_ls _ 0 _ _ rfl) ?_
      intro u4 M
      replace M : Mem ⟨w, [gr, g]⟩ [⟨gr, .cells (av 4 (ls [.int .u8 kd, .int .u16 h, .pointer (some ⟨g, 0, none⟩), .int .i64 r_.e])) 73⟩, ⟨g, .cells (av 3 (ls [.bool true, .string (tkS r_.s r_.f 1), .int .i64 (tkF r_.s r_.f 1)])) 112⟩, ⟨g1, .cells (av 4 (ls [.bool false, .int .u64 0, .int .u64 0, .int .u16 0])) 28⟩, ⟨g2, .cells (av 4 (ls [.bool true, .int .u64 0, .int .u64 0, .int .u16 0])) 28⟩] u4 := M
      refine pl_nil ?_
      refine au_then ?_
      refine wp_seq ?_
      refine rg_lit ?_
      refine pl_val (want_no rfl) (some 25) rfl (.pointer (some ⟨gr, 0, none⟩)) (fun _ => by kernel_rfl) ?_
      refine pl_val (want_no rfl) (some 26) rfl (.pointer (some ⟨gr, 0, none⟩)) (fun _ => by kernel_rfl) ?_
      refine pl_val (want_no rfl) (some 27) rfl (.pointer (some ⟨gr, 2, none⟩)) (fun _ => by kernel_rfl) ?_
      refine pl_cell M (want_no rfl) (some 28) rfl 71 _ rfl gr 2 (by kernel_rfl) (.pointer (some ⟨g, 0, none⟩)) (fun _ => by kernel_rfl) (fun w M => M.cell 0 rfl (by decide) rfl) ?_
      refine pl_callp M (want_no rfl) (some 29) rfl 53 #[.pointer (some ⟨g, 0, none⟩)] (.int .u64 (bnv (tkV (tkS r_.s r_.f 1) (tkF r_.s r_.f 1) 8))) 1 g (.cells (av 3 (ls [.bool true, .string (tkS r_.s r_.f 1), .int .i64 (tkF r_.s r_.f 1)])) 112) (.cells (av 3 (ls [.bool true, .string (tkS (tkS r_.s r_.f 1) (tkF r_.s r_.f 1) 8), .int .i64 (tkF (tkS r_.s r_.f 1) (tkF r_.s r_.f 1) 8)])) 112) rfl (fun _ => by kernel_rfl) (fun w M => r_U64 g (tkS r_.s r_.f 1) (tkF r_.s r_.f 1) w M.laid (M.get 1 rfl)) ?_
      intro u5 M
      replace M : Mem ⟨w, [gr, g]⟩ [⟨gr, .cells (av 4 (ls [.int .u8 kd, .int .u16 h, .pointer (some ⟨g, 0, none⟩), .int .i64 r_.e])) 73⟩, ⟨g, .cells (av 3 (ls [.bool true, .string (tkS (tkS r_.s r_.f 1) (tkF r_.s r_.f 1) 8), .int .i64 (tkF (tkS r_.s r_.f 1) (tkF r_.s r_.f 1) 8)])) 112⟩, ⟨g1, .cells (av 4 (ls [.bool false, .int .u64 0, .int .u64 0, .int .u16 0])) 28⟩, ⟨g2, .cells (av 4 (ls [.bool true, .int .u64 0, .int .u64 0, .int .u16 0])) 28⟩] u5 := M
      refine pl_val (want_no rfl) (some 30) rfl (.pointer (some ⟨g2, 0, none⟩)) (fun _ => by kernel_rfl) ?_
      refine pl_val (want_no rfl) (some 31) rfl (.pointer (some ⟨g2, 1, none⟩)) (fun _ => by kernel_rfl) ?_
      refine pl_put1 M (want_no rfl) rfl 23 _ _ rfl 3 g2 1 (by kernel_rfl) 4 28 (ls [.bool true, .int .u64 0, .int .u64 0, .int .u16 0]) rfl (.int .u64 (bnv (tkV (tkS r_.s r_.f 1) (tkF r_.s r_.f 1) 8))) (ls [.bool true, .int .u64 (bnv (tkV (tkS r_.s r_.f 1) (tkF r_.s r_.f 1) 8)), .int .u64 0, .int .u16 0]) (by kernel_rfl) inz23 (by decide) rfl rfl (put_ls _ 1 _ _ rfl) ?_
      intro u6 M
      replace M : Mem ⟨w, [gr, g]⟩ [⟨gr, .cells (av 4 (ls [.int .u8 kd, .int .u16 h, .pointer (some ⟨g, 0, none⟩), .int .i64 r_.e])) 73⟩, ⟨g, .cells (av 3 (ls [.bool true, .string (tkS (tkS r_.s r_.f 1) (tkF r_.s r_.f 1) 8), .int .i64 (tkF (tkS r_.s r_.f 1) (tkF r_.s r_.f 1) 8)])) 112⟩, ⟨g1, .cells (av 4 (ls [.bool false, .int .u64 0, .int .u64 0, .int .u16 0])) 28⟩, ⟨g2, .cells (av 4 (ls [.bool true, .int .u64 (bnv (tkV (tkS r_.s r_.f 1) (tkF r_.s r_.f 1) 8)), .int .u64 0, .int .u16 0])) 28⟩] u6 := M
      refine pl_nil ?_
      refine au_then ?_
      refine rg_lit ?_
      refine pl_val (want_no rfl) (some 32) rfl (.pointer (some ⟨gr, 0, none⟩)) (fun _ => by kernel_rfl) ?_
      refine pl_val (want_no rfl) (some 33) rfl (.pointer (some ⟨gr, 0, none⟩)) (fun _ => by kernel_rfl) ?_
      refine pl_val (want_no rfl) (some 34) rfl (.pointer (some ⟨gr, 2, none⟩)) (fun _ => by kernel_rfl) ?_
      refine pl_cell M (want_no rfl) (some 35) rfl 71 _ rfl gr 2 (by kernel_rfl) (.pointer (some ⟨g, 0, none⟩)) (fun _ => by kernel_rfl) (fun w M => M.cell 0 rfl (by decide) rfl) ?_
      refine pl_callp M (want_no rfl) (some 36) rfl 53 #[.pointer (some ⟨g, 0, none⟩)] (.int .u64 (bnv (tkV (tkS (tkS r_.s r_.f 1) (tkF r_.s r_.f 1) 8) (tkF (tkS r_.s r_.f 1) (tkF r_.s r_.f 1) 8) 8))) 1 g (.cells (av 3 (ls [.bool true, .string (tkS (tkS r_.s r_.f 1) (tkF r_.s r_.f 1) 8), .int .i64 (tkF (tkS r_.s r_.f 1) (tkF r_.s r_.f 1) 8)])) 112) (.cells (av 3 (ls [.bool true, .string (tkS (tkS (tkS r_.s r_.f 1) (tkF r_.s r_.f 1) 8) (tkF (tkS r_.s r_.f 1) (tkF r_.s r_.f 1) 8) 8), .int .i64 (tkF (tkS (tkS r_.s r_.f 1) (tkF r_.s r_.f 1) 8) (tkF (tkS r_.s r_.f 1) (tkF r_.s r_.f 1) 8) 8)])) 112) rfl (fun _ => by kernel_rfl) (fun w M => r_U64 g (tkS (tkS r_.s r_.f 1) (tkF r_.s r_.f 1) 8) (tkF (tkS r_.s r_.f 1) (tkF r_.s r_.f 1) 8) w M.laid (M.get 1 rfl)) ?_
      intro u7 M
      replace M : Mem ⟨w, [gr, g]⟩ [⟨gr, .cells (av 4 (ls [.int .u8 kd, .int .u16 h, .pointer (some ⟨g, 0, none⟩), .int .i64 r_.e])) 73⟩, ⟨g, .cells (av 3 (ls [.bool true, .string (tkS (tkS (tkS r_.s r_.f 1) (tkF r_.s r_.f 1) 8) (tkF (tkS r_.s r_.f 1) (tkF r_.s r_.f 1) 8) 8), .int .i64 (tkF (tkS (tkS r_.s r_.f 1) (tkF r_.s r_.f 1) 8) (tkF (tkS r_.s r_.f 1) (tkF r_.s r_.f 1) 8) 8)])) 112⟩, ⟨g1, .cells (av 4 (ls [.bool false, .int .u64 0, .int .u64 0, .int .u16 0])) 28⟩, ⟨g2, .cells (av 4 (ls [.bool true, .int .u64 (bnv (tkV (tkS r_.s r_.f 1) (tkF r_.s r_.f 1) 8)), .int .u64 0, .int .u16 0])) 28⟩] u7 := M
      refine pl_val (want_no rfl) (some 37) rfl (.pointer (some ⟨g2, 0, none⟩)) (fun _ => by kernel_rfl) ?_
      refine pl_val (want_no rfl) (some 38) rfl (.pointer (some ⟨g2, 2, none⟩)) (fun _ => by kernel_rfl) ?_
      refine pl_put1 M (want_no rfl) rfl 23 _ _ rfl 3 g2 2 (by kernel_rfl) 4 28 (ls [.bool true, .int .u64 (bnv (tkV (tkS r_.s r_.f 1) (tkF r_.s r_.f 1) 8)), .int .u64 0, .int .u16 0]) rfl (.int .u64 (bnv (tkV (tkS (tkS r_.s r_.f 1) (tkF r_.s r_.f 1) 8) (tkF (tkS r_.s r_.f 1) (tkF r_.s r_.f 1) 8) 8))) (ls [.bool true, .int .u64 (bnv (tkV (tkS r_.s r_.f 1) (tkF r_.s r_.f 1) 8)), .int .u64 (bnv (tkV (tkS (tkS r_.s r_.f 1) (tkF r_.s r_.f 1) 8) (tkF (tkS r_.s r_.f 1) (tkF r_.s r_.f 1) 8) 8)), .int .u16 0]) (by kernel_rfl) inz23 (by decide) rfl rfl (put_ls _ 2 _ _ rfl) ?_
      intro u8 M
      replace M : Mem ⟨w, [gr, g]⟩ [⟨gr, .cells (av 4 (ls [.int .u8 kd, .int .u16 h, .pointer (some ⟨g, 0, none⟩), .int .i64 r_.e])) 73⟩, ⟨g, .cells (av 3 (ls [.bool true, .string (tkS (tkS (tkS r_.s r_.f 1) (tkF r_.s r_.f 1) 8) (tkF (tkS r_.s r_.f 1) (tkF r_.s r_.f 1) 8) 8), .int .i64 (tkF (tkS (tkS r_.s r_.f 1) (tkF r_.s r_.f 1) 8) (tkF (tkS r_.s r_.f 1) (tkF r_.s r_.f 1) 8) 8)])) 112⟩, ⟨g1, .cells (av 4 (ls [.bool false, .int .u64 0, .int .u64 0, .int .u16 0])) 28⟩, ⟨g2, .cells (av 4 (ls [.bool true, .int .u64 (bnv (tkV (tkS r_.s r_.f 1) (tkF r_.s r_.f 1) 8)), .int .u64 (bnv (tkV (tkS (tkS r_.s r_.f 1) (tkF r_.s r_.f 1) 8) (tkF (tkS r_.s r_.f 1) (tkF r_.s r_.f 1) 8) 8)), .int .u16 0])) 28⟩] u8 := M
      refine pl_nil ?_
      refine au_block ?_
      refine au_then ?_
      refine wp_seq ?_
      refine rg_lit ?_
      refine pl_val (want_no rfl) (some 39) rfl (.pointer (some ⟨gr, 0, none⟩)) (fun _ => by kernel_rfl) ?_
      refine pl_val (want_no rfl) (some 40) rfl (.pointer (some ⟨gr, 0, none⟩)) (fun _ => by kernel_rfl) ?_
      refine pl_val (want_no rfl) (some 41) rfl (.pointer (some ⟨gr, 2, none⟩)) (fun _ => by kernel_rfl) ?_
      refine pl_cell M (want_no rfl) (some 42) rfl 71 _ rfl gr 2 (by kernel_rfl) (.pointer (some ⟨g, 0, none⟩)) (fun _ => by kernel_rfl) (fun w M => M.cell 0 rfl (by decide) rfl) ?_
      refine pl_callp M (want_no rfl) (some 43) rfl 54 #[.pointer (some ⟨g, 0, none⟩)] (.int .u16 (cv .u16 (bnv (tkV (tkS (tkS (tkS r_.s r_.f 1) (tkF r_.s r_.f 1) 8) (tkF (tkS r_.s r_.f 1) (tkF r_.s r_.f 1) 8) 8) (tkF (tkS (tkS r_.s r_.f 1) (tkF r_.s r_.f 1) 8) (tkF (tkS r_.s r_.f 1) (tkF r_.s r_.f 1) 8) 8) 2)))) 1 g (.cells (av 3 (ls [.bool true, .string (tkS (tkS (tkS r_.s r_.f 1) (tkF r_.s r_.f 1) 8) (tkF (tkS r_.s r_.f 1) (tkF r_.s r_.f 1) 8) 8), .int .i64 (tkF (tkS (tkS r_.s r_.f 1) (tkF r_.s r_.f 1) 8) (tkF (tkS r_.s r_.f 1) (tkF r_.s r_.f 1) 8) 8)])) 112) (.cells (av 3 (ls [.bool true, .string (tkS (tkS (tkS (tkS r_.s r_.f 1) (tkF r_.s r_.f 1) 8) (tkF (tkS r_.s r_.f 1) (tkF r_.s r_.f 1) 8) 8) (tkF (tkS (tkS r_.s r_.f 1) (tkF r_.s r_.f 1) 8) (tkF (tkS r_.s r_.f 1) (tkF r_.s r_.f 1) 8) 8) 2), .int .i64 (tkF (tkS (tkS (tkS r_.s r_.f 1) (tkF r_.s r_.f 1) 8) (tkF (tkS r_.s r_.f 1) (tkF r_.s r_.f 1) 8) 8) (tkF (tkS (tkS r_.s r_.f 1) (tkF r_.s r_.f 1) 8) (tkF (tkS r_.s r_.f 1) (tkF r_.s r_.f 1) 8) 8) 2)])) 112) rfl (fun _ => by kernel_rfl) (fun w M => r_U16 g (tkS (tkS (tkS r_.s r_.f 1) (tkF r_.s r_.f 1) 8) (tkF (tkS r_.s r_.f 1) (tkF r_.s r_.f 1) 8) 8) (tkF (tkS (tkS r_.s r_.f 1) (tkF r_.s r_.f 1) 8) (tkF (tkS r_.s r_.f 1) (tkF r_.s r_.f 1) 8) 8) w M.laid (M.get 1 rfl)) ?_
      intro u9 M
      replace M : Mem ⟨w, [gr, g]⟩ [⟨gr, .cells (av 4 (ls [.int .u8 kd, .int .u16 h, .pointer (some ⟨g, 0, none⟩), .int .i64 r_.e])) 73⟩, ⟨g, .cells (av 3 (ls [.bool true, .string (tkS (tkS (tkS (tkS r_.s r_.f 1) (tkF r_.s r_.f 1) 8) (tkF (tkS r_.s r_.f 1) (tkF r_.s r_.f 1) 8) 8) (tkF (tkS (tkS r_.s r_.f 1) (tkF r_.s r_.f 1) 8) (tkF (tkS r_.s r_.f 1) (tkF r_.s r_.f 1) 8) 8) 2), .int .i64 (tkF (tkS (tkS (tkS r_.s r_.f 1) (tkF r_.s r_.f 1) 8) (tkF (tkS r_.s r_.f 1) (tkF r_.s r_.f 1) 8) 8) (tkF (tkS (tkS r_.s r_.f 1) (tkF r_.s r_.f 1) 8) (tkF (tkS r_.s r_.f 1) (tkF r_.s r_.f 1) 8) 8) 2)])) 112⟩, ⟨g1, .cells (av 4 (ls [.bool false, .int .u64 0, .int .u64 0, .int .u16 0])) 28⟩, ⟨g2, .cells (av 4 (ls [.bool true, .int .u64 (bnv (tkV (tkS r_.s r_.f 1) (tkF r_.s r_.f 1) 8)), .int .u64 (bnv (tkV (tkS (tkS r_.s r_.f 1) (tkF r_.s r_.f 1) 8) (tkF (tkS r_.s r_.f 1) (tkF r_.s r_.f 1) 8) 8)), .int .u16 0])) 28⟩] u9 := M
      refine pl_val (want_no rfl) (some 44) rfl (.pointer (some ⟨g2, 3, none⟩)) (fun _ => by kernel_rfl) ?_
      refine pl_put1 M (want_no rfl) rfl 26 _ _ rfl 3 g2 3 (by kernel_rfl) 4 28 (ls [.bool true, .int .u64 (bnv (tkV (tkS r_.s r_.f 1) (tkF r_.s r_.f 1) 8)), .int .u64 (bnv (tkV (tkS (tkS r_.s r_.f 1) (tkF r_.s r_.f 1) 8) (tkF (tkS r_.s r_.f 1) (tkF r_.s r_.f 1) 8) 8)), .int .u16 0]) rfl (.int .u16 (cv .u16 (bnv (tkV (tkS (tkS (tkS r_.s r_.f 1) (tkF r_.s r_.f 1) 8) (tkF (tkS r_.s r_.f 1) (tkF r_.s r_.f 1) 8) 8) (tkF (tkS (tkS r_.s r_.f 1) (tkF r_.s r_.f 1) 8) (tkF (tkS r_.s r_.f 1) (tkF r_.s r_.f 1) 8) 8) 2)))) (ls [.bool true, .int .u64 (bnv (tkV (tkS r_.s r_.f 1) (tkF r_.s r_.f 1) 8)), .int .u64 (bnv (tkV (tkS (tkS r_.s r_.f 1) (tkF r_.s r_.f 1) 8) (tkF (tkS r_.s r_.f 1) (tkF r_.s r_.f 1) 8) 8)), .int .u16 (cv .u16 (bnv (tkV (tkS (tkS (tkS r_.s r_.f 1) (tkF r_.s r_.f 1) 8) (tkF (tkS r_.s r_.f 1) (tkF r_.s r_.f 1) 8) 8) (tkF (tkS (tkS r_.s r_.f 1) (tkF r_.s r_.f 1) 8) (tkF (tkS r_.s r_.f 1) (tkF r_.s r_.f 1) 8) 8) 2)))]) (by kernel_rfl) inz26 (by decide) rfl rfl (put_ls _ 3 _ _ rfl) ?_
      intro u10 M
      replace M : Mem ⟨w, [gr, g]⟩ [⟨gr, .cells (av 4 (ls [.int .u8 kd, .int .u16 h, .pointer (some ⟨g, 0, none⟩), .int .i64 r_.e])) 73⟩, ⟨g, .cells (av 3 (ls [.bool true, .string (tkS (tkS (tkS (tkS r_.s r_.f 1) (tkF r_.s r_.f 1) 8) (tkF (tkS r_.s r_.f 1) (tkF r_.s r_.f 1) 8) 8) (tkF (tkS (tkS r_.s r_.f 1) (tkF r_.s r_.f 1) 8) (tkF (tkS r_.s r_.f 1) (tkF r_.s r_.f 1) 8) 8) 2), .int .i64 (tkF (tkS (tkS (tkS r_.s r_.f 1) (tkF r_.s r_.f 1) 8) (tkF (tkS r_.s r_.f 1) (tkF r_.s r_.f 1) 8) 8) (tkF (tkS (tkS r_.s r_.f 1) (tkF r_.s r_.f 1) 8) (tkF (tkS r_.s r_.f 1) (tkF r_.s r_.f 1) 8) 8) 2)])) 112⟩, ⟨g1, .cells (av 4 (ls [.bool false, .int .u64 0, .int .u64 0, .int .u16 0])) 28⟩, ⟨g2, .cells (av 4 (ls [.bool true, .int .u64 (bnv (tkV (tkS r_.s r_.f 1) (tkF r_.s r_.f 1) 8)), .int .u64 (bnv (tkV (tkS (tkS r_.s r_.f 1) (tkF r_.s r_.f 1) 8) (tkF (tkS r_.s r_.f 1) (tkF r_.s r_.f 1) 8) 8)), .int .u16 (cv .u16 (bnv (tkV (tkS (tkS (tkS r_.s r_.f 1) (tkF r_.s r_.f 1) 8) (tkF (tkS r_.s r_.f 1) (tkF r_.s r_.f 1) 8) 8) (tkF (tkS (tkS r_.s r_.f 1) (tkF r_.s r_.f 1) 8) (tkF (tkS r_.s r_.f 1) (tkF r_.s r_.f 1) 8) 8) 2)))])) 28⟩] u10 := M
      refine pl_nil ?_
      refine au_then ?_
      refine wp_seq ?_
      refine rg_lit ?_
      refine pl_load M (want_no rfl) (some 45) rfl 28 _ rfl 3 g2 0 (by kernel_rfl) 4 28 (ls [.bool true, .int .u64 (bnv (tkV (tkS r_.s r_.f 1) (tkF r_.s r_.f 1) 8)), .int .u64 (bnv (tkV (tkS (tkS r_.s r_.f 1) (tkF r_.s r_.f 1) 8) (tkF (tkS r_.s r_.f 1) (tkF r_.s r_.f 1) 8) 8)), .int .u16 (cv .u16 (bnv (tkV (tkS (tkS (tkS r_.s r_.f 1) (tkF r_.s r_.f 1) 8) (tkF (tkS r_.s r_.f 1) (tkF r_.s r_.f 1) 8) 8) (tkF (tkS (tkS r_.s r_.f 1) (tkF r_.s r_.f 1) 8) (tkF (tkS r_.s r_.f 1) (tkF r_.s r_.f 1) 8) 8) 2)))]) rfl 4 (ls [.bool true, .int .u64 (bnv (tkV (tkS r_.s r_.f 1) (tkF r_.s r_.f 1) 8)), .int .u64 (bnv (tkV (tkS (tkS r_.s r_.f 1) (tkF r_.s r_.f 1) 8) (tkF (tkS r_.s r_.f 1) (tkF r_.s r_.f 1) 8) 8)), .int .u16 (cv .u16 (bnv (tkV (tkS (tkS (tkS r_.s r_.f 1) (tkF r_.s r_.f 1) 8) (tkF (tkS r_.s r_.f 1) (tkF r_.s r_.f 1) 8) 8) (tkF (tkS (tkS r_.s r_.f 1) (tkF r_.s r_.f 1) 8) (tkF (tkS r_.s r_.f 1) (tkF r_.s r_.f 1) 8) 8) 2)))]) (fun j _ => by rw [Nat.zero_add]) (by decide) _ Try.underlying28 rfl inz28 ?_
      refine pl_put M (want_no rfl) rfl 28 _ _ rfl 2 g1 0 (by kernel_rfl) 4 28 (ls [.bool false, .int .u64 0, .int .u64 0, .int .u16 0]) rfl 4 (ls [.bool true, .int .u64 (bnv (tkV (tkS r_.s r_.f 1) (tkF r_.s r_.f 1) 8)), .int .u64 (bnv (tkV (tkS (tkS r_.s r_.f 1) (tkF r_.s r_.f 1) 8) (tkF (tkS r_.s r_.f 1) (tkF r_.s r_.f 1) 8) 8)), .int .u16 (cv .u16 (bnv (tkV (tkS (tkS (tkS r_.s r_.f 1) (tkF r_.s r_.f 1) 8) (tkF (tkS r_.s r_.f 1) (tkF r_.s r_.f 1) 8) 8) (tkF (tkS (tkS r_.s r_.f 1) (tkF r_.s r_.f 1) 8) (tkF (tkS r_.s r_.f 1) (tkF r_.s r_.f 1) 8) 8) 2)))]) (ls [.bool true, .int .u64 (bnv (tkV (tkS r_.s r_.f 1) (tkF r_.s r_.f 1) 8)), .int .u64 (bnv (tkV (tkS (tkS r_.s r_.f 1) (tkF r_.s r_.f 1) 8) (tkF (tkS r_.s r_.f 1) (tkF r_.s r_.f 1) 8) 8)), .int .u16 (cv .u16 (bnv (tkV (tkS (tkS (tkS r_.s r_.f 1) (tkF r_.s r_.f 1) 8) (tkF (tkS r_.s r_.f 1) (tkF r_.s r_.f 1) 8) 8) (tkF (tkS (tkS r_.s r_.f 1) (tkF r_.s r_.f 1) 8) (tkF (tkS r_.s r_.f 1) (tkF r_.s r_.f 1) 8) 8) 2)))]) (by kernel_rfl) inz28 (by decide) (one_ls _ rfl) (fun j hj => by rw [if_pos (by omega), Nat.sub_zero]) ?_
      intro u11 M
      replace M : Mem ⟨w, [gr, g]⟩ [⟨gr, .cells (av 4 (ls [.int .u8 kd, .int .u16 h, .pointer (some ⟨g, 0, none⟩), .int .i64 r_.e])) 73⟩, ⟨g, .cells (av 3 (ls [.bool true, .string (tkS (tkS (tkS (tkS r_.s r_.f 1) (tkF r_.s r_.f 1) 8) (tkF (tkS r_.s r_.f 1) (tkF r_.s r_.f 1) 8) 8) (tkF (tkS (tkS r_.s r_.f 1) (tkF r_.s r_.f 1) 8) (tkF (tkS r_.s r_.f 1) (tkF r_.s r_.f 1) 8) 8) 2), .int .i64 (tkF (tkS (tkS (tkS r_.s r_.f 1) (tkF r_.s r_.f 1) 8) (tkF (tkS r_.s r_.f 1) (tkF r_.s r_.f 1) 8) 8) (tkF (tkS (tkS r_.s r_.f 1) (tkF r_.s r_.f 1) 8) (tkF (tkS r_.s r_.f 1) (tkF r_.s r_.f 1) 8) 8) 2)])) 112⟩, ⟨g1, .cells (av 4 (ls [.bool true, .int .u64 (bnv (tkV (tkS r_.s r_.f 1) (tkF r_.s r_.f 1) 8)), .int .u64 (bnv (tkV (tkS (tkS r_.s r_.f 1) (tkF r_.s r_.f 1) 8) (tkF (tkS r_.s r_.f 1) (tkF r_.s r_.f 1) 8) 8)), .int .u16 (cv .u16 (bnv (tkV (tkS (tkS (tkS r_.s r_.f 1) (tkF r_.s r_.f 1) 8) (tkF (tkS r_.s r_.f 1) (tkF r_.s r_.f 1) 8) 8) (tkF (tkS (tkS r_.s r_.f 1) (tkF r_.s r_.f 1) 8) (tkF (tkS r_.s r_.f 1) (tkF r_.s r_.f 1) 8) 8) 2)))])) 28⟩, ⟨g2, .cells (av 4 (ls [.bool true, .int .u64 (bnv (tkV (tkS r_.s r_.f 1) (tkF r_.s r_.f 1) 8)), .int .u64 (bnv (tkV (tkS (tkS r_.s r_.f 1) (tkF r_.s r_.f 1) 8) (tkF (tkS r_.s r_.f 1) (tkF r_.s r_.f 1) 8) 8)), .int .u16 (cv .u16 (bnv (tkV (tkS (tkS (tkS r_.s r_.f 1) (tkF r_.s r_.f 1) 8) (tkF (tkS r_.s r_.f 1) (tkF r_.s r_.f 1) 8) 8) (tkF (tkS (tkS r_.s r_.f 1) (tkF r_.s r_.f 1) 8) (tkF (tkS r_.s r_.f 1) (tkF r_.s r_.f 1) 8) 8) 2)))])) 28⟩] u11 := M
      refine pl_nil ?_
      refine au_then ?_
      refine wp_ret ?_
      have e0 : reV r_ = true := by simp only [reS, reM, reV, reH, reL, reP, tkR, rfR_s, rfR_f, if_neg c0, if_pos c1]
      have e1 : (reH r_) = (bnv (tkV (tkS r_.s r_.f 1) (tkF r_.s r_.f 1) 8)) := by simp only [reS, reM, reV, reH, reL, reP, tkR, rfR_s, rfR_f, if_neg c0, if_pos c1]
      have e2 : (reL r_) = (bnv (tkV (tkS (tkS r_.s r_.f 1) (tkF r_.s r_.f 1) 8) (tkF (tkS r_.s r_.f 1) (tkF r_.s r_.f 1) 8) 8)) := by simp only [reS, reM, reV, reH, reL, reP, tkR, rfR_s, rfR_f, if_neg c0, if_pos c1]
      have e3 : (reP r_) = (cv .u16 (bnv (tkV (tkS (tkS (tkS r_.s r_.f 1) (tkF r_.s r_.f 1) 8) (tkF (tkS r_.s r_.f 1) (tkF r_.s r_.f 1) 8) 8) (tkF (tkS (tkS r_.s r_.f 1) (tkF r_.s r_.f 1) 8) (tkF (tkS r_.s r_.f 1) (tkF r_.s r_.f 1) 8) 8) 2))) := by simp only [reS, reM, reV, reH, reL, reP, tkR, rfR_s, rfR_f, if_neg c0, if_pos c1]
      have e4 : (reS r_).e = r_.e := by simp only [reS, reM, reV, reH, reL, reP, tkR, rfR_s, rfR_f, if_neg c0, if_pos c1]
      have e5 : (reS r_).s = (tkS (tkS (tkS (tkS r_.s r_.f 1) (tkF r_.s r_.f 1) 8) (tkF (tkS r_.s r_.f 1) (tkF r_.s r_.f 1) 8) 8) (tkF (tkS (tkS r_.s r_.f 1) (tkF r_.s r_.f 1) 8) (tkF (tkS r_.s r_.f 1) (tkF r_.s r_.f 1) 8) 8) 2) := by simp only [reS, reM, reV, reH, reL, reP, tkR, rfR_s, rfR_f, if_neg c0, if_pos c1]
      have e6 : (reS r_).f = (tkF (tkS (tkS (tkS r_.s r_.f 1) (tkF r_.s r_.f 1) 8) (tkF (tkS r_.s r_.f 1) (tkF r_.s r_.f 1) 8) 8) (tkF (tkS (tkS r_.s r_.f 1) (tkF r_.s r_.f 1) 8) (tkF (tkS r_.s r_.f 1) (tkF r_.s r_.f 1) 8) 8) 2) := by simp only [reS, reM, reV, reH, reL, reP, tkR, rfR_s, rfR_f, if_neg c0, if_pos c1]
      exact bodyPost_ret (v := .agg (av 4 (ls [.bool true, .int .u64 (bnv (tkV (tkS r_.s r_.f 1) (tkF r_.s r_.f 1) 8)), .int .u64 (bnv (tkV (tkS (tkS r_.s r_.f 1) (tkF r_.s r_.f 1) 8) (tkF (tkS r_.s r_.f 1) (tkF r_.s r_.f 1) 8) 8)), .int .u16 (cv .u16 (bnv (tkV (tkS (tkS (tkS r_.s r_.f 1) (tkF r_.s r_.f 1) 8) (tkF (tkS r_.s r_.f 1) (tkF r_.s r_.f 1) 8) 8) (tkF (tkS (tkS r_.s r_.f 1) (tkF r_.s r_.f 1) 8) (tkF (tkS r_.s r_.f 1) (tkF r_.s r_.f 1) 8) 8) 2)))]))) (results_cell_row Try.results55 _ _ g1 28 (av 4 (ls [.bool true, .int .u64 (bnv (tkV (tkS r_.s r_.f 1) (tkF r_.s r_.f 1) 8)), .int .u64 (bnv (tkV (tkS (tkS r_.s r_.f 1) (tkF r_.s r_.f 1) 8) (tkF (tkS r_.s r_.f 1) (tkF r_.s r_.f 1) 8) 8)), .int .u16 (cv .u16 (bnv (tkV (tkS (tkS (tkS r_.s r_.f 1) (tkF r_.s r_.f 1) 8) (tkF (tkS r_.s r_.f 1) (tkF r_.s r_.f 1) 8) 8) (tkF (tkS (tkS r_.s r_.f 1) (tkF r_.s r_.f 1) 8) (tkF (tkS r_.s r_.f 1) (tkF r_.s r_.f 1) 8) 8) 2)))])) (0, 0) _ (by kernel_rfl) (M.get 2 rfl) Try.underlying28 rfl (by rw [av_size]; exact inz28)) (by kernel_rfl) ⟨by rw [e0, e1, e2, e3], M.old, by simpa only [e0, e1, e2, e3, e4, e5, e6] using M.get 0 rfl, by simpa only [e0, e1, e2, e3, e4, e5, e6] using M.get 1 rfl⟩
    · skip
      refine pl_val (want_no rfl) (some 22) rfl (.bool false) (fun w => Eq.trans (b := .ok (.value (.bool (decide ((xE r_) = 6)))) w) (by kernel_rfl) (by rw [decide_eq_false (c1)])) ?_
      refine pl_val (want_no rfl) (some 21) rfl (.bool false) (fun _ => by kernel_rfl) ?_
      refine pl_nil ?_
      refine au_then ?_
      refine wp_cond_false (by kernel_rfl) ?_
      refine rg_lit ?_
      refine pl_val (want_no rfl) (some 9) rfl (.pointer (some ⟨gr, 0, none⟩)) (fun _ => by kernel_rfl) ?_
      refine pl_call2 M (want_no rfl) (some 10) rfl 51 #[.pointer (some ⟨gr, 0, none⟩), .bool true, .int .i64 8] (.tuple #[]) 0 1 gr g (.cells (av 4 (ls [.int .u8 kd, .int .u16 h, .pointer (some ⟨g, 0, none⟩), .int .i64 r_.e])) 73) (.cells (av 3 (ls [.bool true, .string (tkS r_.s r_.f 1), .int .i64 (tkF r_.s r_.f 1)])) 112) (.cells (av 4 (ls [.int .u8 kd, .int .u16 h, .pointer (some ⟨g, 0, none⟩), .int .i64 (rfR ⟨(tkS r_.s r_.f 1), (tkF r_.s r_.f 1), r_.e⟩ 8).e])) 73) (.cells (av 3 (ls [.bool true, .string (tkS r_.s r_.f 1), .int .i64 (tkF r_.s r_.f 1)])) 112) rfl rfl (fun _ => by kernel_rfl) (fun w M => r_refT gr g kd h ⟨(tkS r_.s r_.f 1), (tkF r_.s r_.f 1), r_.e⟩ 8 w M.laid (M.get 0 rfl) (M.get 1 rfl) (nodup_at M.nodup (i := 0) (j := 1) rfl rfl (by decide))) ?_
      intro u4 M
      replace M : Mem ⟨w, [gr, g]⟩ [⟨gr, .cells (av 4 (ls [.int .u8 kd, .int .u16 h, .pointer (some ⟨g, 0, none⟩), .int .i64 (rfR ⟨(tkS r_.s r_.f 1), (tkF r_.s r_.f 1), r_.e⟩ 8).e])) 73⟩, ⟨g, .cells (av 3 (ls [.bool true, .string (tkS r_.s r_.f 1), .int .i64 (tkF r_.s r_.f 1)])) 112⟩, ⟨g1, .cells (av 4 (ls [.bool false, .int .u64 0, .int .u64 0, .int .u16 0])) 28⟩, ⟨g2, .cells (av 4 (ls [.bool false, .int .u64 0, .int .u64 0, .int .u16 0])) 28⟩] u4 := M
      refine pl_nil ?_
      refine au_block ?_
      refine au_then ?_
      refine wp_seq ?_
      refine rg_lit ?_
      refine pl_val (want_no rfl) (some 39) rfl (.pointer (some ⟨gr, 0, none⟩)) (fun _ => by kernel_rfl) ?_
      refine pl_val (want_no rfl) (some 40) rfl (.pointer (some ⟨gr, 0, none⟩)) (fun _ => by kernel_rfl) ?_
      refine pl_val (want_no rfl) (some 41) rfl (.pointer (some ⟨gr, 2, none⟩)) (fun _ => by kernel_rfl) ?_
      refine pl_cell M (want_no rfl) (some 42) rfl 71 _ rfl gr 2 (by kernel_rfl) (.pointer (some ⟨g, 0, none⟩)) (fun _ => by kernel_rfl) (fun w M => M.cell 0 rfl (by decide) rfl) ?_
      refine pl_callp M (want_no rfl) (some 43) rfl 54 #[.pointer (some ⟨g, 0, none⟩)] (.int .u16 (cv .u16 (bnv (tkV (tkS r_.s r_.f 1) (tkF r_.s r_.f 1) 2)))) 1 g (.cells (av 3 (ls [.bool true, .string (tkS r_.s r_.f 1), .int .i64 (tkF r_.s r_.f 1)])) 112) (.cells (av 3 (ls [.bool true, .string (tkS (tkS r_.s r_.f 1) (tkF r_.s r_.f 1) 2), .int .i64 (tkF (tkS r_.s r_.f 1) (tkF r_.s r_.f 1) 2)])) 112) rfl (fun _ => by kernel_rfl) (fun w M => r_U16 g (tkS r_.s r_.f 1) (tkF r_.s r_.f 1) w M.laid (M.get 1 rfl)) ?_
      intro u5 M
      replace M : Mem ⟨w, [gr, g]⟩ [⟨gr, .cells (av 4 (ls [.int .u8 kd, .int .u16 h, .pointer (some ⟨g, 0, none⟩), .int .i64 (rfR ⟨(tkS r_.s r_.f 1), (tkF r_.s r_.f 1), r_.e⟩ 8).e])) 73⟩, ⟨g, .cells (av 3 (ls [.bool true, .string (tkS (tkS r_.s r_.f 1) (tkF r_.s r_.f 1) 2), .int .i64 (tkF (tkS r_.s r_.f 1) (tkF r_.s r_.f 1) 2)])) 112⟩, ⟨g1, .cells (av 4 (ls [.bool false, .int .u64 0, .int .u64 0, .int .u16 0])) 28⟩, ⟨g2, .cells (av 4 (ls [.bool false, .int .u64 0, .int .u64 0, .int .u16 0])) 28⟩] u5 := M
      refine pl_val (want_no rfl) (some 44) rfl (.pointer (some ⟨g2, 3, none⟩)) (fun _ => by kernel_rfl) ?_
      refine pl_put1 M (want_no rfl) rfl 26 _ _ rfl 3 g2 3 (by kernel_rfl) 4 28 (ls [.bool false, .int .u64 0, .int .u64 0, .int .u16 0]) rfl (.int .u16 (cv .u16 (bnv (tkV (tkS r_.s r_.f 1) (tkF r_.s r_.f 1) 2)))) (ls [.bool false, .int .u64 0, .int .u64 0, .int .u16 (cv .u16 (bnv (tkV (tkS r_.s r_.f 1) (tkF r_.s r_.f 1) 2)))]) (by kernel_rfl) inz26 (by decide) rfl rfl (put_ls _ 3 _ _ rfl) ?_
      intro u6 M
      replace M : Mem ⟨w, [gr, g]⟩ [⟨gr, .cells (av 4 (ls [.int .u8 kd, .int .u16 h, .pointer (some ⟨g, 0, none⟩), .int .i64 (rfR ⟨(tkS r_.s r_.f 1), (tkF r_.s r_.f 1), r_.e⟩ 8).e])) 73⟩, ⟨g, .cells (av 3 (ls [.bool true, .string (tkS (tkS r_.s r_.f 1) (tkF r_.s r_.f 1) 2), .int .i64 (tkF (tkS r_.s r_.f 1) (tkF r_.s r_.f 1) 2)])) 112⟩, ⟨g1, .cells (av 4 (ls [.bool false, .int .u64 0, .int .u64 0, .int .u16 0])) 28⟩, ⟨g2, .cells (av 4 (ls [.bool false, .int .u64 0, .int .u64 0, .int .u16 (cv .u16 (bnv (tkV (tkS r_.s r_.f 1) (tkF r_.s r_.f 1) 2)))])) 28⟩] u6 := M
      refine pl_nil ?_
      refine au_then ?_
      refine wp_seq ?_
      refine rg_lit ?_
      refine pl_load M (want_no rfl) (some 45) rfl 28 _ rfl 3 g2 0 (by kernel_rfl) 4 28 (ls [.bool false, .int .u64 0, .int .u64 0, .int .u16 (cv .u16 (bnv (tkV (tkS r_.s r_.f 1) (tkF r_.s r_.f 1) 2)))]) rfl 4 (ls [.bool false, .int .u64 0, .int .u64 0, .int .u16 (cv .u16 (bnv (tkV (tkS r_.s r_.f 1) (tkF r_.s r_.f 1) 2)))]) (fun j _ => by rw [Nat.zero_add]) (by decide) _ Try.underlying28 rfl inz28 ?_
      refine pl_put M (want_no rfl) rfl 28 _ _ rfl 2 g1 0 (by kernel_rfl) 4 28 (ls [.bool false, .int .u64 0, .int .u64 0, .int .u16 0]) rfl 4 (ls [.bool false, .int .u64 0, .int .u64 0, .int .u16 (cv .u16 (bnv (tkV (tkS r_.s r_.f 1) (tkF r_.s r_.f 1) 2)))]) (ls [.bool false, .int .u64 0, .int .u64 0, .int .u16 (cv .u16 (bnv (tkV (tkS r_.s r_.f 1) (tkF r_.s r_.f 1) 2)))]) (by kernel_rfl) inz28 (by decide) (one_ls _ rfl) (fun j hj => by rw [if_pos (by omega), Nat.sub_zero]) ?_
      intro u7 M
      replace M : Mem ⟨w, [gr, g]⟩ [⟨gr, .cells (av 4 (ls [.int .u8 kd, .int .u16 h, .pointer (some ⟨g, 0, none⟩), .int .i64 (rfR ⟨(tkS r_.s r_.f 1), (tkF r_.s r_.f 1), r_.e⟩ 8).e])) 73⟩, ⟨g, .cells (av 3 (ls [.bool true, .string (tkS (tkS r_.s r_.f 1) (tkF r_.s r_.f 1) 2), .int .i64 (tkF (tkS r_.s r_.f 1) (tkF r_.s r_.f 1) 2)])) 112⟩, ⟨g1, .cells (av 4 (ls [.bool false, .int .u64 0, .int .u64 0, .int .u16 (cv .u16 (bnv (tkV (tkS r_.s r_.f 1) (tkF r_.s r_.f 1) 2)))])) 28⟩, ⟨g2, .cells (av 4 (ls [.bool false, .int .u64 0, .int .u64 0, .int .u16 (cv .u16 (bnv (tkV (tkS r_.s r_.f 1) (tkF r_.s r_.f 1) 2)))])) 28⟩] u7 := M
      refine pl_nil ?_
      refine au_then ?_
      refine wp_ret ?_
      have e0 : reV r_ = false := by simp only [reS, reM, reV, reH, reL, reP, tkR, rfR_s, rfR_f, if_neg c0, if_neg c1]
      have e1 : (reH r_) = 0 := by simp only [reS, reM, reV, reH, reL, reP, tkR, rfR_s, rfR_f, if_neg c0, if_neg c1]
      have e2 : (reL r_) = 0 := by simp only [reS, reM, reV, reH, reL, reP, tkR, rfR_s, rfR_f, if_neg c0, if_neg c1]
      have e3 : (reP r_) = (cv .u16 (bnv (tkV (tkS r_.s r_.f 1) (tkF r_.s r_.f 1) 2))) := by simp only [reS, reM, reV, reH, reL, reP, tkR, rfR_s, rfR_f, if_neg c0, if_neg c1]
      have e4 : (reS r_).e = (rfR ⟨(tkS r_.s r_.f 1), (tkF r_.s r_.f 1), r_.e⟩ 8).e := by simp only [reS, reM, reV, reH, reL, reP, tkR, rfR_s, rfR_f, if_neg c0, if_neg c1]
      have e5 : (reS r_).s = (tkS (tkS r_.s r_.f 1) (tkF r_.s r_.f 1) 2) := by simp only [reS, reM, reV, reH, reL, reP, tkR, rfR_s, rfR_f, if_neg c0, if_neg c1]
      have e6 : (reS r_).f = (tkF (tkS r_.s r_.f 1) (tkF r_.s r_.f 1) 2) := by simp only [reS, reM, reV, reH, reL, reP, tkR, rfR_s, rfR_f, if_neg c0, if_neg c1]
      exact bodyPost_ret (v := .agg (av 4 (ls [.bool false, .int .u64 0, .int .u64 0, .int .u16 (cv .u16 (bnv (tkV (tkS r_.s r_.f 1) (tkF r_.s r_.f 1) 2)))]))) (results_cell_row Try.results55 _ _ g1 28 (av 4 (ls [.bool false, .int .u64 0, .int .u64 0, .int .u16 (cv .u16 (bnv (tkV (tkS r_.s r_.f 1) (tkF r_.s r_.f 1) 2)))])) (0, 0) _ (by kernel_rfl) (M.get 2 rfl) Try.underlying28 rfl (by rw [av_size]; exact inz28)) (by kernel_rfl) ⟨by rw [e0, e1, e2, e3], M.old, by simpa only [e0, e1, e2, e3, e4, e5, e6] using M.get 0 rfl, by simpa only [e0, e1, e2, e3, e4, e5, e6] using M.get 1 rfl⟩

set_option maxRecDepth 100000 in
set_option maxHeartbeats 4000000 in
set_option linter.unusedSimpArgs false in
theorem r_readText (gr g : Nat) (kd h : Int) (r_ : Rs) (n : Int) (w : World) (hL : Laid w)  (hg0 : w.heap[gr]? = some (.cells (av 4 (ls [.int .u8 kd, .int .u16 h, .pointer (some ⟨g, 0, none⟩), .int .i64 r_.e])) 73)) (hg1 : w.heap[g]? = some (.cells (av 3 (ls [.bool true, .string r_.s, .int .i64 r_.f])) 112)) (hne : gr ≠ g) :
    Calls Try.prog 56 #[.pointer (some ⟨gr, 0, none⟩), .int .i64 n] w fun r w' => r = .returned (.string (rtV r_ n)) ∧ Grw w w' [gr, g] ∧ w'.heap[gr]? = some (.cells (av 4 (ls [.int .u8 kd, .int .u16 h, .pointer (some ⟨g, 0, none⟩), .int .i64 (rtS r_ n).e])) 73) ∧ w'.heap[g]? = some (.cells (av 3 (ls [.bool true, .string (rtS r_ n).s, .int .i64 (rtS r_ n).f])) 112) := by
  go_enter Try.func56, Try.ntmps56
  have M := Mem.startp2 hL hg0 hg1 hne
  refine wp_seq ?_
  refine rg_lit ?_
  refine pl_val (want_no rfl) (some 4) rfl (.string ⟨#[]⟩) (fun _ => by kernel_rfl) ?_
  refine pl_nil ?_
  refine au_then ?_
  refine wp_seq ?_
  refine rg_lit ?_
  refine pl_val (want_no rfl) (some 6) rfl (.pointer (some ⟨gr, 0, none⟩)) (fun _ => by kernel_rfl) ?_
  refine pl_val (want_no rfl) (some 7) rfl (.pointer (some ⟨gr, 0, none⟩)) (fun _ => by kernel_rfl) ?_
  refine pl_val (want_no rfl) (some 8) rfl (.pointer (some ⟨gr, 2, none⟩)) (fun _ => by kernel_rfl) ?_
  refine pl_cell M (want_no rfl) (some 9) rfl 71 _ rfl gr 2 (by kernel_rfl) (.pointer (some ⟨g, 0, none⟩)) (fun _ => by kernel_rfl) (fun w M => M.cell 0 rfl (by decide) rfl) ?_
  refine pl_callp M (want_no rfl) (some 10) rfl 54 #[.pointer (some ⟨g, 0, none⟩)] (.int .u16 (cv .u16 (bnv (tkV r_.s r_.f 2)))) 1 g (.cells (av 3 (ls [.bool true, .string r_.s, .int .i64 r_.f])) 112) (.cells (av 3 (ls [.bool true, .string (tkS r_.s r_.f 2), .int .i64 (tkF r_.s r_.f 2)])) 112) rfl (fun _ => by kernel_rfl) (fun w M => r_U16 g r_.s r_.f w M.laid (M.get 1 rfl)) ?_
  intro u1 M
  replace M : Mem ⟨w, [gr, g]⟩ [⟨gr, .cells (av 4 (ls [.int .u8 kd, .int .u16 h, .pointer (some ⟨g, 0, none⟩), .int .i64 r_.e])) 73⟩, ⟨g, .cells (av 3 (ls [.bool true, .string (tkS r_.s r_.f 2), .int .i64 (tkF r_.s r_.f 2)])) 112⟩] u1 := M
  refine pl_val (want_no rfl) (some 11) rfl (.int .i64 (rxN r_)) (fun _ => by kernel_rfl) ?_
  refine pl_val (want_no rfl) (some 5) rfl (.int .i64 (rxN r_)) (fun _ => by kernel_rfl) ?_
  refine pl_nil ?_
  refine au_then ?_
  refine wp_seq ?_
  refine rg_lit ?_
  refine pl_val (want_no rfl) (some 12) rfl (.pointer (some ⟨gr, 0, none⟩)) (fun _ => by kernel_rfl) ?_
  refine pl_val (want_no rfl) (some 13) rfl (.int .i64 (rxN r_)) (fun _ => by kernel_rfl) ?_
  refine pl_val (want_no rfl) (some 14) rfl (.int .i64 n) (fun _ => by kernel_rfl) ?_
  by_cases c0 : n < (rxN r_)
  · skip
    refine pl_val (want_no rfl) (some 15) rfl (.bool true) (fun w => Eq.trans (b := .ok (.value (.bool (decide (n < (rxN r_))))) w) (by kernel_rfl) (by rw [decide_eq_true (c0)])) ?_
    refine pl_call2 M (want_no rfl) (some 16) rfl 51 #[.pointer (some ⟨gr, 0, none⟩), .bool true, .int .i64 4] (.tuple #[]) 0 1 gr g (.cells (av 4 (ls [.int .u8 kd, .int .u16 h, .pointer (some ⟨g, 0, none⟩), .int .i64 r_.e])) 73) (.cells (av 3 (ls [.bool true, .string (tkS r_.s r_.f 2), .int .i64 (tkF r_.s r_.f 2)])) 112) (.cells (av 4 (ls [.int .u8 kd, .int .u16 h, .pointer (some ⟨g, 0, none⟩), .int .i64 (rfR ⟨(tkS r_.s r_.f 2), (tkF r_.s r_.f 2), r_.e⟩ 4).e])) 73) (.cells (av 3 (ls [.bool true, .string (tkS r_.s r_.f 2), .int .i64 (tkF r_.s r_.f 2)])) 112) rfl rfl (fun _ => by kernel_rfl) (fun w M => r_refT gr g kd h ⟨(tkS r_.s r_.f 2), (tkF r_.s r_.f 2), r_.e⟩ 4 w M.laid (M.get 0 rfl) (M.get 1 rfl) (nodup_at M.nodup (i := 0) (j := 1) rfl rfl (by decide))) ?_
    intro u2 M
    replace M : Mem ⟨w, [gr, g]⟩ [⟨gr, .cells (av 4 (ls [.int .u8 kd, .int .u16 h, .pointer (some ⟨g, 0, none⟩), .int .i64 (rfR ⟨(tkS r_.s r_.f 2), (tkF r_.s r_.f 2), r_.e⟩ 4).e])) 73⟩, ⟨g, .cells (av 3 (ls [.bool true, .string (tkS r_.s r_.f 2), .int .i64 (tkF r_.s r_.f 2)])) 112⟩] u2 := M
    refine pl_nil ?_
    refine au_then ?_
    refine wp_seq ?_
    refine rg_lit ?_
    refine pl_val (want_no rfl) (some 17) rfl (.pointer (some ⟨gr, 0, none⟩)) (fun _ => by kernel_rfl) ?_
    refine pl_val (want_no rfl) (some 18) rfl (.pointer (some ⟨gr, 0, none⟩)) (fun _ => by kernel_rfl) ?_
    refine pl_val (want_no rfl) (some 19) rfl (.pointer (some ⟨gr, 2, none⟩)) (fun _ => by kernel_rfl) ?_
    refine pl_cell M (want_no rfl) (some 20) rfl 71 _ rfl gr 2 (by kernel_rfl) (.pointer (some ⟨g, 0, none⟩)) (fun _ => by kernel_rfl) (fun w M => M.cell 0 rfl (by decide) rfl) ?_
    refine pl_val (want_no rfl) (some 21) rfl (.int .i64 (rxN r_)) (fun _ => by kernel_rfl) ?_
    refine pl_callp M (want_no rfl) (some 22) rfl 57 #[.pointer (some ⟨g, 0, none⟩), .int .i64 (rxN r_)] (.string (tkV (tkS r_.s r_.f 2) (tkF r_.s r_.f 2) (rxN r_))) 1 g (.cells (av 3 (ls [.bool true, .string (tkS r_.s r_.f 2), .int .i64 (tkF r_.s r_.f 2)])) 112) (.cells (av 3 (ls [.bool true, .string (tkS (tkS r_.s r_.f 2) (tkF r_.s r_.f 2) (rxN r_)), .int .i64 (tkF (tkS r_.s r_.f 2) (tkF r_.s r_.f 2) (rxN r_))])) 112) rfl (fun _ => by kernel_rfl) (fun w M => c_Take g (tkS r_.s r_.f 2) (tkF r_.s r_.f 2) (rxN r_) w M.laid (M.get 1 rfl)) ?_
    intro u3 M
    replace M : Mem ⟨w, [gr, g]⟩ [⟨gr, .cells (av 4 (ls [.int .u8 kd, .int .u16 h, .pointer (some ⟨g, 0, none⟩), .int .i64 (rfR ⟨(tkS r_.s r_.f 2), (tkF r_.s r_.f 2), r_.e⟩ 4).e])) 73⟩, ⟨g, .cells (av 3 (ls [.bool true, .string (tkS (tkS r_.s r_.f 2) (tkF r_.s r_.f 2) (rxN r_)), .int .i64 (tkF (tkS r_.s r_.f 2) (tkF r_.s r_.f 2) (rxN r_))])) 112⟩] u3 := M
    refine pl_val (want_no rfl) (some 4) rfl (.string (tkV (tkS r_.s r_.f 2) (tkF r_.s r_.f 2) (rxN r_))) (fun _ => by kernel_rfl) ?_
    refine pl_nil ?_
    refine au_then ?_
    refine wp_ret ?_
    have e0 : (rtV r_ n) = (tkV (tkS r_.s r_.f 2) (tkF r_.s r_.f 2) (rxN r_)) := by simp only [rtS, rtM, rtV, tkR, rfR_s, rfR_f, if_pos c0]
    have e1 : (rtS r_ n).e = (rfR ⟨(tkS r_.s r_.f 2), (tkF r_.s r_.f 2), r_.e⟩ 4).e := by simp only [rtS, rtM, rtV, tkR, rfR_s, rfR_f, if_pos c0]
    have e2 : (rtS r_ n).s = (tkS (tkS r_.s r_.f 2) (tkF r_.s r_.f 2) (rxN r_)) := by simp only [rtS, rtM, rtV, tkR, rfR_s, rfR_f, if_pos c0]
    have e3 : (rtS r_ n).f = (tkF (tkS r_.s r_.f 2) (tkF r_.s r_.f 2) (rxN r_)) := by simp only [rtS, rtM, rtV, tkR, rfR_s, rfR_f, if_pos c0]
    exact bodyPost_ret (v := .string (tkV (tkS r_.s r_.f 2) (tkF r_.s r_.f 2) (rxN r_))) (results_tmp1 Try.results56 _ _ _ (by kernel_rfl)) (by kernel_rfl) ⟨by rw [e0], M.old, by simpa only [e0, e1, e2, e3] using M.get 0 rfl, by simpa only [e0, e1, e2, e3] using M.get 1 rfl⟩
  · skip
    refine pl_val (want_no rfl) (some 15) rfl (.bool false) (fun w => Eq.trans (b := .ok (.value (.bool (decide (n < (rxN r_))))) w) (by kernel_rfl) (by rw [decide_eq_false (c0)])) ?_
    refine pl_call M (want_no rfl) (some 16) rfl 51 #[.pointer (some ⟨gr, 0, none⟩), .bool false, .int .i64 4] (.tuple #[]) (fun _ => by kernel_rfl) (fun w M => r_refF gr g kd h ⟨(tkS r_.s r_.f 2), (tkF r_.s r_.f 2), r_.e⟩ 4 w M.laid (M.get 0 rfl) (M.get 1 rfl) (nodup_at M.nodup (i := 0) (j := 1) rfl rfl (by decide))) ?_
    intro u2 M
    refine pl_nil ?_
    refine au_then ?_
    refine wp_seq ?_
    refine rg_lit ?_
    refine pl_val (want_no rfl) (some 17) rfl (.pointer (some ⟨gr, 0, none⟩)) (fun _ => by kernel_rfl) ?_
    refine pl_val (want_no rfl) (some 18) rfl (.pointer (some ⟨gr, 0, none⟩)) (fun _ => by kernel_rfl) ?_
    refine pl_val (want_no rfl) (some 19) rfl (.pointer (some ⟨gr, 2, none⟩)) (fun _ => by kernel_rfl) ?_
    refine pl_cell M (want_no rfl) (some 20) rfl 71 _ rfl gr 2 (by kernel_rfl) (.pointer (some ⟨g, 0, none⟩)) (fun _ => by kernel_rfl) (fun w M => M.cell 0 rfl (by decide) rfl) ?_
    refine pl_val (want_no rfl) (some 21) rfl (.int .i64 (rxN r_)) (fun _ => by kernel_rfl) ?_
    refine pl_callp M (want_no rfl) (some 22) rfl 57 #[.pointer (some ⟨g, 0, none⟩), .int .i64 (rxN r_)] (.string (tkV (tkS r_.s r_.f 2) (tkF r_.s r_.f 2) (rxN r_))) 1 g (.cells (av 3 (ls [.bool true, .string (tkS r_.s r_.f 2), .int .i64 (tkF r_.s r_.f 2)])) 112) (.cells (av 3 (ls [.bool true, .string (tkS (tkS r_.s r_.f 2) (tkF r_.s r_.f 2) (rxN r_)), .int .i64 (tkF (tkS r_.s r_.f 2) (tkF r_.s r_.f 2) (rxN r_))])) 112) rfl (fun _ => by kernel_rfl) (fun w M => c_Take g (tkS r_.s r_.f 2) (tkF r_.s r_.f 2) (rxN r_) w M.laid (M.get 1 rfl)) ?_
    intro u3 M
    replace M : Mem ⟨w, [gr, g]⟩ [⟨gr, .cells (av 4 (ls [.int .u8 kd, .int .u16 h, .pointer (some ⟨g, 0, none⟩), .int .i64 r_.e])) 73⟩, ⟨g, .cells (av 3 (ls [.bool true, .string (tkS (tkS r_.s r_.f 2) (tkF r_.s r_.f 2) (rxN r_)), .int .i64 (tkF (tkS r_.s r_.f 2) (tkF r_.s r_.f 2) (rxN r_))])) 112⟩] u3 := M
    refine pl_val (want_no rfl) (some 4) rfl (.string (tkV (tkS r_.s r_.f 2) (tkF r_.s r_.f 2) (rxN r_))) (fun _ => by kernel_rfl) ?_
    refine pl_nil ?_
    refine au_then ?_
    refine wp_ret ?_
    have e0 : (rtV r_ n) = (tkV (tkS r_.s r_.f 2) (tkF r_.s r_.f 2) (rxN r_)) := by simp only [rtS, rtM, rtV, tkR, rfR_s, rfR_f, if_neg c0]
    have e1 : (rtS r_ n).e = r_.e := by simp only [rtS, rtM, rtV, tkR, rfR_s, rfR_f, if_neg c0]
    have e2 : (rtS r_ n).s = (tkS (tkS r_.s r_.f 2) (tkF r_.s r_.f 2) (rxN r_)) := by simp only [rtS, rtM, rtV, tkR, rfR_s, rfR_f, if_neg c0]
    have e3 : (rtS r_ n).f = (tkF (tkS r_.s r_.f 2) (tkF r_.s r_.f 2) (rxN r_)) := by simp only [rtS, rtM, rtV, tkR, rfR_s, rfR_f, if_neg c0]
    exact bodyPost_ret (v := .string (tkV (tkS r_.s r_.f 2) (tkF r_.s r_.f 2) (rxN r_))) (results_tmp1 Try.results56 _ _ _ (by kernel_rfl)) (by kernel_rfl) ⟨by rw [e0], M.old, by simpa only [e0, e1, e2, e3] using M.get 0 rfl, by simpa only [e0, e1, e2, e3] using M.get 1 rfl⟩

set_option maxRecDepth 100000 in
set_option maxHeartbeats 4000000 in
set_option linter.unusedSimpArgs false in
theorem r_read (gr g : Nat) (kd h : Int) (r_ : Rs) (o : Int) (v : Vl) (w : World) (hL : Laid w)  (hg0 : w.heap[gr]? = some (.cells (av 4 (ls [.int .u8 kd, .int .u16 h, .pointer (some ⟨g, 0, none⟩), .int .i64 r_.e])) 73)) (hg1 : w.heap[g]? = some (.cells (av 3 (ls [.bool true, .string r_.s, .int .i64 r_.f])) 112)) (hne : gr ≠ g) :
    Calls Try.prog 32 #[.pointer (some ⟨gr, 0, none⟩), .int .u16 o, .agg (av 6 (ls [.int .u64 v.n, .string v.t, .bool (v.v), .int .u64 v.h, .int .u64 v.l, .int .u16 v.p]))] w fun r w' => r = .returned (.agg (av 6 (ls [.int .u64 (rdV h o r_).n, .string (rdV h o r_).t, .bool ((rdV h o r_).v), .int .u64 (rdV h o r_).h, .int .u64 (rdV h o r_).l, .int .u16 (rdV h o r_).p]))) ∧ Grw w w' [gr, g] ∧ w'.heap[gr]? = some (.cells (av 4 (ls [.int .u8 kd, .int .u16 h, .pointer (some ⟨g, 0, none⟩), .int .i64 (rdS h o r_).e])) 73) ∧ w'.heap[g]? = some (.cells (av 3 (ls [.bool true, .string (rdS h o r_).s, .int .i64 (rdS h o r_).f])) 112) := by
  go_enter Try.func32, Try.ntmps32
  have M := Mem.startp2 hL hg0 hg1 hne
  refine wp_seq ?_
  refine rg_lit ?_
  refine pl_new M (want_no rfl) (some 5) rfl (.cells (av 6 (ls [.int .u64 v.n, .string v.t, .bool (v.v), .int .u64 v.h, .int .u64 v.l, .int .u16 v.p])) 86) (fun _ => by kernel_rfl) ?_
  intro g1 u1 M
  replace M : Mem ⟨w, [gr, g]⟩ [⟨gr, .cells (av 4 (ls [.int .u8 kd, .int .u16 h, .pointer (some ⟨g, 0, none⟩), .int .i64 r_.e])) 73⟩, ⟨g, .cells (av 3 (ls [.bool true, .string r_.s, .int .i64 r_.f])) 112⟩, ⟨g1, .cells (av 6 (ls [.int .u64 v.n, .string v.t, .bool (v.v), .int .u64 v.h, .int .u64 v.l, .int .u16 v.p])) 86⟩] u1 := M
  refine pl_new M (want_no rfl) (some 6) rfl (.cells (av 6 (ls [.int .u64 0, .string ⟨#[]⟩, .bool false, .int .u64 0, .int .u64 0, .int .u16 0])) 86) (fun _ => by kernel_rfl) ?_
  intro g2 u2 M
  replace M : Mem ⟨w, [gr, g]⟩ [⟨gr, .cells (av 4 (ls [.int .u8 kd, .int .u16 h, .pointer (some ⟨g, 0, none⟩), .int .i64 r_.e])) 73⟩, ⟨g, .cells (av 3 (ls [.bool true, .string r_.s, .int .i64 r_.f])) 112⟩, ⟨g1, .cells (av 6 (ls [.int .u64 v.n, .string v.t, .bool (v.v), .int .u64 v.h, .int .u64 v.l, .int .u16 v.p])) 86⟩, ⟨g2, .cells (av 6 (ls [.int .u64 0, .string ⟨#[]⟩, .bool false, .int .u64 0, .int .u64 0, .int .u16 0])) 86⟩] u2 := M
  refine pl_nil ?_
  refine au_then ?_
  refine wp_seq ?_
  refine wp_seq ?_
  refine rg_lit ?_
  refine pl_val (want_no rfl) (some 7) rfl (.pointer (some ⟨gr, 0, none⟩)) (fun _ => by kernel_rfl) ?_
  refine pl_val (want_no rfl) (some 8) rfl (.pointer (some ⟨gr, 0, none⟩)) (fun _ => by kernel_rfl) ?_
  refine pl_val (want_no rfl) (some 9) rfl (.pointer (some ⟨gr, 1, none⟩)) (fun _ => by kernel_rfl) ?_
  refine pl_cell M (want_no rfl) (some 10) rfl 54 _ rfl gr 1 (by kernel_rfl) (.int .u16 h) (fun _ => by kernel_rfl) (fun w M => M.cell 0 rfl (by decide) rfl) ?_
  refine pl_val (want_no rfl) (some 11) rfl (.int .u16 o) (fun _ => by kernel_rfl) ?_
  refine pl_val (want_no rfl) (some 12) rfl (.int .u16 (yn h o)) (fun _ => by kernel_rfl) ?_
  by_cases c0 : (yn h o) = 0
  · skip
    refine pl_val (want_no rfl) (some 13) rfl (.bool true) (fun w => Eq.trans (b := .ok (.value (.bool (decide ((yn h o) = 0)))) w) (by kernel_rfl) (by rw [decide_eq_true (c0)])) ?_
    refine pl_nil ?_
    refine au_then ?_
    refine wp_cond_true (by kernel_rfl) ?_
    refine wp_seq ?_
    refine rg_lit ?_
    refine pl_val (want_no rfl) (some 14) rfl (.agg (av 6 (ls [.int .u64 0, .string ⟨#[]⟩, .bool false, .int .u64 0, .int .u64 0, .int .u16 0]))) (fun _ => by kernel_rfl) ?_
    refine pl_put M (want_no rfl) rfl 86 _ _ rfl 3 g2 0 (by kernel_rfl) 6 86 (ls [.int .u64 0, .string ⟨#[]⟩, .bool false, .int .u64 0, .int .u64 0, .int .u16 0]) rfl 6 (ls [.int .u64 0, .string ⟨#[]⟩, .bool false, .int .u64 0, .int .u64 0, .int .u16 0]) (ls [.int .u64 0, .string ⟨#[]⟩, .bool false, .int .u64 0, .int .u64 0, .int .u16 0]) (by kernel_rfl) inz86 (by decide) (one_ls _ rfl) (fun j hj => by rw [if_pos (by omega), Nat.sub_zero]) ?_
    intro u3 M
    replace M : Mem ⟨w, [gr, g]⟩ [⟨gr, .cells (av 4 (ls [.int .u8 kd, .int .u16 h, .pointer (some ⟨g, 0, none⟩), .int .i64 r_.e])) 73⟩, ⟨g, .cells (av 3 (ls [.bool true, .string r_.s, .int .i64 r_.f])) 112⟩, ⟨g1, .cells (av 6 (ls [.int .u64 v.n, .string v.t, .bool (v.v), .int .u64 v.h, .int .u64 v.l, .int .u16 v.p])) 86⟩, ⟨g2, .cells (av 6 (ls [.int .u64 0, .string ⟨#[]⟩, .bool false, .int .u64 0, .int .u64 0, .int .u16 0])) 86⟩] u3 := M
    refine pl_nil ?_
    refine au_then ?_
    refine wp_ret ?_
    refine au_then_ret ?_
    have e0 : (rdV h o r_).n = 0 := by simp only [rdS, rdV, vN, vT, tkR, if_pos c0]
    have e1 : (rdV h o r_).t = ⟨#[]⟩ := by simp only [rdS, rdV, vN, vT, tkR, if_pos c0]
    have e2 : (rdV h o r_).v = false := by simp only [rdS, rdV, vN, vT, tkR, if_pos c0]
    have e3 : (rdV h o r_).h = 0 := by simp only [rdS, rdV, vN, vT, tkR, if_pos c0]
    have e4 : (rdV h o r_).l = 0 := by simp only [rdS, rdV, vN, vT, tkR, if_pos c0]
    have e5 : (rdV h o r_).p = 0 := by simp only [rdS, rdV, vN, vT, tkR, if_pos c0]
    have e6 : (rdS h o r_).e = r_.e := by simp only [rdS, rdV, vN, vT, tkR, if_pos c0]
    have e7 : (rdS h o r_).s = r_.s := by simp only [rdS, rdV, vN, vT, tkR, if_pos c0]
    have e8 : (rdS h o r_).f = r_.f := by simp only [rdS, rdV, vN, vT, tkR, if_pos c0]
    exact bodyPost_ret (v := .agg (av 6 (ls [.int .u64 0, .string ⟨#[]⟩, .bool false, .int .u64 0, .int .u64 0, .int .u16 0]))) (results_cell_row Try.results32 _ _ g2 86 (av 6 (ls [.int .u64 0, .string ⟨#[]⟩, .bool false, .int .u64 0, .int .u64 0, .int .u16 0])) (0, 0) _ (by kernel_rfl) (M.get 3 rfl) Try.underlying86 rfl (by rw [av_size]; exact inz86)) (by kernel_rfl) ⟨by rw [e0, e1, e2, e3, e4, e5], M.old, by simpa only [e0, e1, e2, e3, e4, e5, e6, e7, e8] using M.get 0 rfl, by simpa only [e0, e1, e2, e3, e4, e5, e6, e7, e8] using M.get 1 rfl⟩
  · skip
    refine pl_val (want_no rfl) (some 13) rfl (.bool false) (fun w => Eq.trans (b := .ok (.value (.bool (decide ((yn h o) = 0)))) w) (by kernel_rfl) (by rw [decide_eq_false (c0)])) ?_
    refine pl_nil ?_
    refine au_then ?_
    refine wp_cond_false (by kernel_rfl) ?_
    refine wp_skip ?_
    refine au_then ?_
    refine wp_seq ?_
    refine wp_seq ?_
    refine rg_lit ?_
    refine pl_val (want_no rfl) (some 15) rfl (.int .u16 o) (fun _ => by kernel_rfl) ?_
    refine pl_nil ?_
    refine au_then ?_
    refine wp_block ?_
    refine wp_seq ?_
    refine wp_seq ?_
    refine rg_lit ?_
    by_cases c1 : o = 4
    · skip
      refine pl_val (want_no rfl) (some 17) rfl (.bool true) (fun w => Eq.trans (b := .ok (.value (.bool (decide (o = 4)))) w) (by kernel_rfl) (by rw [decide_eq_true (c1)])) ?_
      refine pl_val (want_no rfl) (some 16) rfl (.bool true) (fun _ => by kernel_rfl) ?_
      refine pl_nil ?_
      refine au_then ?_
      refine wp_cond_true (by kernel_rfl) ?_
      refine wp_skip ?_
      refine au_then ?_
      refine wp_cond_true (by kernel_rfl) ?_
      refine wp_seq ?_
      refine rg_lit ?_
      refine pl_val (want_no rfl) (some 19) rfl (.pointer (some ⟨gr, 0, none⟩)) (fun _ => by kernel_rfl) ?_
      refine pl_val (want_no rfl) (some 20) rfl (.pointer (some ⟨gr, 0, none⟩)) (fun _ => by kernel_rfl) ?_
      refine pl_val (want_no rfl) (some 21) rfl (.pointer (some ⟨gr, 2, none⟩)) (fun _ => by kernel_rfl) ?_
      refine pl_cell M (want_no rfl) (some 22) rfl 71 _ rfl gr 2 (by kernel_rfl) (.pointer (some ⟨g, 0, none⟩)) (fun _ => by kernel_rfl) (fun w M => M.cell 0 rfl (by decide) rfl) ?_
      refine pl_callp M (want_no rfl) (some 23) rfl 52 #[.pointer (some ⟨g, 0, none⟩)] (.int .u32 (cv .u32 (bnv (tkV r_.s r_.f 4)))) 1 g (.cells (av 3 (ls [.bool true, .string r_.s, .int .i64 r_.f])) 112) (.cells (av 3 (ls [.bool true, .string (tkS r_.s r_.f 4), .int .i64 (tkF r_.s r_.f 4)])) 112) rfl (fun _ => by kernel_rfl) (fun w M => r_U32 g r_.s r_.f w M.laid (M.get 1 rfl)) ?_
      intro u3 M
      replace M : Mem ⟨w, [gr, g]⟩ [⟨gr, .cells (av 4 (ls [.int .u8 kd, .int .u16 h, .pointer (some ⟨g, 0, none⟩), .int .i64 r_.e])) 73⟩, ⟨g, .cells (av 3 (ls [.bool true, .string (tkS r_.s r_.f 4), .int .i64 (tkF r_.s r_.f 4)])) 112⟩, ⟨g1, .cells (av 6 (ls [.int .u64 v.n, .string v.t, .bool (v.v), .int .u64 v.h, .int .u64 v.l, .int .u16 v.p])) 86⟩, ⟨g2, .cells (av 6 (ls [.int .u64 0, .string ⟨#[]⟩, .bool false, .int .u64 0, .int .u64 0, .int .u16 0])) 86⟩] u3 := M
      refine pl_val (want_no rfl) (some 24) rfl (.int .u64 (cv .u64 (cv .u32 (bnv (tkV r_.s r_.f 4))))) (fun _ => by kernel_rfl) ?_
      refine pl_val (want_no rfl) (some 25) rfl (.agg (av 6 (ls [.int .u64 (cv .u64 (cv .u32 (bnv (tkV r_.s r_.f 4)))), .string ⟨#[]⟩, .bool false, .int .u64 0, .int .u64 0, .int .u16 0]))) (fun _ => by kernel_rfl) ?_
      refine pl_put M (want_no rfl) rfl 86 _ _ rfl 3 g2 0 (by kernel_rfl) 6 86 (ls [.int .u64 0, .string ⟨#[]⟩, .bool false, .int .u64 0, .int .u64 0, .int .u16 0]) rfl 6 (ls [.int .u64 (cv .u64 (cv .u32 (bnv (tkV r_.s r_.f 4)))), .string ⟨#[]⟩, .bool false, .int .u64 0, .int .u64 0, .int .u16 0]) (ls [.int .u64 (cv .u64 (cv .u32 (bnv (tkV r_.s r_.f 4)))), .string ⟨#[]⟩, .bool false, .int .u64 0, .int .u64 0, .int .u16 0]) (by kernel_rfl) inz86 (by decide) (one_ls _ rfl) (fun j hj => by rw [if_pos (by omega), Nat.sub_zero]) ?_
      intro u4 M
      replace M : Mem ⟨w, [gr, g]⟩ [⟨gr, .cells (av 4 (ls [.int .u8 kd, .int .u16 h, .pointer (some ⟨g, 0, none⟩), .int .i64 r_.e])) 73⟩, ⟨g, .cells (av 3 (ls [.bool true, .string (tkS r_.s r_.f 4), .int .i64 (tkF r_.s r_.f 4)])) 112⟩, ⟨g1, .cells (av 6 (ls [.int .u64 v.n, .string v.t, .bool (v.v), .int .u64 v.h, .int .u64 v.l, .int .u16 v.p])) 86⟩, ⟨g2, .cells (av 6 (ls [.int .u64 (cv .u64 (cv .u32 (bnv (tkV r_.s r_.f 4)))), .string ⟨#[]⟩, .bool false, .int .u64 0, .int .u64 0, .int .u16 0])) 86⟩] u4 := M
      refine pl_nil ?_
      refine au_then ?_
      refine wp_ret ?_
      refine au_block_ret ?_
      refine au_then_ret ?_
      have e0 : (rdV h o r_).n = (cv .u64 (cv .u32 (bnv (tkV r_.s r_.f 4)))) := by simp only [rdS, rdV, vN, vT, tkR, if_neg c0, if_pos c1]
      have e1 : (rdV h o r_).t = ⟨#[]⟩ := by simp only [rdS, rdV, vN, vT, tkR, if_neg c0, if_pos c1]
      have e2 : (rdV h o r_).v = false := by simp only [rdS, rdV, vN, vT, tkR, if_neg c0, if_pos c1]
      have e3 : (rdV h o r_).h = 0 := by simp only [rdS, rdV, vN, vT, tkR, if_neg c0, if_pos c1]
      have e4 : (rdV h o r_).l = 0 := by simp only [rdS, rdV, vN, vT, tkR, if_neg c0, if_pos c1]
      have e5 : (rdV h o r_).p = 0 := by simp only [rdS, rdV, vN, vT, tkR, if_neg c0, if_pos c1]
      have e6 : (rdS h o r_).e = r_.e := by simp only [rdS, rdV, vN, vT, tkR, if_neg c0, if_pos c1]
      have e7 : (rdS h o r_).s = (tkS r_.s r_.f 4) := by simp only [rdS, rdV, vN, vT, tkR, if_neg c0, if_pos c1]
      have e8 : (rdS h o r_).f = (tkF r_.s r_.f 4) := by simp only [rdS, rdV, vN, vT, tkR, if_neg c0, if_pos c1]
      exact bodyPost_ret (v := .agg (av 6 (ls [.int .u64 (cv .u64 (cv .u32 (bnv (tkV r_.s r_.f 4)))), .string ⟨#[]⟩, .bool false, .int .u64 0, .int .u64 0, .int .u16 0]))) (results_cell_row Try.results32 _ _ g2 86 (av 6 (ls [.int .u64 (cv .u64 (cv .u32 (bnv (tkV r_.s r_.f 4)))), .string ⟨#[]⟩, .bool false, .int .u64 0, .int .u64 0, .int .u16 0])) (0, 0) _ (by kernel_rfl) (M.get 3 rfl) Try.underlying86 rfl (by rw [av_size]; exact inz86)) (by kernel_rfl) ⟨by rw [e0, e1, e2, e3, e4, e5], M.old, by simpa only [e0, e1, e2, e3, e4, e5, e6, e7, e8] using M.get 0 rfl, by simpa only [e0, e1, e2, e3, e4, e5, e6, e7, e8] using M.get 1 rfl⟩
    · skip
      refine pl_val (want_no rfl) (some 17) rfl (.bool false) (fun w => Eq.trans (b := .ok (.value (.bool (decide (o = 4)))) w) (by kernel_rfl) (by rw [decide_eq_false (c1)])) ?_
      refine pl_val (want_no rfl) (some 16) rfl (.bool false) (fun _ => by kernel_rfl) ?_
      refine pl_nil ?_
      refine au_then ?_
      refine wp_cond_false (by kernel_rfl) ?_
      refine rg_lit ?_
      by_cases c2 : o = 8
      · skip
        refine pl_val (want_no rfl) (some 18) rfl (.bool true) (fun w => Eq.trans (b := .ok (.value (.bool (decide (o = 8)))) w) (by kernel_rfl) (by rw [decide_eq_true (c2)])) ?_
        refine pl_val (want_no rfl) (some 16) rfl (.bool true) (fun _ => by kernel_rfl) ?_
        refine pl_nil ?_
        refine au_then ?_
        refine wp_cond_true (by kernel_rfl) ?_
        refine wp_seq ?_
        refine rg_lit ?_
        refine pl_val (want_no rfl) (some 19) rfl (.pointer (some ⟨gr, 0, none⟩)) (fun _ => by kernel_rfl) ?_
        refine pl_val (want_no rfl) (some 20) rfl (.pointer (some ⟨gr, 0, none⟩)) (fun _ => by kernel_rfl) ?_
        refine pl_val (want_no rfl) (some 21) rfl (.pointer (some ⟨gr, 2, none⟩)) (fun _ => by kernel_rfl) ?_
        refine pl_cell M (want_no rfl) (some 22) rfl 71 _ rfl gr 2 (by kernel_rfl) (.pointer (some ⟨g, 0, none⟩)) (fun _ => by kernel_rfl) (fun w M => M.cell 0 rfl (by decide) rfl) ?_
        refine pl_callp M (want_no rfl) (some 23) rfl 52 #[.pointer (some ⟨g, 0, none⟩)] (.int .u32 (cv .u32 (bnv (tkV r_.s r_.f 4)))) 1 g (.cells (av 3 (ls [.bool true, .string r_.s, .int .i64 r_.f])) 112) (.cells (av 3 (ls [.bool true, .string (tkS r_.s r_.f 4), .int .i64 (tkF r_.s r_.f 4)])) 112) rfl (fun _ => by kernel_rfl) (fun w M => r_U32 g r_.s r_.f w M.laid (M.get 1 rfl)) ?_
        intro u3 M
        replace M : Mem ⟨w, [gr, g]⟩ [⟨gr, .cells (av 4 (ls [.int .u8 kd, .int .u16 h, .pointer (some ⟨g, 0, none⟩), .int .i64 r_.e])) 73⟩, ⟨g, .cells (av 3 (ls [.bool true, .string (tkS r_.s r_.f 4), .int .i64 (tkF r_.s r_.f 4)])) 112⟩, ⟨g1, .cells (av 6 (ls [.int .u64 v.n, .string v.t, .bool (v.v), .int .u64 v.h, .int .u64 v.l, .int .u16 v.p])) 86⟩, ⟨g2, .cells (av 6 (ls [.int .u64 0, .string ⟨#[]⟩, .bool false, .int .u64 0, .int .u64 0, .int .u16 0])) 86⟩] u3 := M
        refine pl_val (want_no rfl) (some 24) rfl (.int .u64 (cv .u64 (cv .u32 (bnv (tkV r_.s r_.f 4))))) (fun _ => by kernel_rfl) ?_
        refine pl_val (want_no rfl) (some 25) rfl (.agg (av 6 (ls [.int .u64 (cv .u64 (cv .u32 (bnv (tkV r_.s r_.f 4)))), .string ⟨#[]⟩, .bool false, .int .u64 0, .int .u64 0, .int .u16 0]))) (fun _ => by kernel_rfl) ?_
        refine pl_put M (want_no rfl) rfl 86 _ _ rfl 3 g2 0 (by kernel_rfl) 6 86 (ls [.int .u64 0, .string ⟨#[]⟩, .bool false, .int .u64 0, .int .u64 0, .int .u16 0]) rfl 6 (ls [.int .u64 (cv .u64 (cv .u32 (bnv (tkV r_.s r_.f 4)))), .string ⟨#[]⟩, .bool false, .int .u64 0, .int .u64 0, .int .u16 0]) (ls [.int .u64 (cv .u64 (cv .u32 (bnv (tkV r_.s r_.f 4)))), .string ⟨#[]⟩, .bool false, .int .u64 0, .int .u64 0, .int .u16 0]) (by kernel_rfl) inz86 (by decide) (one_ls _ rfl) (fun j hj => by rw [if_pos (by omega), Nat.sub_zero]) ?_
        intro u4 M
        replace M : Mem ⟨w, [gr, g]⟩ [⟨gr, .cells (av 4 (ls [.int .u8 kd, .int .u16 h, .pointer (some ⟨g, 0, none⟩), .int .i64 r_.e])) 73⟩, ⟨g, .cells (av 3 (ls [.bool true, .string (tkS r_.s r_.f 4), .int .i64 (tkF r_.s r_.f 4)])) 112⟩, ⟨g1, .cells (av 6 (ls [.int .u64 v.n, .string v.t, .bool (v.v), .int .u64 v.h, .int .u64 v.l, .int .u16 v.p])) 86⟩, ⟨g2, .cells (av 6 (ls [.int .u64 (cv .u64 (cv .u32 (bnv (tkV r_.s r_.f 4)))), .string ⟨#[]⟩, .bool false, .int .u64 0, .int .u64 0, .int .u16 0])) 86⟩] u4 := M
        refine pl_nil ?_
        refine au_then ?_
        refine wp_ret ?_
        refine au_block_ret ?_
        refine au_then_ret ?_
        have e0 : (rdV h o r_).n = (cv .u64 (cv .u32 (bnv (tkV r_.s r_.f 4)))) := by simp only [rdS, rdV, vN, vT, tkR, if_neg c0, if_neg c1, if_pos c2]
        have e1 : (rdV h o r_).t = ⟨#[]⟩ := by simp only [rdS, rdV, vN, vT, tkR, if_neg c0, if_neg c1, if_pos c2]
        have e2 : (rdV h o r_).v = false := by simp only [rdS, rdV, vN, vT, tkR, if_neg c0, if_neg c1, if_pos c2]
        have e3 : (rdV h o r_).h = 0 := by simp only [rdS, rdV, vN, vT, tkR, if_neg c0, if_neg c1, if_pos c2]
        have e4 : (rdV h o r_).l = 0 := by simp only [rdS, rdV, vN, vT, tkR, if_neg c0, if_neg c1, if_pos c2]
        have e5 : (rdV h o r_).p = 0 := by simp only [rdS, rdV, vN, vT, tkR, if_neg c0, if_neg c1, if_pos c2]
        have e6 : (rdS h o r_).e = r_.e := by simp only [rdS, rdV, vN, vT, tkR, if_neg c0, if_neg c1, if_pos c2]
        have e7 : (rdS h o r_).s = (tkS r_.s r_.f 4) := by simp only [rdS, rdV, vN, vT, tkR, if_neg c0, if_neg c1, if_pos c2]
        have e8 : (rdS h o r_).f = (tkF r_.s r_.f 4) := by simp only [rdS, rdV, vN, vT, tkR, if_neg c0, if_neg c1, if_pos c2]
        exact bodyPost_ret (v := .agg (av 6 (ls [.int .u64 (cv .u64 (cv .u32 (bnv (tkV r_.s r_.f 4)))), .string ⟨#[]⟩, .bool false, .int .u64 0, .int .u64 0, .int .u16 0]))) (results_cell_row Try.results32 _ _ g2 86 (av 6 (ls [.int .u64 (cv .u64 (cv .u32 (bnv (tkV r_.s r_.f 4)))), .string ⟨#[]⟩, .bool false, .int .u64 0, .int .u64 0, .int .u16 0])) (0, 0) _ (by kernel_rfl) (M.get 3 rfl) Try.underlying86 rfl (by rw [av_size]; exact inz86)) (by kernel_rfl) ⟨by rw [e0, e1, e2, e3, e4, e5], M.old, by simpa only [e0, e1, e2, e3, e4, e5, e6, e7, e8] using M.get 0 rfl, by simpa only [e0, e1, e2, e3, e4, e5, e6, e7, e8] using M.get 1 rfl⟩
      · skip
        refine pl_val (want_no rfl) (some 18) rfl (.bool false) (fun w => Eq.trans (b := .ok (.value (.bool (decide (o = 8)))) w) (by kernel_rfl) (by rw [decide_eq_false (c2)])) ?_
        refine pl_val (want_no rfl) (some 16) rfl (.bool false) (fun _ => by kernel_rfl) ?_
        refine pl_nil ?_
        refine au_then ?_
        refine wp_cond_false (by kernel_rfl) ?_
        refine wp_seq ?_
        refine wp_seq ?_
        refine rg_lit ?_
        by_cases c3 : o = 16
        · skip
          refine pl_val (want_no rfl) (some 27) rfl (.bool true) (fun w => Eq.trans (b := .ok (.value (.bool (decide (o = 16)))) w) (by kernel_rfl) (by rw [decide_eq_true (c3)])) ?_
          refine pl_val (want_no rfl) (some 26) rfl (.bool true) (fun _ => by kernel_rfl) ?_
          refine pl_nil ?_
          refine au_then ?_
          refine wp_cond_true (by kernel_rfl) ?_
          refine wp_skip ?_
          refine au_then ?_
          refine wp_cond_true (by kernel_rfl) ?_
          refine wp_seq ?_
          refine rg_lit ?_
          refine pl_val (want_no rfl) (some 30) rfl (.pointer (some ⟨gr, 0, none⟩)) (fun _ => by kernel_rfl) ?_
          refine pl_val (want_no rfl) (some 31) rfl (.pointer (some ⟨gr, 0, none⟩)) (fun _ => by kernel_rfl) ?_
          refine pl_val (want_no rfl) (some 32) rfl (.pointer (some ⟨gr, 2, none⟩)) (fun _ => by kernel_rfl) ?_
          refine pl_cell M (want_no rfl) (some 33) rfl 71 _ rfl gr 2 (by kernel_rfl) (.pointer (some ⟨g, 0, none⟩)) (fun _ => by kernel_rfl) (fun w M => M.cell 0 rfl (by decide) rfl) ?_
          refine pl_callp M (want_no rfl) (some 34) rfl 53 #[.pointer (some ⟨g, 0, none⟩)] (.int .u64 (bnv (tkV r_.s r_.f 8))) 1 g (.cells (av 3 (ls [.bool true, .string r_.s, .int .i64 r_.f])) 112) (.cells (av 3 (ls [.bool true, .string (tkS r_.s r_.f 8), .int .i64 (tkF r_.s r_.f 8)])) 112) rfl (fun _ => by kernel_rfl) (fun w M => r_U64 g r_.s r_.f w M.laid (M.get 1 rfl)) ?_
          intro u3 M
          replace M : Mem ⟨w, [gr, g]⟩ [⟨gr, .cells (av 4 (ls [.int .u8 kd, .int .u16 h, .pointer (some ⟨g, 0, none⟩), .int .i64 r_.e])) 73⟩, ⟨g, .cells (av 3 (ls [.bool true, .string (tkS r_.s r_.f 8), .int .i64 (tkF r_.s r_.f 8)])) 112⟩, ⟨g1, .cells (av 6 (ls [.int .u64 v.n, .string v.t, .bool (v.v), .int .u64 v.h, .int .u64 v.l, .int .u16 v.p])) 86⟩, ⟨g2, .cells (av 6 (ls [.int .u64 0, .string ⟨#[]⟩, .bool false, .int .u64 0, .int .u64 0, .int .u16 0])) 86⟩] u3 := M
          refine pl_val (want_no rfl) (some 35) rfl (.agg (av 6 (ls [.int .u64 (bnv (tkV r_.s r_.f 8)), .string ⟨#[]⟩, .bool false, .int .u64 0, .int .u64 0, .int .u16 0]))) (fun _ => by kernel_rfl) ?_
          refine pl_put M (want_no rfl) rfl 86 _ _ rfl 3 g2 0 (by kernel_rfl) 6 86 (ls [.int .u64 0, .string ⟨#[]⟩, .bool false, .int .u64 0, .int .u64 0, .int .u16 0]) rfl 6 (ls [.int .u64 (bnv (tkV r_.s r_.f 8)), .string ⟨#[]⟩, .bool false, .int .u64 0, .int .u64 0, .int .u16 0]) (ls [.int .u64 (bnv (tkV r_.s r_.f 8)), .string ⟨#[]⟩, .bool false, .int .u64 0, .int .u64 0, .int .u16 0]) (by kernel_rfl) inz86 (by decide) (one_ls _ rfl) (fun j hj => by rw [if_pos (by omega), Nat.sub_zero]) ?_
          intro u4 M
          replace M : Mem ⟨w, [gr, g]⟩ [⟨gr, .cells (av 4 (ls [.int .u8 kd, .int .u16 h, .pointer (some ⟨g, 0, none⟩), .int .i64 r_.e])) 73⟩, ⟨g, .cells (av 3 (ls [.bool true, .string (tkS r_.s r_.f 8), .int .i64 (tkF r_.s r_.f 8)])) 112⟩, ⟨g1, .cells (av 6 (ls [.int .u64 v.n, .string v.t, .bool (v.v), .int .u64 v.h, .int .u64 v.l, .int .u16 v.p])) 86⟩, ⟨g2, .cells (av 6 (ls [.int .u64 (bnv (tkV r_.s r_.f 8)), .string ⟨#[]⟩, .bool false, .int .u64 0, .int .u64 0, .int .u16 0])) 86⟩] u4 := M
          refine pl_nil ?_
          refine au_then ?_
          refine wp_ret ?_
          refine au_block_ret ?_
          refine au_then_ret ?_
          have e0 : (rdV h o r_).n = (bnv (tkV r_.s r_.f 8)) := by simp only [rdS, rdV, vN, vT, tkR, if_neg c0, if_neg c1, if_neg c2, if_pos c3]
          have e1 : (rdV h o r_).t = ⟨#[]⟩ := by simp only [rdS, rdV, vN, vT, tkR, if_neg c0, if_neg c1, if_neg c2, if_pos c3]
          have e2 : (rdV h o r_).v = false := by simp only [rdS, rdV, vN, vT, tkR, if_neg c0, if_neg c1, if_neg c2, if_pos c3]
          have e3 : (rdV h o r_).h = 0 := by simp only [rdS, rdV, vN, vT, tkR, if_neg c0, if_neg c1, if_neg c2, if_pos c3]
          have e4 : (rdV h o r_).l = 0 := by simp only [rdS, rdV, vN, vT, tkR, if_neg c0, if_neg c1, if_neg c2, if_pos c3]
          have e5 : (rdV h o r_).p = 0 := by simp only [rdS, rdV, vN, vT, tkR, if_neg c0, if_neg c1, if_neg c2, if_pos c3]
          have e6 : (rdS h o r_).e = r_.e := by simp only [rdS, rdV, vN, vT, tkR, if_neg c0, if_neg c1, if_neg c2, if_pos c3]
          have e7 : (rdS h o r_).s = (tkS r_.s r_.f 8) := by simp only [rdS, rdV, vN, vT, tkR, if_neg c0, if_neg c1, if_neg c2, if_pos c3]
          have e8 : (rdS h o r_).f = (tkF r_.s r_.f 8) := by simp only [rdS, rdV, vN, vT, tkR, if_neg c0, if_neg c1, if_neg c2, if_pos c3]
          exact bodyPost_ret (v := .agg (av 6 (ls [.int .u64 (bnv (tkV r_.s r_.f 8)), .string ⟨#[]⟩, .bool false, .int .u64 0, .int .u64 0, .int .u16 0]))) (results_cell_row Try.results32 _ _ g2 86 (av 6 (ls [.int .u64 (bnv (tkV r_.s r_.f 8)), .string ⟨#[]⟩, .bool false, .int .u64 0, .int .u64 0, .int .u16 0])) (0, 0) _ (by kernel_rfl) (M.get 3 rfl) Try.underlying86 rfl (by rw [av_size]; exact inz86)) (by kernel_rfl) ⟨by rw [e0, e1, e2, e3, e4, e5], M.old, by simpa only [e0, e1, e2, e3, e4, e5, e6, e7, e8] using M.get 0 rfl, by simpa only [e0, e1, e2, e3, e4, e5, e6, e7, e8] using M.get 1 rfl⟩
        · skip
          refine pl_val (want_no rfl) (some 27) rfl (.bool false) (fun w => Eq.trans (b := .ok (.value (.bool (decide (o = 16)))) w) (by kernel_rfl) (by rw [decide_eq_false (c3)])) ?_
          refine pl_val (want_no rfl) (some 26) rfl (.bool false) (fun _ => by kernel_rfl) ?_
          refine pl_nil ?_
          refine au_then ?_
          refine wp_cond_false (by kernel_rfl) ?_
          refine wp_seq ?_
          refine rg_lit ?_
          by_cases c4 : o = 32
          · skip
            refine pl_val (want_no rfl) (some 28) rfl (.bool true) (fun w => Eq.trans (b := .ok (.value (.bool (decide (o = 32)))) w) (by kernel_rfl) (by rw [decide_eq_true (c4)])) ?_
            refine pl_val (want_no rfl) (some 26) rfl (.bool true) (fun _ => by kernel_rfl) ?_
            refine pl_nil ?_
            refine au_then ?_
            refine wp_cond_true (by kernel_rfl) ?_
            refine wp_skip ?_
            refine au_then ?_
            refine wp_cond_true (by kernel_rfl) ?_
            refine wp_seq ?_
            refine rg_lit ?_
            refine pl_val (want_no rfl) (some 30) rfl (.pointer (some ⟨gr, 0, none⟩)) (fun _ => by kernel_rfl) ?_
            refine pl_val (want_no rfl) (some 31) rfl (.pointer (some ⟨gr, 0, none⟩)) (fun _ => by kernel_rfl) ?_
            refine pl_val (want_no rfl) (some 32) rfl (.pointer (some ⟨gr, 2, none⟩)) (fun _ => by kernel_rfl) ?_
            refine pl_cell M (want_no rfl) (some 33) rfl 71 _ rfl gr 2 (by kernel_rfl) (.pointer (some ⟨g, 0, none⟩)) (fun _ => by kernel_rfl) (fun w M => M.cell 0 rfl (by decide) rfl) ?_
            refine pl_callp M (want_no rfl) (some 34) rfl 53 #[.pointer (some ⟨g, 0, none⟩)] (.int .u64 (bnv (tkV r_.s r_.f 8))) 1 g (.cells (av 3 (ls [.bool true, .string r_.s, .int .i64 r_.f])) 112) (.cells (av 3 (ls [.bool true, .string (tkS r_.s r_.f 8), .int .i64 (tkF r_.s r_.f 8)])) 112) rfl (fun _ => by kernel_rfl) (fun w M => r_U64 g r_.s r_.f w M.laid (M.get 1 rfl)) ?_
            intro u3 M
            replace M : Mem ⟨w, [gr, g]⟩ [⟨gr, .cells (av 4 (ls [.int .u8 kd, .int .u16 h, .pointer (some ⟨g, 0, none⟩), .int .i64 r_.e])) 73⟩, ⟨g, .cells (av 3 (ls [.bool true, .string (tkS r_.s r_.f 8), .int .i64 (tkF r_.s r_.f 8)])) 112⟩, ⟨g1, .cells (av 6 (ls [.int .u64 v.n, .string v.t, .bool (v.v), .int .u64 v.h, .int .u64 v.l, .int .u16 v.p])) 86⟩, ⟨g2, .cells (av 6 (ls [.int .u64 0, .string ⟨#[]⟩, .bool false, .int .u64 0, .int .u64 0, .int .u16 0])) 86⟩] u3 := M
            refine pl_val (want_no rfl) (some 35) rfl (.agg (av 6 (ls [.int .u64 (bnv (tkV r_.s r_.f 8)), .string ⟨#[]⟩, .bool false, .int .u64 0, .int .u64 0, .int .u16 0]))) (fun _ => by kernel_rfl) ?_
            refine pl_put M (want_no rfl) rfl 86 _ _ rfl 3 g2 0 (by kernel_rfl) 6 86 (ls [.int .u64 0, .string ⟨#[]⟩, .bool false, .int .u64 0, .int .u64 0, .int .u16 0]) rfl 6 (ls [.int .u64 (bnv (tkV r_.s r_.f 8)), .string ⟨#[]⟩, .bool false, .int .u64 0, .int .u64 0, .int .u16 0]) (ls [.int .u64 (bnv (tkV r_.s r_.f 8)), .string ⟨#[]⟩, .bool false, .int .u64 0, .int .u64 0, .int .u16 0]) (by kernel_rfl) inz86 (by decide) (one_ls _ rfl) (fun j hj => by rw [if_pos (by omega), Nat.sub_zero]) ?_
            intro u4 M
            replace M : Mem ⟨w, [gr, g]⟩ [⟨gr, .cells (av 4 (ls [.int .u8 kd, .int .u16 h, .pointer (some ⟨g, 0, none⟩), .int .i64 r_.e])) 73⟩, ⟨g, .cells (av 3 (ls [.bool true, .string (tkS r_.s r_.f 8), .int .i64 (tkF r_.s r_.f 8)])) 112⟩, ⟨g1, .cells (av 6 (ls [.int .u64 v.n, .string v.t, .bool (v.v), .int .u64 v.h, .int .u64 v.l, .int .u16 v.p])) 86⟩, ⟨g2, .cells (av 6 (ls [.int .u64 (bnv (tkV r_.s r_.f 8)), .string ⟨#[]⟩, .bool false, .int .u64 0, .int .u64 0, .int .u16 0])) 86⟩] u4 := M
            refine pl_nil ?_
            refine au_then ?_
            refine wp_ret ?_
            refine au_block_ret ?_
            refine au_then_ret ?_
            have e0 : (rdV h o r_).n = (bnv (tkV r_.s r_.f 8)) := by simp only [rdS, rdV, vN, vT, tkR, if_neg c0, if_neg c1, if_neg c2, if_neg c3, if_pos c4]
            have e1 : (rdV h o r_).t = ⟨#[]⟩ := by simp only [rdS, rdV, vN, vT, tkR, if_neg c0, if_neg c1, if_neg c2, if_neg c3, if_pos c4]
            have e2 : (rdV h o r_).v = false := by simp only [rdS, rdV, vN, vT, tkR, if_neg c0, if_neg c1, if_neg c2, if_neg c3, if_pos c4]
            have e3 : (rdV h o r_).h = 0 := by simp only [rdS, rdV, vN, vT, tkR, if_neg c0, if_neg c1, if_neg c2, if_neg c3, if_pos c4]
            have e4 : (rdV h o r_).l = 0 := by simp only [rdS, rdV, vN, vT, tkR, if_neg c0, if_neg c1, if_neg c2, if_neg c3, if_pos c4]
            have e5 : (rdV h o r_).p = 0 := by simp only [rdS, rdV, vN, vT, tkR, if_neg c0, if_neg c1, if_neg c2, if_neg c3, if_pos c4]
            have e6 : (rdS h o r_).e = r_.e := by simp only [rdS, rdV, vN, vT, tkR, if_neg c0, if_neg c1, if_neg c2, if_neg c3, if_pos c4]
            have e7 : (rdS h o r_).s = (tkS r_.s r_.f 8) := by simp only [rdS, rdV, vN, vT, tkR, if_neg c0, if_neg c1, if_neg c2, if_neg c3, if_pos c4]
            have e8 : (rdS h o r_).f = (tkF r_.s r_.f 8) := by simp only [rdS, rdV, vN, vT, tkR, if_neg c0, if_neg c1, if_neg c2, if_neg c3, if_pos c4]
            exact bodyPost_ret (v := .agg (av 6 (ls [.int .u64 (bnv (tkV r_.s r_.f 8)), .string ⟨#[]⟩, .bool false, .int .u64 0, .int .u64 0, .int .u16 0]))) (results_cell_row Try.results32 _ _ g2 86 (av 6 (ls [.int .u64 (bnv (tkV r_.s r_.f 8)), .string ⟨#[]⟩, .bool false, .int .u64 0, .int .u64 0, .int .u16 0])) (0, 0) _ (by kernel_rfl) (M.get 3 rfl) Try.underlying86 rfl (by rw [av_size]; exact inz86)) (by kernel_rfl) ⟨by rw [e0, e1, e2, e3, e4, e5], M.old, by simpa only [e0, e1, e2, e3, e4, e5, e6, e7, e8] using M.get 0 rfl, by simpa only [e0, e1, e2, e3, e4, e5, e6, e7, e8] using M.get 1 rfl⟩
          · skip
            refine pl_val (want_no rfl) (some 28) rfl (.bool false) (fun w => Eq.trans (b := .ok (.value (.bool (decide (o = 32)))) w) (by kernel_rfl) (by rw [decide_eq_false (c4)])) ?_
            refine pl_val (want_no rfl) (some 26) rfl (.bool false) (fun _ => by kernel_rfl) ?_
            refine pl_nil ?_
            refine au_then ?_
            refine wp_cond_false (by kernel_rfl) ?_
            refine rg_lit ?_
            by_cases c5 : o = 64
            · skip
              refine pl_val (want_no rfl) (some 29) rfl (.bool true) (fun w => Eq.trans (b := .ok (.value (.bool (decide (o = 64)))) w) (by kernel_rfl) (by rw [decide_eq_true (c5)])) ?_
              refine pl_val (want_no rfl) (some 26) rfl (.bool true) (fun _ => by kernel_rfl) ?_
              refine pl_nil ?_
              refine au_then ?_
              refine wp_cond_true (by kernel_rfl) ?_
              refine wp_seq ?_
              refine rg_lit ?_
              refine pl_val (want_no rfl) (some 30) rfl (.pointer (some ⟨gr, 0, none⟩)) (fun _ => by kernel_rfl) ?_
              refine pl_val (want_no rfl) (some 31) rfl (.pointer (some ⟨gr, 0, none⟩)) (fun _ => by kernel_rfl) ?_
              refine pl_val (want_no rfl) (some 32) rfl (.pointer (some ⟨gr, 2, none⟩)) (fun _ => by kernel_rfl) ?_
              refine pl_cell M (want_no rfl) (some 33) rfl 71 _ rfl gr 2 (by kernel_rfl) (.pointer (some ⟨g, 0, none⟩)) (fun _ => by kernel_rfl) (fun w M => M.cell 0 rfl (by decide) rfl) ?_
              refine pl_callp M (want_no rfl) (some 34) rfl 53 #[.pointer (some ⟨g, 0, none⟩)] (.int .u64 (bnv (tkV r_.s r_.f 8))) 1 g (.cells (av 3 (ls [.bool true, .string r_.s, .int .i64 r_.f])) 112) (.cells (av 3 (ls [.bool true, .string (tkS r_.s r_.f 8), .int .i64 (tkF r_.s r_.f 8)])) 112) rfl (fun _ => by kernel_rfl) (fun w M => r_U64 g r_.s r_.f w M.laid (M.get 1 rfl)) ?_
              intro u3 M
              replace M : Mem ⟨w, [gr, g]⟩ [⟨gr, .cells (av 4 (ls [.int .u8 kd, .int .u16 h, .pointer (some ⟨g, 0, none⟩), .int .i64 r_.e])) 73⟩, ⟨g, .cells (av 3 (ls [.bool true, .string (tkS r_.s r_.f 8), .int .i64 (tkF r_.s r_.f 8)])) 112⟩, ⟨g1, .cells (av 6 (ls [.int .u64 v.n, .string v.t, .bool (v.v), .int .u64 v.h, .int .u64 v.l, .int .u16 v.p])) 86⟩, ⟨g2, .cells (av 6 (ls [.int .u64 0, .string ⟨#[]⟩, .bool false, .int .u64 0, .int .u64 0, .int .u16 0])) 86⟩] u3 := M
              refine pl_val (want_no rfl) (some 35) rfl (.agg (av 6 (ls [.int .u64 (bnv (tkV r_.s r_.f 8)), .string ⟨#[]⟩, .bool false, .int .u64 0, .int .u64 0, .int .u16 0]))) (fun _ => by kernel_rfl) ?_
              refine pl_put M (want_no rfl) rfl 86 _ _ rfl 3 g2 0 (by kernel_rfl) 6 86 (ls [.int .u64 0, .string ⟨#[]⟩, .bool false, .int .u64 0, .int .u64 0, .int .u16 0]) rfl 6 (ls [.int .u64 (bnv (tkV r_.s r_.f 8)), .string ⟨#[]⟩, .bool false, .int .u64 0, .int .u64 0, .int .u16 0]) (ls [.int .u64 (bnv (tkV r_.s r_.f 8)), .string ⟨#[]⟩, .bool false, .int .u64 0, .int .u64 0, .int .u16 0]) (by kernel_rfl) inz86 (by decide) (one_ls _ rfl) (fun j hj => by rw [if_pos (by omega), Nat.sub_zero]) ?_
              intro u4 M
              replace M : Mem ⟨w, [gr, g]⟩ [⟨gr, .cells (av 4 (ls [.int .u8 kd, .int .u16 h, .pointer (some ⟨g, 0, none⟩), .int .i64 r_.e])) 73⟩, ⟨g, .cells (av 3 (ls [.bool true, .string (tkS r_.s r_.f 8), .int .i64 (tkF r_.s r_.f 8)])) 112⟩, ⟨g1, .cells (av 6 (ls [.int .u64 v.n, .string v.t, .bool (v.v), .int .u64 v.h, .int .u64 v.l, .int .u16 v.p])) 86⟩, ⟨g2, .cells (av 6 (ls [.int .u64 (bnv (tkV r_.s r_.f 8)), .string ⟨#[]⟩, .bool false, .int .u64 0, .int .u64 0, .int .u16 0])) 86⟩] u4 := M
              refine pl_nil ?_
              refine au_then ?_
              refine wp_ret ?_
              refine au_block_ret ?_
              refine au_then_ret ?_
              have e0 : (rdV h o r_).n = (bnv (tkV r_.s r_.f 8)) := by simp only [rdS, rdV, vN, vT, tkR, if_neg c0, if_neg c1, if_neg c2, if_neg c3, if_neg c4, if_pos c5]
              have e1 : (rdV h o r_).t = ⟨#[]⟩ := by simp only [rdS, rdV, vN, vT, tkR, if_neg c0, if_neg c1, if_neg c2, if_neg c3, if_neg c4, if_pos c5]
              have e2 : (rdV h o r_).v = false := by simp only [rdS, rdV, vN, vT, tkR, if_neg c0, if_neg c1, if_neg c2, if_neg c3, if_neg c4, if_pos c5]
              have e3 : (rdV h o r_).h = 0 := by simp only [rdS, rdV, vN, vT, tkR, if_neg c0, if_neg c1, if_neg c2, if_neg c3, if_neg c4, if_pos c5]
              have e4 : (rdV h o r_).l = 0 := by simp only [rdS, rdV, vN, vT, tkR, if_neg c0, if_neg c1, if_neg c2, if_neg c3, if_neg c4, if_pos c5]
              have e5 : (rdV h o r_).p = 0 := by simp only [rdS, rdV, vN, vT, tkR, if_neg c0, if_neg c1, if_neg c2, if_neg c3, if_neg c4, if_pos c5]
              have e6 : (rdS h o r_).e = r_.e := by simp only [rdS, rdV, vN, vT, tkR, if_neg c0, if_neg c1, if_neg c2, if_neg c3, if_neg c4, if_pos c5]
              have e7 : (rdS h o r_).s = (tkS r_.s r_.f 8) := by simp only [rdS, rdV, vN, vT, tkR, if_neg c0, if_neg c1, if_neg c2, if_neg c3, if_neg c4, if_pos c5]
              have e8 : (rdS h o r_).f = (tkF r_.s r_.f 8) := by simp only [rdS, rdV, vN, vT, tkR, if_neg c0, if_neg c1, if_neg c2, if_neg c3, if_neg c4, if_pos c5]
              exact bodyPost_ret (v := .agg (av 6 (ls [.int .u64 (bnv (tkV r_.s r_.f 8)), .string ⟨#[]⟩, .bool false, .int .u64 0, .int .u64 0, .int .u16 0]))) (results_cell_row Try.results32 _ _ g2 86 (av 6 (ls [.int .u64 (bnv (tkV r_.s r_.f 8)), .string ⟨#[]⟩, .bool false, .int .u64 0, .int .u64 0, .int .u16 0])) (0, 0) _ (by kernel_rfl) (M.get 3 rfl) Try.underlying86 rfl (by rw [av_size]; exact inz86)) (by kernel_rfl) ⟨by rw [e0, e1, e2, e3, e4, e5], M.old, by simpa only [e0, e1, e2, e3, e4, e5, e6, e7, e8] using M.get 0 rfl, by simpa only [e0, e1, e2, e3, e4, e5, e6, e7, e8] using M.get 1 rfl⟩
            · skip
              refine pl_val (want_no rfl) (some 29) rfl (.bool false) (fun w => Eq.trans (b := .ok (.value (.bool (decide (o = 64)))) w) (by kernel_rfl) (by rw [decide_eq_false (c5)])) ?_
              refine pl_val (want_no rfl) (some 26) rfl (.bool false) (fun _ => by kernel_rfl) ?_
              refine pl_nil ?_
              refine au_then ?_
              refine wp_cond_false (by kernel_rfl) ?_
              refine wp_seq ?_
              refine rg_lit ?_
              by_cases c6 : o = 512
              · skip
                refine pl_val (want_no rfl) (some 37) rfl (.bool true) (fun w => Eq.trans (b := .ok (.value (.bool (decide (o = 512)))) w) (by kernel_rfl) (by rw [decide_eq_true (c6)])) ?_
                refine pl_val (want_no rfl) (some 36) rfl (.bool true) (fun _ => by kernel_rfl) ?_
                refine pl_nil ?_
                refine au_then ?_
                refine wp_cond_true (by kernel_rfl) ?_
                refine wp_seq ?_
                refine rg_lit ?_
                refine pl_val (want_no rfl) (some 38) rfl (.pointer (some ⟨gr, 0, none⟩)) (fun _ => by kernel_rfl) ?_
                refine pl_val (want_no rfl) (some 39) rfl (.pointer (some ⟨gr, 0, none⟩)) (fun _ => by kernel_rfl) ?_
                refine pl_val (want_no rfl) (some 40) rfl (.pointer (some ⟨gr, 2, none⟩)) (fun _ => by kernel_rfl) ?_
                refine pl_cell M (want_no rfl) (some 41) rfl 71 _ rfl gr 2 (by kernel_rfl) (.pointer (some ⟨g, 0, none⟩)) (fun _ => by kernel_rfl) (fun w M => M.cell 0 rfl (by decide) rfl) ?_
                refine pl_callp M (want_no rfl) (some 42) rfl 54 #[.pointer (some ⟨g, 0, none⟩)] (.int .u16 (cv .u16 (bnv (tkV r_.s r_.f 2)))) 1 g (.cells (av 3 (ls [.bool true, .string r_.s, .int .i64 r_.f])) 112) (.cells (av 3 (ls [.bool true, .string (tkS r_.s r_.f 2), .int .i64 (tkF r_.s r_.f 2)])) 112) rfl (fun _ => by kernel_rfl) (fun w M => r_U16 g r_.s r_.f w M.laid (M.get 1 rfl)) ?_
                intro u3 M
                replace M : Mem ⟨w, [gr, g]⟩ [⟨gr, .cells (av 4 (ls [.int .u8 kd, .int .u16 h, .pointer (some ⟨g, 0, none⟩), .int .i64 r_.e])) 73⟩, ⟨g, .cells (av 3 (ls [.bool true, .string (tkS r_.s r_.f 2), .int .i64 (tkF r_.s r_.f 2)])) 112⟩, ⟨g1, .cells (av 6 (ls [.int .u64 v.n, .string v.t, .bool (v.v), .int .u64 v.h, .int .u64 v.l, .int .u16 v.p])) 86⟩, ⟨g2, .cells (av 6 (ls [.int .u64 0, .string ⟨#[]⟩, .bool false, .int .u64 0, .int .u64 0, .int .u16 0])) 86⟩] u3 := M
                refine pl_val (want_no rfl) (some 43) rfl (.int .u64 (cv .u64 (cv .u16 (bnv (tkV r_.s r_.f 2))))) (fun _ => by kernel_rfl) ?_
                refine pl_val (want_no rfl) (some 44) rfl (.agg (av 6 (ls [.int .u64 (cv .u64 (cv .u16 (bnv (tkV r_.s r_.f 2)))), .string ⟨#[]⟩, .bool false, .int .u64 0, .int .u64 0, .int .u16 0]))) (fun _ => by kernel_rfl) ?_
                refine pl_put M (want_no rfl) rfl 86 _ _ rfl 3 g2 0 (by kernel_rfl) 6 86 (ls [.int .u64 0, .string ⟨#[]⟩, .bool false, .int .u64 0, .int .u64 0, .int .u16 0]) rfl 6 (ls [.int .u64 (cv .u64 (cv .u16 (bnv (tkV r_.s r_.f 2)))), .string ⟨#[]⟩, .bool false, .int .u64 0, .int .u64 0, .int .u16 0]) (ls [.int .u64 (cv .u64 (cv .u16 (bnv (tkV r_.s r_.f 2)))), .string ⟨#[]⟩, .bool false, .int .u64 0, .int .u64 0, .int .u16 0]) (by kernel_rfl) inz86 (by decide) (one_ls _ rfl) (fun j hj => by rw [if_pos (by omega), Nat.sub_zero]) ?_
                intro u4 M
                replace M : Mem ⟨w, [gr, g]⟩ [⟨gr, .cells (av 4 (ls [.int .u8 kd, .int .u16 h, .pointer (some ⟨g, 0, none⟩), .int .i64 r_.e])) 73⟩, ⟨g, .cells (av 3 (ls [.bool true, .string (tkS r_.s r_.f 2), .int .i64 (tkF r_.s r_.f 2)])) 112⟩, ⟨g1, .cells (av 6 (ls [.int .u64 v.n, .string v.t, .bool (v.v), .int .u64 v.h, .int .u64 v.l, .int .u16 v.p])) 86⟩, ⟨g2, .cells (av 6 (ls [.int .u64 (cv .u64 (cv .u16 (bnv (tkV r_.s r_.f 2)))), .string ⟨#[]⟩, .bool false, .int .u64 0, .int .u64 0, .int .u16 0])) 86⟩] u4 := M
                refine pl_nil ?_
                refine au_then ?_
                refine wp_ret ?_
                refine au_block_ret ?_
                refine au_then_ret ?_
                have e0 : (rdV h o r_).n = (cv .u64 (cv .u16 (bnv (tkV r_.s r_.f 2)))) := by simp only [rdS, rdV, vN, vT, tkR, if_neg c0, if_neg c1, if_neg c2, if_neg c3, if_neg c4, if_neg c5, if_pos c6]
                have e1 : (rdV h o r_).t = ⟨#[]⟩ := by simp only [rdS, rdV, vN, vT, tkR, if_neg c0, if_neg c1, if_neg c2, if_neg c3, if_neg c4, if_neg c5, if_pos c6]
                have e2 : (rdV h o r_).v = false := by simp only [rdS, rdV, vN, vT, tkR, if_neg c0, if_neg c1, if_neg c2, if_neg c3, if_neg c4, if_neg c5, if_pos c6]
                have e3 : (rdV h o r_).h = 0 := by simp only [rdS, rdV, vN, vT, tkR, if_neg c0, if_neg c1, if_neg c2, if_neg c3, if_neg c4, if_neg c5, if_pos c6]
                have e4 : (rdV h o r_).l = 0 := by simp only [rdS, rdV, vN, vT, tkR, if_neg c0, if_neg c1, if_neg c2, if_neg c3, if_neg c4, if_neg c5, if_pos c6]
                have e5 : (rdV h o r_).p = 0 := by simp only [rdS, rdV, vN, vT, tkR, if_neg c0, if_neg c1, if_neg c2, if_neg c3, if_neg c4, if_neg c5, if_pos c6]
                have e6 : (rdS h o r_).e = r_.e := by simp only [rdS, rdV, vN, vT, tkR, if_neg c0, if_neg c1, if_neg c2, if_neg c3, if_neg c4, if_neg c5, if_pos c6]
                have e7 : (rdS h o r_).s = (tkS r_.s r_.f 2) := by simp only [rdS, rdV, vN, vT, tkR, if_neg c0, if_neg c1, if_neg c2, if_neg c3, if_neg c4, if_neg c5, if_pos c6]
                have e8 : (rdS h o r_).f = (tkF r_.s r_.f 2) := by simp only [rdS, rdV, vN, vT, tkR, if_neg c0, if_neg c1, if_neg c2, if_neg c3, if_neg c4, if_neg c5, if_pos c6]
                exact bodyPost_ret (v := .agg (av 6 (ls [.int .u64 (cv .u64 (cv .u16 (bnv (tkV r_.s r_.f 2)))), .string ⟨#[]⟩, .bool false, .int .u64 0, .int .u64 0, .int .u16 0]))) (results_cell_row Try.results32 _ _ g2 86 (av 6 (ls [.int .u64 (cv .u64 (cv .u16 (bnv (tkV r_.s r_.f 2)))), .string ⟨#[]⟩, .bool false, .int .u64 0, .int .u64 0, .int .u16 0])) (0, 0) _ (by kernel_rfl) (M.get 3 rfl) Try.underlying86 rfl (by rw [av_size]; exact inz86)) (by kernel_rfl) ⟨by rw [e0, e1, e2, e3, e4, e5], M.old, by simpa only [e0, e1, e2, e3, e4, e5, e6, e7, e8] using M.get 0 rfl, by simpa only [e0, e1, e2, e3, e4, e5, e6, e7, e8] using M.get 1 rfl⟩
              · skip
                refine pl_val (want_no rfl) (some 37) rfl (.bool false) (fun w => Eq.trans (b := .ok (.value (.bool (decide (o = 512)))) w) (by kernel_rfl) (by rw [decide_eq_false (c6)])) ?_
                refine pl_val (want_no rfl) (some 36) rfl (.bool false) (fun _ => by kernel_rfl) ?_
                refine pl_nil ?_
                refine au_then ?_
                refine wp_cond_false (by kernel_rfl) ?_
                refine wp_seq ?_
                refine rg_lit ?_
                by_cases c7 : o = 256
                · skip
                  refine pl_val (want_no rfl) (some 46) rfl (.bool true) (fun w => Eq.trans (b := .ok (.value (.bool (decide (o = 256)))) w) (by kernel_rfl) (by rw [decide_eq_true (c7)])) ?_
                  refine pl_val (want_no rfl) (some 45) rfl (.bool true) (fun _ => by kernel_rfl) ?_
                  refine pl_nil ?_
                  refine au_then ?_
                  refine wp_cond_true (by kernel_rfl) ?_
                  refine wp_seq ?_
                  refine rg_lit ?_
                  refine pl_val (want_no rfl) (some 47) rfl (.pointer (some ⟨gr, 0, none⟩)) (fun _ => by kernel_rfl) ?_
                  refine pl_call2 M (want_no rfl) (some 48) rfl 55 #[.pointer (some ⟨gr, 0, none⟩)] (.agg (av 4 (ls [.bool (reV r_), .int .u64 (reH r_), .int .u64 (reL r_), .int .u16 (reP r_)]))) 0 1 gr g (.cells (av 4 (ls [.int .u8 kd, .int .u16 h, .pointer (some ⟨g, 0, none⟩), .int .i64 r_.e])) 73) (.cells (av 3 (ls [.bool true, .string r_.s, .int .i64 r_.f])) 112) (.cells (av 4 (ls [.int .u8 kd, .int .u16 h, .pointer (some ⟨g, 0, none⟩), .int .i64 (reS r_).e])) 73) (.cells (av 3 (ls [.bool true, .string (reS r_).s, .int .i64 (reS r_).f])) 112) rfl rfl (fun _ => by kernel_rfl) (fun w M => r_readEnd gr g kd h r_ w M.laid (M.get 0 rfl) (M.get 1 rfl) (nodup_at M.nodup (i := 0) (j := 1) rfl rfl (by decide))) ?_
                  intro u3 M
                  replace M : Mem ⟨w, [gr, g]⟩ [⟨gr, .cells (av 4 (ls [.int .u8 kd, .int .u16 h, .pointer (some ⟨g, 0, none⟩), .int .i64 (reS r_).e])) 73⟩, ⟨g, .cells (av 3 (ls [.bool true, .string (reS r_).s, .int .i64 (reS r_).f])) 112⟩, ⟨g1, .cells (av 6 (ls [.int .u64 v.n, .string v.t, .bool (v.v), .int .u64 v.h, .int .u64 v.l, .int .u16 v.p])) 86⟩, ⟨g2, .cells (av 6 (ls [.int .u64 0, .string ⟨#[]⟩, .bool false, .int .u64 0, .int .u64 0, .int .u16 0])) 86⟩] u3 := M
                  refine pl_val (want_no rfl) (some 49) rfl (.agg (av 6 (ls [.int .u64 0, .string ⟨#[]⟩, .bool (reV r_), .int .u64 (reH r_), .int .u64 (reL r_), .int .u16 (reP r_)]))) (fun _ => by kernel_rfl) ?_
                  refine pl_put M (want_no rfl) rfl 86 _ _ rfl 3 g2 0 (by kernel_rfl) 6 86 (ls [.int .u64 0, .string ⟨#[]⟩, .bool false, .int .u64 0, .int .u64 0, .int .u16 0]) rfl 6 (ls [.int .u64 0, .string ⟨#[]⟩, .bool (reV r_), .int .u64 (reH r_), .int .u64 (reL r_), .int .u16 (reP r_)]) (ls [.int .u64 0, .string ⟨#[]⟩, .bool (reV r_), .int .u64 (reH r_), .int .u64 (reL r_), .int .u16 (reP r_)]) (by kernel_rfl) inz86 (by decide) (one_ls _ rfl) (fun j hj => by rw [if_pos (by omega), Nat.sub_zero]) ?_
                  intro u4 M
                  replace M : Mem ⟨w, [gr, g]⟩ [⟨gr, .cells (av 4 (ls [.int .u8 kd, .int .u16 h, .pointer (some ⟨g, 0, none⟩), .int .i64 (reS r_).e])) 73⟩, ⟨g, .cells (av 3 (ls [.bool true, .string (reS r_).s, .int .i64 (reS r_).f])) 112⟩, ⟨g1, .cells (av 6 (ls [.int .u64 v.n, .string v.t, .bool (v.v), .int .u64 v.h, .int .u64 v.l, .int .u16 v.p])) 86⟩, ⟨g2, .cells (av 6 (ls [.int .u64 0, .string ⟨#[]⟩, .bool (reV r_), .int .u64 (reH r_), .int .u64 (reL r_), .int .u16 (reP r_)])) 86⟩] u4 := M
                  refine pl_nil ?_
                  refine au_then ?_
                  refine wp_ret ?_
                  refine au_block_ret ?_
                  refine au_then_ret ?_
                  have e0 : (rdV h o r_).n = 0 := by simp only [rdS, rdV, vN, vT, tkR, if_neg c0, if_neg c1, if_neg c2, if_neg c3, if_neg c4, if_neg c5, if_neg c6, if_pos c7]
                  have e1 : (rdV h o r_).t = ⟨#[]⟩ := by simp only [rdS, rdV, vN, vT, tkR, if_neg c0, if_neg c1, if_neg c2, if_neg c3, if_neg c4, if_neg c5, if_neg c6, if_pos c7]
                  have e2 : (rdV h o r_).v = reV r_ := by simp only [rdS, rdV, vN, vT, tkR, if_neg c0, if_neg c1, if_neg c2, if_neg c3, if_neg c4, if_neg c5, if_neg c6, if_pos c7]
                  have e3 : (rdV h o r_).h = (reH r_) := by simp only [rdS, rdV, vN, vT, tkR, if_neg c0, if_neg c1, if_neg c2, if_neg c3, if_neg c4, if_neg c5, if_neg c6, if_pos c7]
                  have e4 : (rdV h o r_).l = (reL r_) := by simp only [rdS, rdV, vN, vT, tkR, if_neg c0, if_neg c1, if_neg c2, if_neg c3, if_neg c4, if_neg c5, if_neg c6, if_pos c7]
                  have e5 : (rdV h o r_).p = (reP r_) := by simp only [rdS, rdV, vN, vT, tkR, if_neg c0, if_neg c1, if_neg c2, if_neg c3, if_neg c4, if_neg c5, if_neg c6, if_pos c7]
                  have e6 : (rdS h o r_).e = (reS r_).e := by simp only [rdS, rdV, vN, vT, tkR, if_neg c0, if_neg c1, if_neg c2, if_neg c3, if_neg c4, if_neg c5, if_neg c6, if_pos c7]
                  have e7 : (rdS h o r_).s = (reS r_).s := by simp only [rdS, rdV, vN, vT, tkR, if_neg c0, if_neg c1, if_neg c2, if_neg c3, if_neg c4, if_neg c5, if_neg c6, if_pos c7]
                  have e8 : (rdS h o r_).f = (reS r_).f := by simp only [rdS, rdV, vN, vT, tkR, if_neg c0, if_neg c1, if_neg c2, if_neg c3, if_neg c4, if_neg c5, if_neg c6, if_pos c7]
                  exact bodyPost_ret (v := .agg (av 6 (ls [.int .u64 0, .string ⟨#[]⟩, .bool (reV r_), .int .u64 (reH r_), .int .u64 (reL r_), .int .u16 (reP r_)]))) (results_cell_row Try.results32 _ _ g2 86 (av 6 (ls [.int .u64 0, .string ⟨#[]⟩, .bool (reV r_), .int .u64 (reH r_), .int .u64 (reL r_), .int .u16 (reP r_)])) (0, 0) _ (by kernel_rfl) (M.get 3 rfl) Try.underlying86 rfl (by rw [av_size]; exact inz86)) (by kernel_rfl) ⟨by rw [e0, e1, e2, e3, e4, e5], M.old, by simpa only [e0, e1, e2, e3, e4, e5, e6, e7, e8] using M.get 0 rfl, by simpa only [e0, e1, e2, e3, e4, e5, e6, e7, e8] using M.get 1 rfl⟩
                · skip
                  refine pl_val (want_no rfl) (some 46) rfl (.bool false) (fun w => Eq.trans (b := .ok (.value (.bool (decide (o = 256)))) w) (by kernel_rfl) (by rw [decide_eq_false (c7)])) ?_
                  refine pl_val (want_no rfl) (some 45) rfl (.bool false) (fun _ => by kernel_rfl) ?_
                  refine pl_nil ?_
                  refine au_then ?_
                  refine wp_cond_false (by kernel_rfl) ?_
                  refine wp_seq ?_
                  refine wp_seq ?_
                  refine rg_lit ?_
                  by_cases c8 : o = 1024
                  · skip
                    refine pl_val (want_no rfl) (some 51) rfl (.bool true) (fun w => Eq.trans (b := .ok (.value (.bool (decide (o = 1024)))) w) (by kernel_rfl) (by rw [decide_eq_true (c8)])) ?_
                    refine pl_val (want_no rfl) (some 50) rfl (.bool true) (fun _ => by kernel_rfl) ?_
                    refine pl_nil ?_
                    refine au_then ?_
                    refine wp_cond_true (by kernel_rfl) ?_
                    refine wp_skip ?_
                    refine au_then ?_
                    refine wp_cond_true (by kernel_rfl) ?_
                    refine wp_seq ?_
                    refine rg_lit ?_
                    refine pl_val (want_no rfl) (some 53) rfl (.pointer (some ⟨gr, 0, none⟩)) (fun _ => by kernel_rfl) ?_
                    refine pl_val (want_no rfl) (some 54) rfl (.int .u16 o) (fun _ => by kernel_rfl) ?_
                    refine pl_call M (want_no rfl) (some 55) rfl 48 #[.int .u16 o] (.int .i64 (moO o)) (fun _ => by kernel_rfl) (fun w M => c_mostOf o w M.laid) ?_
                    intro u3 M
                    refine pl_call2 M (want_no rfl) (some 56) rfl 56 #[.pointer (some ⟨gr, 0, none⟩), .int .i64 (moO o)] (.string (rtV r_ (moO o))) 0 1 gr g (.cells (av 4 (ls [.int .u8 kd, .int .u16 h, .pointer (some ⟨g, 0, none⟩), .int .i64 r_.e])) 73) (.cells (av 3 (ls [.bool true, .string r_.s, .int .i64 r_.f])) 112) (.cells (av 4 (ls [.int .u8 kd, .int .u16 h, .pointer (some ⟨g, 0, none⟩), .int .i64 (rtS r_ (moO o)).e])) 73) (.cells (av 3 (ls [.bool true, .string (rtS r_ (moO o)).s, .int .i64 (rtS r_ (moO o)).f])) 112) rfl rfl (fun _ => by kernel_rfl) (fun w M => r_readText gr g kd h r_ (moO o) w M.laid (M.get 0 rfl) (M.get 1 rfl) (nodup_at M.nodup (i := 0) (j := 1) rfl rfl (by decide))) ?_
                    intro u4 M
                    replace M : Mem ⟨w, [gr, g]⟩ [⟨gr, .cells (av 4 (ls [.int .u8 kd, .int .u16 h, .pointer (some ⟨g, 0, none⟩), .int .i64 (rtS r_ (moO o)).e])) 73⟩, ⟨g, .cells (av 3 (ls [.bool true, .string (rtS r_ (moO o)).s, .int .i64 (rtS r_ (moO o)).f])) 112⟩, ⟨g1, .cells (av 6 (ls [.int .u64 v.n, .string v.t, .bool (v.v), .int .u64 v.h, .int .u64 v.l, .int .u16 v.p])) 86⟩, ⟨g2, .cells (av 6 (ls [.int .u64 0, .string ⟨#[]⟩, .bool false, .int .u64 0, .int .u64 0, .int .u16 0])) 86⟩] u4 := M
                    refine pl_val (want_no rfl) (some 57) rfl (.agg (av 6 (ls [.int .u64 0, .string (rtV r_ (moO o)), .bool false, .int .u64 0, .int .u64 0, .int .u16 0]))) (fun _ => by kernel_rfl) ?_
                    refine pl_put M (want_no rfl) rfl 86 _ _ rfl 3 g2 0 (by kernel_rfl) 6 86 (ls [.int .u64 0, .string ⟨#[]⟩, .bool false, .int .u64 0, .int .u64 0, .int .u16 0]) rfl 6 (ls [.int .u64 0, .string (rtV r_ (moO o)), .bool false, .int .u64 0, .int .u64 0, .int .u16 0]) (ls [.int .u64 0, .string (rtV r_ (moO o)), .bool false, .int .u64 0, .int .u64 0, .int .u16 0]) (by kernel_rfl) inz86 (by decide) (one_ls _ rfl) (fun j hj => by rw [if_pos (by omega), Nat.sub_zero]) ?_
                    intro u5 M
                    replace M : Mem ⟨w, [gr, g]⟩ [⟨gr, .cells (av 4 (ls [.int .u8 kd, .int .u16 h, .pointer (some ⟨g, 0, none⟩), .int .i64 (rtS r_ (moO o)).e])) 73⟩, ⟨g, .cells (av 3 (ls [.bool true, .string (rtS r_ (moO o)).s, .int .i64 (rtS r_ (moO o)).f])) 112⟩, ⟨g1, .cells (av 6 (ls [.int .u64 v.n, .string v.t, .bool (v.v), .int .u64 v.h, .int .u64 v.l, .int .u16 v.p])) 86⟩, ⟨g2, .cells (av 6 (ls [.int .u64 0, .string (rtV r_ (moO o)), .bool false, .int .u64 0, .int .u64 0, .int .u16 0])) 86⟩] u5 := M
                    refine pl_nil ?_
                    refine au_then ?_
                    refine wp_ret ?_
                    refine au_block_ret ?_
                    refine au_then_ret ?_
                    have e0 : (rdV h o r_).n = 0 := by simp only [rdS, rdV, vN, vT, tkR, if_neg c0, if_neg c1, if_neg c2, if_neg c3, if_neg c4, if_neg c5, if_neg c6, if_neg c7, if_pos c8]
                    have e1 : (rdV h o r_).t = (rtV r_ (moO o)) := by simp only [rdS, rdV, vN, vT, tkR, if_neg c0, if_neg c1, if_neg c2, if_neg c3, if_neg c4, if_neg c5, if_neg c6, if_neg c7, if_pos c8]
                    have e2 : (rdV h o r_).v = false := by simp only [rdS, rdV, vN, vT, tkR, if_neg c0, if_neg c1, if_neg c2, if_neg c3, if_neg c4, if_neg c5, if_neg c6, if_neg c7, if_pos c8]
                    have e3 : (rdV h o r_).h = 0 := by simp only [rdS, rdV, vN, vT, tkR, if_neg c0, if_neg c1, if_neg c2, if_neg c3, if_neg c4, if_neg c5, if_neg c6, if_neg c7, if_pos c8]
                    have e4 : (rdV h o r_).l = 0 := by simp only [rdS, rdV, vN, vT, tkR, if_neg c0, if_neg c1, if_neg c2, if_neg c3, if_neg c4, if_neg c5, if_neg c6, if_neg c7, if_pos c8]
                    have e5 : (rdV h o r_).p = 0 := by simp only [rdS, rdV, vN, vT, tkR, if_neg c0, if_neg c1, if_neg c2, if_neg c3, if_neg c4, if_neg c5, if_neg c6, if_neg c7, if_pos c8]
                    have e6 : (rdS h o r_).e = (rtS r_ (moO o)).e := by simp only [rdS, rdV, vN, vT, tkR, if_neg c0, if_neg c1, if_neg c2, if_neg c3, if_neg c4, if_neg c5, if_neg c6, if_neg c7, if_pos c8]
                    have e7 : (rdS h o r_).s = (rtS r_ (moO o)).s := by simp only [rdS, rdV, vN, vT, tkR, if_neg c0, if_neg c1, if_neg c2, if_neg c3, if_neg c4, if_neg c5, if_neg c6, if_neg c7, if_pos c8]
                    have e8 : (rdS h o r_).f = (rtS r_ (moO o)).f := by simp only [rdS, rdV, vN, vT, tkR, if_neg c0, if_neg c1, if_neg c2, if_neg c3, if_neg c4, if_neg c5, if_neg c6, if_neg c7, if_pos c8]
                    exact bodyPost_ret (v := .agg (av 6 (ls [.int .u64 0, .string (rtV r_ (moO o)), .bool false, .int .u64 0, .int .u64 0, .int .u16 0]))) (results_cell_row Try.results32 _ _ g2 86 (av 6 (ls [.int .u64 0, .string (rtV r_ (moO o)), .bool false, .int .u64 0, .int .u64 0, .int .u16 0])) (0, 0) _ (by kernel_rfl) (M.get 3 rfl) Try.underlying86 rfl (by rw [av_size]; exact inz86)) (by kernel_rfl) ⟨by rw [e0, e1, e2, e3, e4, e5], M.old, by simpa only [e0, e1, e2, e3, e4, e5, e6, e7, e8] using M.get 0 rfl, by simpa only [e0, e1, e2, e3, e4, e5, e6, e7, e8] using M.get 1 rfl⟩
                  · skip
                    refine pl_val (want_no rfl) (some 51) rfl (.bool false) (fun w => Eq.trans (b := .ok (.value (.bool (decide (o = 1024)))) w) (by kernel_rfl) (by rw [decide_eq_false (c8)])) ?_
                    refine pl_val (want_no rfl) (some 50) rfl (.bool false) (fun _ => by kernel_rfl) ?_
                    refine pl_nil ?_
                    refine au_then ?_
                    refine wp_cond_false (by kernel_rfl) ?_
                    refine rg_lit ?_
                    by_cases c9 : o = 2048
                    · skip
                      refine pl_val (want_no rfl) (some 52) rfl (.bool true) (fun w => Eq.trans (b := .ok (.value (.bool (decide (o = 2048)))) w) (by kernel_rfl) (by rw [decide_eq_true (c9)])) ?_
                      refine pl_val (want_no rfl) (some 50) rfl (.bool true) (fun _ => by kernel_rfl) ?_
                      refine pl_nil ?_
                      refine au_then ?_
                      refine wp_cond_true (by kernel_rfl) ?_
                      refine wp_seq ?_
                      refine rg_lit ?_
                      refine pl_val (want_no rfl) (some 53) rfl (.pointer (some ⟨gr, 0, none⟩)) (fun _ => by kernel_rfl) ?_
                      refine pl_val (want_no rfl) (some 54) rfl (.int .u16 o) (fun _ => by kernel_rfl) ?_
                      refine pl_call M (want_no rfl) (some 55) rfl 48 #[.int .u16 o] (.int .i64 (moO o)) (fun _ => by kernel_rfl) (fun w M => c_mostOf o w M.laid) ?_
                      intro u3 M
                      refine pl_call2 M (want_no rfl) (some 56) rfl 56 #[.pointer (some ⟨gr, 0, none⟩), .int .i64 (moO o)] (.string (rtV r_ (moO o))) 0 1 gr g (.cells (av 4 (ls [.int .u8 kd, .int .u16 h, .pointer (some ⟨g, 0, none⟩), .int .i64 r_.e])) 73) (.cells (av 3 (ls [.bool true, .string r_.s, .int .i64 r_.f])) 112) (.cells (av 4 (ls [.int .u8 kd, .int .u16 h, .pointer (some ⟨g, 0, none⟩), .int .i64 (rtS r_ (moO o)).e])) 73) (.cells (av 3 (ls [.bool true, .string (rtS r_ (moO o)).s, .int .i64 (rtS r_ (moO o)).f])) 112) rfl rfl (fun _ => by kernel_rfl) (fun w M => r_readText gr g kd h r_ (moO o) w M.laid (M.get 0 rfl) (M.get 1 rfl) (nodup_at M.nodup (i := 0) (j := 1) rfl rfl (by decide))) ?_
                      intro u4 M
                      replace M : Mem ⟨w, [gr, g]⟩ [⟨gr, .cells (av 4 (ls [.int .u8 kd, .int .u16 h, .pointer (some ⟨g, 0, none⟩), .int .i64 (rtS r_ (moO o)).e])) 73⟩, ⟨g, .cells (av 3 (ls [.bool true, .string (rtS r_ (moO o)).s, .int .i64 (rtS r_ (moO o)).f])) 112⟩, ⟨g1, .cells (av 6 (ls [.int .u64 v.n, .string v.t, .bool (v.v), .int .u64 v.h, .int .u64 v.l, .int .u16 v.p])) 86⟩, ⟨g2, .cells (av 6 (ls [.int .u64 0, .string ⟨#[]⟩, .bool false, .int .u64 0, .int .u64 0, .int .u16 0])) 86⟩] u4 := M
                      refine pl_val (want_no rfl) (some 57) rfl (.agg (av 6 (ls [.int .u64 0, .string (rtV r_ (moO o)), .bool false, .int .u64 0, .int .u64 0, .int .u16 0]))) (fun _ => by kernel_rfl) ?_
                      refine pl_put M (want_no rfl) rfl 86 _ _ rfl 3 g2 0 (by kernel_rfl) 6 86 (ls [.int .u64 0, .string ⟨#[]⟩, .bool false, .int .u64 0, .int .u64 0, .int .u16 0]) rfl 6 (ls [.int .u64 0, .string (rtV r_ (moO o)), .bool false, .int .u64 0, .int .u64 0, .int .u16 0]) (ls [.int .u64 0, .string (rtV r_ (moO o)), .bool false, .int .u64 0, .int .u64 0, .int .u16 0]) (by kernel_rfl) inz86 (by decide) (one_ls _ rfl) (fun j hj => by rw [if_pos (by omega), Nat.sub_zero]) ?_
                      intro u5 M
                      replace M : Mem ⟨w, [gr, g]⟩ [⟨gr, .cells (av 4 (ls [.int .u8 kd, .int .u16 h, .pointer (some ⟨g, 0, none⟩), .int .i64 (rtS r_ (moO o)).e])) 73⟩, ⟨g, .cells (av 3 (ls [.bool true, .string (rtS r_ (moO o)).s, .int .i64 (rtS r_ (moO o)).f])) 112⟩, ⟨g1, .cells (av 6 (ls [.int .u64 v.n, .string v.t, .bool (v.v), .int .u64 v.h, .int .u64 v.l, .int .u16 v.p])) 86⟩, ⟨g2, .cells (av 6 (ls [.int .u64 0, .string (rtV r_ (moO o)), .bool false, .int .u64 0, .int .u64 0, .int .u16 0])) 86⟩] u5 := M
                      refine pl_nil ?_
                      refine au_then ?_
                      refine wp_ret ?_
                      refine au_block_ret ?_
                      refine au_then_ret ?_
                      have e0 : (rdV h o r_).n = 0 := by simp only [rdS, rdV, vN, vT, tkR, if_neg c0, if_neg c1, if_neg c2, if_neg c3, if_neg c4, if_neg c5, if_neg c6, if_neg c7, if_neg c8, if_pos c9]
                      have e1 : (rdV h o r_).t = (rtV r_ (moO o)) := by simp only [rdS, rdV, vN, vT, tkR, if_neg c0, if_neg c1, if_neg c2, if_neg c3, if_neg c4, if_neg c5, if_neg c6, if_neg c7, if_neg c8, if_pos c9]
                      have e2 : (rdV h o r_).v = false := by simp only [rdS, rdV, vN, vT, tkR, if_neg c0, if_neg c1, if_neg c2, if_neg c3, if_neg c4, if_neg c5, if_neg c6, if_neg c7, if_neg c8, if_pos c9]
                      have e3 : (rdV h o r_).h = 0 := by simp only [rdS, rdV, vN, vT, tkR, if_neg c0, if_neg c1, if_neg c2, if_neg c3, if_neg c4, if_neg c5, if_neg c6, if_neg c7, if_neg c8, if_pos c9]
                      have e4 : (rdV h o r_).l = 0 := by simp only [rdS, rdV, vN, vT, tkR, if_neg c0, if_neg c1, if_neg c2, if_neg c3, if_neg c4, if_neg c5, if_neg c6, if_neg c7, if_neg c8, if_pos c9]
                      have e5 : (rdV h o r_).p = 0 := by simp only [rdS, rdV, vN, vT, tkR, if_neg c0, if_neg c1, if_neg c2, if_neg c3, if_neg c4, if_neg c5, if_neg c6, if_neg c7, if_neg c8, if_pos c9]
                      have e6 : (rdS h o r_).e = (rtS r_ (moO o)).e := by simp only [rdS, rdV, vN, vT, tkR, if_neg c0, if_neg c1, if_neg c2, if_neg c3, if_neg c4, if_neg c5, if_neg c6, if_neg c7, if_neg c8, if_pos c9]
                      have e7 : (rdS h o r_).s = (rtS r_ (moO o)).s := by simp only [rdS, rdV, vN, vT, tkR, if_neg c0, if_neg c1, if_neg c2, if_neg c3, if_neg c4, if_neg c5, if_neg c6, if_neg c7, if_neg c8, if_pos c9]
                      have e8 : (rdS h o r_).f = (rtS r_ (moO o)).f := by simp only [rdS, rdV, vN, vT, tkR, if_neg c0, if_neg c1, if_neg c2, if_neg c3, if_neg c4, if_neg c5, if_neg c6, if_neg c7, if_neg c8, if_pos c9]
                      exact bodyPost_ret (v := .agg (av 6 (ls [.int .u64 0, .string (rtV r_ (moO o)), .bool false, .int .u64 0, .int .u64 0, .int .u16 0]))) (results_cell_row Try.results32 _ _ g2 86 (av 6 (ls [.int .u64 0, .string (rtV r_ (moO o)), .bool false, .int .u64 0, .int .u64 0, .int .u16 0])) (0, 0) _ (by kernel_rfl) (M.get 3 rfl) Try.underlying86 rfl (by rw [av_size]; exact inz86)) (by kernel_rfl) ⟨by rw [e0, e1, e2, e3, e4, e5], M.old, by simpa only [e0, e1, e2, e3, e4, e5, e6, e7, e8] using M.get 0 rfl, by simpa only [e0, e1, e2, e3, e4, e5, e6, e7, e8] using M.get 1 rfl⟩
                    · skip
                      refine pl_val (want_no rfl) (some 52) rfl (.bool false) (fun w => Eq.trans (b := .ok (.value (.bool (decide (o = 2048)))) w) (by kernel_rfl) (by rw [decide_eq_false (c9)])) ?_
                      refine pl_val (want_no rfl) (some 50) rfl (.bool false) (fun _ => by kernel_rfl) ?_
                      refine pl_nil ?_
                      refine au_then ?_
                      refine wp_cond_false (by kernel_rfl) ?_
                      refine wp_skip ?_
                      refine au_block ?_
                      refine au_then ?_
                      refine wp_seq ?_
                      refine rg_tail M 6 (by kernel_rfl) (by kernel_rfl) ?_
                      simp only [List.take_succ_cons, List.take_zero]
                      refine k_val (want_no rfl) (some 58) rfl (.pointer (some ⟨gr, 0, none⟩)) (fun _ => by kernel_rfl) ?_
                      refine k_val (want_no rfl) (some 59) rfl (.pointer (some ⟨gr, 0, none⟩)) (fun _ => by kernel_rfl) ?_
                      refine k_val (want_no rfl) (some 60) rfl (.pointer (some ⟨gr, 2, none⟩)) (fun _ => by kernel_rfl) ?_
                      refine k_cell M (want_no rfl) (some 61) rfl 71 _ rfl gr 2 (by kernel_rfl) (.pointer (some ⟨g, 0, none⟩)) (fun _ => by kernel_rfl) (fun w M => M.cell 0 rfl (by decide) rfl) ?_
                      refine k_val (want_no rfl) (some 62) rfl (.int .u16 o) (fun _ => by kernel_rfl) ?_
                      refine k_call M (want_no rfl) (some 63) rfl 46 #[.int .u16 o] (.int .i64 (szO o)) (fun _ => by kernel_rfl) (fun w M => c_sizeOf o w M.laid) ?_
                      refine kl_nil ?_
                      intro u3 M
                      replace M : Mem ⟨w, [gr, g]⟩ [⟨gr, .cells (av 4 (ls [.int .u8 kd, .int .u16 h, .pointer (some ⟨g, 0, none⟩), .int .i64 r_.e])) 73⟩, ⟨g, .cells (av 3 (ls [.bool true, .string r_.s, .int .i64 r_.f])) 112⟩, ⟨g1, .cells (av 6 (ls [.int .u64 v.n, .string v.t, .bool (v.v), .int .u64 v.h, .int .u64 v.l, .int .u16 v.p])) 86⟩, ⟨g2, .cells (av 6 (ls [.int .u64 0, .string ⟨#[]⟩, .bool false, .int .u64 0, .int .u64 0, .int .u16 0])) 86⟩] u3 := M
                      refine pl_callp M (want_no rfl) (some 64) rfl 57 #[.pointer (some ⟨g, 0, none⟩), .int .i64 (szO o)] (.string (tkV r_.s r_.f (szO o))) 1 g (.cells (av 3 (ls [.bool true, .string r_.s, .int .i64 r_.f])) 112) (.cells (av 3 (ls [.bool true, .string (tkS r_.s r_.f (szO o)), .int .i64 (tkF r_.s r_.f (szO o))])) 112) rfl (fun _ => by kernel_rfl) (fun w M => c_Take g r_.s r_.f (szO o) w M.laid (M.get 1 rfl)) ?_
                      intro u4 M
                      replace M : Mem ⟨w, [gr, g]⟩ [⟨gr, .cells (av 4 (ls [.int .u8 kd, .int .u16 h, .pointer (some ⟨g, 0, none⟩), .int .i64 r_.e])) 73⟩, ⟨g, .cells (av 3 (ls [.bool true, .string (tkS r_.s r_.f (szO o)), .int .i64 (tkF r_.s r_.f (szO o))])) 112⟩, ⟨g1, .cells (av 6 (ls [.int .u64 v.n, .string v.t, .bool (v.v), .int .u64 v.h, .int .u64 v.l, .int .u16 v.p])) 86⟩, ⟨g2, .cells (av 6 (ls [.int .u64 0, .string ⟨#[]⟩, .bool false, .int .u64 0, .int .u64 0, .int .u16 0])) 86⟩] u4 := M
                      refine pl_val (want_no rfl) (some 65) rfl (.agg (av 6 (ls [.int .u64 0, .string (tkV r_.s r_.f (szO o)), .bool false, .int .u64 0, .int .u64 0, .int .u16 0]))) (fun _ => by kernel_rfl) ?_
                      refine pl_put M (want_no rfl) rfl 86 _ _ rfl 3 g2 0 (by kernel_rfl) 6 86 (ls [.int .u64 0, .string ⟨#[]⟩, .bool false, .int .u64 0, .int .u64 0, .int .u16 0]) rfl 6 (ls [.int .u64 0, .string (tkV r_.s r_.f (szO o)), .bool false, .int .u64 0, .int .u64 0, .int .u16 0]) (ls [.int .u64 0, .string (tkV r_.s r_.f (szO o)), .bool false, .int .u64 0, .int .u64 0, .int .u16 0]) (by kernel_rfl) inz86 (by decide) (one_ls _ rfl) (fun j hj => by rw [if_pos (by omega), Nat.sub_zero]) ?_
                      intro u5 M
                      replace M : Mem ⟨w, [gr, g]⟩ [⟨gr, .cells (av 4 (ls [.int .u8 kd, .int .u16 h, .pointer (some ⟨g, 0, none⟩), .int .i64 r_.e])) 73⟩, ⟨g, .cells (av 3 (ls [.bool true, .string (tkS r_.s r_.f (szO o)), .int .i64 (tkF r_.s r_.f (szO o))])) 112⟩, ⟨g1, .cells (av 6 (ls [.int .u64 v.n, .string v.t, .bool (v.v), .int .u64 v.h, .int .u64 v.l, .int .u16 v.p])) 86⟩, ⟨g2, .cells (av 6 (ls [.int .u64 0, .string (tkV r_.s r_.f (szO o)), .bool false, .int .u64 0, .int .u64 0, .int .u16 0])) 86⟩] u5 := M
                      refine pl_nil ?_
                      refine au_then ?_
                      refine wp_ret ?_
                      have e0 : (rdV h o r_).n = 0 := by simp only [rdS, rdV, vN, vT, tkR, if_neg c0, if_neg c1, if_neg c2, if_neg c3, if_neg c4, if_neg c5, if_neg c6, if_neg c7, if_neg c8, if_neg c9]
                      have e1 : (rdV h o r_).t = (tkV r_.s r_.f (szO o)) := by simp only [rdS, rdV, vN, vT, tkR, if_neg c0, if_neg c1, if_neg c2, if_neg c3, if_neg c4, if_neg c5, if_neg c6, if_neg c7, if_neg c8, if_neg c9]
                      have e2 : (rdV h o r_).v = false := by simp only [rdS, rdV, vN, vT, tkR, if_neg c0, if_neg c1, if_neg c2, if_neg c3, if_neg c4, if_neg c5, if_neg c6, if_neg c7, if_neg c8, if_neg c9]
                      have e3 : (rdV h o r_).h = 0 := by simp only [rdS, rdV, vN, vT, tkR, if_neg c0, if_neg c1, if_neg c2, if_neg c3, if_neg c4, if_neg c5, if_neg c6, if_neg c7, if_neg c8, if_neg c9]
                      have e4 : (rdV h o r_).l = 0 := by simp only [rdS, rdV, vN, vT, tkR, if_neg c0, if_neg c1, if_neg c2, if_neg c3, if_neg c4, if_neg c5, if_neg c6, if_neg c7, if_neg c8, if_neg c9]
                      have e5 : (rdV h o r_).p = 0 := by simp only [rdS, rdV, vN, vT, tkR, if_neg c0, if_neg c1, if_neg c2, if_neg c3, if_neg c4, if_neg c5, if_neg c6, if_neg c7, if_neg c8, if_neg c9]
                      have e6 : (rdS h o r_).e = r_.e := by simp only [rdS, rdV, vN, vT, tkR, if_neg c0, if_neg c1, if_neg c2, if_neg c3, if_neg c4, if_neg c5, if_neg c6, if_neg c7, if_neg c8, if_neg c9]
                      have e7 : (rdS h o r_).s = (tkS r_.s r_.f (szO o)) := by simp only [rdS, rdV, vN, vT, tkR, if_neg c0, if_neg c1, if_neg c2, if_neg c3, if_neg c4, if_neg c5, if_neg c6, if_neg c7, if_neg c8, if_neg c9]
                      have e8 : (rdS h o r_).f = (tkF r_.s r_.f (szO o)) := by simp only [rdS, rdV, vN, vT, tkR, if_neg c0, if_neg c1, if_neg c2, if_neg c3, if_neg c4, if_neg c5, if_neg c6, if_neg c7, if_neg c8, if_neg c9]
                      exact bodyPost_ret (v := .agg (av 6 (ls [.int .u64 0, .string (tkV r_.s r_.f (szO o)), .bool false, .int .u64 0, .int .u64 0, .int .u16 0]))) (results_cell_row Try.results32 _ _ g2 86 (av 6 (ls [.int .u64 0, .string (tkV r_.s r_.f (szO o)), .bool false, .int .u64 0, .int .u64 0, .int .u16 0])) (0, 0) _ (by kernel_rfl) (M.get 3 rfl) Try.underlying86 rfl (by rw [av_size]; exact inz86)) (by kernel_rfl) ⟨by rw [e0, e1, e2, e3, e4, e5], M.old, by simpa only [e0, e1, e2, e3, e4, e5, e6, e7, e8] using M.get 0 rfl, by simpa only [e0, e1, e2, e3, e4, e5, e6, e7, e8] using M.get 1 rfl⟩


end Go.Proofs.Ytbechjlkmajcoaa
