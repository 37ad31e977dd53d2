/- Bytes made by tags, one behind the other, in a strings.Builder: the walk of tags; Expand. -/
import Derived.Test.YtpfneekmbednoaaDoorK1
import Derived.Test.YtpfneekmbednoaaDoorRep
import Derived.ScopeJumps
namespace Go.Proofs.YtpfneekmbednoaaDoor
open Go.RowKit

open Go.Shelf
/-- A builder that is new. -/
def bF0 : Nat → Value := fun i => if i = 0 then .pointer none else .slice none 0 0
section
variable {P : Program} {ops : Array Oper} {rest : List Oper} {o : Oper} {a : Act} {w : World} {c : Ctx} {L : List Blk} {Q : Exit → Act → World → Prop} {K : Act → World → Prop} {J : Act → World → Prop}
theorem au_then_goto {i : Nat} (h : Q (.goto i) a w) : Exit.then K Q (.goto i) a w := h
theorem au_scope_ret {i : Nat} (h : Q .ret a w) : Exit.jump i J Q .ret a w := h
theorem pl_newB (M : Mem c L w) (hw : Region.wanted o (yielded ops a.tmps) = true) (d : Option Tmp) (hd : o.dst = d) (Z : Obj) (hrun : ∀ w, (execOp a.eval o).run P w = .ok (.value (.pointer (some ⟨w.heap.size, 0, none⟩))) (w.alloc Z))
    (h : ∀ g w', (∀ b ∈ L, b.g < g) → Mem c (L ++ [⟨g, Z⟩]) w' → PL P ops Q rest (a.put d (.pointer (some ⟨g, 0, none⟩))) w') : PL P ops Q (o :: rest) a w :=
  pl_to hw d hd _ _ (hrun w) (h w.heap.size _ (fun _ hb => M.lt hb) (M.new _ _ (new_below w _) (heap_alloc_new w _) (Nat.le_refl _)))
theorem pl_callr (hw : Region.wanted o (yielded ops a.tmps) = true) (d : Option Tmp) (hd : o.dst = d) (f : FuncId) (args : Array Value) (v : Value) (R : World → Prop) (hrun : ∀ w, (execOp a.eval o).run P w = .ok (.enter f args) w)
    (hc : Calls P f args w fun e w' => e = .returned v ∧ R w') (h : ∀ w', R w' → PL P ops Q rest (a.put d v) w') : PL P ops Q (o :: rest) a w :=
  pl_callq hw d hd f args hrun (hc.mono fun _ w' ⟨he, hr⟩ => ⟨v, he, h w' hr⟩)
end
theorem owns_keep {w w' : World} {B : Nat} {e : TypeId} {v : Value} {n : Nat} {xs : List Value} (h : w.ownsRow B e 1 v n xs) (hb : Below w.heap.size w w') : w'.ownsRow B e 1 v n xs := by
  obtain ⟨h1, h2⟩ := h
  refine ⟨h1, ?_⟩
  rcases h2 with h2 | ⟨g, cap, cur, h3, h4, h5, h6⟩
  · exact .inl h2
  · exact .inr ⟨g, cap, cur, h3, h4, by rw [hb.block g (Array.getElem?_eq_some_iff.1 h5).1]; exact h5, h6⟩
theorem bat_keep {w w' : World} {T e : TypeId} {B b : Nat} {p : Value} {xs : List Value} (h : Lib.BuilderAt T e B b p xs w) (hb : Below w.heap.size w w') : Lib.BuilderAt T e B b p xs w' := by
  obtain ⟨h1, v, h2, h3, h4⟩ := h
  exact ⟨h1, v, by rw [hb.block b (Array.getElem?_eq_some_iff.1 h2).1]; exact h2, owns_keep h3 hb, h4⟩
theorem isb_keep {w w' : World} {T e : TypeId} {B b : Nat} {xs : List Value} (h : Lib.IsBuilder T e B b xs w) (hb : Below w.heap.size w w') : Lib.IsBuilder T e B b xs w' := h.imp (bat_keep · hb) (bat_keep · hb)
theorem isb_lt {w : World} {T e : TypeId} {B b : Nat} {xs : List Value} (h : Lib.IsBuilder T e B b xs w) : b < w.heap.size := h.elim Lib.BuilderAt.lt Lib.BuilderAt.lt

/-- The block and the builder of a call that is under way. -/
structure BU (w : World) (f : Nat → Int) (g k : Nat) (l : List UInt8) (u : World) : Prop where
  bel : Below w.heap.size w u
  ge : w.heap.size ≤ g
  lt : g < k
  blk : u.heap[g]? = some (.cells (av 64 (w8 f)) 39)
  isb : Lib.IsBuilder 48 5 k k (Lib.byteCells l) u
theorem same1 {w w' : World} {g : Nat} {Z : Obj} (h : Grw w w' [g]) (h1 : w.heap[g]? = some Z) (h2 : w'.heap[g]? = some Z) : Below w.heap.size w w' := ⟨h.os, h.tape, h.output, h.size, fun j hj => by
  by_cases e : j = g
  · subst e
    rw [h1, h2]
  · exact h.block j hj (by simp [e])⟩
theorem below_laid {w u : World} (h : Below w.heap.size w u) (hL : Laid w) : Laid u := hL.of (h.block 0 hL.lt)
theorem BU.ne {w u : World} {f : Nat → Int} {g k : Nat} {l : List UInt8} (h : BU w f g k l u) (hL : Laid w) : g ≠ 0 := by have := hL.lt; have := h.ge; omega
theorem BU.mem {w u : World} {f : Nat → Int} {g k : Nat} {l : List UInt8} (h : BU w f g k l u) (hL : Laid w) : Mem ⟨u, [g]⟩ [⟨g, .cells (av 64 (w8 f)) 39⟩] u := Mem.startp (below_laid h.bel hL) h.blk (h.ne hL)
theorem BU.keep {w u : World} {f : Nat → Int} {g k : Nat} {l : List UInt8} (h : BU w f g k l u) {L : List Blk} {u' : World} (M : Mem ⟨u, [g]⟩ (⟨g, .cells (av 64 (w8 f)) 39⟩ :: L) u') : BU w f g k l u' :=
  have hb := same1 M.old h.blk (M.get 0 rfl)
  ⟨h.bel.trans (hb.mono h.bel.size), h.ge, h.lt, M.get 0 rfl, isb_keep h.isb hb⟩
theorem BU.start {w u : World} {f : Nat → Int} {g k : Nat} (M : Mem ⟨w, []⟩ [⟨g, .cells (av 64 (w8 f)) 39⟩, ⟨k, .cells (av 2 bF0) 48⟩] u) (hlt : g < k) : BU w f g k [] u :=
  ⟨below_grown M.old, (M.ge _ (List.mem_of_getElem? (i := 0) rfl)).elim id (fun h => by cases h), hlt, M.get 0 rfl, .inl ⟨Nat.le_refl _, .slice none 0 0, M.get 1 rfl, World.ownsRow_nil _ _ _ _, by simp [Value.ownBlock]⟩⟩
theorem c_len {w u : World} {f : Nat → Int} {g k : Nat} {l : List UInt8} (h : BU w f g k l u) : Calls Tryd.prog 22 #[.pointer (some ⟨k, 0, none⟩)] u fun r w' => r = .returned (.int .i64 (l.length : Int)) ∧ Below u.heap.size u w' := by
  refine (Any.Builder_Len (P := Tryd.prog) (ρ := repRen) { repLays with } k k (Lib.byteCells l) u h.isb).mono ?_
  rintro r w' ⟨rfl, rfl⟩
  exact ⟨by rw [Lib.byteCells_length], Below.refl _ _⟩
theorem c_write {w u : World} {f : Nat → Int} {g k : Nat} {l : List UInt8} (h : BU w f g k l u) (s : ByteArray) (hl : l.length + s.size < 1000000) : Calls Tryd.prog 23 #[.pointer (some ⟨k, 0, none⟩), .string s] u fun r w' => r = .returned (.tuple #[.int .i64 s.size, .nilIface]) ∧ BU w f g k (l ++ s.data.toList) w' := by
  have hk := isb_lt h.isb
  refine (Any.Builder_WriteString (P := Tryd.prog) (ρ := repRen) { repLays with } repExtra k k (Lib.byteCells l) s u h.isb (by rw [Lib.byteCells_length]; omega) (by omega)).mono ?_
  rintro r w' ⟨rfl, h1, h2⟩
  exact ⟨rfl, h.bel.trans (h2.mono (by have := h.ge; have := h.lt; omega)), h.ge, h.lt, by rw [h2.block g h.lt]; exact h.blk, .inr (by rw [Lib.byteCells_append]; exact h1)⟩
theorem c_string {w u : World} {f : Nat → Int} {g k : Nat} {l : List UInt8} (h : BU w f g k l u) (s : ByteArray) (hs : s.data.toList = l) : Calls Tryd.prog 24 #[.pointer (some ⟨k, 0, none⟩)] u fun r w' => r = .returned (.string s) ∧ Below w.heap.size w w' := by
  have hk := isb_lt h.isb
  refine (Any.Builder_String_any (P := Tryd.prog) (ρ := repRen) { repLays with } repExtra k k l u h.isb (by omega)).mono ?_
  rintro r w' ⟨rfl, h2⟩
  refine ⟨?_, h.bel.trans (h2.mono (by have := h.ge; have := h.lt; omega))⟩
  rw [← hs]

/-- T(i), and all up to it. -/
def tg (f : Nat → Int) (info : ByteArray) : Nat → ByteArray
  | 0 => strE
  | i + 1 => tagV f (tg f info i ++ info ++ bs [((i + 1 : Nat) : Int)])
def al (f : Nat → Int) (info : ByteArray) : Nat → ByteArray
  | 0 => strE
  | i + 1 => al f info i ++ tg f info (i + 1)
theorem tg_size (f : Nat → Int) (info : ByteArray) (i : Nat) : (tg f info (i + 1)).size = 32 := tagV_size _ _
theorem tg_le (f : Nat → Int) (info : ByteArray) : ∀ i, (tg f info i).size ≤ 32
  | 0 => by show 0 ≤ 32; decide
  | i + 1 => by rw [tg_size]; decide
theorem al_size (f : Nat → Int) (info : ByteArray) : ∀ i, (al f info i).size = 32 * i
  | 0 => rfl
  | i + 1 => by
    unfold al
    rw [ByteArray.size_append, al_size f info i, tg_size]
    omega
theorem al_len (f : Nat → Int) (info : ByteArray) (i : Nat) : (al f info i).data.toList.length = 32 * i := by
  rw [← al_size f info i]
  rfl
theorem al_next (f : Nat → Int) (info : ByteArray) (i : Nat) : (al f info i).data.toList ++ (tg f info (i + 1)).data.toList = (al f info (i + 1)).data.toList := by
  show _ = (al f info i ++ tg f info (i + 1)).data.toList
  rw [ByteArray.data_append, Array.toList_append]

theorem sb_one (x : Int) (T : TypeId) : SB (.cells (av 1 (fun _ => .int .u8 x)) T) 1 (vs8 [x]) := ⟨_, T, (0, 0), rfl, by simp [vs8], by rw [av_size]; exact Nat.le_refl _, fun i hi => by
  simp [vs8] at hi
  subst hi
  rfl, fun i _ => by simp⟩
def numOf : Value → Int
  | .int _ x => x
  | _ => 0
def mu9 (N : Nat) (a : Act) : Nat := N - (numOf (a.tmps.getD 9 undef)).toNat
theorem mu9_lt {N : Nat} {a a' : Act} (x y : Nat) (h1 : a'.tmps.getD 9 undef = .int .u8 (y : Int)) (h2 : a.tmps.getD 9 undef = .int .u8 (x : Int)) (hxy : x < y) (hy : y ≤ N) : mu9 N a' < mu9 N a := by
  unfold mu9
  rw [h1, h2]
  show N - (y : Int).toNat < N - (x : Int).toNat
  omega
theorem add8 (j : Nat) (h : j < 255) : IntKind.wrap .u8 ((j : Int) + 1) = ((j + 1 : Nat) : Int) := by
  show ((j : Int) + 1) % 256 = _
  omega

set_option maxRecDepth 100000 in
set_option maxHeartbeats 4000000 in
theorem c_tags (f : Nat → Int) (info : ByteArray) (hi : info.size < 10000) (n : Nat) (hn : n ≤ 8160) (w : World) (hL : Laid w)  :
    Calls Tryd.prog 18 #[.agg (av 64 (w8 f)), .string info, .int .i64 (n : Int)] w fun r w' => r = .returned (.string (al f info ((n + 31) / 32))) ∧ Below w.heap.size w w' := by
  go_enter Tryd.func18, Tryd.ntmps18
  have M := Mem.start hL
  obtain ⟨N, hN⟩ : ∃ N, N = (n + 31) / 32 := ⟨_, rfl⟩
  refine wp_seq ?_
  refine rg_lit ?_
  refine pl_new M (want_no rfl) (some 3) rfl (.cells (av 64 (w8 f)) 39) (fun _ => by kernel_rfl) ?_
  intro g1 u1 M
  replace M : Mem ⟨w, []⟩ [⟨g1, .cells (av 64 (w8 f)) 39⟩] u1 := M
  refine pl_val (want_no rfl) (some 6) rfl (.string ⟨#[]⟩) (fun _ => by kernel_rfl) ?_
  refine pl_nil ?_
  refine au_then ?_
  refine wp_scope_jumps 0 (fun a u => ∃ (j gk : Nat) (v : Nat → Value), j ≤ N ∧ a = ⟨#[.agg (av 64 (w8 f)), .string info, .int .i64 (n : Int), .pointer (some ⟨g1, 0, none⟩), undef, undef, v 6, .pointer (some ⟨gk, 0, none⟩), .string (tg f info j), .int .u8 (j : Int), v 10, v 11, v 12, v 13, v 14, v 15, v 16, v 17, v 18, v 19, v 20, v 21, v 22, v 23, v 24, v 25, v 26], []⟩ ∧ BU w f g1 gk (al f info j).data.toList u) (fun a _ => mu9 N a) rfl ?_ ?_
  · skip
    refine wp_seq ?_
    refine rg_lit ?_
    refine pl_newB M (want_no rfl) (some 7) rfl (.cells (av 2 bF0) 48) (fun _ => by kernel_rfl) ?_
    intro g2 u2 hlt M
    replace M : Mem ⟨w, []⟩ [⟨g1, .cells (av 64 (w8 f)) 39⟩, ⟨g2, .cells (av 2 bF0) 48⟩] u2 := M
    replace hlt : g1 < g2 := hlt _ (List.mem_of_getElem? (i := 0) rfl)
    refine pl_nil ?_
    refine au_then ?_
    refine wp_seq ?_
    refine rg_lit ?_
    refine pl_val (want_no rfl) (some 8) rfl (.string ⟨#[]⟩) (fun _ => by kernel_rfl) ?_
    refine pl_val (want_no rfl) (some 9) rfl (.int .u8 0) (fun _ => by kernel_rfl) ?_
    refine pl_nil ?_
    refine au_then ?_
    refine wp_seq ?_
    refine wp_label ?_
    refine au_then ?_
    have hB : BU w f g1 g2 (al f info 0).data.toList u2 := BU.start M hlt
    generalize g2 = gk at hB
    clear M hlt
    by_cases hj : 0 < N
    · skip
      · skip
        have M := hB.mem hL
        replace M : Mem ⟨u2, [g1]⟩ [⟨g1, .cells (av 64 (w8 f)) 39⟩] u2 := M
        refine wp_seq ?_
        refine wp_seq ?_
        refine rg_lit ?_
        refine pl_call M (want_no rfl) (some 10) rfl 22 #[.pointer (some ⟨gk, 0, none⟩)] (.int .i64 ((al f info 0).data.toList.length : Int)) (fun _ => by kernel_rfl) (fun w M => c_len (hB.keep M)) ?_
        intro u3 M
        refine pl_val (want_no rfl) (some 11) rfl (.int .i64 (n : Int)) (fun _ => by kernel_rfl) ?_
        refine pl_val (want_no rfl) (some 12) rfl (.bool true) (fun w => Eq.trans (b := .ok (.value (.bool (decide (((al f info 0).data.toList.length : Int) < (n : Int))))) w) (by kernel_rfl) (by rw [al_len, decide_eq_true (by omega)])) ?_
        refine pl_nil ?_
        refine au_then ?_
        refine wp_cond_true (by kernel_rfl) ?_
        refine wp_seq ?_
        refine rg_lit ?_
        refine pl_val (want_no rfl) (some 13) rfl (.int .u8 ((0 : Nat) : Int)) (fun _ => by kernel_rfl) ?_
        refine pl_val (want_no rfl) (some 14) rfl (.int .u8 ((0 + 1 : Nat) : Int)) (fun w => Eq.trans (b := .ok (.value (.int .u8 (IntKind.wrap .u8 ((0 : Nat) + 1 : Int)))) w) (by kernel_rfl) (by rw [add8 0 (by omega)])) ?_
        refine pl_val (want_no rfl) (some 9) rfl (.int .u8 ((0 + 1 : Nat) : Int)) (fun _ => by kernel_rfl) ?_
        refine pl_nil ?_
        refine au_then ?_
        refine wp_seq ?_
        refine rg_lit ?_
        refine pl_load M (want_no rfl) (some 15) rfl 39 _ rfl 0 g1 0 (by kernel_rfl) 64 39 (w8 f) rfl 64 (w8 f) (fun j _ => by rw [Nat.zero_add]) (by decide) _ Tryd.underlying39 rfl inz39 ?_
        refine pl_val (want_no rfl) (some 16) rfl (.string (tg f info 0)) (fun _ => by kernel_rfl) ?_
        refine pl_val (want_no rfl) (some 17) rfl (.string info) (fun _ => by kernel_rfl) ?_
        refine pl_val (want_no rfl) (some 18) rfl (.string ((tg f info 0) ++ info)) (run_cat 9 9 _ _ rfl (tg f info 0) info (by kernel_rfl) (by kernel_rfl) (by have := tg_le f info 0; omega)) ?_
        refine pl_val (want_no rfl) (some 19) rfl (.int .u8 ((0 + 1 : Nat) : Int)) (fun _ => by kernel_rfl) ?_
        refine pl_mk M (want_no rfl) (some 20) rfl (fun g3 => .slice (some ⟨g3, 0, none⟩) 1 1) (.cells (av 1 (fun _ => .int .u8 ((0 + 1 : Nat) : Int))) 5) (fun _ => by kernel_rfl) ?_
        intro g3 u4 M
        replace M : Mem ⟨u2, [g1]⟩ [⟨g1, .cells (av 64 (w8 f)) 39⟩, ⟨g3, .cells (av 1 (fun _ => .int .u8 ((0 + 1 : Nat) : Int))) 5⟩] u4 := M
        refine pl_back M (want_no rfl) (some 21) rfl _ rfl 1 g3 1 1 (by kernel_rfl) _ rfl [((0 + 1 : Nat) : Int)] 1 (sb_one _ _) rfl (by intro x hx; rw [List.mem_singleton.1 hx]; omega) ?_
        refine pl_val (want_no rfl) (some 22) rfl (.string ((tg f info 0 ++ info) ++ (bs [((0 + 1 : Nat) : Int)]))) (run_cat 9 9 _ _ rfl (tg f info 0 ++ info) (bs [((0 + 1 : Nat) : Int)]) (by kernel_rfl) (by kernel_rfl) (by rw [ByteArray.size_append, bs_size]; have := tg_le f info 0; simp; omega)) ?_
        refine pl_call M (want_no rfl) (some 23) rfl 16 #[.agg (av 64 (w8 f)), .string ((tg f info 0 ++ info) ++ (bs [((0 + 1 : Nat) : Int)]))] (.string (tg f info (0 + 1))) (fun _ => by kernel_rfl) (fun w M => c_tag f _ (by simp only [ByteArray.size_append, bs_size]; have := tg_le f info 0; simp; omega) w M.laid) ?_
        intro u5 M
        refine pl_val (want_no rfl) (some 8) rfl (.string (tg f info (0 + 1))) (fun _ => by kernel_rfl) ?_
        refine pl_nil ?_
        refine au_then ?_
        refine wp_seq ?_
        refine rg_lit ?_
        refine pl_val (want_no rfl) (some 24) rfl (.string (tg f info (0 + 1))) (fun _ => by kernel_rfl) ?_
        refine pl_callr (want_no rfl) (some 25) rfl 23 #[.pointer (some ⟨gk, 0, none⟩), .string (tg f info (0 + 1))] (.tuple #[.int .i64 (tg f info (0 + 1)).size, .nilIface]) _ (fun _ => by kernel_rfl) (c_write (hB.keep M) (tg f info (0 + 1)) (by rw [al_len, tg_size]; omega)) ?_
        intro u6 hB2
        rw [al_next] at hB2
        refine pl_nil ?_
        refine au_then ?_
        refine wp_goto ?_
        refine au_then_goto ?_
        exact ⟨rfl, 0 + 1, gk, fun k_ => ([.string ⟨#[]⟩, undef, undef, undef, .int .i64 ((al f info 0).data.toList.length : Int), .int .i64 (n : Int), .bool true, .int .u8 ((0 : Nat) : Int), .int .u8 ((0 + 1 : Nat) : Int), .agg (av 64 (w8 f)), .string (tg f info 0), .string info, .string ((tg f info 0) ++ info), .int .u8 ((0 + 1 : Nat) : Int), .slice (some ⟨g3, 0, none⟩) 1 1, .string (bs [((0 + 1 : Nat) : Int)]), .string ((tg f info 0 ++ info) ++ (bs [((0 + 1 : Nat) : Int)])), .string (tg f info (0 + 1)), .string (tg f info (0 + 1)), .tuple #[.int .i64 (tg f info (0 + 1)).size, .nilIface], undef] : List Value).getD (k_ - 6) undef, by omega, by kernel_rfl, hB2⟩
    · skip
      have hjN : N = 0 := by omega
      · skip
        have M := hB.mem hL
        replace M : Mem ⟨u2, [g1]⟩ [⟨g1, .cells (av 64 (w8 f)) 39⟩] u2 := M
        refine wp_seq ?_
        refine wp_seq ?_
        refine rg_lit ?_
        refine pl_call M (want_no rfl) (some 10) rfl 22 #[.pointer (some ⟨gk, 0, none⟩)] (.int .i64 ((al f info 0).data.toList.length : Int)) (fun _ => by kernel_rfl) (fun w M => c_len (hB.keep M)) ?_
        intro u7 M
        refine pl_val (want_no rfl) (some 11) rfl (.int .i64 (n : Int)) (fun _ => by kernel_rfl) ?_
        refine pl_val (want_no rfl) (some 12) rfl (.bool false) (fun w => Eq.trans (b := .ok (.value (.bool (decide (((al f info 0).data.toList.length : Int) < (n : Int))))) w) (by kernel_rfl) (by rw [al_len, decide_eq_false (by omega)])) ?_
        refine pl_nil ?_
        refine au_then ?_
        refine wp_cond_false (by kernel_rfl) ?_
        refine wp_skip ?_
        refine au_then ?_
        refine wp_seq ?_
        refine rg_lit ?_
        refine pl_callr (want_no rfl) (some 26) rfl 24 #[.pointer (some ⟨gk, 0, none⟩)] (.string (al f info N)) _ (fun _ => by kernel_rfl) (c_string (hB.keep M) (al f info N) (by rw [hjN])) ?_
        intro u8 hB2
        refine pl_val (want_no rfl) (some 6) rfl (.string (al f info N)) (fun _ => by kernel_rfl) ?_
        refine pl_nil ?_
        refine au_then ?_
        refine wp_ret ?_
        refine au_scope_ret ?_
        rw [← hN]
        exact bodyPost_ret (v := .string (al f info N)) (results_tmp1 Tryd.results18 _ _ _ (by kernel_rfl)) (by kernel_rfl) ⟨rfl, hB2⟩
  · intro a u0 hJ
    obtain ⟨j, gk, v, hjn, rfl, hB⟩ := hJ
    refine wp_seq ?_
    refine wp_skip ?_
    refine au_then ?_
    by_cases hj : j < N
    · skip
      · skip
        have M := hB.mem hL
        replace M : Mem ⟨u0, [g1]⟩ [⟨g1, .cells (av 64 (w8 f)) 39⟩] u0 := M
        refine wp_seq ?_
        refine wp_seq ?_
        refine rg_lit ?_
        refine pl_call M (want_no rfl) (some 10) rfl 22 #[.pointer (some ⟨gk, 0, none⟩)] (.int .i64 ((al f info j).data.toList.length : Int)) (fun _ => by kernel_rfl) (fun w M => c_len (hB.keep M)) ?_
        intro u9 M
        refine pl_val (want_no rfl) (some 11) rfl (.int .i64 (n : Int)) (fun _ => by kernel_rfl) ?_
        refine pl_val (want_no rfl) (some 12) rfl (.bool true) (fun w => Eq.trans (b := .ok (.value (.bool (decide (((al f info j).data.toList.length : Int) < (n : Int))))) w) (by kernel_rfl) (by rw [al_len, decide_eq_true (by omega)])) ?_
        refine pl_nil ?_
        refine au_then ?_
        refine wp_cond_true (by kernel_rfl) ?_
        refine wp_seq ?_
        refine rg_lit ?_
        refine pl_val (want_no rfl) (some 13) rfl (.int .u8 (j : Int)) (fun _ => by kernel_rfl) ?_
        refine pl_val (want_no rfl) (some 14) rfl (.int .u8 ((j + 1 : Nat) : Int)) (fun w => Eq.trans (b := .ok (.value (.int .u8 (IntKind.wrap .u8 ((j : Nat) + 1 : Int)))) w) (by kernel_rfl) (by rw [add8 j (by omega)])) ?_
        refine pl_val (want_no rfl) (some 9) rfl (.int .u8 ((j + 1 : Nat) : Int)) (fun _ => by kernel_rfl) ?_
        refine pl_nil ?_
        refine au_then ?_
        refine wp_seq ?_
        refine rg_lit ?_
        refine pl_load M (want_no rfl) (some 15) rfl 39 _ rfl 0 g1 0 (by kernel_rfl) 64 39 (w8 f) rfl 64 (w8 f) (fun j _ => by rw [Nat.zero_add]) (by decide) _ Tryd.underlying39 rfl inz39 ?_
        refine pl_val (want_no rfl) (some 16) rfl (.string (tg f info j)) (fun _ => by kernel_rfl) ?_
        refine pl_val (want_no rfl) (some 17) rfl (.string info) (fun _ => by kernel_rfl) ?_
        refine pl_val (want_no rfl) (some 18) rfl (.string ((tg f info j) ++ info)) (run_cat 9 9 _ _ rfl (tg f info j) info (by kernel_rfl) (by kernel_rfl) (by have := tg_le f info j; omega)) ?_
        refine pl_val (want_no rfl) (some 19) rfl (.int .u8 ((j + 1 : Nat) : Int)) (fun _ => by kernel_rfl) ?_
        refine pl_mk M (want_no rfl) (some 20) rfl (fun g4 => .slice (some ⟨g4, 0, none⟩) 1 1) (.cells (av 1 (fun _ => .int .u8 ((j + 1 : Nat) : Int))) 5) (fun _ => by kernel_rfl) ?_
        intro g4 u10 M
        replace M : Mem ⟨u0, [g1]⟩ [⟨g1, .cells (av 64 (w8 f)) 39⟩, ⟨g4, .cells (av 1 (fun _ => .int .u8 ((j + 1 : Nat) : Int))) 5⟩] u10 := M
        refine pl_back M (want_no rfl) (some 21) rfl _ rfl 1 g4 1 1 (by kernel_rfl) _ rfl [((j + 1 : Nat) : Int)] 1 (sb_one _ _) rfl (by intro x hx; rw [List.mem_singleton.1 hx]; omega) ?_
        refine pl_val (want_no rfl) (some 22) rfl (.string ((tg f info j ++ info) ++ (bs [((j + 1 : Nat) : Int)]))) (run_cat 9 9 _ _ rfl (tg f info j ++ info) (bs [((j + 1 : Nat) : Int)]) (by kernel_rfl) (by kernel_rfl) (by rw [ByteArray.size_append, bs_size]; have := tg_le f info j; simp; omega)) ?_
        refine pl_call M (want_no rfl) (some 23) rfl 16 #[.agg (av 64 (w8 f)), .string ((tg f info j ++ info) ++ (bs [((j + 1 : Nat) : Int)]))] (.string (tg f info (j + 1))) (fun _ => by kernel_rfl) (fun w M => c_tag f _ (by simp only [ByteArray.size_append, bs_size]; have := tg_le f info j; simp; omega) w M.laid) ?_
        intro u11 M
        refine pl_val (want_no rfl) (some 8) rfl (.string (tg f info (j + 1))) (fun _ => by kernel_rfl) ?_
        refine pl_nil ?_
        refine au_then ?_
        refine wp_seq ?_
        refine rg_lit ?_
        refine pl_val (want_no rfl) (some 24) rfl (.string (tg f info (j + 1))) (fun _ => by kernel_rfl) ?_
        refine pl_callr (want_no rfl) (some 25) rfl 23 #[.pointer (some ⟨gk, 0, none⟩), .string (tg f info (j + 1))] (.tuple #[.int .i64 (tg f info (j + 1)).size, .nilIface]) _ (fun _ => by kernel_rfl) (c_write (hB.keep M) (tg f info (j + 1)) (by rw [al_len, tg_size]; omega)) ?_
        intro u12 hB2
        rw [al_next] at hB2
        refine pl_nil ?_
        refine au_then ?_
        refine wp_goto ?_
        refine au_then_goto ?_
        exact ⟨rfl, ⟨j + 1, gk, fun k_ => ([v 6, undef, undef, undef, .int .i64 ((al f info j).data.toList.length : Int), .int .i64 (n : Int), .bool true, .int .u8 (j : Int), .int .u8 ((j + 1 : Nat) : Int), .agg (av 64 (w8 f)), .string (tg f info j), .string info, .string ((tg f info j) ++ info), .int .u8 ((j + 1 : Nat) : Int), .slice (some ⟨g4, 0, none⟩) 1 1, .string (bs [((j + 1 : Nat) : Int)]), .string ((tg f info j ++ info) ++ (bs [((j + 1 : Nat) : Int)])), .string (tg f info (j + 1)), .string (tg f info (j + 1)), .tuple #[.int .i64 (tg f info (j + 1)).size, .nilIface], v 26] : List Value).getD (k_ - 6) undef, by omega, by kernel_rfl, hB2⟩, mu9_lt j (j + 1) (by kernel_rfl) (by kernel_rfl) (by omega) (by omega)⟩
    · skip
      have hjN : N = j := by omega
      · skip
        have M := hB.mem hL
        replace M : Mem ⟨u0, [g1]⟩ [⟨g1, .cells (av 64 (w8 f)) 39⟩] u0 := M
        refine wp_seq ?_
        refine wp_seq ?_
        refine rg_lit ?_
        refine pl_call M (want_no rfl) (some 10) rfl 22 #[.pointer (some ⟨gk, 0, none⟩)] (.int .i64 ((al f info j).data.toList.length : Int)) (fun _ => by kernel_rfl) (fun w M => c_len (hB.keep M)) ?_
        intro u13 M
        refine pl_val (want_no rfl) (some 11) rfl (.int .i64 (n : Int)) (fun _ => by kernel_rfl) ?_
        refine pl_val (want_no rfl) (some 12) rfl (.bool false) (fun w => Eq.trans (b := .ok (.value (.bool (decide (((al f info j).data.toList.length : Int) < (n : Int))))) w) (by kernel_rfl) (by rw [al_len, decide_eq_false (by omega)])) ?_
        refine pl_nil ?_
        refine au_then ?_
        refine wp_cond_false (by kernel_rfl) ?_
        refine wp_skip ?_
        refine au_then ?_
        refine wp_seq ?_
        refine rg_lit ?_
        refine pl_callr (want_no rfl) (some 26) rfl 24 #[.pointer (some ⟨gk, 0, none⟩)] (.string (al f info N)) _ (fun _ => by kernel_rfl) (c_string (hB.keep M) (al f info N) (by rw [hjN])) ?_
        intro u14 hB2
        refine pl_val (want_no rfl) (some 6) rfl (.string (al f info N)) (fun _ => by kernel_rfl) ?_
        refine pl_nil ?_
        refine au_then ?_
        refine wp_ret ?_
        refine au_scope_ret ?_
        rw [← hN]
        exact bodyPost_ret (v := .string (al f info N)) (results_tmp1 Tryd.results18 _ _ _ (by kernel_rfl)) (by kernel_rfl) ⟨rfl, hB2⟩


end Go.Proofs.YtpfneekmbednoaaDoor
