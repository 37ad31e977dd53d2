/- Values and memory whose shape is known, the rest left open; what they stand for. -/
import Derived.Below
import Derived.Deep.MidRow
import Derived.Deep.LoopGhost
import Derived.RegionTactic
import Derived.KernelRfl
namespace Go.Proofs.Ytlfekknonjlopaa
open Go.RowKit
set_option linter.unusedVariables false
set_option linter.unusedSimpArgs false

/-- A block and what it holds. -/
structure Blk where
  g : Nat
  Z : Obj
/-- Only these blocks have changed. -/
structure Grw (w w' : World) (r : List Nat) : Prop where
  os : w'.os = w.os
  tape : w'.tape = w.tape
  output : w'.output = w.output
  size : w.heap.size ≤ w'.heap.size
  block : ∀ k, k < w.heap.size → k ∉ r → w'.heap[k]? = w.heap[k]?
theorem grw_refl (w : World) (r : List Nat) : Grw w w r := ⟨rfl, rfl, rfl, Nat.le_refl _, fun _ _ _ => rfl⟩
theorem grw_below {w w' : World} (h : Below w.heap.size w w') (r : List Nat) : Grw w w' r := ⟨h.os, h.tape, h.output, h.size, fun k hk _ => h.block k hk⟩
theorem Grw.below {w w' : World} (h : Grw w w' []) : Below w.heap.size w w' := ⟨h.os, h.tape, h.output, h.size, fun k hk => h.block k hk (by simp)⟩
theorem Grw.trans {a b c : World} {r s : List Nat} (h : Grw a b r) (k : Grw b c s) (hs : ∀ x ∈ s, a.heap.size ≤ x ∨ x ∈ r) : Grw a c r :=
  ⟨k.os.trans h.os, k.tape.trans h.tape, k.output.trans h.output, Nat.le_trans h.size k.size, fun j hj hr => (k.block j (Nat.lt_of_lt_of_le hj h.size) fun e => (hs j e).elim (fun h => by omega) hr).trans (h.block j hj hr)⟩
theorem Grw.sub {w w' : World} {r s : List Nat} (h : Grw w w' r) (hs : ∀ x, x ∈ r → x ∈ s) : Grw w w' s := ⟨h.os, h.tape, h.output, h.size, fun k hk hr => h.block k hk fun e => hr (hs k e)⟩

/-- A program with its variables. -/
structure Seat (P : Program) where
  lo : Nat
  laid : World → Prop
  lt : ∀ w, laid w → lo ≤ w.heap.size
  mono : ∀ w w', laid w → (∀ k, k < lo → w'.heap[k]? = w.heap[k]?) → lo ≤ w'.heap.size → laid w'
  mix : P.follows .mixedOrders = true

/-- These blocks are there, no two of them one, none a variable of a package. -/
structure There {P : Program} (S : Seat P) (w : World) (T : List Blk) : Prop where
  at_ : ∀ b ∈ T, w.heap[b.g]? = some b.Z
  nodup : (T.map Blk.g).Nodup
  ne : ∀ b ∈ T, S.lo ≤ b.g
theorem There.nil {P : Program} (S : Seat P) (w : World) : There S w [] := ⟨by simp, by simp, by simp⟩
theorem There.lt {P : Program} {S : Seat P} {w : World} {T : List Blk} (h : There S w T) {b : Blk} (hb : b ∈ T) : b.g < w.heap.size := (Array.getElem?_eq_some_iff.1 (h.at_ b hb)).1
theorem There.sub {P : Program} {S : Seat P} {w : World} {T T' : List Blk} (h : There S w T) (hs : T'.Sublist T) : There S w T' := ⟨fun b hb => h.at_ b (hs.subset hb), h.nodup.sublist (hs.map _), fun b hb => h.ne b (hs.subset hb)⟩
theorem There.perm {P : Program} {S : Seat P} {w : World} {T T' : List Blk} (h : There S w T) (hs : T.Perm T') : There S w T' := ⟨fun b hb => h.at_ b (hs.mem_iff.2 hb), (hs.map _).nodup_iff.1 h.nodup, fun b hb => h.ne b (hs.mem_iff.2 hb)⟩
/-- What became of the blocks T: these, or others. -/
structure OkT (w w' : World) (T T' : List Blk) : Prop where
  grw : Grw w w' (T.map Blk.g)
  at_ : ∀ b ∈ T', w'.heap[b.g]? = some b.Z
  nodup : (T'.map Blk.g).Nodup
  ge : ∀ b ∈ T', b.g ∈ T.map Blk.g ∨ w.heap.size ≤ b.g
theorem OkT.perm {w w' : World} {T T' U U' : List Blk} (h : OkT w w' T T') (p : T.Perm U) (q : T'.Perm U') : OkT w w' U U' :=
  ⟨h.grw.sub fun _ hx => (p.map _).mem_iff.1 hx, fun b hb => h.at_ b (q.mem_iff.2 hb), (q.map _).nodup_iff.1 h.nodup, fun b hb => (h.ge b (q.mem_iff.2 hb)).imp_left fun hx => (p.map _).mem_iff.1 hx⟩
theorem OkT.refl {P : Program} {S : Seat P} {w : World} {T : List Blk} (h : There S w T) : OkT w w T T := ⟨grw_refl _ _, h.at_, h.nodup, fun _ hb => .inl (List.mem_map_of_mem hb)⟩
theorem OkT.below {P : Program} {S : Seat P} {w w' : World} {T : List Blk} (h : There S w T) (hb : Below w.heap.size w w') : OkT w w' T T :=
  ⟨grw_below hb _, fun b hm => by rw [hb.block _ (h.lt hm)]; exact h.at_ b hm, h.nodup, fun b hm => .inl (List.mem_map_of_mem hm)⟩
/-- Where a call began, and the blocks of it that may be changed. -/
structure Ctx where
  w : World
  r : List Nat
/-- Only what may be changed has changed; these blocks are there. -/
structure Mem {P : Program} (S : Seat P) (c : Ctx) (L : List Blk) (W : World) : Prop where
  old : Grw c.w W c.r
  at_ : ∀ b ∈ L, W.heap[b.g]? = some b.Z
  ge : ∀ b ∈ L, c.w.heap.size ≤ b.g ∨ b.g ∈ c.r
  nodup : (L.map Blk.g).Nodup
  lay : S.laid c.w
  ne : ∀ k ∈ c.r, S.lo ≤ k
section
variable {P : Program} {S : Seat P} {c : Ctx} {L L' T T' : List Blk} {W W' : World}
theorem Mem.start {w : World} (hL : S.laid w) (h : There S w T) : Mem S ⟨w, T.map Blk.g⟩ T w :=
  ⟨grw_refl _ _, h.at_, fun _ hb => .inr (List.mem_map_of_mem hb), h.nodup, hL, fun k hk => by obtain ⟨b, hb, rfl⟩ := List.mem_map.1 hk; exact h.ne b hb⟩
theorem Mem.laid (M : Mem S c L W) : S.laid W := S.mono _ _ M.lay (fun k hk => M.old.block k (Nat.lt_of_lt_of_le hk (S.lt _ M.lay)) fun e => absurd (M.ne k e) (by omega)) (Nat.le_trans (S.lt _ M.lay) M.old.size)
theorem Mem.lo (M : Mem S c L W) {b : Blk} (hb : b ∈ L) : S.lo ≤ b.g := (M.ge b hb).elim (fun h => Nat.le_trans (S.lt _ M.lay) h) fun h => M.ne _ h
theorem Mem.there (M : Mem S c L W) : There S W L := ⟨M.at_, M.nodup, fun _ hb => M.lo hb⟩
theorem Mem.perm (M : Mem S c L W) (h : L.Perm L') : Mem S c L' W := ⟨M.old, fun b hb => M.at_ b (h.mem_iff.2 hb), fun b hb => M.ge b (h.mem_iff.2 hb), (h.map _).nodup_iff.1 M.nodup, M.lay, M.ne⟩
theorem Mem.drop (M : Mem S c L W) (h : L'.Sublist L) : Mem S c L' W := ⟨M.old, fun b hb => M.at_ b (h.subset hb), fun b hb => M.ge b (h.subset hb), M.nodup.sublist (h.map _), M.lay, M.ne⟩
/-- What becomes of a part leaves the rest. -/
theorem Mem.step (M : Mem S c (T ++ L) W) (h : OkT W W' T T') : Mem S c (T' ++ L) W' where
  old := M.old.trans h.grw fun x hx => by
    obtain ⟨b, hb, rfl⟩ := List.mem_map.1 hx
    exact M.ge b (List.mem_append_left _ hb)
  at_ := fun b hb => by
    rcases List.mem_append.1 hb with hb | hb
    · exact h.at_ b hb
    · have hm : b ∈ T ++ L := List.mem_append_right _ hb
      have hlt : b.g < W.heap.size := (Array.getElem?_eq_some_iff.1 (M.at_ b hm)).1
      rw [h.grw.block _ hlt fun e => ?_]
      · exact M.at_ b hm
      · have hn := M.nodup
        rw [List.map_append, List.nodup_append] at hn
        exact hn.2.2 _ e _ (List.mem_map_of_mem hb) rfl
  ge := fun b hb => by
    rcases List.mem_append.1 hb with hb | hb
    · rcases h.ge b hb with h1 | h1
      · obtain ⟨d, hd, e⟩ := List.mem_map.1 h1
        rw [← e]
        exact M.ge d (List.mem_append_left _ hd)
      · exact .inl (Nat.le_trans M.old.size h1)
    · exact M.ge b (List.mem_append_right _ hb)
  nodup := by
    have hn := M.nodup
    rw [List.map_append, List.nodup_append] at hn
    rw [List.map_append, List.nodup_append]
    refine ⟨h.nodup, hn.2.1, fun x hx y hy e => ?_⟩
    obtain ⟨b, hb, rfl⟩ := List.mem_map.1 hx
    obtain ⟨d, hd, rfl⟩ := List.mem_map.1 hy
    rcases h.ge b hb with h1 | h1
    · exact hn.2.2 _ h1 _ (List.mem_map_of_mem hd) e
    · have := (Array.getElem?_eq_some_iff.1 (M.at_ d (List.mem_append_right _ hd))).1
      omega
  lay := M.lay
  ne := M.ne
theorem Mem.okT {w : World} (M : Mem S ⟨w, T.map Blk.g⟩ T' W) : OkT w W T T' := ⟨M.old, M.at_, M.nodup, fun b hb => (M.ge b hb).symm⟩
theorem Mem.drew (M : Mem S c L W) : Mem S c L W.drew := by
  have := M.step (T := []) (T' := []) (W' := W.drew) ⟨⟨rfl, rfl, rfl, Nat.le_refl _, fun _ _ _ => rfl⟩, by simp, by simp, by simp⟩
  exact this
end

/-- n cells, told by a function of the place. -/
def av (n : Nat) (F : Nat → Value) : Array Value := ((List.range n).map F).toArray
theorem av_size (n : Nat) (F : Nat → Value) : (av n F).size = n := by simp [av]
theorem av_get (n : Nat) (F : Nat → Value) (i : Nat) (h : i < n) : (av n F)[i]? = some (F i) := by simp [av, h]
def upd {α : Type} (f : Nat → α) (k : Nat) (v : α) : Nat → α := fun i => if i = k then v else f i
theorem av_set (n : Nat) (F : Nat → Value) (k : Nat) (v : Value) : (av n F).setIfInBounds k v = av n (upd F k v) := by
  apply Array.ext_getElem?
  intro i
  by_cases hi : i < n
  · rw [Array.getElem?_setIfInBounds, av_get n (upd F k v) i hi]
    by_cases hk : k = i
    · subst hk
      rw [if_pos rfl, if_pos (by rw [av_size]; exact hi)]
      simp [upd]
    · have : ¬ i = k := fun h => hk h.symm
      rw [if_neg hk, av_get n F i hi]
      simp [upd, this]
  · rw [Array.getElem?_eq_none (by simp [av_size]; omega), Array.getElem?_eq_none (by simp [av_size]; omega)]

/-- What stands for the numbers of a shape: a block, or a value with its blocks. -/
structure Ent where
  g : Nat
  v : Value
  T : List Blk
  one : v.oneCell' = true
/-- A value. k tells which: 0: what is not looked into (x); 1: place o of block b; 2: a slice of block b, from o on, of n, h of room; 3: the value that goes with data b; 4: the map b; 5: a row of cells (l); 6: several (l); 7: a function fn, with l ahead, m captured; 8: an interface's, of type b, which holds the one of l. -/
structure SV where
  k : Nat
  x : Value
  b : Nat
  o : Nat
  n : Nat
  h : Nat
  l : List SV
  m : List SV
  fn : Fn
def vV (x : Value) : SV := ⟨0, x, 0, 0, 0, 0, [], [], .func 0⟩
def vP (b o : Nat) : SV := ⟨1, undef, b, o, 0, 0, [], [], .func 0⟩
def vS (b o n h : Nat) : SV := ⟨2, undef, b, o, n, h, [], [], .func 0⟩
def vW (b : Nat) : SV := ⟨3, undef, b, 0, 0, 0, [], [], .func 0⟩
def vM (b : Nat) : SV := ⟨4, undef, b, 0, 0, 0, [], [], .func 0⟩
def vG (l : List SV) : SV := ⟨5, undef, 0, 0, 0, 0, l, [], .func 0⟩
def vT (l : List SV) : SV := ⟨6, undef, 0, 0, 0, 0, l, [], .func 0⟩
def vF (fn : Fn) (l m : List SV) : SV := ⟨7, undef, 0, 0, 0, 0, l, m, fn⟩
def vI (t : TypeId) (x : SV) : SV := ⟨8, undef, t, 0, 0, 0, [x], [], .func 0⟩
/-- One of the first five kinds. -/
def SV.denA (E : Nat → Ent) (s : SV) : Value := match s.k with
  | 0 => s.x
  | 1 => .pointer (some ⟨(E s.b).g, s.o, none⟩)
  | 2 => .slice (some ⟨(E s.b).g, s.o, none⟩) s.n s.h
  | 3 => (E s.b).v
  | 4 => .map (some (E s.b).g)
  | _ => undef
/-- What an interface holds. -/
def SV.denB (E : Nat → Ent) (s : SV) : Value := match s.k with
  | 5 => .agg (s.l.map (SV.denA E)).toArray
  | _ => s.denA E
/-- A cell. -/
def SV.denC (E : Nat → Ent) (s : SV) : Value := match s.k with
  | 7 => .func s.fn (s.l.map (SV.denA E)).toArray (s.m.map (SV.denA E)).toArray
  | 8 => match s.l with
    | y :: _ => .iface s.b (y.denB E)
    | [] => undef
  | _ => s.denA E
/-- One of several. -/
def SV.denU (E : Nat → Ent) (s : SV) : Value := match s.k with
  | 5 => .agg (s.l.map (SV.denC E)).toArray
  | _ => s.denC E
def SV.den (E : Nat → Ent) (s : SV) : Value := match s.k with
  | 6 => .tuple (s.l.map (SV.denU E)).toArray
  | _ => s.denU E
def SV.isA (s : SV) : Bool := Nat.ble s.k 4
def SV.isB (s : SV) : Bool := match s.k with
  | 5 => s.l.all SV.isA
  | _ => s.isA
def SV.isC (s : SV) : Bool := match s.k with
  | 5 | 6 => false
  | _ => true
def SV.isU (s : SV) : Bool := match s.k with
  | 6 => false
  | _ => true
/-- An item of memory. k tells which: 0: a block of cells (l); 1: a block that is a row of cells (n, F); 2: a block that is not looked into (Z); 3: data, by what is told of its value and its blocks (D); 4: blocks that are not looked into (T; none: a gap). -/
structure It where
  k : Nat
  l : List SV
  t : TypeId
  n : Nat
  F : Nat → Value
  Z : Obj
  D : Value → List Blk → Prop
  T : List Blk
def tC (l : List SV) (t : TypeId) : It := ⟨0, l, t, 0, fun _ => undef, .cells #[] 0 (0, 0), fun _ _ => True, []⟩
def tR (n : Nat) (F : Nat → Value) (t : TypeId) : It := ⟨1, [], t, n, F, .cells #[] 0 (0, 0), fun _ _ => True, []⟩
def tO (Z : Obj) : It := ⟨2, [], 0, 0, fun _ => undef, Z, fun _ _ => True, []⟩
def tD (D : Value → List Blk → Prop) : It := ⟨3, [], 0, 0, fun _ => undef, .cells #[] 0 (0, 0), D, []⟩
def tX (T : List Blk) : It := ⟨4, [], 0, 0, fun _ => undef, .cells #[] 0 (0, 0), fun _ _ => True, T⟩
def It.den (E : Nat → Ent) (i : Nat) (s : It) : List Blk := match s.k with
  | 0 => [⟨(E i).g, .cells (s.l.map (SV.denC E)).toArray s.t (0, 0)⟩]
  | 1 => [⟨(E i).g, .cells (av s.n s.F) s.t (0, 0)⟩]
  | 2 => [⟨(E i).g, s.Z⟩]
  | 3 => (E i).T
  | _ => s.T
def It.ok (E : Nat → Ent) (i : Nat) (s : It) : Prop := match s.k with
  | 3 => s.D (E i).v (E i).T
  | _ => True
def gap : It := tX []
/-- Items with their numbers. -/
def denP (E : Nat → Ent) : List (Nat × It) → List Blk
  | [] => []
  | (i, x) :: l => x.den E i ++ denP E l
def okP (E : Nat → Ent) (l : List (Nat × It)) : Prop := ∀ p ∈ l, p.2.ok E p.1
/-- All of memory. -/
def dens (E : Nat → Ent) : Nat → List It → List Blk
  | _, [] => []
  | k, x :: l => x.den E k ++ dens E (k + 1) l
def oks (E : Nat → Ent) (m : List It) : Prop := ∀ (i : Nat) (x : It), m[i]? = some x → x.ok E i
theorem gap_den (E : Nat → Ent) (i : Nat) : gap.den E i = [] := rfl
theorem denP_app (E : Nat → Ent) : ∀ l m : List (Nat × It), denP E (l ++ m) = denP E l ++ denP E m
  | [], _ => rfl
  | (i, x) :: l, m => by simp only [List.cons_append, denP, denP_app E l m, List.append_assoc]
theorem dens_set (E : Nat → Ent) : ∀ (m : List It) (k i : Nat) (x y : It), m[i]? = some x → (dens E k (m.set i y)).Perm (y.den E (k + i) ++ dens E k (m.set i gap))
  | [], _, _, _, _, h => by simp at h
  | z :: m, k, 0, x, y, _ => by simp [dens, gap_den]
  | z :: m, k, i + 1, x, y, h => by
    have ih := dens_set E m (k + 1) i x y (by simpa using h)
    simp only [List.set_cons_succ, dens]
    rw [show k + (i + 1) = k + 1 + i by omega]
    exact (List.Perm.append_left _ ih).trans (by rw [← List.append_assoc, ← List.append_assoc]; exact List.perm_append_comm.append_right _)
theorem set_self {m : List It} {i : Nat} {x : It} (h : m[i]? = some x) : m.set i x = m := by
  obtain ⟨hi, e⟩ := List.getElem?_eq_some_iff.1 h
  subst e
  exact List.set_getElem_self hi
theorem dens_get (E : Nat → Ent) (m : List It) (k i : Nat) (x : It) (h : m[i]? = some x) : (dens E k m).Perm (x.den E (k + i) ++ dens E k (m.set i gap)) := by
  have := dens_set E m k i x x h
  rwa [set_self h] at this
theorem dens_app (E : Nat → Ent) : ∀ (m n : List It) (k : Nat), dens E k (m ++ n) = dens E k m ++ dens E (k + m.length) n
  | [], n, k => by simp [dens]
  | x :: m, n, k => by simp only [List.cons_append, dens, dens_app E m n (k + 1), List.append_assoc, List.length_cons]; rw [show k + (m.length + 1) = k + 1 + m.length by omega]
/-- All its numbers have p. -/
def SV.alA (p : Nat → Bool) (s : SV) : Bool := match s.k with
  | 1 | 2 | 3 | 4 => p s.b
  | _ => true
def SV.alB (p : Nat → Bool) (s : SV) : Bool := match s.k with
  | 5 => s.l.all (SV.alA p)
  | _ => s.alA p
def SV.alC (p : Nat → Bool) (s : SV) : Bool := match s.k with
  | 7 => s.l.all (SV.alA p) && s.m.all (SV.alA p)
  | 8 => match s.l with
    | y :: _ => y.alB p
    | [] => true
  | _ => s.alA p
def SV.alU (p : Nat → Bool) (s : SV) : Bool := match s.k with
  | 5 => s.l.all (SV.alC p)
  | _ => s.alC p
def SV.al (p : Nat → Bool) (s : SV) : Bool := match s.k with
  | 6 => s.l.all (SV.alU p)
  | _ => s.alU p
def It.al (p : Nat → Bool) (s : It) : Bool := match s.k with
  | 0 => s.l.all (SV.alC p)
  | _ => true
section
variable {E E' : Nat → Ent} {p q : Nat → Bool}
theorem map_all {α β : Type} {f g : α → β} {p : α → Bool} (hf : ∀ x, p x = true → f x = g x) {l : List α} (hl : l.all p = true) : l.map f = l.map g :=
  List.map_congr_left fun x hx => hf x (List.all_eq_true.1 hl x hx)
theorem SV.denA_congr (h : ∀ i, p i = true → E i = E' i) (s : SV) (hb : s.alA p = true) : s.denA E = s.denA E' := by
  obtain ⟨k, x, b, o, n, g, l, m, fn⟩ := s
  match k with
  | 1 | 2 | 3 | 4 =>
    have := h b hb
    simp only [SV.denA, this]
  | 0 | k + 5 => rfl
theorem SV.denB_congr (h : ∀ i, p i = true → E i = E' i) (s : SV) (hb : s.alB p = true) : s.denB E = s.denB E' := by
  have hA := s.denA_congr h
  obtain ⟨k, x, b, o, n, g, l, m, fn⟩ := s
  match k with
  | 5 => exact congrArg (fun y : List Value => Value.agg y.toArray) (map_all (SV.denA_congr h) hb)
  | 0 | 1 | 2 | 3 | 4 | 6 | 7 | 8 | k + 9 => exact hA hb
theorem SV.denC_congr (h : ∀ i, p i = true → E i = E' i) (s : SV) (hb : s.alC p = true) : s.denC E = s.denC E' := by
  have hA := s.denA_congr h
  obtain ⟨k, x, b, o, n, g, l, m, fn⟩ := s
  match k with
  | 7 =>
    have hb := Bool.and_eq_true_iff.1 hb
    simp only [SV.denC, map_all (SV.denA_congr h) hb.1, map_all (SV.denA_congr h) hb.2]
  | 8 => cases l with
    | nil => rfl
    | cons y l => exact congrArg (Value.iface b) (y.denB_congr h hb)
  | 0 | 1 | 2 | 3 | 4 | 5 | 6 | k + 9 => exact hA hb
theorem SV.denU_congr (h : ∀ i, p i = true → E i = E' i) (s : SV) (hb : s.alU p = true) : s.denU E = s.denU E' := by
  have hA := s.denC_congr h
  obtain ⟨k, x, b, o, n, g, l, m, fn⟩ := s
  match k with
  | 5 => exact congrArg (fun y : List Value => Value.agg y.toArray) (map_all (SV.denC_congr h) hb)
  | 0 | 1 | 2 | 3 | 4 | 6 | 7 | 8 | k + 9 => exact hA hb
theorem SV.den_congr (h : ∀ i, p i = true → E i = E' i) (s : SV) (hb : s.al p = true) : s.den E = s.den E' := by
  have hA := s.denU_congr h
  obtain ⟨k, x, b, o, n, g, l, m, fn⟩ := s
  match k with
  | 6 => exact congrArg (fun y : List Value => Value.tuple y.toArray) (map_all (SV.denU_congr h) hb)
  | 0 | 1 | 2 | 3 | 4 | 5 | 7 | 8 | k + 9 => exact hA hb
theorem It.den_congr (h : ∀ i, p i = true → E i = E' i) {i : Nat} (hi : E i = E' i) (s : It) (hb : s.al p = true) : s.den E i = s.den E' i := by
  obtain ⟨k, l, t, n, F, Z, D, T⟩ := s
  match k with
  | 0 => simp only [It.den, hi, map_all (SV.denC_congr h) hb]
  | 1 | 2 | 3 => simp only [It.den, hi]
  | k + 4 => rfl
theorem all_imp {α : Type} {f g : α → Bool} (h : ∀ x, f x = true → g x = true) {l : List α} (hl : l.all f = true) : l.all g = true :=
  List.all_eq_true.2 fun x hx => h x (List.all_eq_true.1 hl x hx)
theorem SV.alA_imp (h : ∀ i, p i = true → q i = true) (s : SV) (hb : s.alA p = true) : s.alA q = true := by
  obtain ⟨k, x, b, o, n, g, l, m, fn⟩ := s
  match k with
  | 1 | 2 | 3 | 4 => exact h b hb
  | 0 | k + 5 => rfl
theorem SV.alB_imp (h : ∀ i, p i = true → q i = true) (s : SV) (hb : s.alB p = true) : s.alB q = true := by
  have hA := s.alA_imp h
  obtain ⟨k, x, b, o, n, g, l, m, fn⟩ := s
  match k with
  | 5 => exact all_imp (SV.alA_imp h) hb
  | 0 | 1 | 2 | 3 | 4 | 6 | 7 | 8 | k + 9 => exact hA hb
theorem SV.alC_imp (h : ∀ i, p i = true → q i = true) (s : SV) (hb : s.alC p = true) : s.alC q = true := by
  have hA := s.alA_imp h
  obtain ⟨k, x, b, o, n, g, l, m, fn⟩ := s
  match k with
  | 7 => exact Bool.and_eq_true_iff.2 ((Bool.and_eq_true_iff.1 hb).imp (all_imp (SV.alA_imp h)) (all_imp (SV.alA_imp h)))
  | 8 => cases l with
    | nil => rfl
    | cons y l => exact y.alB_imp h hb
  | 0 | 1 | 2 | 3 | 4 | 5 | 6 | k + 9 => exact hA hb
theorem SV.alU_imp (h : ∀ i, p i = true → q i = true) (s : SV) (hb : s.alU p = true) : s.alU q = true := by
  have hA := s.alC_imp h
  obtain ⟨k, x, b, o, n, g, l, m, fn⟩ := s
  match k with
  | 5 => exact all_imp (SV.alC_imp h) hb
  | 0 | 1 | 2 | 3 | 4 | 6 | 7 | 8 | k + 9 => exact hA hb
theorem SV.al_imp (h : ∀ i, p i = true → q i = true) (s : SV) (hb : s.al p = true) : s.al q = true := by
  have hA := s.alU_imp h
  obtain ⟨k, x, b, o, n, g, l, m, fn⟩ := s
  match k with
  | 6 => exact all_imp (SV.alU_imp h) hb
  | 0 | 1 | 2 | 3 | 4 | 5 | 7 | 8 | k + 9 => exact hA hb
theorem It.al_imp (h : ∀ i, p i = true → q i = true) (s : It) (hb : s.al p = true) : s.al q = true := by
  obtain ⟨k, l, t, n, F, Z, D, T⟩ := s
  match k with
  | 0 => exact all_imp (SV.alC_imp h) hb
  | 1 | 2 | 3 | k + 4 => rfl
end
theorem It.ok_congr {E E' : Nat → Ent} {i : Nat} (h : E i = E' i) (s : It) : s.ok E i = s.ok E' i := by
  unfold It.ok
  rw [h]
/-- Other numbers. -/
def SV.renA (f : Nat → Nat) (s : SV) : SV := match s.k with
  | 1 | 2 | 3 | 4 => { s with b := f s.b }
  | _ => s
def SV.renB (f : Nat → Nat) (s : SV) : SV := match s.k with
  | 5 => { s with l := s.l.map (SV.renA f) }
  | _ => s.renA f
def SV.renC (f : Nat → Nat) (s : SV) : SV := match s.k with
  | 7 => { s with l := s.l.map (SV.renA f), m := s.m.map (SV.renA f) }
  | 8 => { s with l := s.l.map (SV.renB f) }
  | _ => s.renA f
def SV.renU (f : Nat → Nat) (s : SV) : SV := match s.k with
  | 5 => { s with l := s.l.map (SV.renC f) }
  | _ => s.renC f
def SV.ren (f : Nat → Nat) (s : SV) : SV := match s.k with
  | 6 => { s with l := s.l.map (SV.renU f) }
  | _ => s.renU f
def It.ren (f : Nat → Nat) (s : It) : It := match s.k with
  | 0 => { s with l := s.l.map (SV.renC f) }
  | _ => s
section
variable (f : Nat → Nat) (E : Nat → Ent)
theorem SV.renA_k (s : SV) : (s.renA f).k = s.k := by unfold SV.renA; split <;> rfl
theorem SV.renB_k (s : SV) : (s.renB f).k = s.k := by unfold SV.renB; split <;> first | rfl | exact s.renA_k f
theorem SV.renC_k (s : SV) : (s.renC f).k = s.k := by unfold SV.renC; split <;> first | rfl | exact s.renA_k f
theorem SV.renU_k (s : SV) : (s.renU f).k = s.k := by unfold SV.renU; split <;> first | rfl | exact s.renC_k f
theorem SV.denA_ren (s : SV) : (s.renA f).denA E = s.denA fun i => E (f i) := by
  obtain ⟨k, x, b, o, n, h, l, m, fn⟩ := s
  unfold SV.renA SV.denA
  match k with
  | 0 | 1 | 2 | 3 | 4 | k + 5 => rfl
theorem SV.denB_ren (s : SV) : (s.renB f).denB E = s.denB fun i => E (f i) := by
  have hA := s.denA_ren f E
  obtain ⟨k, x, b, o, n, h, l, m, fn⟩ := s
  match k with
  | 5 => simp only [SV.renB, SV.denB, List.map_map, Function.comp_def, SV.denA_ren]
  | 0 | 1 | 2 | 3 | 4 | 6 | 7 | 8 | k + 9 => exact hA
theorem SV.denC_ren (s : SV) : (s.renC f).denC E = s.denC fun i => E (f i) := by
  have hA := s.denA_ren f E
  obtain ⟨k, x, b, o, n, h, l, m, fn⟩ := s
  match k with
  | 7 => simp only [SV.renC, SV.denC, List.map_map, Function.comp_def, SV.denA_ren]
  | 8 => cases l with
    | nil => rfl
    | cons y l => simp only [SV.renC, SV.denC, List.map_cons, SV.denB_ren]
  | 0 | 1 | 2 | 3 | 4 | 5 | 6 | k + 9 => exact hA
theorem SV.denU_ren (s : SV) : (s.renU f).denU E = s.denU fun i => E (f i) := by
  have hA := s.denC_ren f E
  obtain ⟨k, x, b, o, n, h, l, m, fn⟩ := s
  match k with
  | 5 => simp only [SV.renU, SV.denU, List.map_map, Function.comp_def, SV.denC_ren]
  | 0 | 1 | 2 | 3 | 4 | 6 | 7 | 8 | k + 9 => exact hA
theorem SV.den_ren (s : SV) : (s.ren f).den E = s.den fun i => E (f i) := by
  have hA := s.denU_ren f E
  obtain ⟨k, x, b, o, n, h, l, m, fn⟩ := s
  match k with
  | 6 => simp only [SV.ren, SV.den, List.map_map, Function.comp_def, SV.denU_ren]
  | 0 | 1 | 2 | 3 | 4 | 5 | 7 | 8 | k + 9 => exact hA
theorem It.den_ren (i : Nat) (s : It) : (s.ren f).den E (f i) = s.den (fun i => E (f i)) i := by
  obtain ⟨k, l, t, n, F, Z, D, T⟩ := s
  match k with
  | 0 => simp only [It.ren, It.den, List.map_map, Function.comp_def, SV.denC_ren]
  | 1 | 2 | 3 | k + 4 => rfl
theorem It.ok_ren (i : Nat) (s : It) : (s.ren f).ok E (f i) = s.ok (fun i => E (f i)) i := by
  obtain ⟨k, l, t, n, F, Z, D, T⟩ := s
  match k with
  | 0 | 1 | 2 | 3 | k + 4 => rfl
end
/-- What a kind is, is told by den alone. -/
theorem SV.den_A {s : SV} (h : s.isA = true) (E : Nat → Ent) : s.den E = s.denA E ∧ s.denU E = s.denA E ∧ s.denC E = s.denA E ∧ s.denB E = s.denA E := by
  obtain ⟨k, x, b, o, n, h, l, m, fn⟩ := s
  have hk : k ≤ 4 := Nat.le_of_ble_eq_true ‹_›
  match k, hk with
  | 0, _ | 1, _ | 2, _ | 3, _ | 4, _ => exact ⟨rfl, rfl, rfl, rfl⟩
theorem SV.den_C {s : SV} (h : s.isC = true) (E : Nat → Ent) : s.den E = s.denC E ∧ s.denU E = s.denC E := by
  obtain ⟨k, x, b, o, n, h, l, m, fn⟩ := s
  match k, h with
  | 0, _ | 1, _ | 2, _ | 3, _ | 4, _ | 7, _ | 8, _ | k + 9, _ => exact ⟨rfl, rfl⟩
theorem SV.den_U {s : SV} (h : s.isU = true) (E : Nat → Ent) : s.den E = s.denU E := by
  obtain ⟨k, x, b, o, n, h, l, m, fn⟩ := s
  match k, h with
  | 0, _ | 1, _ | 2, _ | 3, _ | 4, _ | 5, _ | 7, _ | 8, _ | k + 9, _ => rfl
end Go.Proofs.Ytlfekknonjlopaa
