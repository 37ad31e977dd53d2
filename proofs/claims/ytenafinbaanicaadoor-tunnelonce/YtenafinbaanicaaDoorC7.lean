/- The document: the walks of word, quarter, Block and Turn. -/
import Derived.Test.YtenafinbaanicaaDoorC6
namespace Go.Proofs.YtenafinbaanicaaDoor
open Go.RowKit

section
variable {P : Program} {ops : Array Oper} {rest : List Oper} {o : Oper} {a : Act} {w : World} {c : Ctx} {L : List Blk} {Q : Exit → Act → World → Prop}
theorem SB.put {Z : Obj} {cap : Nat} {l : List Value} (h : SB Z cap l) {i : Nat} (hi : i < l.length) (v : Value) {W : World} {g : Nat} (hz : W.heap[g]? = some Z) : ∃ Z', (W.setCell ⟨g, i, none⟩ v).heap[g]? = some Z' ∧ SB Z' cap (l.set i v) := by
  obtain ⟨cs, T, fr, rfl, h1, h2, h3, h4⟩ := h.ex
  refine ⟨.cells (cs.setIfInBounds i v) T fr, ?_, ⟨_, T, fr, rfl, by simpa using h1, by simpa using h2, fun j hj => ?_, h4⟩⟩
  · simp [World.setCell, Array.getElem?_modify, hz]
  · rw [List.length_set] at hj
    rw [Array.getElem?_setIfInBounds, List.getElem?_set]
    by_cases e : i = j
    · subst e
      rw [if_pos rfl, if_pos rfl, if_pos (by omega), if_pos hi]
    · rw [if_neg e, if_neg e, h3 j hj]
theorem SB.free {Z : Obj} {cap : Nat} {l : List Value} (h : SB Z cap l) {i : Nat} (hi : i < l.length) {W : World} {g : Nat} (hz : W.heap[g]? = some Z) : W.frozen? ⟨g, i, none⟩ = false := by
  obtain ⟨cs, T, fr, rfl, h1, h2, h3, h4⟩ := h.ex
  unfold World.frozen?
  rw [hz]
  exact h4 i (by omega)
theorem pl_putS (M : Mem c L w) (hw : Region.wanted o (yielded ops a.tmps) = true) (hd : o.dst = none) (ty : TypeId) (x y : Operand) (ho : o.op = .store ty x y) (i g off : Nat) (hx : a.eval x = .pointer (some ⟨g, off, none⟩)) (Z : Obj) (hi : L[i]? = some ⟨g, Z⟩) (cap : Nat) (l : List Value) (hs : SB Z cap l) (hk : off < l.length) (v : Value)
    (hy : a.eval y = v) (hz : (P.info? ty).map (·.size) = some 1) (h1 : v.oneCell' = true) (hc : v.cells = #[v])
    (h : ∀ Z' w', SB Z' cap (l.set off v) → Mem c (L.set i ⟨g, Z'⟩) w' → PL P ops Q rest a w') : PL P ops Q (o :: rest) a w := by
  have R := M.get i hi
  obtain ⟨Z', h2, h3⟩ := hs.put hk v R
  have h4 := h Z' (w.setCell ⟨g, off, none⟩ v) h3 (M.put i ⟨g, _⟩ hi _ (grown_setCell w g off v) h2)
  have hcell : w.cell? ⟨g, off, none⟩ = some l[off] := hs.cell R (List.getElem?_eq_getElem hk)
  have hrun : (Instr.storeAt ty (.pointer (some ⟨g, off, none⟩)) v).run P w = .ok () (w.setCell ⟨g, off, none⟩ v) := by
    cases hq : P.info? ty with
    | none => simp [hq] at hz
    | some t =>
      have ht : t.size = 1 := by simpa [hq] using hz
      have hcc := run_storeCells_cells (P := P) g off [v] 0 w (by intro j hj; simp at hj; subst hj; simp [hcell]) (by intro j hj; simp at hj; subst hj; simpa using hs.free hk R) (by simpa using h1)
      simp only [Nat.add_zero, World.setCells] at hcc
      simp [Instr.storeAt, Instr.sureAddr, storeVar, sizeOf, typeInfo, hq, ht, hc, hcc]
  refine ⟨Go.BigFrame.wpList_want hw fun K hK => ?_⟩
  unfold Oper.wp execOp
  simp only [ho, hx, hy, Sem.run_bind, hrun, Result.andThen_ok, Sem.run_pure]
  show K (a.put o.dst undef) _
  rw [hd]
  exact hK _ _ h4.out
end
/-- Four bytes, the lowest first. -/
def wd4 (s : ByteArray) : Int := vo (vo (vo (cv .u32 (bt s 0)) (vl (cv .u32 (bt s 1)) 8)) (vl (cv .u32 (bt s 2)) 16)) (vl (cv .u32 (bt s 3)) 24)

def e1 (v : Nat → Int) (p0 p1 : Nat) : Nat → Int := upd v p0 (va (v p0) (v p1))
def e2 (v : Nat → Int) (p0 p1 p3 : Nat) : Nat → Int := upd (e1 v p0 p1) p3 (vx ((e1 v p0 p1) p3) ((e1 v p0 p1) p0))
def e3 (v : Nat → Int) (p0 p1 p3 : Nat) : Nat → Int := upd (e2 v p0 p1 p3) p3 (rl ((e2 v p0 p1 p3) p3) 16)
def e4 (v : Nat → Int) (p0 p1 p2 p3 : Nat) : Nat → Int := upd (e3 v p0 p1 p3) p2 (va ((e3 v p0 p1 p3) p2) ((e3 v p0 p1 p3) p3))
def e5 (v : Nat → Int) (p0 p1 p2 p3 : Nat) : Nat → Int := upd (e4 v p0 p1 p2 p3) p1 (vx ((e4 v p0 p1 p2 p3) p1) ((e4 v p0 p1 p2 p3) p2))
def e6 (v : Nat → Int) (p0 p1 p2 p3 : Nat) : Nat → Int := upd (e5 v p0 p1 p2 p3) p1 (rl ((e5 v p0 p1 p2 p3) p1) 12)
def e7 (v : Nat → Int) (p0 p1 p2 p3 : Nat) : Nat → Int := upd (e6 v p0 p1 p2 p3) p0 (va ((e6 v p0 p1 p2 p3) p0) ((e6 v p0 p1 p2 p3) p1))
def e8 (v : Nat → Int) (p0 p1 p2 p3 : Nat) : Nat → Int := upd (e7 v p0 p1 p2 p3) p3 (vx ((e7 v p0 p1 p2 p3) p3) ((e7 v p0 p1 p2 p3) p0))
def e9 (v : Nat → Int) (p0 p1 p2 p3 : Nat) : Nat → Int := upd (e8 v p0 p1 p2 p3) p3 (rl ((e8 v p0 p1 p2 p3) p3) 8)
def e10 (v : Nat → Int) (p0 p1 p2 p3 : Nat) : Nat → Int := upd (e9 v p0 p1 p2 p3) p2 (va ((e9 v p0 p1 p2 p3) p2) ((e9 v p0 p1 p2 p3) p3))
def e11 (v : Nat → Int) (p0 p1 p2 p3 : Nat) : Nat → Int := upd (e10 v p0 p1 p2 p3) p1 (vx ((e10 v p0 p1 p2 p3) p1) ((e10 v p0 p1 p2 p3) p2))
def e12 (v : Nat → Int) (p0 p1 p2 p3 : Nat) : Nat → Int := upd (e11 v p0 p1 p2 p3) p1 (rl ((e11 v p0 p1 p2 p3) p1) 7)
theorem up_at (f : Nat → Int) (k : Nat) (x : Int) : upd f k x k = x := if_pos rfl
theorem up_ne (f : Nat → Int) (k : Nat) (x : Int) {j : Nat} (h : j ≠ k) : upd f k x j = f j := if_neg h
theorem up_up (f : Nat → Int) (k : Nat) (x y : Int) : upd (upd f k x) k y = upd f k y := by
  funext t
  unfold upd
  split <;> rfl
theorem up_comm (f : Nat → Int) {i j : Nat} (h : i ≠ j) (x y : Int) : upd (upd f i x) j y = upd (upd f j y) i x := by
  funext t
  unfold upd
  by_cases h1 : t = j
  · subst h1
    rw [if_pos rfl, if_neg (Ne.symm h), if_pos rfl]
  · rw [if_neg h1, if_neg h1]
theorem e12_eq (v : Nat → Int) (i j k l : Nat) (hij : i ≠ j) (hik : i ≠ k) (hil : i ≠ l) (hjk : j ≠ k) (hjl : j ≠ l) (hkl : k ≠ l) : e12 v i j k l = mxF v i j k l := by
  have a3 : e3 v i j l = upd (upd v i (mA1 v i j)) l (mD1 v i j l) := by
    unfold e3 e2 e1 mD1 mA1
    rw [up_up, up_at, up_ne _ _ _ (Ne.symm hil), up_at]
  have a4 : e4 v i j k l = upd (upd (upd v i (mA1 v i j)) l (mD1 v i j l)) k (mC1 v i j k l) := by
    unfold e4 mC1
    rw [a3, up_at, up_ne _ _ _ hkl, up_ne _ _ _ (Ne.symm hik)]
  have a6 : e6 v i j k l = upd (upd (upd (upd v i (mA1 v i j)) l (mD1 v i j l)) k (mC1 v i j k l)) j (mB1 v i j k l) := by
    unfold e6 e5 mB1
    rw [up_up, up_at, a4, up_at, up_ne _ _ _ hjk, up_ne _ _ _ hjl, up_ne _ _ _ (Ne.symm hij)]
  have a7 : e7 v i j k l = upd (e6 v i j k l) i (mA2 v i j k l) := by
    unfold e7 mA2
    rw [a6, up_at, up_ne _ _ _ hij, up_ne _ _ _ hik, up_ne _ _ _ hil, up_at]
  have a9 : e9 v i j k l = upd (e7 v i j k l) l (mD2 v i j k l) := by
    unfold e9 e8 mD2
    rw [up_up, up_at, a7, up_at, a6, up_ne _ _ _ (Ne.symm hil), up_ne _ _ _ (Ne.symm hjl), up_ne _ _ _ (Ne.symm hkl), up_at]
  have a10 : e10 v i j k l = upd (e9 v i j k l) k (mC2 v i j k l) := by
    unfold e10 mC2
    rw [a9, up_at, a7, a6, up_ne _ _ _ hkl, up_ne _ _ _ (Ne.symm hik), up_ne _ _ _ (Ne.symm hjk), up_at]
  have a12 : e12 v i j k l = upd (e10 v i j k l) j (mB2 v i j k l) := by
    unfold e12 e11 mB2
    rw [up_up, up_at, a10, up_at, a9, a7, a6, up_ne _ _ _ hjk, up_ne _ _ _ hjl, up_ne _ _ _ (Ne.symm hij), up_at]
  rw [a12, a10, a9, a7, a6]
  funext t
  unfold mxF upd
  by_cases h1 : t = l
  · subst h1
    simp [Ne.symm hjl, Ne.symm hkl]
  · by_cases h2 : t = k
    · subst h2
      simp [h1, Ne.symm hjk]
    · by_cases h3 : t = j
      · subst h3
        simp [h1, h2]
      · by_cases h4 : t = i
        · subst h4
          simp [h1, h2, h3]
        · simp [h1, h2, h3, h4]

/-- The bytes of a number. -/
def nb (n : Int) : Nat → Int
  | 0 => cv .u8 n
  | 1 => cv .u8 (sr n 8)
  | 2 => cv .u8 (sr n 16)
  | 3 => cv .u8 (sr n 24)
  | _ => 0
theorem cv8_nn (x : Int) : 0 ≤ cv .u8 x ∧ cv .u8 x < 256 := by
  unfold cv
  simp [IntKind.wrap, IntKind.signed, IntKind.bits]
  omega
theorem nb_nn (n : Int) : ∀ x ∈ (List.range 4).map (nb n), 0 ≤ x ∧ x < 256 := fun x hx => by
  obtain ⟨i, hi, rfl⟩ := List.mem_map.1 hx
  have hi := List.mem_range.1 hi
  rcases i with _ | _ | _ | _ | i
  · exact cv8_nn _
  · exact cv8_nn _
  · exact cv8_nn _
  · exact cv8_nn _
  · omega
def nB (n : Int) : ByteArray := bs ((List.range 4).map (nb n))
theorem nB_size (n : Int) : (nB n).size = 4 := by
  unfold nB
  rw [bs_size]
  rfl
/-- All bytes that a block begins with. -/
def alS (key nonce : ByteArray) (n : Int) : ByteArray := strK ++ key ++ nB n ++ nonce
theorem strK_size : strK.size = 16 := rfl
theorem alS_size (key nonce : ByteArray) (n : Int) (hk : key.size = 32) (hn : nonce.size = 12) : (alS key nonce n).size = 64 := by
  unfold alS
  rw [ByteArray.size_append, ByteArray.size_append, ByteArray.size_append, nB_size, strK_size, hk, hn]
/-- Their words, up to a place. -/
def dx (al : ByteArray) : Nat → (Nat → Int)
  | 0 => fun _ => 0
  | j + 1 => upd (dx al j) j (wd4 (al.extract (4 * j) (4 * j + 4)))
def dk (x : Nat → Int) : Nat → (Nat → Int)
  | 0 => fun _ => 0
  | j + 1 => upd (dk x j) j (cv .u8 (sr (va (x (j / 4)) (rd x 10 (j / 4))) (8 * (j % 4))))
def dbl (x : Nat → Int) (i : Nat) : Int := cv .u8 (sr (va (x (i / 4)) (rd x 10 (i / 4))) (8 * (i % 4)))
theorem dk_at (x : Nat → Int) : ∀ n, ∀ i, i < n → dk x n i = dbl x i
  | 0, i, h => absurd h (by omega)
  | n + 1, i, h => by
    unfold dk upd
    by_cases e : i = n
    · rw [if_pos e, e]
      rfl
    · rw [if_neg e, dk_at x n i (by omega)]
theorem dk_map (x : Nat → Int) : (List.range 64).map (dk x 64) = (List.range 64).map (dbl x) := List.map_congr_left fun i hi => dk_at x 64 i (List.mem_range.1 hi)
theorem dbl_nn (x : Nat → Int) : ∀ y ∈ (List.range 64).map (dbl x), 0 ≤ y ∧ y < 256 := fun y hy => by
  obtain ⟨i, _, rfl⟩ := List.mem_map.1 hy
  exact cv8_nn _
/-- The document's block. -/
def dbk (key nonce : ByteArray) (n : Int) : ByteArray := bs ((List.range 64).map (dbl (dx (alS key nonce n) 16)))
theorem dbk_size (key nonce : ByteArray) (n : Int) : (dbk key nonce n).size = 64 := by
  unfold dbk
  rw [bs_size]
  simp

end Go.Proofs.YtenafinbaanicaaDoor
