/- What Shared answers hangs on the numbers modulo the prime alone; some answers, reckoned. -/
import Derived.Test.YtiiniodidkfbiaaRlad
import Derived.Test.YtiiniodidkfbiaaIs
namespace Go.Proofs.Ytiiniodidkfbiaa
open Go.RowKit

/-- What the ladder of these bits makes of a number. -/
def shV (K : ByteArray) (X : Int) : Int := (rladF K X 255).x2 * pwm (rladF K X 255).z2 (xbit 255 21) 255 % Pm

structure Lc (l : St) (q : RS) : Prop where
  x2 : Cg l.dx.n q.x2
  z2 : Cg l.dz.n q.z2
  x3 : Cg l.px.n q.x3
  z3 : Cg l.pz.n q.z3

theorem em (X : Int) : Cg X (X % Pm) := (cg_emod X).symm

theorem step_cg {ax az bx bz x : E5} {q : RS} {X : Int} (h1 : Cg ax.n q.x2) (h2 : Cg az.n q.z2) (h3 : Cg bx.n q.x3) (h4 : Cg bz.n q.z3) (h5 : Cg x.n X) : Lc (stepF ax az bx bz x) (rstep X q) := by
  have a := ((addF_n ax az).trans (h1.add h2)).trans (em _)
  have d := ((subF_n ax az).trans (h1.sub h2)).trans (em _)
  have aa := ((mulF_n _ _).trans (a.mul a)).trans (em _)
  have dd := ((mulF_n _ _).trans (d.mul d)).trans (em _)
  have e := ((subF_n _ _).trans (aa.sub dd)).trans (em _)
  have u1 := ((subF_n bx bz).trans (h3.sub h4)).trans (em _)
  have da := ((mulF_n _ _).trans (u1.mul a)).trans (em _)
  have u2 := ((addF_n bx bz).trans (h3.add h4)).trans (em _)
  have cb := ((mulF_n _ _).trans (u2.mul d)).trans (em _)
  have s := ((addF_n _ _).trans (da.add cb)).trans (em _)
  have t := ((subF_n _ _).trans (da.sub cb)).trans (em _)
  have k := ((mulF_n _ _).trans ((smallF_n 121665).mul e)).trans (em _)
  have f := ((addF_n _ _).trans (aa.add k)).trans (em _)
  exact ⟨((mulF_n _ _).trans (aa.mul dd)).trans (em _), ((mulF_n _ _).trans (e.mul f)).trans (em _), ((mulF_n _ _).trans (s.mul s)).trans (em _), ((mulF_n _ _).trans (h5.mul (((mulF_n _ _).trans (t.mul t)).trans (em _)))).trans (em _)⟩

theorem lad_cg (K : ByteArray) {x : E5} {X : Int} (h : Cg x.n X) : ∀ k, Lc (ladF K x k) (rladF K X k)
  | 0 => ⟨smallF_n 1, Cg.of_eq zeroE_n, h, smallF_n 1⟩
  | k + 1 => by
    have ih := lad_cg K h k
    unfold ladF rladF
    by_cases hb : bit K (254 - k) = 0
    · rw [if_pos hb, if_pos hb]
      exact step_cg ih.x2 ih.z2 ih.x3 ih.z3 h
    · rw [if_neg hb, if_neg hb]
      have := step_cg (q := (rladF K X k).swap) ih.x3 ih.z3 ih.x2 ih.z2 h
      exact ⟨this.x3, this.z3, this.x2, this.z2⟩

theorem shE_V (s p : ByteArray) : (shE s p).n % Pm = shV (clS s) (val (mkS p) % Pm) := by
  have h := lad_cg (clS s) ((ofF_n (mkS p)).trans (em _)) 255
  exact ((mulF_n _ _).trans (h.x2.mul (rinv_val h.z2))).emod

/-- The bytes and the error for a number. -/
def sS (V : Int) : ByteArray := if V = 0 then ⟨#[]⟩ else lebytes V
def sC (V : Int) : Int := if V = 0 then 30 else 0
theorem shS_V (s p : ByteArray) : shS s p = sS (shV (clS s) (val (mkS p) % Pm)) := by
  unfold shS sS
  rw [shE_V]
theorem shC_V (s p : ByteArray) : shC s p = sC (shV (clS s) (val (mkS p) % Pm)) := by
  unfold shC sC
  rw [shE_V]

theorem sh_any (s p : ByteArray) (w : World) (V : Int) (hs : s.size = 32) (hp : p.size = 32) (hV : shV (clS s) (val (mkS p) % Pm) = V) :
    Calls Try.prog 8 #[.string s, .string p] w fun r w' => r = .returned (.tuple #[.string (sS V), .int .i64 (sC V)]) ∧ Below w.heap.size w w' := by
  have h := shared_yes s p w hs hp
  rwa [shS_V, shC_V, hV] at h

theorem pub_any (s : ByteArray) (w : World) (V : Int) (hs : s.size = 32) (hV : shV (clS s) (val (mkS nineS) % Pm) = V) :
    Calls Try.prog 10 #[.string s] w fun r w' => r = .returned (.tuple #[.string (sS V), .int .i64 (sC V)]) ∧ Below w.heap.size w w' :=
  public_gen s _ _ w fun w => sh_any s nineS w V hs nineS_size hV

theorem rb_bt (f : Nat → Int) {i : Nat} (h : i < 32) : bt (bs (rb f 32)) i = by16 f i := by
  refine bt_bs _ _ _ ?_ (by unfold by16; omega) (by unfold by16; omega)
  simp only [rb, List.getElem?_map, List.getElem?_range h, Option.map_some]
  rw [if_pos h]
theorem rb_pt {f : Nat → Int} (hf : Dig f 16) : val (bs (rb f 32)) = S f 16 := by
  rw [← pt_S]
  refine S_congr fun i hi => ?_
  have h := hf i hi
  unfold pt
  rw [if_pos (by omega), if_pos (by omega), rb_bt f (by omega), rb_bt f (by omega)]
  unfold by16
  rw [show 2 * i / 2 = i by omega, show 2 * i % 2 = 0 by omega, show (2 * i + 1) / 2 = i by omega, show (2 * i + 1) % 2 = 1 by omega]
  simp
  omega

theorem and127 {x : Int} (h0 : 0 ≤ x) (h1 : x < 128) : bits .and .u8 x 127 = x := by
  obtain ⟨X, rfl⟩ := Int.eq_ofNat_of_zero_le h0
  have hX : X < 128 := by omega
  have h : ∀ n : Fin 128, bits .and .u8 ((n.val : Nat) : Int) 127 = ((n.val : Nat) : Int) := by decide +kernel
  exact h ⟨X, hX⟩

theorem bs_bt (s : ByteArray) (hs : s.size = 32) : bs ((List.range 32).map (bt s)) = s := by
  have hd : (bs ((List.range 32).map (bt s))).data = s.data := by
    apply Array.ext_getElem?
    intro i
    have hs' : s.data.size = 32 := hs
    by_cases hi : i < 32
    · simp only [bs, List.getElem?_toArray, List.getElem?_map, List.getElem?_range hi, Option.map_some, bt]
      rw [Array.getElem?_eq_getElem (by omega)]
      simp
    · simp only [bs, List.getElem?_toArray]
      rw [List.getElem?_eq_none (by simp; omega), Array.getElem?_eq_none (by omega)]
  cases s
  unfold bs at *
  simp only at hd
  rw [hd]

/-- The canonical bytes of a number are their own public key. -/
theorem mk_leb {W : Int} (hW : 0 ≤ W ∧ W < Pm) : val (mkS (bs (rb (d16 W) 32))) % Pm = W := by
  have hsz : (bs (rb (d16 W) 32)).size = 32 := by rw [bs_size, rb_len]
  have hb : bt (bs (rb (d16 W) 32)) 31 < 128 := by
    rw [rb_bt _ (by omega)]
    have hP : Pm < 2 ^ 255 := by decide
    have e : d16 W 15 = W / 65536 ^ 15 % 65536 := rfl
    show d16 W (31 / 2) / 256 ^ (31 % 2) % 256 < 128
    rw [show 31 / 2 = 15 from rfl, show 31 % 2 = 1 from rfl, e]
    have h1 : W / 65536 ^ 15 < 32768 := Int.ediv_lt_of_lt_mul (by decide) (by have : (32768 : Int) * 65536 ^ 15 = 2 ^ 255 := by decide
                                                                              omega)
    have h0 : 0 ≤ W / 65536 ^ 15 := Int.ediv_nonneg hW.1 (by decide)
    generalize W / 65536 ^ 15 = Y at *
    rw [show (256 : Int) ^ 1 = 256 by decide]
    omega
  have e : mkS (bs (rb (d16 W) 32)) = bs (rb (d16 W) 32) := by
    unfold mkS
    rw [show (List.range 32).map (mkF (bs (rb (d16 W) 32))) = (List.range 32).map (bt (bs (rb (d16 W) 32))) from List.map_congr_left fun i _ => by
      unfold mkF upd
      by_cases h : i = 31
      · rw [if_pos h, h, and127 (bt_bd _ _).1 hb]
      · rw [if_neg h]]
    exact bs_bt _ hsz
  rw [e, rb_pt (d16_dig W 16), dSP hW, Int.emod_eq_of_lt hW.1 hW.2]

theorem leb_rb {W : Int} (hW : 0 ≤ W ∧ W < Pm) : lebytes W = bs (rb (d16 W) 32) := by
  have h := lebytes_S (f := d16 W) (d16_dig W 16)
  rwa [dSP hW] at h

theorem shV_bd (K : ByteArray) (X : Int) : 0 ≤ shV K X ∧ shV K X < Pm := pmod _

def aS : ByteArray := bs (List.replicate 31 0 ++ [97])
def bbS : ByteArray := bs (List.replicate 31 0 ++ [98])
def z32S : ByteArray := bs (List.replicate 32 0)
def pV : Int := 16572691432107831290236438983220704641597839740724002177525024145463529258009
def qV : Int := 3873599628253772194686510826457445042224408612751331329672488392857300769615
def sV : Int := 45863505615179444264250632754092809270636439140959747961807530266934234225689
theorem v9 : val (mkS nineS) % Pm = 9 := by decide +kernel
theorem v0 : val (mkS z32S) % Pm = 0 := by decide +kernel
theorem sh_a : shV (clS aS) 9 = pV := by decide +kernel
theorem sh_b : shV (clS bbS) 9 = qV := by decide +kernel
theorem sh_ab : shV (clS aS) qV = sV := by decide +kernel
theorem sh_ba : shV (clS bbS) pV = sV := by decide +kernel
theorem sh_a0 : shV (clS aS) 0 = 0 := by decide +kernel
theorem aS_size : aS.size = 32 := by decide +kernel
theorem bbS_size : bbS.size = 32 := by decide +kernel
theorem z32_size : z32S.size = 32 := by decide +kernel

end Go.Proofs.Ytiiniodidkfbiaa
