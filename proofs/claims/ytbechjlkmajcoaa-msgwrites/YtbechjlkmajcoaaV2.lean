/- Both sides are one: bytes that are written, and what is read. -/
import Derived.Test.YtbechjlkmajcoaaV1
namespace Go.Proofs.Ytbechjlkmajcoaa
open Go.RowKit

/-- The fields of a type, in their order. -/
def FL (t : Int) : List Nat := if t = 1 then [0, 1, 10] else if t = 2 then [0, 6, 8] else if t = 3 then [0, 6] else if t = 4 then [6, 11, 12] else if t = 5 then [5, 6, 11, 12] else if t = 6 then [9] else if t = 7 then [7] else if t = 8 then [7, 8] else if t = 9 then [0, 11] else if t = 10 then [0, 11] else if t = 11 then [0] else if t = 12 then [0, 7] else if t = 13 then [11] else if t = 14 then [1, 11] else if t = 15 then [0, 11] else if t = 16 then [1] else if t = 17 then [2, 11] else if t = 18 then [2, 3, 11] else if t = 19 then [3, 4, 11] else if t = 20 then [0, 7] else if t = 21 then [7, 8] else []
/-- A field's bytes. -/
def fB (m : Mg) (k : Nat) : ByteArray := dbF m (letV k)
def apB (f : Nat → ByteArray) (x : ByteArray) (l : List Nat) : ByteArray := l.foldl (fun x k => x ++ f k) x
theorem apB_congr {f g : Nat → ByteArray} (x : ByteArray) : ∀ l : List Nat, (∀ k ∈ l, f k = g k) → apB f x l = apB g x l
  | [], _ => rfl
  | k :: l, h => by
    show apB f (x ++ f k) l = apB g (x ++ g k) l
    rw [h k (List.mem_cons_self ..)]
    exact apB_congr _ l fun j hj => h j (List.mem_cons_of_mem _ hj)
theorem FL_lt {t : Int} (h : shP t ≠ 0) : ∀ k ∈ FL t, k < 13 := by
  rcases ty_cases h with rfl | rfl | rfl | rfl | rfl | rfl | rfl | rfl | rfl | rfl | rfl | rfl | rfl | rfl | rfl | rfl | rfl | rfl | rfl | rfl | rfl
  all_goals decide
set_option maxRecDepth 10000 in
theorem wr_fl (m : Mg) {t : Int} (h : shP t ≠ 0) : wrS m (shP t) 13 = apB (fun k => byF (bitV k) (inV m k)) (bs [m.ty]) (FL t) := by
  rcases ty_cases h with rfl | rfl | rfl | rfl | rfl | rfl | rfl | rfl | rfl | rfl | rfl | rfl | rfl | rfl | rfl | rfl | rfl | rfl | rfl | rfl | rfl
  all_goals kernel_rfl
set_option maxRecDepth 10000 in
theorem dx_fl (m : Mg) {t : Int} (h : shP t ≠ 0) : dxS m (fdP t) (fdP t).size = apB (fun k => fB m k) (bs [m.ty]) (FL t) := by
  rcases ty_cases h with rfl | rfl | rfl | rfl | rfl | rfl | rfl | rfl | rfl | rfl | rfl | rfl | rfl | rfl | rfl | rfl | rfl | rfl | rfl | rfl | rfl
  all_goals kernel_rfl
theorem wtS_du (s : ByteArray) : wtS s = duS s := by
  unfold wtS duS
  rw [be2_u16, be2_u64]
theorem enB_de (v : Bool) (h l p : Int) : enB v h l p = deB v h l p := by
  unfold enB deB
  cases v
  · rw [if_neg (by decide), if_neg (by decide), be4_u32]
    rfl
  · rw [if_pos rfl, if_pos rfl, ByteArray.append_assoc (a := bs [6])]
    rfl
theorem by_fB (m : Mg) : ∀ k, k < 13 → byF (bitV k) (inV m k) = fB m k
  | 0, _ => rfl
  | 1, _ => rfl
  | 2, _ => be4_u32 _
  | 3, _ => be4_u32 _
  | 4, _ => rfl
  | 5, _ => rfl
  | 6, _ => rfl
  | 7, _ => rfl
  | 8, _ => enB_de _ _ _ _
  | 9, _ => be2_u16 _
  | 10, _ => wtS_du _
  | 11, _ => wtS_du _
  | 12, _ => rfl
theorem eO_is (m : Mg) (h : mE m = 0) : eO m = apB (fun k => fB m k) (bs [m.ty]) (FL m.ty) := by
  have h0 : shP m.ty ≠ 0 := fun e => by
    unfold mE at h
    rw [if_pos e] at h
    exact absurd h (by decide)
  unfold eO
  rw [if_pos h, wr_fl m h0]
  exact apB_congr _ _ fun k hk => by_fB m k (FL_lt h0 k hk)
theorem eO_no (m : Mg) (h : ¬ mE m = 0) : eO m = ⟨#[]⟩ := if_neg h
/-- Both write the same. -/
theorem eO_deO (m : Mg) (hr : okM m) : eO m = deO m := by
  by_cases h : mE m = 0
  · have h0 : shP m.ty ≠ 0 := fun e => by
      unfold mE at h
      rw [if_pos e] at h
      exact absurd h (by decide)
    rw [eO_is m h]
    unfold deO
    rw [← mE_dE m hr, if_pos h, dx_fl m h0]
  · rw [eO_no m h]
    unfold deO
    rw [← mE_dE m hr, if_neg h]
/-- A field that is read: the program, the document. -/
def rK : Nat → Rs → Rs
  | 0, r => tkR r 32
  | 1, r => tkR r 32
  | 2, r => tkR r 4
  | 3, r => tkR r 4
  | 4, r => tkR r 8
  | 5, r => tkR r 8
  | 6, r => tkR r 8
  | 7, r => tkR r 16
  | 8, r => reS r
  | 9, r => tkR r 2
  | 10, r => rtS r 64
  | 11, r => rtS r 32768
  | 12, r => tkR r 64
  | _, r => r
def rVk : Nat → Rs → Vl
  | 0, r => vT (tkV r.s r.f 32)
  | 1, r => vT (tkV r.s r.f 32)
  | 2, r => vN (cv .u64 (cv .u32 (bnv (tkV r.s r.f 4))))
  | 3, r => vN (cv .u64 (cv .u32 (bnv (tkV r.s r.f 4))))
  | 4, r => vN (bnv (tkV r.s r.f 8))
  | 5, r => vN (bnv (tkV r.s r.f 8))
  | 6, r => vN (bnv (tkV r.s r.f 8))
  | 7, r => vT (tkV r.s r.f 16)
  | 8, r => ⟨0, ⟨#[]⟩, reV r, reH r, reL r, reP r⟩
  | 9, r => vN (cv .u64 (cv .u16 (bnv (tkV r.s r.f 2))))
  | 10, r => vT (rtV r 64)
  | 11, r => vT (rtV r 32768)
  | 12, r => vT (tkV r.s r.f 64)
  | _, _ => vN 0
def sK : Nat → Ds → Ds
  | 0, r => dtk r 32
  | 1, r => dtk r 32
  | 2, r => dtk r 4
  | 3, r => dtk r 4
  | 4, r => dtk r 8
  | 5, r => dtk r 8
  | 6, r => dtk r 8
  | 7, r => dtk r 16
  | 8, r => deS r
  | 9, r => dtk r 2
  | 10, r => dtS r 64
  | 11, r => dtS r 32768
  | 12, r => dtk r 64
  | _, r => r
def sVk : Nat → Ds → Vl
  | 0, d => vT (tkV d.s d.f 32)
  | 1, d => vT (tkV d.s d.f 32)
  | 2, d => vN (bdv (tkV d.s d.f 4))
  | 3, d => vN (bdv (tkV d.s d.f 4))
  | 4, d => vN (bdv (tkV d.s d.f 8))
  | 5, d => vN (bdv (tkV d.s d.f 8))
  | 6, d => vN (bdv (tkV d.s d.f 8))
  | 7, d => vT (tkV d.s d.f 16)
  | 8, d => ⟨0, ⟨#[]⟩, deV d, deH d, deL d, deP d⟩
  | 9, d => vN (bdv (tkV d.s d.f 2))
  | 10, d => vT (dtV d 64)
  | 11, d => vT (dtV d 32768)
  | 12, d => vT (tkV d.s d.f 64)
  | _, _ => vN 0
def setF : Nat → Vl → Mg → Mg
  | 0, v, m => { m with fr := v.t }
  | 1, v, m => { m with tq := v.t }
  | 2, v, m => { m with ix := cv .u32 v.n }
  | 3, v, m => { m with pe := cv .u32 v.n }
  | 4, v, m => { m with ct := v.n }
  | 5, v, m => { m with ba := v.n }
  | 6, v, m => { m with ve := v.n }
  | 7, v, m => { m with tx := v.t }
  | 8, v, m => { m with ev := v.v, eh := v.h, el := v.l, ep := v.p }
  | 9, v, m => { m with co := cv .u16 v.n }
  | 10, v, m => { m with tt := v.t }
  | 11, v, m => { m with da := v.t }
  | 12, v, m => { m with sg := v.t }
  | _, _, m => m
def pR : List Nat → Rs → Rs
  | [], r => r
  | k :: l, r => pR l (rK k r)
def pM : List Nat → Rs → Mg → Mg
  | [], _, m => m
  | k :: l, r, m => pM l (rK k r) (setF k (rVk k r) m)
def dR : List Nat → Ds → Ds
  | [], d => d
  | k :: l, d => dR l (sK k d)
def dM : List Nat → Ds → Mg → Mg
  | [], _, m => m
  | k :: l, d, m => dM l (sK k d) (setF k (sVk k d) m)
set_option maxRecDepth 10000 in
theorem rd_fl {t : Int} (h : shP t ≠ 0) (r : Rs) : rdK (shP t) r 13 = pR (FL t) r := by
  rcases ty_cases h with rfl | rfl | rfl | rfl | rfl | rfl | rfl | rfl | rfl | rfl | rfl | rfl | rfl | rfl | rfl | rfl | rfl | rfl | rfl | rfl | rfl
  all_goals kernel_rfl
set_option maxRecDepth 10000 in
theorem om_fl {t : Int} (h : shP t ≠ 0) (r : Rs) : outM (m0 t) (rdO (shP t) r) = pM (FL t) r (m0 t) := by
  rcases ty_cases h with rfl | rfl | rfl | rfl | rfl | rfl | rfl | rfl | rfl | rfl | rfl | rfl | rfl | rfl | rfl | rfl | rfl | rfl | rfl | rfl | rfl
  all_goals kernel_rfl
set_option maxRecDepth 10000 in
theorem dk_fl {t : Int} (h : shP t ≠ 0) (s : ByteArray) : dqK (fdP t) s (fdP t).size = dR (FL t) ⟨s, 0⟩ := by
  rcases ty_cases h with rfl | rfl | rfl | rfl | rfl | rfl | rfl | rfl | rfl | rfl | rfl | rfl | rfl | rfl | rfl | rfl | rfl | rfl | rfl | rfl | rfl
  all_goals kernel_rfl
set_option maxRecDepth 10000 in
theorem dm_fl {t : Int} (h : shP t ≠ 0) (s : ByteArray) : dqM (fdP t) s t (fdP t).size = dM (FL t) ⟨s, 0⟩ (m0 t) := by
  rcases ty_cases h with rfl | rfl | rfl | rfl | rfl | rfl | rfl | rfl | rfl | rfl | rfl | rfl | rfl | rfl | rfl | rfl | rfl | rfl | rfl | rfl | rfl
  all_goals kernel_rfl

end Go.Proofs.Ytbechjlkmajcoaa
