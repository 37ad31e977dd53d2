/- Part 14 of the walks and facts. -/
import Derived.Test.YtffimigpbcilbaaGreatDoorCpDef
import Derived.Test.YtffimigpbcilbaaGreatDoorCp13
set_option maxHeartbeats 16000000
set_option maxRecDepth 100000
set_option linter.unusedSimpArgs false
namespace Go.Proofs.YtffimigpbcilbaaGreatDoor
open Go.RowKit
def z0 : St := ⟨⟨#[]⟩, ⟨#[]⟩, ⟨#[]⟩, 0⟩
def adN (s : St) (V : Int) : St := ⟨s.h, nxA s.c (Mon.lebytes V), nxB s.c (Mon.lebytes V), 0⟩
abbrev tagOk (s : St) (t : Yb) : Prop := tgX s.k n0 s.h t = t.extract (t.size - 16) t.size
theorem adN_k (s : St) (V : Int) : (adN s V).k.size = 32 := nxB_size _ _
theorem mixF_e {s : St} {t : Yb} {n : Int} (h : s.e = n) : (mixF s t).e = n := by
 unfold mixF
 exact h
theorem mixF_h (s : St) (t : Yb) : (mixF s t).h.size = 32 := Bh_size _
theorem beginF_h (pr pu : Yb) (s : St) : (beginF pr pu s).h.size = 32 := mixF_h _ _
theorem addF_h (s : St) (x y : Yb) : (addF s x y).h = s.h := by
 unfold addF
 split
 ·split <;> rfl
 ·rfl
theorem addF_k {s : St} {x y : Yb} (h : (addF s x y).e = 0) : (addF s x y).k.size = 32 := by
 unfold addF at h ⊢
 split
 ·rename_i h0
  rw [if_pos h0] at h
  split
  ·rename_i h1
   rw [if_pos h1] at h
   cases h
  ·exact nxB_size _ _
 ·rename_i h0
  rw [if_neg h0] at h
  exact absurd h h0
theorem addF_ok {s : St} {x y : Yb} (h : s.e = 0) (hn : ¬ shN x y = 0) : addF s x y = adN s (shN x y) := by
 unfold addF adN
 rw [if_pos h, if_neg hn, h]
theorem addF_z {s : St} {x y : Yb} (h : s.e = 0) (hn : shN x y = 0) : (addF s x y).e = 30 := by
 unfold addF
 rw [if_pos h, if_pos hn]
theorem addF_no {s : St} {x y : Yb} (h : ¬ s.e = 0) : addF s x y = s := if_neg h
theorem sealF_ok {s : St} {t : Yb} (h : s.e = 0) : sealF s t = mixF s (sealS s.k n0 s.h t) := by
 unfold sealF
 rw [if_pos h, st_eq (a := ⟨s.h, s.c, s.k, 0⟩) (b := s) rfl rfl rfl h.symm]
theorem sealF_h {s : St} {t : Yb} (h : s.h.size = 32) : (sealF s t).h.size = 32 := by
 unfold sealF
 split
 ·exact mixF_h _ _
 ·exact h
theorem sealF_e (s : St) (t : Yb) : (sealF s t).e = s.e := by
 unfold sealF
 split
 ·rename_i h
  exact h.symm
 ·rfl
theorem openF_ok {s : St} {t : Yb} (h : s.e = 0) (ht : tagOk s t) : openF s t = mixF s t := by
 unfold openF
 rw [if_pos h, if_pos ht, st_eq (a := ⟨s.h, s.c, s.k, 0⟩) (b := s) rfl rfl rfl h.symm]
theorem openF_bad {s : St} {t : Yb} (h : s.e = 0) (ht : ¬ tagOk s t) : (openF s t).e = 100 := by
 unfold openF
 rw [if_pos h, if_neg ht]
 rfl
theorem openF_no {s : St} {t : Yb} (h : ¬ s.e = 0) : openF s t = s := if_neg h
theorem openF_h {s : St} {t : Yb} (h : s.h.size = 32) : (openF s t).h.size = 32 := by
 unfold openF
 split
 ·split <;> exact mixF_h _ _
 ·exact h
theorem openV_ok {s : St} {t : Yb} (h : s.e = 0) (ht : tagOk s t) : openV s t = opS s.k n0 t := by
 unfold openV
 rw [if_pos h, if_pos ht]
theorem opS_size (k n t : Yb) : (opS k n t).size = t.size - 16 := by
 unfold opS
 rw [tn_size, cx_size]
theorem openV_size {s : St} {t : Yb} (h : (openF s t).e = 0) : (openV s t).size = t.size - 16 := by
 by_cases h0 : s.e = 0
 ·by_cases h1 : tagOk s t
  ·rw [openV_ok h0 h1, opS_size]
  ·rw [openF_bad h0 h1] at h
   cases h
 ·rw [openF_no h0] at h
  exact absurd h h0
theorem sealV_le (s : St) (t : Yb) : (sealV s t).size ≤ t.size + 16 := by
 unfold sealV
 split
 ·rw [sealS_size]; exact Nat.le_refl _
 ·exact Nat.zero_le _
theorem pubF_ok {s : St} {x : Yb} (h : s.e = 0) : pubF s x = puV x := if_pos h
def bS0 (b pr : Yb) : St := beginF pr b z0
def bS1 (b e pr : Yb) : St := mixF (bS0 b pr) (pubF (bS0 b pr) e)
def bS2 (b e pr : Yb) : St := addF (bS1 b e pr) e b
def bS3 (a b e pr : Yb) : St := sealF (bS2 b e pr) (pubF (bS2 b e pr) a)
def bS4 (a b e pr : Yb) : St := addF (bS3 a b e pr) a b
def bS5 (a b e pr pl : Yb) : St := sealF (bS4 a b e pr) pl
def bMs (a b e pr pl : Yb) : ByteArray := pubF (bS0 b pr) e ++ sealV (bS2 b e pr) (pubF (bS2 b e pr) a) ++ sealV (bS4 a b e pr) pl
def bgE (a b e pr pl : Yb) : Int := if (a.size : Int) = 32 then (if (b.size : Int) = 32 then (if (e.size : Int) = 32 then (if 4096 < (pr.size : Int) then 4 else if 4096 < (pl.size : Int) then 4 else (bS5 a b e pr pl).e) else 2) else 2) else 2
def tS1 (b e pr : Yb) : St := mixF (bS0 b pr) (puV e)
def tS2 (b e pr : Yb) : St := adN (tS1 b e pr) (shN e b)
def tX1 (a b e pr : Yb) : ByteArray := sealS (tS2 b e pr).k n0 (tS2 b e pr).h (puV a)
def tS3 (a b e pr : Yb) : St := mixF (tS2 b e pr) (tX1 a b e pr)
def tS4 (a b e pr : Yb) : St := adN (tS3 a b e pr) (shN a b)
def tX2 (a b e pr pl : Yb) : ByteArray := sealS (tS4 a b e pr).k n0 (tS4 a b e pr).h pl
def tS5 (a b e pr pl : Yb) : St := mixF (tS4 a b e pr) (tX2 a b e pr pl)
def tMs (a b e pr pl : Yb) : ByteArray := puV e ++ tX1 a b e pr ++ tX2 a b e pr pl
theorem bS2_t {b e pr : Yb} (h : ¬ shN e b = 0) : bS2 b e pr = tS2 b e pr := addF_ok rfl h
theorem bS3_t {a b e pr : Yb} (h : ¬ shN e b = 0) : bS3 a b e pr = tS3 a b e pr := by
 unfold bS3
 rw [bS2_t h]
 exact sealF_ok rfl
theorem bS4_t {a b e pr : Yb} (h : ¬ shN e b = 0) (h2 : ¬ shN a b = 0) : bS4 a b e pr = tS4 a b e pr := by
 unfold bS4
 rw [bS3_t h]
 exact addF_ok rfl h2
theorem bS5_t {a b e pr pl : Yb} (h : ¬ shN e b = 0) (h2 : ¬ shN a b = 0) : bS5 a b e pr pl = tS5 a b e pr pl := by
 unfold bS5
 rw [bS4_t h h2]
 exact sealF_ok rfl
theorem bMs_t {a b e pr pl : Yb} (h : ¬ shN e b = 0) (h2 : ¬ shN a b = 0) : bMs a b e pr pl = tMs a b e pr pl := by
 unfold bMs
 rw [bS4_t h h2, bS2_t h]
 rfl
theorem bS5_e (a b e pr pl : Yb) : (bS5 a b e pr pl).e = if shN e b = 0 then 30 else if shN a b = 0 then 30 else 0 := by
 unfold bS5
 rw [sealF_e]
 by_cases h : shN e b = 0
 ·have h1 : (bS2 b e pr).e = 30 := addF_z rfl h
  have h2 : (bS3 a b e pr).e = 30 := by unfold bS3; rw [sealF_e, h1]
  have h3 : bS4 a b e pr = bS3 a b e pr := addF_no (by rw [h2]; decide)
  rw [h3, h2, if_pos h]
 ·rw [if_neg h]
  by_cases h2 : shN a b = 0
  ·rw [if_pos h2]
   unfold bS4
   rw [bS3_t h]
   exact addF_z rfl h2
  ·rw [if_neg h2, bS4_t h h2]
   rfl
def rE (m : Yb) : ByteArray := m.extract 0 32
def rC1 (m : Yb) : ByteArray := m.extract 32 80
def rC2 (m : Yb) : ByteArray := m.extract 80 m.size
def rS0 (b pr : Yb) : St := beginF pr (pubF z0 b) z0
def rS1 (b pr m : Yb) : St := mixF (rS0 b pr) (rE m)
def rS2 (b pr m : Yb) : St := addF (rS1 b pr m) b (rE m)
def rF (b pr m : Yb) : ByteArray := openV (rS2 b pr m) (rC1 m)
def rS3 (b pr m : Yb) : St := openF (rS2 b pr m) (rC1 m)
def rS4 (b pr m : Yb) : St := addF (rS3 b pr m) b (rF b pr m)
def rP (b pr m : Yb) : ByteArray := openV (rS4 b pr m) (rC2 m)
def rS5 (b pr m : Yb) : St := openF (rS4 b pr m) (rC2 m)
def rdE (b pr m : Yb) : Int := if (b.size : Int) = 32 then (if 4096 < (pr.size : Int) then 4 else if 4192 < (m.size : Int) then 4 else if (m.size : Int) < 96 then 7 else (rS5 b pr m).e) else 2
def uS2 (b pr m : Yb) : St := adN (rS1 b pr m) (shN b (rE m))
def uF (b pr m : Yb) : ByteArray := opS (uS2 b pr m).k n0 (rC1 m)
def uS3 (b pr m : Yb) : St := mixF (uS2 b pr m) (rC1 m)
def uS4 (b pr m : Yb) : St := adN (uS3 b pr m) (shN b (uF b pr m))
def uP (b pr m : Yb) : ByteArray := opS (uS4 b pr m).k n0 (rC2 m)
def uS5 (b pr m : Yb) : St := mixF (uS4 b pr m) (rC2 m)
theorem rS2_u {b pr m : Yb} (h : ¬ shN b (rE m) = 0) : rS2 b pr m = uS2 b pr m := addF_ok rfl h
theorem rS3_u {b pr m : Yb} (h : ¬ shN b (rE m) = 0) (h1 : tagOk (uS2 b pr m) (rC1 m)) : rS3 b pr m = uS3 b pr m := by
 unfold rS3
 rw [rS2_u h]
 exact openF_ok rfl h1
theorem rF_u {b pr m : Yb} (h : ¬ shN b (rE m) = 0) (h1 : tagOk (uS2 b pr m) (rC1 m)) : rF b pr m = uF b pr m := by
 unfold rF
 rw [rS2_u h]
 exact openV_ok rfl h1
theorem rS4_u {b pr m : Yb} (h : ¬ shN b (rE m) = 0) (h1 : tagOk (uS2 b pr m) (rC1 m)) (h2 : ¬ shN b (uF b pr m) = 0) : rS4 b pr m = uS4 b pr m := by
 unfold rS4
 rw [rS3_u h h1, rF_u h h1]
 exact addF_ok rfl h2
theorem rS5_u {b pr m : Yb} (h : ¬ shN b (rE m) = 0) (h1 : tagOk (uS2 b pr m) (rC1 m)) (h2 : ¬ shN b (uF b pr m) = 0) (h3 : tagOk (uS4 b pr m) (rC2 m)) : rS5 b pr m = uS5 b pr m := by
 unfold rS5
 rw [rS4_u h h1 h2]
 exact openF_ok rfl h3
theorem rP_u {b pr m : Yb} (h : ¬ shN b (rE m) = 0) (h1 : tagOk (uS2 b pr m) (rC1 m)) (h2 : ¬ shN b (uF b pr m) = 0) (h3 : tagOk (uS4 b pr m) (rC2 m)) : rP b pr m = uP b pr m := by
 unfold rP
 rw [rS4_u h h1 h2]
 exact openV_ok rfl h3
theorem rS5_e (b pr m : Yb) : (rS5 b pr m).e = if shN b (rE m) = 0 then 30 else if tagOk (uS2 b pr m) (rC1 m) then (if shN b (uF b pr m) = 0 then 30 else if tagOk (uS4 b pr m) (rC2 m) then 0 else 100) else 100 := by
 have no : ∀ {n : Int}, n ≠ 0 → (rS3 b pr m).e = n → (rS5 b pr m).e = n := fun hn h => by
  have h4 : rS4 b pr m = rS3 b pr m := addF_no (by rw [h]; exact hn)
  unfold rS5
  rw [h4, openF_no (by rw [h]; exact hn), h]
 by_cases h : shN b (rE m) = 0
 ·rw [if_pos h]
  have h2 : (rS2 b pr m).e = 30 := addF_z rfl h
  exact no (by decide) (by unfold rS3; rw [openF_no (by rw [h2]; decide), h2])
 ·rw [if_neg h]
  by_cases h1 : tagOk (uS2 b pr m) (rC1 m)
  ·rw [if_pos h1]
   by_cases h2 : shN b (uF b pr m) = 0
   ·rw [if_pos h2]
    have h4 : (rS4 b pr m).e = 30 := by
     unfold rS4
     rw [rS3_u h h1, rF_u h h1]
     exact addF_z rfl h2
    unfold rS5
    rw [openF_no (by rw [h4]; decide), h4]
   ·rw [if_neg h2]
    by_cases h3 : tagOk (uS4 b pr m) (rC2 m)
    ·rw [if_pos h3, rS5_u h h1 h2 h3]
     rfl
    ·rw [if_neg h3]
     unfold rS5
     rw [rS4_u h h1 h2]
     exact openF_bad rfl h3
  ·rw [if_neg h1]
   refine no (by decide) ?_
   unfold rS3
   rw [rS2_u h]
   exact openF_bad rfl h1
def aS1 (s : St) (e : Yb) : St := mixF s (pubF s e)
def aS2 (s : St) (x e : Yb) : St := addF (aS1 s e) e x
def aS3 (s : St) (f x e : Yb) : St := addF (aS2 s x e) e f
def aS4 (s : St) (f x e pl : Yb) : St := sealF (aS3 s f x e) pl
def aRp (s : St) (f x e pl : Yb) : ByteArray := pubF s e ++ sealV (aS3 s f x e) pl
def anE (s : St) (f x e pl : Yb) : Int := if (e.size : Int) = 32 then (if 4096 < (pl.size : Int) then 4 else (aS4 s f x e pl).e) else 2
def vS2 (s : St) (x e : Yb) : St := adN (mixF s (puV e)) (shN e x)
def vS3 (s : St) (f x e : Yb) : St := adN (vS2 s x e) (shN e f)
def vX (s : St) (f x e pl : Yb) : ByteArray := sealS (vS3 s f x e).k n0 (vS3 s f x e).h pl
def vS4 (s : St) (f x e pl : Yb) : St := mixF (vS3 s f x e) (vX s f x e pl)
def vRp (s : St) (f x e pl : Yb) : ByteArray := puV e ++ vX s f x e pl
theorem aS2_v {s : St} {x e : Yb} (h0 : s.e = 0) (h : ¬ shN e x = 0) : aS2 s x e = vS2 s x e := by
 unfold aS2 aS1
 rw [pubF_ok h0]
 exact addF_ok (mixF_e h0) h
theorem aS3_v {s : St} {f x e : Yb} (h0 : s.e = 0) (h : ¬ shN e x = 0) (h1 : ¬ shN e f = 0) : aS3 s f x e = vS3 s f x e := by
 unfold aS3
 rw [aS2_v h0 h]
 exact addF_ok rfl h1
theorem aS4_v {s : St} {f x e pl : Yb} (h0 : s.e = 0) (h : ¬ shN e x = 0) (h1 : ¬ shN e f = 0) : aS4 s f x e pl = vS4 s f x e pl := by
 unfold aS4
 rw [aS3_v h0 h h1]
 exact sealF_ok rfl
theorem aRp_v {s : St} {f x e pl : Yb} (h0 : s.e = 0) (h : ¬ shN e x = 0) (h1 : ¬ shN e f = 0) : aRp s f x e pl = vRp s f x e pl := by
 unfold aRp
 rw [aS3_v h0 h h1, pubF_ok h0]
 rfl
theorem aS4_e {s : St} (f x e pl : Yb) (h0 : s.e = 0) : (aS4 s f x e pl).e = if shN e x = 0 then 30 else if shN e f = 0 then 30 else 0 := by
 unfold aS4
 rw [sealF_e]
 by_cases h : shN e x = 0
 ·have h1 : (aS2 s x e).e = 30 := addF_z (mixF_e h0) h
  have h3 : aS3 s f x e = aS2 s x e := addF_no (by rw [h1]; decide)
  rw [h3, h1, if_pos h]
 ·rw [if_neg h]
  by_cases h2 : shN e f = 0
  ·rw [if_pos h2]
   unfold aS3
   rw [aS2_v h0 h]
   exact addF_z rfl h2
  ·rw [if_neg h2, aS3_v h0 h h2]
   rfl
def fC (r : Yb) : ByteArray := r.extract 32 r.size
def fS1 (s : St) (r : Yb) : St := mixF s (rE r)
def fS2 (s : St) (e r : Yb) : St := addF (fS1 s r) e (rE r)
def fS3 (s : St) (a e r : Yb) : St := addF (fS2 s e r) a (rE r)
def fP (s : St) (a e r : Yb) : ByteArray := openV (fS3 s a e r) (fC r)
def fS4 (s : St) (a e r : Yb) : St := openF (fS3 s a e r) (fC r)
def fiE (s : St) (a e r : Yb) : Int := if 4144 < (r.size : Int) then 4 else if (r.size : Int) < 48 then 7 else (fS4 s a e r).e
def gS2 (s : St) (e r : Yb) : St := adN (fS1 s r) (shN e (rE r))
def gS3 (s : St) (a e r : Yb) : St := adN (gS2 s e r) (shN a (rE r))
def gP (s : St) (a e r : Yb) : ByteArray := opS (gS3 s a e r).k n0 (fC r)
def gS4 (s : St) (a e r : Yb) : St := mixF (gS3 s a e r) (fC r)
theorem fS2_g {s : St} {e r : Yb} (h0 : s.e = 0) (h : ¬ shN e (rE r) = 0) : fS2 s e r = gS2 s e r := addF_ok (mixF_e h0) h
theorem fS3_g {s : St} {a e r : Yb} (h0 : s.e = 0) (h : ¬ shN e (rE r) = 0) (h1 : ¬ shN a (rE r) = 0) : fS3 s a e r = gS3 s a e r := by
 unfold fS3
 rw [fS2_g h0 h]
 exact addF_ok rfl h1
theorem fS4_g {s : St} {a e r : Yb} (h0 : s.e = 0) (h : ¬ shN e (rE r) = 0) (h1 : ¬ shN a (rE r) = 0) (h2 : tagOk (gS3 s a e r) (fC r)) : fS4 s a e r = gS4 s a e r := by
 unfold fS4
 rw [fS3_g h0 h h1]
 exact openF_ok rfl h2
theorem fP_g {s : St} {a e r : Yb} (h0 : s.e = 0) (h : ¬ shN e (rE r) = 0) (h1 : ¬ shN a (rE r) = 0) (h2 : tagOk (gS3 s a e r) (fC r)) : fP s a e r = gP s a e r := by
 unfold fP
 rw [fS3_g h0 h h1]
 exact openV_ok rfl h2
theorem fS4_e {s : St} (a e r : Yb) (h0 : s.e = 0) : (fS4 s a e r).e = if shN e (rE r) = 0 then 30 else if shN a (rE r) = 0 then 30 else if tagOk (gS3 s a e r) (fC r) then 0 else 100 := by
 have no : ∀ {n : Int}, n ≠ 0 → (fS3 s a e r).e = n → (fS4 s a e r).e = n := fun hn h => by
  unfold fS4
  rw [openF_no (by rw [h]; exact hn), h]
 by_cases h : shN e (rE r) = 0
 ·have h1 : (fS2 s e r).e = 30 := addF_z (mixF_e h0) h
  rw [if_pos h]
  exact no (by decide) (by unfold fS3; rw [addF_no (by rw [h1]; decide), h1])
 ·rw [if_neg h]
  by_cases h1 : shN a (rE r) = 0
  ·rw [if_pos h1]
   refine no (by decide) ?_
   unfold fS3
   rw [fS2_g h0 h]
   exact addF_z rfl h1
  ·rw [if_neg h1]
   by_cases h2 : tagOk (gS3 s a e r) (fC r)
   ·rw [if_pos h2, fS4_g h0 h h1 h2]
    rfl
   ·rw [if_neg h2]
    unfold fS4
    rw [fS3_g h0 h h1]
    exact openF_bad rfl h2
open Go.RowKit
theorem Mem.geAt {w : World} {L : List Blk} {W : World} (M : Mem ⟨w, []⟩ L W) (i : Nat) {b : Blk} (hi : L[i]? = some b) : w.heap.size ≤ b.g := (M.ge b (List.mem_of_getElem? hi)).resolve_right (by simp)
theorem bS2_h (b e pr : Yb) : (bS2 b e pr).h.size = 32 := by
 unfold bS2
 rw [addF_h]
 exact mixF_h _ _
theorem bS3_h (a b e pr : Yb) : (bS3 a b e pr).h.size = 32 := sealF_h (bS2_h b e pr)
theorem bS4_h (a b e pr : Yb) : (bS4 a b e pr).h.size = 32 := by
 unfold bS4
 rw [addF_h]
 exact bS3_h _ _ _ _
theorem rS2_h (b pr m : Yb) : (rS2 b pr m).h.size = 32 := by
 unfold rS2
 rw [addF_h]
 exact mixF_h _ _
theorem rS3_h (b pr m : Yb) : (rS3 b pr m).h.size = 32 := openF_h (rS2_h b pr m)
theorem rS4_h (b pr m : Yb) : (rS4 b pr m).h.size = 32 := by
 unfold rS4
 rw [addF_h]
 exact rS3_h _ _ _
theorem rC1_size {m : Yb} (h : 96 ≤ m.size) : (rC1 m).size = 48 := by
 unfold rC1
 rw [ByteArray.size_extract]
 omega
theorem rC2_size {m : Yb} (h : 96 ≤ m.size) : (rC2 m).size = m.size - 80 := by
 unfold rC2
 rw [ByteArray.size_extract]
 omega
theorem rE_size {m : Yb} (h : 32 ≤ m.size) : (rE m).size = 32 := by
 unfold rE
 rw [ByteArray.size_extract]
 omega
theorem rF_size {b pr m : Yb} (hm : 96 ≤ m.size) (h : (rS3 b pr m).e = 0) : (rF b pr m).size = 32 := by
 unfold rF
 rw [openV_size h, rC1_size hm]
theorem c_Begin (sa ob ep pr pl : Yb) (w : World) (hL : Laid w) : Calls Tryz.prog 10 #[.string sa, .string ob, .string ep, .string pr, .string pl] w fun r w' => Below w.heap.size w w' ∧ ((bgE sa ob ep pr pl ≠ 0 ∧ r = .returned (.tuple #[.pointer none, .string zb, .int .i64 (bgE sa ob ep pr pl)])) ∨ (bgE sa ob ep pr pl = 0 ∧ ∃ g, r = .returned (.tuple #[pJ g, .string (bMs sa ob ep pr pl), .int .i64 0]) ∧ w.heap.size ≤ g ∧ w'.heap[g]? = some (.cells (av 7 (stL (endF (bS5 sa ob ep pr pl)) [.string sa, .string ep, .string ob])) 66))) := by
 go_enter Tryz.func10, Tryz.ntmps10
 have M := Mem.start hL
 refine sq <| wp_seq <| wp_block <| wp_seq <| sR <| rV 2 ?_
 by_cases c0 : (sa.size : Int) = 32
 ·refine wD 19 c0 <| rV 1 <| nT <| cF <| sR <| rV 2 ?_
  by_cases c1 : (ob.size : Int) = 32
  ·refine wD 22 c1 <| rV 1 <| nT <| cF <| rg_lit <| rV 2 ?_
   by_cases c2 : (ep.size : Int) = 32
   ·refine wD 25 c2 <| rV 1 <| nT <| cF <| wp_seq <| sR <| rV 2 ?_
    by_cases c3 : 4096 < (pr.size : Int)
    ·refine wT 29 c3 <| rV 1 <| nT <| cT <| wp_skip <| au_then <| cT <| sq <| wp_ret <| au_block_ret <| au_then_ret ?_
     have e0 : bgE sa ob ep pr pl = 4 := by simp only [bgE, if_pos c0, if_pos c1, if_pos c2, if_pos c3]
     exact bX (.tuple #[.pointer none, .string zb, .int .i64 4]) ⟨below_grown M.old, .inl ⟨by rw [e0]; decide, by rw [e0]⟩⟩
    ·refine wF 29 c3 <| rV 1 <| nT <| cF <| rg_lit <| rV 2 ?_
     by_cases c4 : 4096 < (pl.size : Int)
     ·refine wT 32 c4 <| rV 1 <| nT <| cT <| sq <| wp_ret <| au_block_ret <| au_then_ret ?_
      have e0 : bgE sa ob ep pr pl = 4 := by simp only [bgE, if_pos c0, if_pos c1, if_pos c2, if_neg c3, if_pos c4]
      exact bX (.tuple #[.pointer none, .string zb, .int .i64 4]) ⟨below_grown M.old, .inl ⟨by rw [e0]; decide, by rw [e0]⟩⟩
     ·refine wF 32 c4 <| rV 1 <| nT <| cF <| wp_skip <| au_block <| au_then <| sR <| rV 4 <| pN M 37 (.cells (av 7 (stL ⟨⟨#[]⟩, ⟨#[]⟩, ⟨#[]⟩, 0⟩ [.string sa, .string ep, .string ob])) 66) fun g1 u1 M => rV 1 <| nT <| sR <| rV 5 <| ZY M 43 0 (.tuple #[]) (.cells (av 7 (stL (bS0 ob pr) [.string sa, .string ep, .string ob])) 66) (fun w M => c_begin g1 7 66 (by omega) ⟨⟨#[]⟩, ⟨#[]⟩, ⟨#[]⟩, 0⟩ [.string sa, .string ep, .string ob] pr ob (by omega) (by omega) w M.laid (M.get 0 rfl) (M.ne0 0 rfl)) fun u2 M => nT ?_
      refine sR <| rV 4 <| ZY M 48 0 (.string (pubF (bS0 ob pr) ep)) (.cells (av 7 (stL (bS1 ob ep pr) [.string sa, .string ep, .string ob])) 66) (fun w M => c_show g1 7 66 (by omega) (bS0 ob pr) [.string sa, .string ep, .string ob] ep (by omega) (Nat.le_of_eq (beginF_h _ _ _)) w M.laid (M.get 0 rfl) (M.ne0 0 rfl)) fun u3 M => rV 1 <| nT <| sR <| rV 5 <| ZY M 54 0 (.tuple #[]) (.cells (av 7 (stL (bS2 ob ep pr) [.string sa, .string ep, .string ob])) 66) (fun w M => c_add g1 7 66 (by omega) (bS1 ob ep pr) [.string sa, .string ep, .string ob] ep ob (by omega) (fun _ => by omega) w M.laid (M.get 0 rfl) (M.ne0 0 rfl)) fun u4 M => nT <| wp_seq <| rgh M [] 11 fun u5 M => ?_
      have qM := M.drop (jK (.slnil))
      refine qV qM 0 55 (.string (pubF (bS0 ob pr) ep)) <| qV qM 1 56 (pJ g1) <| qV qM 2 57 (pJ g1) <| qV qM 3 58 (pJ g1) <| qV qM 4 59 (pJ g1) <| qV qM 5 60 (pJ g1) <| qV qM 6 61 (pJ g1) <| qV qM 7 62 (.string sa) <| qO 8 ?_
      refine ZY M 63 0 (.string (pubF (bS2 ob ep pr) sa)) (.cells (av 7 (stL (bS2 ob ep pr) [.string sa, .string ep, .string ob])) 66) (fun w M => c_public g1 7 66 (by omega) (bS2 ob ep pr) [.string sa, .string ep, .string ob] sa (by omega) w M.laid (M.get 0 rfl) (M.ne0 0 rfl)) fun u6 M => nT ?_
      refine ⟨(M.drop (jK (.slnil))), ?_⟩
      refine qO 9 ?_
      refine ZY M 64 0 (.string (sealV (bS2 ob ep pr) (pubF (bS2 ob ep pr) sa))) (.cells (av 7 (stL (bS3 sa ob ep pr) [.string sa, .string ep, .string ob])) 66) (fun w M => c_seal g1 7 66 (by omega) (bS2 ob ep pr) [.string sa, .string ep, .string ob] (pubF (bS2 ob ep pr) sa) (bS2_h _ _ _) (fun h => addF_k h) (Nat.le_trans (pubF_le _ _) (by decide)) w M.laid (M.get 0 rfl) (M.ne0 0 rfl)) fun u7 M => nT ?_
      refine ⟨(M.drop (jK (.slnil))), ?_⟩
      refine qH (M.drop (jK (.slnil))) 10 65 (.string ((pubF (bS0 ob pr) ep) ++ (sealV (bS2 ob ep pr) (pubF (bS2 ob ep pr) sa)))) (fun w _ => (run_cat 9 9 _ _ rfl (pubF (bS0 ob pr) ep) (sealV (bS2 ob ep pr) (pubF (bS2 ob ep pr) sa)) (by kernel_rfl) (by kernel_rfl) (by have h1 := pubF_le (bS0 ob pr) ep; have h2 := sealV_le (bS2 ob ep pr) (pubF (bS2 ob ep pr) sa); have h3 := pubF_le (bS2 ob ep pr) sa; have h4 := sealV_le (bS4 sa ob ep pr) pl; (try simp only [ByteArray.size_append]); omega)) w) ?_
      refine qZ ?_
      refine rV 1 <| nT <| au_then <| sR <| rV 5 <| ZY M 71 0 (.tuple #[]) (.cells (av 7 (stL (bS4 sa ob ep pr) [.string sa, .string ep, .string ob])) 66) (fun w M => c_add g1 7 66 (by omega) (bS3 sa ob ep pr) [.string sa, .string ep, .string ob] sa ob (by omega) (fun _ => by omega) w M.laid (M.get 0 rfl) (M.ne0 0 rfl)) fun u8 M => nT <| sR <| rV 5 <| ZY M 77 0 (.string (sealV (bS4 sa ob ep pr) pl)) (.cells (av 7 (stL (bS5 sa ob ep pr pl) [.string sa, .string ep, .string ob])) 66) (fun w M => c_seal g1 7 66 (by omega) (bS4 sa ob ep pr) [.string sa, .string ep, .string ob] pl (bS4_h _ _ _ _) (fun h => addF_k h) (by omega) w M.laid (M.get 0 rfl) (M.ne0 0 rfl)) fun u9 M => ?_
      refine pH 78 (.string (((pubF (bS0 ob pr) ep) ++ (sealV (bS2 ob ep pr) (pubF (bS2 ob ep pr) sa))) ++ (sealV (bS4 sa ob ep pr) pl))) (run_cat 9 9 _ _ rfl ((pubF (bS0 ob pr) ep) ++ (sealV (bS2 ob ep pr) (pubF (bS2 ob ep pr) sa))) (sealV (bS4 sa ob ep pr) pl) (by kernel_rfl) (by kernel_rfl) (by have h1 := pubF_le (bS0 ob pr) ep; have h2 := sealV_le (bS2 ob ep pr) (pubF (bS2 ob ep pr) sa); have h3 := pubF_le (bS2 ob ep pr) sa; have h4 := sealV_le (bS4 sa ob ep pr) pl; (try simp only [ByteArray.size_append]); omega)) ?_
      refine rV 1 <| nT <| wp_seq <| sR <| rV 3 <| ZY M 82 0 (.int .i64 (bS5 sa ob ep pr pl).e) (.cells (av 7 (stL (endF (bS5 sa ob ep pr pl)) [.string sa, .string ep, .string ob])) 66) (fun w M => c_end g1 7 66 (by omega) (bS5 sa ob ep pr pl) [.string sa, .string ep, .string ob] w M.laid (M.get 0 rfl) (M.ne0 0 rfl)) fun u10 M => rV 1 <| nT <| sR <| rV 1 ?_
      by_cases c5 : ((bS5 sa ob ep pr pl).e) = 0
      ·refine wD 84 c5 <| nT <| cF <| wp_skip <| au_then <| sq <| wp_ret ?_
       have e0 : bgE sa ob ep pr pl = 0 := by simp only [bgE, if_pos c0, if_pos c1, if_pos c2, if_neg c3, if_neg c4, if_pos c5, c5]
       exact bX (.tuple #[pJ g1, .string (((pubF (bS0 ob pr) ep) ++ (sealV (bS2 ob ep pr) (pubF (bS2 ob ep pr) sa))) ++ (sealV (bS4 sa ob ep pr) pl)), .int .i64 0]) ⟨below_grown M.old, .inr ⟨e0, g1, rfl, M.geAt 0 rfl, M.get 0 rfl⟩⟩
      ·refine wU 84 c5 <| nT <| cT <| sq <| wp_ret <| au_then_ret ?_
       have e0 : bgE sa ob ep pr pl = (bS5 sa ob ep pr pl).e := by simp only [bgE, if_pos c0, if_pos c1, if_pos c2, if_neg c3, if_neg c4, if_neg c5]
       exact bX (.tuple #[.pointer none, .string zb, .int .i64 (bS5 sa ob ep pr pl).e]) ⟨below_grown M.old, .inl ⟨by rw [e0]; exact c5, by rw [e0]⟩⟩
   ·refine wU 25 c2 <| rV 1 <| nT <| cT <| sq <| wp_ret <| au_block_ret <| au_then_ret ?_
    have e0 : bgE sa ob ep pr pl = 2 := by simp only [bgE, if_pos c0, if_pos c1, if_neg c2]
    exact bX (.tuple #[.pointer none, .string zb, .int .i64 2]) ⟨below_grown M.old, .inl ⟨by rw [e0]; decide, by rw [e0]⟩⟩
  ·refine wU 22 c1 <| rV 1 <| nT <| cT <| wp_skip <| au_then <| cT <| sq <| wp_ret <| au_block_ret <| au_then_ret ?_
   have e0 : bgE sa ob ep pr pl = 2 := by simp only [bgE, if_pos c0, if_neg c1]
   exact bX (.tuple #[.pointer none, .string zb, .int .i64 2]) ⟨below_grown M.old, .inl ⟨by rw [e0]; decide, by rw [e0]⟩⟩
 ·refine wU 19 c0 <| rV 1 <| nT <| cT <| wp_skip <| au_then <| cT <| sq <| wp_ret <| au_block_ret <| au_then_ret ?_
  have e0 : bgE sa ob ep pr pl = 2 := by simp only [bgE, if_neg c0]
  exact bX (.tuple #[.pointer none, .string zb, .int .i64 2]) ⟨below_grown M.old, .inl ⟨by rw [e0]; decide, by rw [e0]⟩⟩
theorem c_Read (sb pr m : Yb) (w : World) (hL : Laid w) : Calls Tryz.prog 13 #[.string sb, .string pr, .string m] w fun r w' => Below w.heap.size w w' ∧ ((rdE sb pr m ≠ 0 ∧ r = .returned (.tuple #[.pointer none, .agg (av 5 (zq 5)), .int .i64 (rdE sb pr m)])) ∨ (rdE sb pr m = 0 ∧ ∃ g, r = .returned (.tuple #[pJ g, .agg (av 5 (sQ [rF sb pr m, rP sb pr m, zb, zb, zb])), .int .i64 0]) ∧ w.heap.size ≤ g ∧ w'.heap[g]? = some (.cells (av 6 (stL (endF (rS5 sb pr m)) [.string (rF sb pr m), .string (rE m)])) 77))) := by
 go_enter Tryz.func13, Tryz.ntmps13
 have M := Mem.start hL
 refine sR <| rV 1 <| pN M 7 (.cells (av 5 (zq 5)) 41) fun g1 u1 M => rV 1 <| nT <| wp_seq <| wp_block <| sR <| rV 2 ?_
 by_cases c0 : (sb.size : Int) = 32
 ·refine wD 15 c0 <| rV 1 <| nT <| cF <| wp_seq <| sR <| rV 2 ?_
  by_cases c1 : 4096 < (pr.size : Int)
  ·refine wT 20 c1 <| rV 1 <| nT <| cT <| wp_skip <| au_then <| cT <| sR <| rV 2 <| ZL M 0 5 (zq 5) fun u2 M => rV 1 <| nT <| wp_ret <| au_block_ret <| au_then_ret ?_
   have e0 : rdE sb pr m = 4 := by simp only [rdE, if_pos c0, if_pos c1]
   exact btct Tryz.results13 M (.pointer none) 0 5 (zq 5) (.int .i64 4) ⟨below_grown M.old, .inl ⟨by rw [e0]; decide, by rw [e0]⟩⟩
  ·refine wF 20 c1 <| rV 1 <| nT <| cF <| rg_lit <| rV 2 ?_
   by_cases c2 : 4192 < (m.size : Int)
   ·refine wT 23 c2 <| rV 1 <| nT <| cT <| sR <| rV 2 <| ZL M 0 5 (zq 5) fun u2 M => rV 1 <| nT <| wp_ret <| au_block_ret <| au_then_ret ?_
    have e0 : rdE sb pr m = 4 := by simp only [rdE, if_pos c0, if_neg c1, if_pos c2]
    exact btct Tryz.results13 M (.pointer none) 0 5 (zq 5) (.int .i64 4) ⟨below_grown M.old, .inl ⟨by rw [e0]; decide, by rw [e0]⟩⟩
   ·refine wF 23 c2 <| rV 1 <| nT <| cF <| sR <| rV 2 ?_
    by_cases c3 : (m.size : Int) < 96
    ·refine wT 28 c3 <| rV 1 <| nT <| cT <| sR <| rV 2 <| ZL M 0 5 (zq 5) fun u2 M => rV 1 <| nT <| wp_ret <| au_block_ret <| au_then_ret ?_
     have e0 : rdE sb pr m = 7 := by simp only [rdE, if_pos c0, if_neg c1, if_neg c2, if_pos c3]
     exact btct Tryz.results13 M (.pointer none) 0 5 (zq 5) (.int .i64 7) ⟨below_grown M.old, .inl ⟨by rw [e0]; decide, by rw [e0]⟩⟩
    ·refine wF 28 c3 <| rV 1 <| nT <| cF <| wp_skip <| au_block <| au_then <| sR <| rV 1 <| pH 31 (.string (rE m)) (run_strh 9 Tryz.underlying9 _ _ rfl m (by kernel_rfl) .i64 32 (by kernel_rfl) (by omega) _ rfl) <| rV 1 <| pN M 33 (.cells (av 6 (stL ⟨⟨#[]⟩, ⟨#[]⟩, ⟨#[]⟩, 0⟩ [.string zb, .string (rE m)])) 77) fun g2 u2 M => rV 1 <| nT <| wp_seq <| rgh M [⟨g1, .cells (av 5 (zq 5)) 41⟩] 9 fun u3 M => ?_
     have qM := M.drop (jC (jK (.slnil)))
     refine qV qM 0 34 (pJ g2) <| qV qM 1 35 (pJ g2) <| qV qM 2 36 (pJ g2) <| qV qM 3 37 (.string pr) <| qV qM 4 38 (pJ g2) <| qV qM 5 39 (pJ g2) <| qV qM 6 40 (pJ g2) <| qV qM 7 41 (.string sb) <| qO 8 ?_
     refine ZY M 42 1 (.string (pubF ⟨⟨#[]⟩, ⟨#[]⟩, ⟨#[]⟩, 0⟩ sb)) (.cells (av 6 (stL ⟨⟨#[]⟩, ⟨#[]⟩, ⟨#[]⟩, 0⟩ [.string zb, .string (rE m)])) 77) (fun w M => c_public g2 6 77 (by omega) ⟨⟨#[]⟩, ⟨#[]⟩, ⟨#[]⟩, 0⟩ [.string zb, .string (rE m)] sb (by omega) w M.laid (M.get 1 rfl) (M.ne0 1 rfl)) fun u4 M => nT ?_
     refine ⟨(M.drop (jC (jK (.slnil)))), ?_⟩
     refine qZ ?_
     refine ZY M 43 1 (.tuple #[]) (.cells (av 6 (stL (rS0 sb pr) [.string zb, .string (rE m)])) 77) (fun w M => c_begin g2 6 77 (by omega) ⟨⟨#[]⟩, ⟨#[]⟩, ⟨#[]⟩, 0⟩ [.string zb, .string (rE m)] pr (pubF ⟨⟨#[]⟩, ⟨#[]⟩, ⟨#[]⟩, 0⟩ sb) (by omega) (Nat.le_trans (pubF_le _ _) (by decide)) w M.laid (M.get 1 rfl) (M.ne0 1 rfl)) fun u5 M => nT <| au_then <| wp_seq <| rgh M [⟨g1, .cells (av 5 (zq 5)) 41⟩, ⟨g2, .cells (av 6 (stL (rS0 sb pr) [.string zb, .string (rE m)])) 77⟩] 7 fun u6 M => qV M 0 44 (pJ g2) <| qV M 1 45 (pJ g2) <| qV M 2 46 (pJ g2) <| qV M 3 47 (pJ g2) <| qV M 4 48 (pJ g2) <| qV M 5 49 (pJ g2 5) <| qE M 6 50 1 5 <| qZ ?_
     refine ZY M 51 1 (.tuple #[]) (.cells (av 6 (stL (rS1 sb pr m) [.string zb, .string (rE m)])) 77) (fun w M => c_mixS g2 6 77 (by omega) (rS0 sb pr) [.string zb, .string (rE m)] (rE m) (by rw [show (rS0 sb pr).h.size = 32 from beginF_h _ _ _, rE_size (by omega)]; decide) w M.laid (M.get 1 rfl) (M.ne0 1 rfl)) fun u7 M => ?_
     refine nT <| au_then <| wp_seq <| rgh M [⟨g1, .cells (av 5 (zq 5)) 41⟩, ⟨g2, .cells (av 6 (stL (rS1 sb pr m) [.string zb, .string (rE m)])) 77⟩] 8 fun u8 M => qV M 0 52 (pJ g2) <| qV M 1 53 (pJ g2) <| qV M 2 54 (pJ g2) <| qV M 3 55 (.string sb) <| qV M 4 56 (pJ g2) <| qV M 5 57 (pJ g2) <| qV M 6 58 (pJ g2 5) <| qE M 7 59 1 5 <| qZ ?_
     refine ZY M 60 1 (.tuple #[]) (.cells (av 6 (stL (rS2 sb pr m) [.string zb, .string (rE m)])) 77) (fun w M => c_add g2 6 77 (by omega) (rS1 sb pr m) [.string zb, .string (rE m)] sb (rE m) (by omega) (fun _ => rE_size (by omega)) w M.laid (M.get 1 rfl) (M.ne0 1 rfl)) fun u9 M => nT <| au_then <| wp_seq <| rgh M [⟨g1, .cells (av 5 (zq 5)) 41⟩] 9 fun u10 M => ?_
     have qM := M.drop (jC (jK (.slnil)))
     refine qV qM 0 61 (pJ g2) <| qV qM 1 62 (pJ g2) <| qV qM 2 63 (pJ g2) <| qV qM 3 64 (pJ g2) <| qV qM 4 65 (.string m) <| qH qM 5 66 (.string (rC1 m)) (fun w _ => (run_strlh 9 Tryz.underlying9 _ _ _ rfl m (by kernel_rfl) .i64 .i64 32 80 (by kernel_rfl) (by kernel_rfl) (by omega) (by omega)) w) <| qO 6 ?_
     refine ZY M 67 1 (.string (rF sb pr m)) (.cells (av 6 (stL (rS3 sb pr m) [.string zb, .string (rE m)])) 77) (fun w M => c_open g2 6 77 (by omega) (rS2 sb pr m) [.string zb, .string (rE m)] (rC1 m) (rS2_h _ _ _) (fun h => addF_k h) (by rw [rC1_size (by omega)]; omega) (by rw [rC1_size (by omega)]; omega) w M.laid (M.get 1 rfl) (M.ne0 1 rfl)) fun u11 M => ?_
     refine nT ?_
     refine ⟨(M.drop (jC (jK (.slnil)))), ?_⟩
     have qM := M.drop (jC (jK (.slnil)))
     refine qV qM 7 68 (pJ g2) <| qV qM 8 69 (pJ g2 4) <| qZ ?_
     refine pP M 1 rfl 4 (.string (rF sb pr m)) (stL (rS3 sb pr m) [.string (rF sb pr m), .string (rE m)]) (by decide) (put_ls _ 4 _ _ rfl) fun u12 M => nT <| au_then <| wp_seq <| rgh M [⟨g1, .cells (av 5 (zq 5)) 41⟩, ⟨g2, .cells (av 6 (stL (rS3 sb pr m) [.string (rF sb pr m), .string (rE m)])) 77⟩] 8 fun u13 M => qV M 0 70 (pJ g2) <| qV M 1 71 (pJ g2) <| qV M 2 72 (pJ g2) <| qV M 3 73 (.string sb) <| qV M 4 74 (pJ g2) <| qV M 5 75 (pJ g2) <| qV M 6 76 (pJ g2 4) <| qE M 7 77 1 4 <| qZ ?_
     refine ZY M 78 1 (.tuple #[]) (.cells (av 6 (stL (rS4 sb pr m) [.string (rF sb pr m), .string (rE m)])) 77) (fun w M => c_add g2 6 77 (by omega) (rS3 sb pr m) [.string (rF sb pr m), .string (rE m)] sb (rF sb pr m) (by omega) (fun h => rF_size (by omega) h) w M.laid (M.get 1 rfl) (M.ne0 1 rfl)) fun u14 M => nT <| au_then <| wp_seq <| rgh M [⟨g1, .cells (av 5 (zq 5)) 41⟩] 6 fun u15 M => ?_
     have qM := M.drop (jC (jK (.slnil)))
     refine qV qM 0 79 (pJ g2) <| qV qM 1 80 (pJ g2) <| qV qM 2 81 (pJ g2) <| qV qM 3 82 (.string m) <| qH qM 4 83 (.string (rC2 m)) (fun w _ => (run_strl 9 Tryz.underlying9 _ _ rfl m (by kernel_rfl) .i64 80 (by kernel_rfl) (by omega) _ rfl) w) <| qO 5 ?_
     refine ZY M 84 1 (.string (rP sb pr m)) (.cells (av 6 (stL (rS5 sb pr m) [.string (rF sb pr m), .string (rE m)])) 77) (fun w M => c_open g2 6 77 (by omega) (rS4 sb pr m) [.string (rF sb pr m), .string (rE m)] (rC2 m) (rS4_h _ _ _) (fun h => addF_k h) (by rw [rC2_size (by omega)]; omega) (by rw [rC2_size (by omega)]; omega) w M.laid (M.get 1 rfl) (M.ne0 1 rfl)) fun u16 M => ?_
     refine nT ?_
     refine ⟨(M.drop (jC (jK (.slnil)))), ?_⟩
     refine qZ ?_
     refine rV 1 <| nT <| au_then <| wp_seq <| sR <| rV 3 <| ZY M 88 1 (.int .i64 (rS5 sb pr m).e) (.cells (av 6 (stL (endF (rS5 sb pr m)) [.string (rF sb pr m), .string (rE m)])) 77) (fun w M => c_end g2 6 77 (by omega) (rS5 sb pr m) [.string (rF sb pr m), .string (rE m)] w M.laid (M.get 1 rfl) (M.ne0 1 rfl)) fun u17 M => rV 1 <| nT <| sR <| rV 1 ?_
     by_cases c4 : ((rS5 sb pr m).e) = 0
     ·refine wD 90 c4 <| nT <| cF <| wp_skip <| au_then <| wp_seq <| rgh M [⟨g2, .cells (av 6 (stL (endF (rS5 sb pr m)) [.string (rF sb pr m), .string (rE m)])) 77⟩] 9 fun u18 M => ?_
      have qM := M.drop (jK (jC (.slnil)))
      refine qV qM 0 93 (pJ g2) <| qV qM 1 94 (pJ g2) <| qV qM 2 95 (pJ g2) <| qV qM 3 96 (pJ g2 4) <| qE qM 4 97 0 4 <| qV qM 5 98 (.string (rP sb pr m)) <| qV qM 6 99 (.agg (av 5 (sQ [rF sb pr m, rP sb pr m, zb, zb, zb]))) <| qV qM 7 6 (pJ g2) <| qO 8 ?_
      refine ZL M 0 5 (sQ [rF sb pr m, rP sb pr m, zb, zb, zb]) fun u19 M => nT ?_
      refine ⟨(M.drop (jK (jC (.slnil)))), ?_⟩
      refine qZ ?_
      refine rV 1 <| nT <| au_then <| wp_ret ?_
      have e0 : rdE sb pr m = 0 := by simp only [rdE, if_pos c0, if_neg c1, if_neg c2, if_neg c3, if_pos c4, c4]
      exact btct Tryz.results13 M (pJ g2) 0 5 (sQ [rF sb pr m, rP sb pr m, zb, zb, zb]) (.int .i64 0) ⟨below_grown M.old, .inr ⟨e0, g2, rfl, M.geAt 1 rfl, M.get 1 rfl⟩⟩
     ·refine wU 90 c4 <| nT <| cT <| sR <| rV 3 <| ZL M 0 5 (zq 5) fun u18 M => rV 1 <| nT <| wp_ret <| au_then_ret ?_
      have e0 : rdE sb pr m = (rS5 sb pr m).e := by simp only [rdE, if_pos c0, if_neg c1, if_neg c2, if_neg c3, if_neg c4]
      exact btct Tryz.results13 M (.pointer none) 0 5 (zq 5) (.int .i64 (rS5 sb pr m).e) ⟨below_grown M.old, .inl ⟨by rw [e0]; exact c4, by rw [e0]⟩⟩
 ·refine wU 15 c0 <| rV 1 <| nT <| cT <| sR <| rV 2 <| ZL M 0 5 (zq 5) fun u2 M => rV 1 <| nT <| wp_ret <| au_block_ret <| au_then_ret ?_
  have e0 : rdE sb pr m = 2 := by simp only [rdE, if_neg c0]
  exact btct Tryz.results13 M (.pointer none) 0 5 (zq 5) (.int .i64 2) ⟨below_grown M.old, .inl ⟨by rw [e0]; decide, by rw [e0]⟩⟩
open Go.RowKit
theorem aS3_h (s : St) (f x e : Yb) : (aS3 s f x e).h.size = 32 := by
 unfold aS3 aS2
 rw [addF_h, addF_h]
 exact mixF_h _ _
theorem fS3_h (s : St) (a e r : Yb) : (fS3 s a e r).h.size = 32 := by
 unfold fS3 fS2
 rw [addF_h, addF_h]
 exact mixF_h _ _
theorem fC_size {r : Yb} (h : 48 ≤ r.size) : (fC r).size = r.size - 32 := by
 unfold fC
 rw [ByteArray.size_extract]
 omega
theorem c_Answer (g : Nat) (s : St) (f x ep pl : Yb) (hs : s.h.size = 32) (hf : f.size = 32) (hx : x.size = 32) (w : World) (hL : Laid w)  (hg : w.heap[g]? = some (.cells (av 6 (stL s [.string f, .string x])) 77)) (h0 : 2 < g) : Calls Tryz.prog 15 #[pJ g, .string ep, .string pl] w fun r w' => Below w.heap.size w w' ∧ ((anE s f x ep pl ≠ 0 ∧ r = .returned (.tuple #[.string zb, .agg (av 5 (zq 5)), .int .i64 (anE s f x ep pl)])) ∨ (anE s f x ep pl = 0 ∧ r = .returned (.tuple #[.string (aRp s f x ep pl), .agg (av 5 (sQ [f, zb, nxB (aS4 s f x ep pl).c ⟨#[]⟩, nxA (aS4 s f x ep pl).c ⟨#[]⟩, (aS4 s f x ep pl).h])), .int .i64 0]))) := by
 go_enter Tryz.func15, Tryz.ntmps15
 have M := Mem.startp hL hg h0
 refine sR <| rV 1 <| pN M 7 (.cells (av 5 (zq 5)) 41) fun g1 u1 M => rV 1 <| nT <| wp_seq <| wp_block <| sR <| rV 6 <| pl_call M (by kernel_rfl) (some 21) rfl 34 #[pJ g] (.bool true) (fun _ => by kernel_rfl) (fun w M => c_made g 6 77 (by omega) s [.string f, .string x] hs w M.laid (M.get 0 rfl) (M.ne0 0 rfl)) fun u2 M => rV 3 <| nT <| cF <| sR <| rV 2 ?_
 by_cases c0 : (ep.size : Int) = 32
 ·refine wD 28 c0 <| rV 1 <| nT <| cF <| sR <| rV 2 ?_
  by_cases c1 : 4096 < (pl.size : Int)
  ·refine wT 33 c1 <| rV 1 <| nT <| cT <| sR <| rV 2 <| ZL M 1 5 (zq 5) fun u3 M => rV 1 <| nT <| wp_ret <| au_block_ret <| au_then_ret ?_
   have e0 : anE s f x ep pl = 4 := by simp only [anE, if_pos c0, if_pos c1]
   exact btct Tryz.results15 M (.string zb) 1 5 (zq 5) (.int .i64 4) ⟨ro_below1 M.old hg (M.get 0 rfl), .inl ⟨by rw [e0]; decide, by rw [e0]⟩⟩
  ·refine wF 33 c1 <| rV 1 <| nT <| cF <| wp_skip <| au_block <| au_then <| sR <| rV 3 <| pl_load M (want_no rfl) (some 38) rfl 64 _ rfl 0 g 0 (by kernel_rfl) 6 77 (stL s [.string f, .string x]) rfl 4 (stL s []) (part_st _ _) (by omega) _ Tryz.underlying64 rfl inz64 <| pN M 9 (.cells (av 4 (stL ⟨⟨#[]⟩, ⟨#[]⟩, ⟨#[]⟩, 0⟩ [])) 64) fun g2 u3 M => pl_put M (want_no rfl) rfl 64 _ _ rfl 2 g2 0 (by kernel_rfl) 4 64 (stL ⟨⟨#[]⟩, ⟨#[]⟩, ⟨#[]⟩, 0⟩ []) rfl 4 (stL s []) (stL s []) (by kernel_rfl) inz64 (by decide) (one_st _) (fun j hj => by rw [if_pos (by omega), Nat.sub_zero]) fun u4 M => nT <| sR <| rV 1 <| ZY M 40 2 (.string (pubF s ep)) (.cells (av 4 (stL (aS1 s ep) [])) 64) (fun w M => c_show g2 4 64 (by omega) s [] ep (by omega) (Nat.le_of_eq (hs)) w M.laid (M.get 2 rfl) (M.ne0 2 rfl)) fun u5 M => ?_
   refine rV 1 <| nT <| sR <| rV 4 <| ZE M 45 0 5 <| ZY M 46 2 (.tuple #[]) (.cells (av 4 (stL (aS2 s x ep) [])) 64) (fun w M => c_add g2 4 64 (by omega) (aS1 s ep) [] ep x (by omega) (fun _ => by omega) w M.laid (M.get 2 rfl) (M.ne0 2 rfl)) fun u6 M => nT <| sR <| rV 4 <| ZE M 51 0 4 <| ZY M 52 2 (.tuple #[]) (.cells (av 4 (stL (aS3 s f x ep) [])) 64) (fun w M => c_add g2 4 64 (by omega) (aS2 s x ep) [] ep f (by omega) (fun _ => by omega) w M.laid (M.get 2 rfl) (M.ne0 2 rfl)) fun u7 M => nT <| sR <| rV 2 <| ZY M 55 2 (.string (sealV (aS3 s f x ep) pl)) (.cells (av 4 (stL (aS4 s f x ep pl) [])) 64) (fun w M => c_seal g2 4 64 (by omega) (aS3 s f x ep) [] pl (aS3_h _ _ _ _) (fun h => addF_k h) (by omega) w M.laid (M.get 2 rfl) (M.ne0 2 rfl)) fun u8 M => ?_
   refine pH 56 (.string ((pubF s ep) ++ (sealV (aS3 s f x ep) pl))) (run_cat 9 9 _ _ rfl (pubF s ep) (sealV (aS3 s f x ep) pl) (by kernel_rfl) (by kernel_rfl) (by have h1 := pubF_le s ep; have h2 := sealV_le (aS3 s f x ep) pl; (try simp only [ByteArray.size_append]); omega)) ?_
   refine rV 1 <| nT <| sR <| ZC M 58 (fun w M => c_next g2 4 64 (by omega) (aS4 s f x ep pl) [] ⟨#[]⟩ (by decide) w M.laid (M.get 2 rfl) (M.ne0 2 rfl)) fun u9 M => rV 5 <| nT <| wp_seq <| sR <| ZY M 61 2 (.int .i64 (aS4 s f x ep pl).e) (.cells (av 4 (stL (endF (aS4 s f x ep pl)) [])) 64) (fun w M => c_end g2 4 64 (by omega) (aS4 s f x ep pl) [] w M.laid (M.get 2 rfl) (M.ne0 2 rfl)) fun u10 M => rV 1 <| nT <| sR <| rV 1 ?_
   by_cases c2 : ((aS4 s f x ep pl).e) = 0
   ·refine wD 63 c2 <| nT <| cF <| wp_skip <| au_then <| wp_seq <| rgh M [⟨g, .cells (av 6 (stL s [.string f, .string x])) 77⟩, ⟨g2, .cells (av 4 (stL (endF (aS4 s f x ep pl)) [])) 64⟩] 12 fun u11 M => ?_
    have qM := M.drop (jC (jK (jC (.slnil))))
    refine qV qM 0 66 (.string ((pubF s ep) ++ (sealV (aS3 s f x ep) pl))) <| qV qM 1 67 (pJ g) <| qV qM 2 68 (pJ g) <| qV qM 3 69 (pJ g 4) <| qE qM 4 70 0 4 <| qV qM 5 71 (.string (nxB ((aS4 s f x ep pl).c) ⟨#[]⟩)) <| qV qM 6 72 (.string (nxA ((aS4 s f x ep pl).c) ⟨#[]⟩)) <| qV qM 7 73 (pJ g2) <| qE qM 8 74 1 0 <| qV qM 9 75 (.agg (av 5 (sQ [f, zb, nxB ((aS4 s f x ep pl).c) ⟨#[]⟩, nxA ((aS4 s f x ep pl).c) ⟨#[]⟩, (endF (aS4 s f x ep pl)).h]))) <| qV qM 10 6 (.string ((pubF s ep) ++ (sealV (aS3 s f x ep) pl))) <| qO 11 ?_
    refine ZL M 1 5 (sQ [f, zb, nxB ((aS4 s f x ep pl).c) ⟨#[]⟩, nxA ((aS4 s f x ep pl).c) ⟨#[]⟩, (endF (aS4 s f x ep pl)).h]) fun u12 M => nT ?_
    refine ⟨(M.drop (jC (jK (jC (.slnil))))), ?_⟩
    refine qZ ?_
    refine rV 1 <| nT <| au_then <| wp_ret ?_
    have e0 : anE s f x ep pl = 0 := by simp only [anE, if_pos c0, if_neg c1, if_pos c2, c2]
    exact btct Tryz.results15 M (.string ((pubF s ep) ++ (sealV (aS3 s f x ep) pl))) 1 5 (sQ [f, zb, nxB ((aS4 s f x ep pl).c) ⟨#[]⟩, nxA ((aS4 s f x ep pl).c) ⟨#[]⟩, (endF (aS4 s f x ep pl)).h]) (.int .i64 0) ⟨ro_below1 M.old hg (M.get 0 rfl), .inr ⟨e0, rfl⟩⟩
   ·refine wU 63 c2 <| nT <| cT <| sR <| rV 3 <| ZL M 1 5 (zq 5) fun u11 M => rV 1 <| nT <| wp_ret <| au_then_ret ?_
    have e0 : anE s f x ep pl = (aS4 s f x ep pl).e := by simp only [anE, if_pos c0, if_neg c1, if_neg c2]
    exact btct Tryz.results15 M (.string zb) 1 5 (zq 5) (.int .i64 (aS4 s f x ep pl).e) ⟨ro_below1 M.old hg (M.get 0 rfl), .inl ⟨by rw [e0]; exact c2, by rw [e0]⟩⟩
 ·refine wU 28 c0 <| rV 1 <| nT <| cT <| sR <| rV 2 <| ZL M 1 5 (zq 5) fun u3 M => rV 1 <| nT <| wp_ret <| au_block_ret <| au_then_ret ?_
  have e0 : anE s f x ep pl = 2 := by simp only [anE, if_neg c0]
  exact btct Tryz.results15 M (.string zb) 1 5 (zq 5) (.int .i64 2) ⟨ro_below1 M.old hg (M.get 0 rfl), .inl ⟨by rw [e0]; decide, by rw [e0]⟩⟩
theorem c_Finish (g : Nat) (s : St) (sa ep ob rp : Yb) (hs : s.h.size = 32) (ha : sa.size = 32) (hp : ep.size = 32) (w : World) (hL : Laid w)  (hg : w.heap[g]? = some (.cells (av 7 (stL s [.string sa, .string ep, .string ob])) 66)) (h0 : 2 < g) : Calls Tryz.prog 17 #[pJ g, .string rp] w fun r w' => Below w.heap.size w w' ∧ ((fiE s sa ep rp ≠ 0 ∧ r = .returned (.tuple #[.agg (av 5 (zq 5)), .int .i64 (fiE s sa ep rp)])) ∨ (fiE s sa ep rp = 0 ∧ r = .returned (.tuple #[.agg (av 5 (sQ [ob, fP s sa ep rp, nxA (fS4 s sa ep rp).c ⟨#[]⟩, nxB (fS4 s sa ep rp).c ⟨#[]⟩, (fS4 s sa ep rp).h])), .int .i64 0]))) := by
 go_enter Tryz.func17, Tryz.ntmps17
 have M := Mem.startp hL hg h0
 refine sR <| pN M 4 (.cells (av 5 (zq 5)) 41) fun g1 u1 M => rV 1 <| nT <| wp_seq <| wp_block <| sR <| rV 6 <| pl_call M (by kernel_rfl) (some 19) rfl 34 #[pJ g] (.bool true) (fun _ => by kernel_rfl) (fun w M => c_made g 7 66 (by omega) s [.string sa, .string ep, .string ob] hs w M.laid (M.get 0 rfl) (M.ne0 0 rfl)) fun u2 M => rV 3 <| nT <| cF <| sR <| rV 2 ?_
 by_cases c0 : 4144 < (rp.size : Int)
 ·refine wT 26 c0 <| rV 1 <| nT <| cT <| sR <| rV 1 <| ZL M 1 5 (zq 5) fun u3 M => rV 1 <| nT <| wp_ret <| au_block_ret <| au_then_ret ?_
  have e0 : fiE s sa ep rp = 4 := by simp only [fiE, if_pos c0]
  exact bct Tryz.results17 M 1 5 (zq 5) (.int .i64 4) ⟨ro_below1 M.old hg (M.get 0 rfl), .inl ⟨by rw [e0]; decide, by rw [e0]⟩⟩
 ·refine wF 26 c0 <| rV 1 <| nT <| cF <| sR <| rV 2 ?_
  by_cases c1 : (rp.size : Int) < 48
  ·refine wT 31 c1 <| rV 1 <| nT <| cT <| sR <| rV 1 <| ZL M 1 5 (zq 5) fun u3 M => rV 1 <| nT <| wp_ret <| au_block_ret <| au_then_ret ?_
   have e0 : fiE s sa ep rp = 7 := by simp only [fiE, if_neg c0, if_pos c1]
   exact bct Tryz.results17 M 1 5 (zq 5) (.int .i64 7) ⟨ro_below1 M.old hg (M.get 0 rfl), .inl ⟨by rw [e0]; decide, by rw [e0]⟩⟩
  ·refine wF 31 c1 <| rV 1 <| nT <| cF <| wp_skip <| au_block <| au_then <| sR <| rV 1 <| pH 34 (.string (rE rp)) (run_strh 9 Tryz.underlying9 _ _ rfl rp (by kernel_rfl) .i64 32 (by kernel_rfl) (by omega) _ rfl) <| rV 1 <| nT <| sR <| rV 3 <| pl_load M (want_no rfl) (some 38) rfl 64 _ rfl 0 g 0 (by kernel_rfl) 7 66 (stL s [.string sa, .string ep, .string ob]) rfl 4 (stL s []) (part_st _ _) (by omega) _ Tryz.underlying64 rfl inz64 <| pN M 7 (.cells (av 4 (stL ⟨⟨#[]⟩, ⟨#[]⟩, ⟨#[]⟩, 0⟩ [])) 64) fun g2 u3 M => ?_
   refine pl_put M (want_no rfl) rfl 64 _ _ rfl 2 g2 0 (by kernel_rfl) 4 64 (stL ⟨⟨#[]⟩, ⟨#[]⟩, ⟨#[]⟩, 0⟩ []) rfl 4 (stL s []) (stL s []) (by kernel_rfl) inz64 (by decide) (one_st _) (fun j hj => by rw [if_pos (by omega), Nat.sub_zero]) fun u4 M => nT <| sR <| rV 1 ?_
   refine ZY M 40 2 (.tuple #[]) (.cells (av 4 (stL (fS1 s rp) [])) 64) (fun w M => c_mixS g2 4 64 (by omega) s [] (rE rp) (by rw [hs, rE_size (by omega)]; decide) w M.laid (M.get 2 rfl) (M.ne0 2 rfl)) fun u5 M => ?_
   refine nT <| sR <| rV 3 <| ZE M 44 0 5 <| rV 1 <| ZY M 46 2 (.tuple #[]) (.cells (av 4 (stL (fS2 s ep rp) [])) 64) (fun w M => c_add g2 4 64 (by omega) (fS1 s rp) [] ep (rE rp) (by omega) (fun _ => rE_size (by omega)) w M.laid (M.get 2 rfl) (M.ne0 2 rfl)) fun u6 M => nT <| sR <| rV 3 <| ZE M 50 0 4 <| rV 1 <| ZY M 52 2 (.tuple #[]) (.cells (av 4 (stL (fS3 s sa ep rp) [])) 64) (fun w M => c_add g2 4 64 (by omega) (fS2 s ep rp) [] sa (rE rp) (by omega) (fun _ => rE_size (by omega)) w M.laid (M.get 2 rfl) (M.ne0 2 rfl)) fun u7 M => nT <| sR <| rV 1 <| pH 54 (.string (fC rp)) (run_strl 9 Tryz.underlying9 _ _ rfl rp (by kernel_rfl) .i64 32 (by kernel_rfl) (by omega) _ rfl) ?_
   refine ZY M 55 2 (.string (fP s sa ep rp)) (.cells (av 4 (stL (fS4 s sa ep rp) [])) 64) (fun w M => c_open g2 4 64 (by omega) (fS3 s sa ep rp) [] (fC rp) (fS3_h _ _ _ _) (fun h => addF_k h) (by rw [fC_size (by omega)]; omega) (by rw [fC_size (by omega)]; omega) w M.laid (M.get 2 rfl) (M.ne0 2 rfl)) fun u8 M => ?_
   refine rV 1 <| nT <| sR <| ZC M 57 (fun w M => c_next g2 4 64 (by omega) (fS4 s sa ep rp) [] ⟨#[]⟩ (by decide) w M.laid (M.get 2 rfl) (M.ne0 2 rfl)) fun u9 M => rV 5 <| nT <| wp_seq <| sR <| ZY M 60 2 (.int .i64 (fS4 s sa ep rp).e) (.cells (av 4 (stL (endF (fS4 s sa ep rp)) [])) 64) (fun w M => c_end g2 4 64 (by omega) (fS4 s sa ep rp) [] w M.laid (M.get 2 rfl) (M.ne0 2 rfl)) fun u10 M => rV 1 <| nT <| sR <| rV 1 ?_
   by_cases c2 : ((fS4 s sa ep rp).e) = 0
   ·refine wD 62 c2 <| nT <| cF <| wp_skip <| au_then <| wp_seq <| rgh M [⟨g, .cells (av 7 (stL s [.string sa, .string ep, .string ob])) 66⟩, ⟨g2, .cells (av 4 (stL (endF (fS4 s sa ep rp)) [])) 64⟩] 11 fun u11 M => ?_
    have qM := M.drop (jC (jK (jC (.slnil))))
    refine qV qM 0 65 (pJ g) <| qV qM 1 66 (pJ g) <| qV qM 2 67 (pJ g 6) <| qE qM 3 68 0 6 <| qV qM 4 69 (.string (fP s sa ep rp)) <| qV qM 5 70 (.string (nxA ((fS4 s sa ep rp).c) ⟨#[]⟩)) <| qV qM 6 71 (.string (nxB ((fS4 s sa ep rp).c) ⟨#[]⟩)) <| qV qM 7 72 (pJ g2) <| qE qM 8 73 1 0 <| qV qM 9 74 (.agg (av 5 (sQ [ob, fP s sa ep rp, nxA ((fS4 s sa ep rp).c) ⟨#[]⟩, nxB ((fS4 s sa ep rp).c) ⟨#[]⟩, (endF (fS4 s sa ep rp)).h]))) <| qO 10 ?_
    refine ZL M 1 5 (sQ [ob, fP s sa ep rp, nxA ((fS4 s sa ep rp).c) ⟨#[]⟩, nxB ((fS4 s sa ep rp).c) ⟨#[]⟩, (endF (fS4 s sa ep rp)).h]) fun u12 M => nT ?_
    refine ⟨(M.drop (jC (jK (jC (.slnil))))), ?_⟩
    refine qZ ?_
    refine rV 1 <| nT <| au_then <| wp_ret ?_
    have e0 : fiE s sa ep rp = 0 := by simp only [fiE, if_neg c0, if_neg c1, if_pos c2, c2]
    exact bct Tryz.results17 M 1 5 (sQ [ob, fP s sa ep rp, nxA ((fS4 s sa ep rp).c) ⟨#[]⟩, nxB ((fS4 s sa ep rp).c) ⟨#[]⟩, (endF (fS4 s sa ep rp)).h]) (.int .i64 0) ⟨ro_below1 M.old hg (M.get 0 rfl), .inr ⟨e0, rfl⟩⟩
   ·refine wU 62 c2 <| nT <| cT <| sR <| rV 2 <| ZL M 1 5 (zq 5) fun u11 M => rV 1 <| nT <| wp_ret <| au_then_ret ?_
    have e0 : fiE s sa ep rp = (fS4 s sa ep rp).e := by simp only [fiE, if_neg c0, if_neg c1, if_neg c2]
    exact bct Tryz.results17 M 1 5 (zq 5) (.int .i64 (fS4 s sa ep rp).e) ⟨ro_below1 M.old hg (M.get 0 rfl), .inl ⟨by rw [e0]; exact c2, by rw [e0]⟩⟩
open Go.RowKit
theorem val_pu (y : Yb) : Mon.val (Mon.mkS (puV y)) % Mon.Pm = Mon.shV (Mon.clS y) 9 := Mon.val_leb (Mon.tells9.cl y).bd
theorem sh_pu (x y : Yb) : shN x (puV y) = Mon.shV (Mon.clS x) (Mon.shV (Mon.clS y) 9) := by
 unfold shN
 rw [val_pu]
theorem sh_swap (x y : Yb) : shN x (puV y) = shN y (puV x) := by
 rw [sh_pu, sh_pu]
 exact Mon.tells9.swap x y
theorem sh_ne (x y : Yb) : ¬ shN x (puV y) = 0 := by
 rw [sh_pu]
 exact ((Mon.tells9.cl y).cl x).ne0
theorem ext_mid (x y z : Yb) {i j : Nat} (hi : x.size = i) (hj : x.size + y.size = j) : (x ++ y ++ z).extract i j = y := by
 subst hi hj
 rw [Bla.ba_app, Bla.ba_app, Bla.ba_none (A := x) (by omega), Bla.ba_none (A := z) (by rw [ByteArray.size_append]; omega), Nat.sub_self, Nat.add_sub_cancel_left, Bla.ba_whole (Nat.le_refl _)]
 exact (congrArg (· ++ _) ByteArray.empty_append).trans ByteArray.append_empty
section
variable (a b e pr pl : Yb)
theorem tX1_size : (tX1 a b e pr).size = 48 := by
 unfold tX1
 rw [sealS_size, puV_size]
theorem tX2_size : (tX2 a b e pr pl).size = pl.size + 16 := sealS_size _ _ _ _
theorem tMs_size : (tMs a b e pr pl).size = pl.size + 96 := by
 unfold tMs
 rw [ByteArray.size_append, ByteArray.size_append, puV_size, tX1_size, tX2_size]
 omega
theorem tMs_E : rE (tMs a b e pr pl) = puV e := by
 unfold rE tMs
 rw [ByteArray.append_assoc]
 have h := ext_left (puV e) (tX1 a b e pr ++ tX2 a b e pr pl)
 rwa [puV_size] at h
theorem tMs_1 : rC1 (tMs a b e pr pl) = tX1 a b e pr := by
 unfold rC1 tMs
 exact ext_mid _ _ _ (puV_size e) (by rw [puV_size, tX1_size])
theorem tMs_2 : rC2 (tMs a b e pr pl) = tX2 a b e pr pl := by
 unfold rC2 tMs
 have h := ext_right (puV e ++ tX1 a b e pr) (tX2 a b e pr pl)
 rwa [ByteArray.size_append, puV_size, tX1_size] at h
theorem seal_tag (s : St) (t : Yb) : tagOk s (sealS s.k n0 s.h t) := seal_tg _ _ _ _
theorem uS2_t : uS2 b pr (tMs a (puV b) e pr pl) = tS2 (puV b) e pr := by
 unfold uS2 rS1
 rw [tMs_E, sh_swap b e]
 rfl
theorem uS2_tag : tagOk (uS2 b pr (tMs a (puV b) e pr pl)) (rC1 (tMs a (puV b) e pr pl)) := by
 rw [uS2_t, tMs_1]
 exact seal_tag _ _
theorem uF_t : uF b pr (tMs a (puV b) e pr pl) = puV a := by
 unfold uF
 rw [uS2_t, tMs_1]
 exact seal_op _ _ _ _
theorem uS4_t : uS4 b pr (tMs a (puV b) e pr pl) = tS4 a (puV b) e pr := by
 unfold uS4 uS3
 rw [uF_t, uS2_t, tMs_1, sh_swap b a]
 rfl
theorem uS4_tag : tagOk (uS4 b pr (tMs a (puV b) e pr pl)) (rC2 (tMs a (puV b) e pr pl)) := by
 rw [uS4_t, tMs_2]
 exact seal_tag _ _
theorem uP_t : uP b pr (tMs a (puV b) e pr pl) = pl := by
 unfold uP
 rw [uS4_t, tMs_2]
 exact seal_op _ _ _ _
theorem uS5_t : uS5 b pr (tMs a (puV b) e pr pl) = tS5 a (puV b) e pr pl := by
 unfold uS5
 rw [uS4_t, tMs_2]
 rfl
theorem rE_ne : ¬ shN b (rE (tMs a (puV b) e pr pl)) = 0 := by
 rw [tMs_E]
 exact sh_ne _ _
theorem uF_ne : ¬ shN b (uF b pr (tMs a (puV b) e pr pl)) = 0 := by
 rw [uF_t]
 exact sh_ne _ _
theorem read_e : (rS5 b pr (tMs a (puV b) e pr pl)).e = 0 := by
 rw [rS5_e, if_neg (rE_ne a b e pr pl), if_pos (uS2_tag a b e pr pl), if_neg (uF_ne a b e pr pl), if_pos (uS4_tag a b e pr pl)]
theorem read_s : rS5 b pr (tMs a (puV b) e pr pl) = tS5 a (puV b) e pr pl := (rS5_u (rE_ne a b e pr pl) (uS2_tag a b e pr pl) (uF_ne a b e pr pl) (uS4_tag a b e pr pl)).trans (uS5_t a b e pr pl)
theorem read_f : rF b pr (tMs a (puV b) e pr pl) = puV a := (rF_u (rE_ne a b e pr pl) (uS2_tag a b e pr pl)).trans (uF_t a b e pr pl)
theorem read_p : rP b pr (tMs a (puV b) e pr pl) = pl := (rP_u (rE_ne a b e pr pl) (uS2_tag a b e pr pl) (uF_ne a b e pr pl) (uS4_tag a b e pr pl)).trans (uP_t a b e pr pl)
theorem begin_0 (ha : a.size = 32) (he : e.size = 32) (hp : pr.size ≤ 4096) (hl : pl.size ≤ 4096) : bgE a (puV b) e pr pl = 0 := by
 unfold bgE
 rw [if_pos (by omega), if_pos (by rw [puV_size]; rfl), if_pos (by omega), if_neg (by omega), if_neg (by omega), bS5_e, if_neg (sh_ne e b), if_neg (sh_ne a b)]
theorem begin_m : bMs a (puV b) e pr pl = tMs a (puV b) e pr pl := bMs_t (sh_ne e b) (sh_ne a b)
theorem begin_s : bS5 a (puV b) e pr pl = tS5 a (puV b) e pr pl := bS5_t (sh_ne e b) (sh_ne a b)
theorem read_0 (hb : b.size = 32) (hp : pr.size ≤ 4096) (hl : pl.size ≤ 4096) : rdE b pr (tMs a (puV b) e pr pl) = 0 := by
 have h := tMs_size a (puV b) e pr pl
 unfold rdE
 rw [if_pos (by omega), if_neg (by omega), if_neg (by omega), if_neg (by omega), read_e]
end
section
variable {s : St} (a e f pl : Yb)
theorem vX_size (x y : Yb) : (vX s x y f pl).size = pl.size + 16 := sealS_size _ _ _ _
theorem vRp_size (x y : Yb) : (vRp s x y f pl).size = pl.size + 48 := by
 unfold vRp
 rw [ByteArray.size_append, puV_size, vX_size]
 omega
theorem vRp_E (x y : Yb) : rE (vRp s x y f pl) = puV f := by
 unfold rE vRp
 have h := ext_left (puV f) (vX s x y f pl)
 rwa [puV_size] at h
theorem vRp_C (x y : Yb) : fC (vRp s x y f pl) = vX s x y f pl := by
 unfold fC vRp
 have h := ext_right (puV f) (vX s x y f pl)
 rwa [puV_size] at h
theorem gS3_v : gS3 s a e (vRp s (puV a) (puV e) f pl) = vS3 s (puV a) (puV e) f := by
 unfold gS3 gS2 fS1
 rw [vRp_E, sh_swap e f, sh_swap a f]
 rfl
theorem gS3_tag : tagOk (gS3 s a e (vRp s (puV a) (puV e) f pl)) (fC (vRp s (puV a) (puV e) f pl)) := by
 rw [gS3_v, vRp_C]
 exact seal_tag _ _
theorem gP_v : gP s a e (vRp s (puV a) (puV e) f pl) = pl := by
 unfold gP
 rw [gS3_v, vRp_C]
 exact seal_op _ _ _ _
theorem gS4_v : gS4 s a e (vRp s (puV a) (puV e) f pl) = vS4 s (puV a) (puV e) f pl := by
 unfold gS4
 rw [gS3_v, vRp_C]
 rfl
theorem fE_ne (x : Yb) : ¬ shN x (rE (vRp s (puV a) (puV e) f pl)) = 0 := by
 rw [vRp_E]
 exact sh_ne _ _
end
section
variable {s : St} (a e f pl : Yb)
theorem answer_0 (h0 : s.e = 0) (hf : f.size = 32) (hl : pl.size ≤ 4096) : anE s (puV a) (puV e) f pl = 0 := by
 unfold anE
 rw [if_pos (by omega), if_neg (by omega), aS4_e _ _ _ _ h0, if_neg (sh_ne f e), if_neg (sh_ne f a)]
theorem answer_r (h0 : s.e = 0) : aRp s (puV a) (puV e) f pl = vRp s (puV a) (puV e) f pl := aRp_v h0 (sh_ne f e) (sh_ne f a)
theorem answer_s (h0 : s.e = 0) : aS4 s (puV a) (puV e) f pl = vS4 s (puV a) (puV e) f pl := aS4_v h0 (sh_ne f e) (sh_ne f a)
theorem finish_0 (h0 : s.e = 0) (hl : pl.size ≤ 4096) : fiE s a e (vRp s (puV a) (puV e) f pl) = 0 := by
 have h := vRp_size (s := s) f pl (puV a) (puV e)
 unfold fiE
 rw [if_neg (by omega), if_neg (by omega), fS4_e _ _ _ h0, if_neg (fE_ne a e f pl e), if_neg (fE_ne a e f pl a), if_pos (gS3_tag a e f pl)]
theorem finish_s (h0 : s.e = 0) : fS4 s a e (vRp s (puV a) (puV e) f pl) = vS4 s (puV a) (puV e) f pl := (fS4_g h0 (fE_ne a e f pl e) (fE_ne a e f pl a) (gS3_tag a e f pl)).trans (gS4_v a e f pl)
theorem finish_p (h0 : s.e = 0) : fP s a e (vRp s (puV a) (puV e) f pl) = pl := (fP_g h0 (fE_ne a e f pl e) (fE_ne a e f pl a) (gS3_tag a e f pl)).trans (gP_v a e f pl)
end
open Go.RowKit
def fc {α : Type} (n : Nat) (f : Nat → α) : α := match n with
 | 0 => f 0
 | m + 1 => f (m + 1)
theorem fc_eq {α : Type} (n : Nat) (f : Nat → α) : fc n f = f n := by cases n <;> rfl
def fcL {α : Type} : List Nat → (List Nat → α) → α
 | [], f => f []
 | x :: t, f => fc x fun y => fcL t fun s => f (y :: s)
theorem fcL_eq {α : Type} : ∀ (l : List Nat) (f : List Nat → α), fcL l f = f l
 | [], _ => rfl
 | x :: t, f => by
  unfold fcL
  rw [fc_eq, fcL_eq t]
def rlN (x n : Nat) : Nat := (x * 2 ^ n % 4294967296) ||| (x / 2 ^ (32 - n))
def nl (V : List Nat) : Nat → Int := fun i => ((V.getD i 0 : Nat) : Int)
theorem va_n (x y : Nat) : va (x : Int) (y : Int) = (((x + y) % 4294967296 : Nat) : Int) := by
 unfold va
 simp [IntKind.wrap, IntKind.signed, IntKind.bits]
theorem vx_n {x y : Nat} (hx : x < 4294967296) (hy : y < 4294967296) : vx (x : Int) (y : Int) = ((x ^^^ y : Nat) : Int) := by
 have h : x ^^^ y < 2 ^ 32 := Nat.xor_lt_two_pow hx hy
 unfold vx
 simp only [IntKind.wrap, IntKind.signed, IntKind.bits, BitVec.toNat_xor, BitVec.toNat_ofInt]
 rw [show (((x : Int) % ((2 ^ 32 : Nat) : Int)).toNat) = x by omega, show (((y : Int) % ((2 ^ 32 : Nat) : Int)).toNat) = y by omega]
 simp only [Bool.false_and, Bool.false_eq_true, if_false]
 omega
theorem vx_lt {x y : Nat} (hx : x < 4294967296) (hy : y < 4294967296) : x ^^^ y < 4294967296 := Nat.xor_lt_two_pow (n := 32) hx hy
theorem rlN_lt {x n : Nat} (hx : x < 4294967296) : rlN x n < 4294967296 := Nat.or_lt_two_pow (n := 32) (Nat.mod_lt _ (by decide)) (Nat.lt_of_le_of_lt (Nat.div_le_self _ _) hx)
theorem sr_n (x n : Nat) : sr (x : Int) n = ((x / 2 ^ n : Nat) : Int) := by
 unfold sr
 rw [Int.fdiv_eq_ediv_of_nonneg _ (Int.pow_nonneg (by decide))]
 simp
theorem vl_n (x n : Nat) : vl (x : Int) n = ((x * 2 ^ n % 4294967296 : Nat) : Int) := by
 unfold vl
 simp [IntKind.wrap, IntKind.signed, IntKind.bits]
theorem rl_n {x n : Nat} (hx : x < 4294967296) : vo (vl (x : Int) n) (sr (x : Int) (32 - n)) = ((rlN x n : Nat) : Int) := by
 rw [vl_n, sr_n, vo_nat _ _ (Nat.mod_lt _ (by decide)) (Nat.lt_of_le_of_lt (Nat.div_le_self _ _) hx)]
 rfl
structure Wk (V : List Nat) : Prop where
 n : V.length = 16
 lt : ∀ i, V.getD i 0 < 4294967296
theorem nl_set (V : List Nat) {i : Nat} (h : i < V.length) (v : Nat) : upd (nl V) i (v : Int) = nl (V.set i v) := by
 funext t
 unfold upd nl
 simp only [List.getD_eq_getElem?_getD, List.getElem?_set]
 by_cases e : t = i
 ·subst e
  rw [if_pos rfl, if_pos rfl, if_pos h]
  rfl
 ·rw [if_neg e, if_neg (fun h => e h.symm)]
theorem Wk.set {V : List Nat} (h : Wk V) (i : Nat) {v : Nat} (hv : v < 4294967296) : Wk (V.set i v) := ⟨by rw [List.length_set]; exact h.n, fun t => by
 rw [List.getD_eq_getElem?_getD, List.getElem?_set]
 by_cases e : i = t
 ·rw [if_pos e]
  split
  ·exact hv
  ·decide
 ·rw [if_neg e, ← List.getD_eq_getElem?_getD]
  exact h.lt t⟩
def mx4 {α : Type} (r s t u a b c d x y : Nat) (f : Nat → Nat → Nat → Nat → α) : α :=
 fc ((a + (b + x) % 4294967296) % 4294967296) fun a1 => fc (rlN (d ^^^ a1) r) fun d1 => fc ((c + d1) % 4294967296) fun c1 => fc (rlN (b ^^^ c1) s) fun b1 =>
 fc ((a1 + (b1 + y) % 4294967296) % 4294967296) fun a2 => fc (rlN (d1 ^^^ a2) t) fun d2 => fc ((c1 + d2) % 4294967296) fun c2 => fc (rlN (b1 ^^^ c2) u) fun b2 => f a2 b2 c2 d2
def rlF (x n m : Nat) : Nat := Nat.lor (Nat.mod (Nat.mul x n) 4294967296) (Nat.div x m)
def mx4f {α : Type} (r s t u a b c d x y : Nat) (f : Nat → Nat → Nat → Nat → α) : α :=
 fc (Nat.pow 2 r) fun r1 => fc (Nat.pow 2 (Nat.sub 32 r)) fun r2 => fc (Nat.pow 2 s) fun s1 => fc (Nat.pow 2 (Nat.sub 32 s)) fun s2 => fc (Nat.pow 2 t) fun t1 => fc (Nat.pow 2 (Nat.sub 32 t)) fun t2 => fc (Nat.pow 2 u) fun u1 => fc (Nat.pow 2 (Nat.sub 32 u)) fun u2 =>
 fc (Nat.mod (Nat.add a (Nat.mod (Nat.add b x) 4294967296)) 4294967296) fun a1 => fc (rlF (Nat.xor d a1) r1 r2) fun d1 => fc (Nat.mod (Nat.add c d1) 4294967296) fun c1 => fc (rlF (Nat.xor b c1) s1 s2) fun b1 =>
 fc (Nat.mod (Nat.add a1 (Nat.mod (Nat.add b1 y) 4294967296)) 4294967296) fun a2 => fc (rlF (Nat.xor d1 a2) t1 t2) fun d2 => fc (Nat.mod (Nat.add c1 d2) 4294967296) fun c2 => fc (rlF (Nat.xor b1 c2) u1 u2) fun b2 => f a2 b2 c2 d2
theorem mx4f_eq {α : Type} (r s t u a b c d x y : Nat) (f : Nat → Nat → Nat → Nat → α) : mx4f r s t u a b c d x y f = mx4 r s t u a b c d x y f := by
 unfold mx4f mx4
 simp only [fc_eq]
 rfl
def fMx (r s t u : Nat) (V : List Nat) (x y i j k l : Nat) : List Nat := mx4f r s t u (V.getD i 0) (V.getD j 0) (V.getD k 0) (V.getD l 0) x y fun a b c d => (((V.set i a).set j b).set k c).set l d
theorem wm (x : Nat) : x % 4294967296 < 4294967296 := Nat.mod_lt _ (by decide)
theorem fMx_bla {V : List Nat} (h : Wk V) {x y i j k l : Nat} (hi : i < 16) (hj : j < 16) (hk : k < 16) (hl : l < 16) : Bla.mxF (nl V) (x : Int) (y : Int) i j k l = nl (fMx 16 20 24 25 V x y i j k l) ∧ Wk (fMx 16 20 24 25 V x y i j k l) := by
 have ha := h.lt i
 have hb := h.lt j
 have hc := h.lt k
 have hd := h.lt l
 unfold fMx
 rw [mx4f_eq]
 unfold mx4
 simp only [fc_eq]
 obtain ⟨a1, q1⟩ : ∃ z, (V.getD i 0 + (V.getD j 0 + x) % 4294967296) % 4294967296 = z := ⟨_, rfl⟩
 have w1 : a1 < 4294967296 := q1 ▸ wm _
 have e1 : Bla.mA1 (nl V) x i j = (a1 : Int) := by rw [← q1]; unfold Bla.mA1 nl; rw [va_n, va_n]
 obtain ⟨d1, q2⟩ : ∃ z, rlN (V.getD l 0 ^^^ a1) 16 = z := ⟨_, rfl⟩
 have w2 : d1 < 4294967296 := q2 ▸ rlN_lt (vx_lt hd w1)
 have e2 : Bla.mD1 (nl V) x i j l = (d1 : Int) := by rw [← q2]; unfold Bla.mD1; rw [e1]; unfold nl; rw [vx_n hd w1]; exact rl_n (vx_lt hd w1)
 obtain ⟨c1, q3⟩ : ∃ z, (V.getD k 0 + d1) % 4294967296 = z := ⟨_, rfl⟩
 have w3 : c1 < 4294967296 := q3 ▸ wm _
 have e3 : Bla.mC1 (nl V) x i j k l = (c1 : Int) := by rw [← q3]; unfold Bla.mC1; rw [e2]; unfold nl; rw [va_n]
 obtain ⟨b1, q4⟩ : ∃ z, rlN (V.getD j 0 ^^^ c1) 20 = z := ⟨_, rfl⟩
 have w4 : b1 < 4294967296 := q4 ▸ rlN_lt (vx_lt hb w3)
 have e4 : Bla.mB1 (nl V) x i j k l = (b1 : Int) := by rw [← q4]; unfold Bla.mB1; rw [e3]; unfold nl; rw [vx_n hb w3]; exact rl_n (vx_lt hb w3)
 obtain ⟨a2, q5⟩ : ∃ z, (a1 + (b1 + y) % 4294967296) % 4294967296 = z := ⟨_, rfl⟩
 have w5 : a2 < 4294967296 := q5 ▸ wm _
 have e5 : Bla.mA2 (nl V) x y i j k l = (a2 : Int) := by rw [← q5]; unfold Bla.mA2; rw [e1, e4]; rw [va_n, va_n]
 obtain ⟨d2, q6⟩ : ∃ z, rlN (d1 ^^^ a2) 24 = z := ⟨_, rfl⟩
 have w6 : d2 < 4294967296 := q6 ▸ rlN_lt (vx_lt w2 w5)
 have e6 : Bla.mD2 (nl V) x y i j k l = (d2 : Int) := by rw [← q6]; unfold Bla.mD2; rw [e2, e5, vx_n w2 w5]; exact rl_n (vx_lt w2 w5)
 obtain ⟨c2, q7⟩ : ∃ z, (c1 + d2) % 4294967296 = z := ⟨_, rfl⟩
 have w7 : c2 < 4294967296 := q7 ▸ wm _
 have e7 : Bla.mC2 (nl V) x y i j k l = (c2 : Int) := by rw [← q7]; unfold Bla.mC2; rw [e3, e6, va_n]
 obtain ⟨b2, q8⟩ : ∃ z, rlN (b1 ^^^ c2) 25 = z := ⟨_, rfl⟩
 have w8 : b2 < 4294967296 := q8 ▸ rlN_lt (vx_lt w4 w7)
 have e8 : Bla.mB2 (nl V) x y i j k l = (b2 : Int) := by rw [← q8]; unfold Bla.mB2; rw [e4, e7, vx_n w4 w7]; exact rl_n (vx_lt w4 w7)
 have n0 := h.n
 rw [q1, q2, q3, q4, q5, q6, q7, q8]
 constructor
 ·unfold Bla.mxF
  rw [e5, e6, e7, e8, nl_set V (by omega), nl_set _ (by rw [List.length_set]; omega), nl_set _ (by rw [List.length_set, List.length_set]; omega), nl_set _ (by rw [List.length_set, List.length_set, List.length_set]; omega)]
 ·exact (((h.set i w5).set j w8).set k w7).set l w6
theorem fMx_cha {V : List Nat} (h : Wk V) {i j k l : Nat} (hi : i < 16) (hj : j < 16) (hk : k < 16) (hl : l < 16) : mxF (nl V) i j k l = nl (fMx 16 12 8 7 V 0 0 i j k l) ∧ Wk (fMx 16 12 8 7 V 0 0 i j k l) := by
 have ha := h.lt i
 have hb := h.lt j
 have hc := h.lt k
 have hd := h.lt l
 unfold fMx
 rw [mx4f_eq]
 unfold mx4
 simp only [fc_eq]
 obtain ⟨a1, q1⟩ : ∃ z, (V.getD i 0 + (V.getD j 0 + 0) % 4294967296) % 4294967296 = z := ⟨_, rfl⟩
 have w1 : a1 < 4294967296 := q1 ▸ wm _
 have e1 : mA1 (nl V) i j = (a1 : Int) := by rw [← q1]; unfold mA1 nl; rw [va_n, Nat.add_zero, Nat.mod_eq_of_lt hb]
 obtain ⟨d1, q2⟩ : ∃ z, rlN (V.getD l 0 ^^^ a1) 16 = z := ⟨_, rfl⟩
 have w2 : d1 < 4294967296 := q2 ▸ rlN_lt (vx_lt hd w1)
 have e2 : mD1 (nl V) i j l = (d1 : Int) := by rw [← q2]; unfold mD1; rw [e1]; unfold nl; rw [vx_n hd w1]; exact rl_n (vx_lt hd w1)
 obtain ⟨c1, q3⟩ : ∃ z, (V.getD k 0 + d1) % 4294967296 = z := ⟨_, rfl⟩
 have w3 : c1 < 4294967296 := q3 ▸ wm _
 have e3 : mC1 (nl V) i j k l = (c1 : Int) := by rw [← q3]; unfold mC1; rw [e2]; unfold nl; rw [va_n]
 obtain ⟨b1, q4⟩ : ∃ z, rlN (V.getD j 0 ^^^ c1) 12 = z := ⟨_, rfl⟩
 have w4 : b1 < 4294967296 := q4 ▸ rlN_lt (vx_lt hb w3)
 have e4 : mB1 (nl V) i j k l = (b1 : Int) := by rw [← q4]; unfold mB1; rw [e3]; unfold nl; rw [vx_n hb w3]; exact rl_n (vx_lt hb w3)
 obtain ⟨a2, q5⟩ : ∃ z, (a1 + (b1 + 0) % 4294967296) % 4294967296 = z := ⟨_, rfl⟩
 have w5 : a2 < 4294967296 := q5 ▸ wm _
 have e5 : mA2 (nl V) i j k l = (a2 : Int) := by rw [← q5]; unfold mA2; rw [e1, e4]; rw [va_n, Nat.add_zero, Nat.mod_eq_of_lt w4]
 obtain ⟨d2, q6⟩ : ∃ z, rlN (d1 ^^^ a2) 8 = z := ⟨_, rfl⟩
 have w6 : d2 < 4294967296 := q6 ▸ rlN_lt (vx_lt w2 w5)
 have e6 : mD2 (nl V) i j k l = (d2 : Int) := by rw [← q6]; unfold mD2; rw [e2, e5, vx_n w2 w5]; exact rl_n (vx_lt w2 w5)
 obtain ⟨c2, q7⟩ : ∃ z, (c1 + d2) % 4294967296 = z := ⟨_, rfl⟩
 have w7 : c2 < 4294967296 := q7 ▸ wm _
 have e7 : mC2 (nl V) i j k l = (c2 : Int) := by rw [← q7]; unfold mC2; rw [e3, e6, va_n]
 obtain ⟨b2, q8⟩ : ∃ z, rlN (b1 ^^^ c2) 7 = z := ⟨_, rfl⟩
 have w8 : b2 < 4294967296 := q8 ▸ rlN_lt (vx_lt w4 w7)
 have e8 : mB2 (nl V) i j k l = (b2 : Int) := by rw [← q8]; unfold mB2; rw [e4, e7, vx_n w4 w7]; exact rl_n (vx_lt w4 w7)
 have n0 := h.n
 rw [q1, q2, q3, q4, q5, q6, q7, q8]
 constructor
 ·unfold mxF
  rw [e5, e6, e7, e8, nl_set V (by omega), nl_set _ (by rw [List.length_set]; omega), nl_set _ (by rw [List.length_set, List.length_set]; omega), nl_set _ (by rw [List.length_set, List.length_set, List.length_set]; omega)]
 ·exact (((h.set i w5).set j w8).set k w7).set l w6
open Go.RowKit
def sg : Nat → List Nat
 | 0 => [0, 1, 2, 3, 4, 5, 6, 7, 8, 9, 10, 11, 12, 13, 14, 15]
 | 1 => [14, 10, 4, 8, 9, 15, 13, 6, 1, 12, 0, 2, 11, 7, 5, 3]
 | 2 => [11, 8, 12, 0, 5, 2, 15, 13, 10, 14, 3, 6, 7, 1, 9, 4]
 | 3 => [7, 9, 3, 1, 13, 12, 11, 14, 2, 6, 5, 10, 4, 0, 15, 8]
 | 4 => [9, 0, 5, 7, 2, 4, 10, 15, 14, 1, 11, 12, 6, 8, 3, 13]
 | 5 => [2, 12, 6, 10, 0, 11, 8, 3, 4, 13, 7, 5, 15, 14, 1, 9]
 | 6 => [12, 5, 1, 15, 14, 13, 4, 10, 0, 7, 6, 3, 9, 2, 8, 11]
 | 7 => [13, 11, 7, 14, 12, 1, 3, 9, 5, 0, 15, 4, 8, 6, 2, 10]
 | 8 => [6, 15, 14, 9, 11, 3, 0, 8, 12, 2, 13, 7, 1, 4, 10, 5]
 | 9 => [10, 2, 8, 4, 7, 6, 1, 5, 15, 11, 9, 14, 3, 12, 13, 0]
 | _ => []
theorem sg_eq : ∀ j, j < 10 → ∀ q, q < 16 → (sg j).getD q 0 = OF (j * 16 + q) := by decide
def fRn (m V : List Nat) (j : Nat) : List Nat :=
 fcL (fMx 16 20 24 25 V (m.getD ((sg j).getD 0 0) 0) (m.getD ((sg j).getD 1 0) 0) 0 4 8 12) fun V => fcL (fMx 16 20 24 25 V (m.getD ((sg j).getD 2 0) 0) (m.getD ((sg j).getD 3 0) 0) 1 5 9 13) fun V =>
 fcL (fMx 16 20 24 25 V (m.getD ((sg j).getD 4 0) 0) (m.getD ((sg j).getD 5 0) 0) 2 6 10 14) fun V => fcL (fMx 16 20 24 25 V (m.getD ((sg j).getD 6 0) 0) (m.getD ((sg j).getD 7 0) 0) 3 7 11 15) fun V =>
 fcL (fMx 16 20 24 25 V (m.getD ((sg j).getD 8 0) 0) (m.getD ((sg j).getD 9 0) 0) 0 5 10 15) fun V => fcL (fMx 16 20 24 25 V (m.getD ((sg j).getD 10 0) 0) (m.getD ((sg j).getD 11 0) 0) 1 6 11 12) fun V =>
 fcL (fMx 16 20 24 25 V (m.getD ((sg j).getD 12 0) 0) (m.getD ((sg j).getD 13 0) 0) 2 7 8 13) fun V => fMx 16 20 24 25 V (m.getD ((sg j).getD 14 0) 0) (m.getD ((sg j).getD 15 0) 0) 3 4 9 14
theorem fRn_eq (m : List Nat) {V : List Nat} (h : Wk V) (j : Nat) (hj : j < 10) : Bla.rn8 (nl m) (nl V) j = nl (fRn m V j) ∧ Wk (fRn m V j) := by
 unfold fRn
 simp only [fcL_eq, sg_eq j hj 0 (by decide), sg_eq j hj 1 (by decide), sg_eq j hj 2 (by decide), sg_eq j hj 3 (by decide), sg_eq j hj 4 (by decide), sg_eq j hj 5 (by decide), sg_eq j hj 6 (by decide), sg_eq j hj 7 (by decide), sg_eq j hj 8 (by decide), sg_eq j hj 9 (by decide), sg_eq j hj 10 (by decide), sg_eq j hj 11 (by decide), sg_eq j hj 12 (by decide), sg_eq j hj 13 (by decide), sg_eq j hj 14 (by decide), sg_eq j hj 15 (by decide)]
 obtain ⟨e0, k0⟩ := fMx_bla (V := V) h (x := m.getD (OF (j * 16 + 0)) 0) (y := m.getD (OF (j * 16 + 1)) 0) (i := 0) (j := 4) (k := 8) (l := 12) (by decide) (by decide) (by decide) (by decide)
 obtain ⟨e1, k1⟩ := fMx_bla (V := _) k0 (x := m.getD (OF (j * 16 + 2)) 0) (y := m.getD (OF (j * 16 + 3)) 0) (i := 1) (j := 5) (k := 9) (l := 13) (by decide) (by decide) (by decide) (by decide)
 obtain ⟨e2, k2⟩ := fMx_bla (V := _) k1 (x := m.getD (OF (j * 16 + 4)) 0) (y := m.getD (OF (j * 16 + 5)) 0) (i := 2) (j := 6) (k := 10) (l := 14) (by decide) (by decide) (by decide) (by decide)
 obtain ⟨e3, k3⟩ := fMx_bla (V := _) k2 (x := m.getD (OF (j * 16 + 6)) 0) (y := m.getD (OF (j * 16 + 7)) 0) (i := 3) (j := 7) (k := 11) (l := 15) (by decide) (by decide) (by decide) (by decide)
 obtain ⟨e4, k4⟩ := fMx_bla (V := _) k3 (x := m.getD (OF (j * 16 + 8)) 0) (y := m.getD (OF (j * 16 + 9)) 0) (i := 0) (j := 5) (k := 10) (l := 15) (by decide) (by decide) (by decide) (by decide)
 obtain ⟨e5, k5⟩ := fMx_bla (V := _) k4 (x := m.getD (OF (j * 16 + 10)) 0) (y := m.getD (OF (j * 16 + 11)) 0) (i := 1) (j := 6) (k := 11) (l := 12) (by decide) (by decide) (by decide) (by decide)
 obtain ⟨e6, k6⟩ := fMx_bla (V := _) k5 (x := m.getD (OF (j * 16 + 12)) 0) (y := m.getD (OF (j * 16 + 13)) 0) (i := 2) (j := 7) (k := 8) (l := 13) (by decide) (by decide) (by decide) (by decide)
 obtain ⟨e7, k7⟩ := fMx_bla (V := _) k6 (x := m.getD (OF (j * 16 + 14)) 0) (y := m.getD (OF (j * 16 + 15)) 0) (i := 3) (j := 4) (k := 9) (l := 14) (by decide) (by decide) (by decide) (by decide)
 refine ⟨?_, k7⟩
 unfold Bla.rn8 Bla.rn7 Bla.rn6 Bla.rn5 Bla.rn4 Bla.rn3 Bla.rn2 Bla.rn1
 have hm : ∀ i, nl m i = ((m.getD i 0 : Nat) : Int) := fun _ => rfl
 simp only [hm]
 rw [e0, e1, e2, e3, e4, e5, e6, e7]
def fRd (m V : List Nat) : Nat → List Nat
 | 0 => V
 | j + 1 => fcL (fRd m V j) fun V => fRn m V j
theorem fRd_eq (m : List Nat) {V : List Nat} (h : Wk V) : ∀ j, j ≤ 10 → Bla.rd (nl m) (nl V) j = nl (fRd m V j) ∧ Wk (fRd m V j)
 | 0, _ => ⟨rfl, h⟩
 | j + 1, hj => by
  obtain ⟨e, k⟩ := fRd_eq m h j (by omega)
  unfold Bla.rd fRd
  rw [e, fcL_eq]
  exact fRn_eq m k j (by omega)
def fSp (H : List Nat) (ct : Nat) (last : Bool) : List Nat := H ++ [1779033703, 3144134277, 1013904242, 2773480762, 1359893119 ^^^ (ct % 4294967296), 2600822924 ^^^ (ct / 4294967296), if last then 3766232660 else 528734635, 1541459225]
theorem fSp_eq {H : List Nat} (hn : H.length = 8) {ct : Nat} (hc : ct < 4294967296) (last : Bool) : ∀ t, t < 16 → Bla.spr (nl H) (ct : Int) last t = nl (fSp H ct last) t := by
 obtain ⟨a0, a1, a2, a3, a4, a5, a6, a7, rfl⟩ : ∃ a b c d e f g h, H = [a, b, c, d, e, f, g, h] := by
  match H, hn with
  | [a, b, c, d, e, f, g, h], _ => exact ⟨a, b, c, d, e, f, g, h, rfl⟩
 have c1 : cv .u32 (ct : Int) = (ct : Int) := by
  unfold cv
  simp [IntKind.wrap, IntKind.signed, IntKind.bits]
  omega
 have c2 : cv .u32 (sr (ct : Int) 32) = ((0 : Nat) : Int) := by
  rw [sr_n, Nat.div_eq_of_lt hc]
  decide
 have x1 : vx 1359893119 (ct : Int) = ((1359893119 ^^^ ct : Nat) : Int) := vx_n (x := 1359893119) (by decide) hc
 have x2 : vx 2600822924 ((0 : Nat) : Int) = ((2600822924 ^^^ 0 : Nat) : Int) := vx_n (x := 2600822924) (y := 0) (by decide) (by decide)
 intro t ht
 have e12 : Bla.spr (nl [a0, a1, a2, a3, a4, a5, a6, a7]) (ct : Int) last 12 = ((1359893119 ^^^ ct : Nat) : Int) := Eq.trans (b := vx 1359893119 (cv .u32 (ct : Int))) (by cases last <;> rfl) (by rw [c1, x1])
 have e13 : Bla.spr (nl [a0, a1, a2, a3, a4, a5, a6, a7]) (ct : Int) last 13 = ((2600822924 ^^^ 0 : Nat) : Int) := Eq.trans (b := vx 2600822924 (cv .u32 (sr (ct : Int) 32))) (by cases last <;> rfl) (by rw [c2, x2])
 have e14 : Bla.spr (nl [a0, a1, a2, a3, a4, a5, a6, a7]) (ct : Int) last 14 = (((if last then 3766232660 else 528734635 : Nat) : Nat) : Int) := by
  cases last
  ·rfl
  ·show vt 528734635 = _
   decide
 unfold fSp
 rw [Nat.mod_eq_of_lt hc, Nat.div_eq_of_lt hc]
 match t, ht with
 | 0, _ | 1, _ | 2, _ | 3, _ | 4, _ | 5, _ | 6, _ | 7, _ | 8, _ | 9, _ | 10, _ | 11, _ | 15, _ => cases last <;> rfl
 | 12, _ => exact e12
 | 13, _ => exact e13
 | 14, _ => exact e14
 | n + 16, h => exact absurd h (by omega)
structure Hk (H : List Nat) : Prop where
 n : H.length = 8
 lt : ∀ i, H.getD i 0 < 4294967296
theorem fSp_wk {H : List Nat} (h : Hk H) {ct : Nat} (hc : ct < 4294967296) (last : Bool) : Wk (fSp H ct last) := by
 have hn := h.n
 have hx : 1359893119 ^^^ (ct % 4294967296) < 4294967296 := vx_lt (by decide) (wm _)
 have hy : 2600822924 ^^^ (ct / 4294967296) < 4294967296 := vx_lt (by decide) (by rw [Nat.div_eq_of_lt hc]; decide)
 refine ⟨by unfold fSp; rw [List.length_append, hn]; rfl, fun i => ?_⟩
 unfold fSp
 rw [List.getD_eq_getElem?_getD]
 by_cases hi : i < 8
 ·rw [List.getElem?_append_left (by omega), ← List.getD_eq_getElem?_getD]
  exact h.lt i
 ·rw [List.getElem?_append_right (by omega), hn]
  obtain ⟨k, rfl⟩ : ∃ k, i = 8 + k := ⟨i - 8, by omega⟩
  rw [Nat.add_sub_cancel_left]
  match k with
  | 0 => exact (by decide : 1779033703 < 4294967296)
  | 1 => exact (by decide : 3144134277 < 4294967296)
  | 2 => exact (by decide : 1013904242 < 4294967296)
  | 3 => exact (by decide : 2773480762 < 4294967296)
  | 7 => exact (by decide : 1541459225 < 4294967296)
  | 4 => exact hx
  | 5 => exact hy
  | 6 =>
   cases last
   ·exact (by decide : 528734635 < 4294967296)
   ·exact (by decide : 3766232660 < 4294967296)
  | n + 8 => exact (by decide : (0 : Nat) < 4294967296)
def fMixL (H m : List Nat) (ct : Nat) (last : Bool) : List Nat := fcL m fun m => fcL (fRd m (fSp H ct last) 10) fun y => (List.range 8).map fun i => H.getD i 0 ^^^ (y.getD i 0 ^^^ y.getD (8 + i) 0)
theorem range8 (f : Nat → Nat) {i : Nat} (h : i < 8) : ((List.range 8).map f).getD i 0 = f i := by
 rw [List.getD_eq_getElem?_getD, List.getElem?_map, List.getElem?_range h]
 rfl
theorem fMix_eq {H m : List Nat} (h : Hk H) {ct : Nat} (hc : ct < 4294967296) (last : Bool) : (∀ i, i < 8 → Bla.mixW (nl H) (nl m) (ct : Int) last i = nl (fMixL H m ct last) i) ∧ Hk (fMixL H m ct last) := by
 have hw := fSp_wk h hc last
 obtain ⟨e, k⟩ := fRd_eq m hw 10 (by decide)
 unfold fMixL
 simp only [fcL_eq]
 refine ⟨fun i hi => ?_, ⟨by simp, fun i => ?_⟩⟩
 ·have c := fun t ht => Bla.rd_congr (m := nl m) (m' := nl m) (fun _ _ => rfl) (fSp_eq h.n hc last) 10 t ht
  unfold Bla.mixW
  rw [c i (by omega), c (8 + i) (by omega), e]
  unfold nl
  rw [vx_n (k.lt _) (k.lt _), vx_n (h.lt _) (vx_lt (k.lt _) (k.lt _)), range8 _ hi]
 ·by_cases hi : i < 8
  ·rw [range8 _ hi]
   exact vx_lt (h.lt _) (vx_lt (k.lt _) (k.lt _))
  ·rw [List.getD_eq_getElem?_getD, List.getElem?_eq_none (by simp; omega)]
   decide
def byL (l : List Nat) : ByteArray := ⟨(l.map UInt8.ofNat).toArray⟩
theorem byL_size (l : List Nat) : (byL l).size = l.length := by
 unfold byL
 show ((l.map UInt8.ofNat).toArray).size = _
 simp
theorem bt_byL (l : List Nat) (i : Nat) : bt (byL l) i = ((l.getD i 0 % 256 : Nat) : Int) := by
 unfold bt byL
 simp only [List.getElem?_toArray, List.getElem?_map, List.getD_eq_getElem?_getD]
 cases h : l[i]? with
 | none => rfl
 | some x => simp [UInt8.toNat_ofNat']
theorem byL_app (a b : List Nat) : byL a ++ byL b = byL (a ++ b) := by
 unfold byL
 apply ByteArray.ext
 rw [ByteArray.data_append, List.map_append, List.append_toArray]
theorem byL_ext (l : List Nat) (i j : Nat) : (byL l).extract i j = byL ((l.take j).drop i) := by
 unfold byL
 apply ByteArray.ext
 rw [ByteArray.data_extract]
 simp [List.extract_toArray, List.extract, ← List.map_drop, ← List.map_take, List.drop_take]
theorem bs_byL (l : List Nat) : bs (l.map fun (n : Nat) => (n : Int)) = byL l := by
 unfold bs byL
 rw [List.map_map]
 rfl
def wN (l : List Nat) : List Nat := (List.range 16).map fun t => l.getD (4 * t) 0 % 256 + 256 * (l.getD (4 * t + 1) 0 % 256) + 65536 * (l.getD (4 * t + 2) 0 % 256) + 16777216 * (l.getD (4 * t + 3) 0 % 256)
theorem wN_eq (l : List Nat) : ∀ t, t < 16 → Bla.wd (bt (byL l)) 64 t = nl (wN l) t := fun t ht => by
 rw [Bla.wd_p4 _ (fun i => bt_nn (byL l) i) t ht]
 unfold Bla.p4 nl wN
 rw [List.getD_eq_getElem?_getD, List.getElem?_map, List.getElem?_range ht]
 simp only [bt_byL, Option.map_some, Option.getD_some]
 omega
def H0 : List Nat := [1795745351, 3144134277, 1013904242, 2773480762, 1359893119, 2600822924, 528734635, 1541459225]
theorem H0_k : Hk H0 := ⟨rfl, fun i => by
 match i with
 | 0 | 1 | 2 | 3 | 4 | 5 | 6 | 7 => decide
 | n + 8 => exact (by decide : (0 : Nat) < 4294967296)⟩
theorem H0_eq : ∀ i, i < 8 → (Bla.hs0 32 0).ws i = nl H0 i := by decide
def outN (h : List Nat) : List Nat := (List.range 32).map fun j => h.getD (j / 4) 0 / 2 ^ (8 * (j % 4)) % 256
theorem outL_n {f : NI} {h : List Nat} (e : ∀ i, i < 8 → f i = nl h i) : ∀ j, j ≤ 32 → Bla.outL f j = ((List.range j).map fun j => h.getD (j / 4) 0 / 2 ^ (8 * (j % 4)) % 256).map fun (n : Nat) => (n : Int)
 | 0, _ => rfl
 | j + 1, hj => by
  unfold Bla.outL
  rw [outL_n e j (by omega), List.range_succ, List.map_append, List.map_append]
  congr 1
  simp only [List.map_cons, List.map_nil]
  rw [e (j / 4) (by omega)]
  unfold nl
  rw [sr_n]
  unfold cv
  simp [IntKind.wrap, IntKind.signed, IntKind.bits]
def padN (l : List Nat) : List Nat := l ++ List.replicate (64 - l.length) 0
def fD (l : List Nat) : List Nat := if l.length ≤ 64 then outN (fMixL H0 (wN (padN l)) l.length true) else outN (fMixL (fMixL H0 (wN (l.take 64)) 64 false) (wN (padN (l.drop 64))) l.length true)
theorem zs_byL (n : Nat) : Bla.zs n = byL (List.replicate n 0) := by
 unfold Bla.zs byL
 simp
theorem Bh_byL (l : List Nat) (hl : l.length ≤ 128) : Bh (byL l) = byL (fD l) := by
 have hz := byL_size l
 have he : strE.size = 0 := rfl
 unfold Bh
 rw [← Bla.doc_eq 32 (by decide) strE (byL l) (by omega) (by decide)]
 unfold Bla.docS Bla.docV Bla.allV
 rw [if_pos he, he]
 have key : ∀ h : List Nat, (∀ i, i < 8 → Bla.dfin (byL l) (Bla.hs0 32 0).ws i = nl h i) → bs (Bla.outL (Bla.dfin (byL l) (Bla.hs0 32 0).ws) 32) = byL (outN h) := fun h e => by
  rw [outL_n e 32 (Nat.le_refl _), bs_byL]
  rfl
 have cc : cv .u64 (((byL l).size : Nat) : Int) = ((l.length : Nat) : Int) := by
  rw [hz]
  unfold cv
  simp [IntKind.wrap, IntKind.signed, IntKind.bits]
  omega
 unfold fD
 by_cases h : l.length ≤ 64
 ·rw [if_pos h]
  refine key _ fun i hi => ?_
  have hb : Bla.nbl (byL l) = 0 := by unfold Bla.nbl; omega
  have hr : Bla.rst (byL l) ++ Bla.zs (64 - (Bla.rst (byL l)).size) = byL (padN l) := by
   have h1 : Bla.rst (byL l) = byL l := by
    unfold Bla.rst
    rw [hb, byL_ext, hz]
    simp
   rw [h1, hz, zs_byL, byL_app]
   rfl
  unfold Bla.dfin
  rw [hb, hr, cc]
  show Bla.mixW (Bla.hs0 32 0).ws _ _ true i = _
  rw [Bla.mixW_congr H0_eq (wN_eq _) _ true i hi]
  exact (fMix_eq H0_k (by omega) true).1 i hi
 ·rw [if_neg h]
  refine key _ fun i hi => ?_
  have hb : Bla.nbl (byL l) = 1 := by unfold Bla.nbl; omega
  have hr : Bla.rst (byL l) ++ Bla.zs (64 - (Bla.rst (byL l)).size) = byL (padN (l.drop 64)) := by
   have h1 : Bla.rst (byL l) = byL (l.drop 64) := by
    unfold Bla.rst
    rw [hb, byL_ext, hz]
    simp
   rw [h1, byL_size, zs_byL, byL_app]
   rfl
  obtain ⟨e1, k1⟩ := fMix_eq H0_k (m := wN (l.take 64)) (ct := 64) (by decide) false
  unfold Bla.dfin
  rw [hb, hr, cc]
  have e2 : ∀ i, i < 8 → Bla.pcs (byL l) (Bla.hs0 32 0).ws 1 i = nl (fMixL H0 (wN (l.take 64)) 64 false) i := fun i hi => by
   rw [← e1 i hi]
   show Bla.mixW (Bla.hs0 32 0).ws (Bla.wd (bt ((byL l).extract 0 64)) 64) 64 false i = _
   rw [byL_ext, List.drop_zero]
   exact Bla.mixW_congr H0_eq (wN_eq _) _ false i hi
  rw [Bla.mixW_congr e2 (wN_eq _) _ true i hi]
  exact (fMix_eq k1 (by omega) true).1 i hi
open Go.RowKit
theorem xb_n {x y : Nat} (hx : x < 256) (hy : y < 256) : IntKind.wrap .u8 (BitVec.ofInt 8 (x : Int) ^^^ BitVec.ofInt 8 (y : Int)).toNat = ((x ^^^ y : Nat) : Int) := by
 have h : x ^^^ y < 2 ^ 8 := Nat.xor_lt_two_pow hx hy
 simp only [IntKind.wrap, IntKind.signed, IntKind.bits, BitVec.toNat_xor, BitVec.toNat_ofInt]
 rw [show (((x : Int) % ((2 ^ 8 : Nat) : Int)).toNat) = x by omega, show (((y : Int) % ((2 ^ 8 : Nat) : Int)).toNat) = y by omega]
 simp only [Bool.false_and, Bool.false_eq_true, if_false]
 omega
def mkN (k : List Nat) (m : Nat) : List Nat := (List.range 64).map fun i => k.getD i 0 % 256 ^^^ m
theorem mkN_eq (k : List Nat) {m : Nat} (hm : m < 256) : Bla.mk (bt (byL k)) (m : Int) = byL (mkN k m) := by
 unfold Bla.mk mkN
 refine Eq.trans (congrArg bs (List.map_congr_left (g := fun i => ((k.getD i 0 % 256 ^^^ m : Nat) : Int)) fun i _ => ?_)) ?_
 ·rw [bt_byL]
  exact xb_n (Nat.mod_lt _ (by decide)) hm
 ·rw [← bs_byL, List.map_map]
  rfl
theorem fD_length (l : List Nat) : (fD l).length = 32 := by
 unfold fD outN
 split <;> simp
def fT (k s : List Nat) : List Nat := fcL (fD (mkN k 54 ++ s)) fun d => fD (mkN k 92 ++ d)
theorem fT_eq (k s : List Nat) (hs : s.length ≤ 64) : Bla.tagV (bt (byL k)) (byL s) = byL (fT k s) := by
 have h1 : (mkN k 54).length = 64 := by simp [mkN]
 have h2 : (mkN k 92).length = 64 := by simp [mkN]
 unfold Bla.tagV fT
 rw [fcL_eq, show (92 : Int) = ((92 : Nat) : Int) from rfl, show (54 : Int) = ((54 : Nat) : Int) from rfl, mkN_eq k (by decide), mkN_eq k (by decide), byL_app]
 have e : Bla.blV 32 strE (byL (mkN k 54 ++ s)) = byL (fD (mkN k 54 ++ s)) := Bh_byL _ (by rw [List.length_append]; omega)
 rw [e, byL_app]
 exact Bh_byL _ (by rw [List.length_append, fD_length]; omega)
theorem fT_length (k s : List Nat) : (fT k s).length = 32 := by
 unfold fT
 rw [fcL_eq]
 exact fD_length _
theorem keyV_s (c : List Nat) (hc : c.length ≤ 64) : Bla.keyV (byL c) = byL c := if_neg (by rw [byL_size]; omega)
theorem hmV_n (c t : List Nat) (hc : c.length ≤ 64) (ht : t.length ≤ 64) : Bla.hmV (byL c) (byL t) = byL (fT c t) := by
 unfold Bla.hmV
 rw [keyV_s c hc]
 exact fT_eq c t ht
def fA (c t : List Nat) : List Nat := fcL (fT c t) fun T => fT T [1]
def fB (c t : List Nat) : List Nat := fcL (fT c t) fun T => fT T (fT T [1] ++ [2])
theorem one_n : strE ++ strE ++ bs [((0 + 1 : Nat) : Int)] = byL [1] := by decide
theorem nxA_n (c t : List Nat) (hc : c.length ≤ 64) (ht : t.length ≤ 64) : nxA (byL c) (byL t) = byL (fA c t) := by
 unfold nxA Bla.txt fA
 rw [fcL_eq, hmV_n c t hc ht, keyV_s _ (by rw [fT_length]; decide)]
 show Bla.tagV _ (strE ++ strE ++ bs [((0 + 1 : Nat) : Int)]) = _
 rw [one_n]
 exact fT_eq _ _ (by decide)
theorem nxB_n (c t : List Nat) (hc : c.length ≤ 64) (ht : t.length ≤ 64) : nxB (byL c) (byL t) = byL (fB c t) := by
 unfold nxB Bla.txt fB
 rw [fcL_eq, hmV_n c t hc ht, keyV_s _ (by rw [fT_length]; decide)]
 show Bla.tagV _ (Bla.tagV _ (strE ++ strE ++ bs [((0 + 1 : Nat) : Int)]) ++ strE ++ bs [((1 + 1 : Nat) : Int)]) = _
 rw [one_n, fT_eq _ [1] (by decide), show strE = byL [] from rfl, show bs [((1 + 1 : Nat) : Int)] = byL [2] by decide, byL_app, byL_app, List.append_nil]
 exact fT_eq _ _ (by rw [List.length_append, fT_length]; decide)
def fCr (V : List Nat) : List Nat := fcL (fMx 16 12 8 7 V 0 0 0 4 8 12) fun V => fcL (fMx 16 12 8 7 V 0 0 1 5 9 13) fun V => fcL (fMx 16 12 8 7 V 0 0 2 6 10 14) fun V => fcL (fMx 16 12 8 7 V 0 0 3 7 11 15) fun V => fcL (fMx 16 12 8 7 V 0 0 0 5 10 15) fun V => fcL (fMx 16 12 8 7 V 0 0 1 6 11 12) fun V => fcL (fMx 16 12 8 7 V 0 0 2 7 8 13) fun V => fMx 16 12 8 7 V 0 0 3 4 9 14
theorem fCr_eq {V : List Nat} (h : Wk V) : rn8 (nl V) = nl (fCr V) ∧ Wk (fCr V) := by
 unfold fCr
 simp only [fcL_eq]
 obtain ⟨e0, k0⟩ := fMx_cha (V := V) h (i := 0) (j := 4) (k := 8) (l := 12) (by decide) (by decide) (by decide) (by decide)
 obtain ⟨e1, k1⟩ := fMx_cha (V := _) k0 (i := 1) (j := 5) (k := 9) (l := 13) (by decide) (by decide) (by decide) (by decide)
 obtain ⟨e2, k2⟩ := fMx_cha (V := _) k1 (i := 2) (j := 6) (k := 10) (l := 14) (by decide) (by decide) (by decide) (by decide)
 obtain ⟨e3, k3⟩ := fMx_cha (V := _) k2 (i := 3) (j := 7) (k := 11) (l := 15) (by decide) (by decide) (by decide) (by decide)
 obtain ⟨e4, k4⟩ := fMx_cha (V := _) k3 (i := 0) (j := 5) (k := 10) (l := 15) (by decide) (by decide) (by decide) (by decide)
 obtain ⟨e5, k5⟩ := fMx_cha (V := _) k4 (i := 1) (j := 6) (k := 11) (l := 12) (by decide) (by decide) (by decide) (by decide)
 obtain ⟨e6, k6⟩ := fMx_cha (V := _) k5 (i := 2) (j := 7) (k := 8) (l := 13) (by decide) (by decide) (by decide) (by decide)
 obtain ⟨e7, k7⟩ := fMx_cha (V := _) k6 (i := 3) (j := 4) (k := 9) (l := 14) (by decide) (by decide) (by decide) (by decide)
 refine ⟨?_, k7⟩
 unfold rn8 rn7 rn6 rn5 rn4 rn3 rn2 rn1
 rw [e0, e1, e2, e3, e4, e5, e6, e7]
def fCd (V : List Nat) : Nat → List Nat
 | 0 => V
 | j + 1 => fcL (fCd V j) fCr
theorem fCd_eq {V : List Nat} (h : Wk V) : ∀ j, rd (nl V) j = nl (fCd V j) ∧ Wk (fCd V j)
 | 0 => ⟨rfl, h⟩
 | j + 1 => by
  obtain ⟨e, k⟩ := fCd_eq h j
  unfold rd fCd
  rw [e, fcL_eq]
  exact fCr_eq k
def fBl (V : List Nat) : List Nat := fcL (fCd V 10) fun y => (List.range 64).map fun i => (y.getD (i / 4) 0 + V.getD (i / 4) 0) % 4294967296 / 2 ^ (i % 4 * 8) % 256
theorem fBl_eq {V : List Nat} (h : Wk V) {i : Nat} (hi : i < 64) : bl (nl V) i = (((fBl V).getD i 0 : Nat) : Int) := by
 unfold bl fBl
 rw [fcL_eq, (fCd_eq h 10).1, List.getD_eq_getElem?_getD, List.getElem?_map, List.getElem?_range hi]
 simp only [nl, Option.map_some, Option.getD_some]
 rw [va_n, sr_n]
 unfold cv
 simp [IntKind.wrap, IntKind.signed, IntKind.bits]
theorem bl_map {V : List Nat} (h : Wk V) (n : Nat) (hn : n ≤ 64) : (List.range n).map (bl (nl V)) = ((List.range n).map fun i => (fBl V).getD i 0).map fun (x : Nat) => (x : Int) := by
 rw [List.map_map]
 exact List.map_congr_left fun i hi => fBl_eq h (by have := List.mem_range.1 hi; omega)
def cK : List Nat := [45, 173, 220, 235, 183, 206, 125, 69, 122, 170, 130, 7, 105, 165, 60, 190, 18, 162, 171, 19, 2, 94, 130, 161, 83, 84, 134, 111, 237, 7, 93, 70]
def cW0 : List Nat := [1634760805, 857760878, 2036477234, 1797285236, 3957108013, 1165872823, 126003834, 3191645545, 330015250, 2709675522, 1871074387, 1180501997, 0, 0, 0, 0]
def cW1 : List Nat := [1634760805, 857760878, 2036477234, 1797285236, 3957108013, 1165872823, 126003834, 3191645545, 330015250, 2709675522, 1871074387, 1180501997, 1, 0, 0, 0]
theorem wk_of (V : List Nat) (h : (V.length == 16 && V.all (· < 4294967296)) = true) : Wk V := by
 simp only [Bool.and_eq_true, beq_iff_eq, List.all_eq_true, decide_eq_true_eq] at h
 refine ⟨h.1, fun i => ?_⟩
 rw [List.getD_eq_getElem?_getD]
 cases e : V[i]? with
 | none => decide
 | some x => exact h.2 x (List.mem_of_getElem? e)
theorem cK_size : (byL cK).size = 32 := byL_size _
theorem alc0 : alS (byL cK) n0 0 = byL [101, 120, 112, 97, 110, 100, 32, 51, 50, 45, 98, 121, 116, 101, 32, 107, 45, 173, 220, 235, 183, 206, 125, 69, 122, 170, 130, 7, 105, 165, 60, 190, 18, 162, 171, 19, 2, 94, 130, 161, 83, 84, 134, 111, 237, 7, 93, 70, 0, 0, 0, 0, 0, 0, 0, 0, 0, 0, 0, 0, 0, 0, 0, 0] := by decide +kernel
theorem alc1 : alS (byL cK) n0 1 = byL [101, 120, 112, 97, 110, 100, 32, 51, 50, 45, 98, 121, 116, 101, 32, 107, 45, 173, 220, 235, 183, 206, 125, 69, 122, 170, 130, 7, 105, 165, 60, 190, 18, 162, 171, 19, 2, 94, 130, 161, 83, 84, 134, 111, 237, 7, 93, 70, 1, 0, 0, 0, 0, 0, 0, 0, 0, 0, 0, 0, 0, 0, 0, 0] := by decide +kernel
theorem fw_0 : fw (byL cK) n0 0 = nl cW0 := by
 rw [fw_dx (byL cK) n0 0 cK_size n0_size (by decide) (by decide)]
 funext i
 by_cases hi : i < 16
 ·rw [dx_n4 _ (by rw [alc0, byL_size]; rfl) i hi, alc0]
  exact (by decide +kernel : ∀ i, i < 16 → n4 (bt (byL [101, 120, 112, 97, 110, 100, 32, 51, 50, 45, 98, 121, 116, 101, 32, 107, 45, 173, 220, 235, 183, 206, 125, 69, 122, 170, 130, 7, 105, 165, 60, 190, 18, 162, 171, 19, 2, 94, 130, 161, 83, 84, 134, 111, 237, 7, 93, 70, 0, 0, 0, 0, 0, 0, 0, 0, 0, 0, 0, 0, 0, 0, 0, 0]) (4 * i)) (bt (byL [101, 120, 112, 97, 110, 100, 32, 51, 50, 45, 98, 121, 116, 101, 32, 107, 45, 173, 220, 235, 183, 206, 125, 69, 122, 170, 130, 7, 105, 165, 60, 190, 18, 162, 171, 19, 2, 94, 130, 161, 83, 84, 134, 111, 237, 7, 93, 70, 0, 0, 0, 0, 0, 0, 0, 0, 0, 0, 0, 0, 0, 0, 0, 0]) (4 * i + 1)) (bt (byL [101, 120, 112, 97, 110, 100, 32, 51, 50, 45, 98, 121, 116, 101, 32, 107, 45, 173, 220, 235, 183, 206, 125, 69, 122, 170, 130, 7, 105, 165, 60, 190, 18, 162, 171, 19, 2, 94, 130, 161, 83, 84, 134, 111, 237, 7, 93, 70, 0, 0, 0, 0, 0, 0, 0, 0, 0, 0, 0, 0, 0, 0, 0, 0]) (4 * i + 2)) (bt (byL [101, 120, 112, 97, 110, 100, 32, 51, 50, 45, 98, 121, 116, 101, 32, 107, 45, 173, 220, 235, 183, 206, 125, 69, 122, 170, 130, 7, 105, 165, 60, 190, 18, 162, 171, 19, 2, 94, 130, 161, 83, 84, 134, 111, 237, 7, 93, 70, 0, 0, 0, 0, 0, 0, 0, 0, 0, 0, 0, 0, 0, 0, 0, 0]) (4 * i + 3)) = nl cW0 i) i hi
 ·rw [dx_out _ 16 i (by omega)]
  unfold nl
  rw [List.getD_eq_getElem?_getD, List.getElem?_eq_none (by show 16 ≤ i; omega)]
  rfl
theorem fw_1 : fw (byL cK) n0 1 = nl cW1 := by
 rw [fw_dx (byL cK) n0 1 cK_size n0_size (by decide) (by decide)]
 funext i
 by_cases hi : i < 16
 ·rw [dx_n4 _ (by rw [alc1, byL_size]; rfl) i hi, alc1]
  exact (by decide +kernel : ∀ i, i < 16 → n4 (bt (byL [101, 120, 112, 97, 110, 100, 32, 51, 50, 45, 98, 121, 116, 101, 32, 107, 45, 173, 220, 235, 183, 206, 125, 69, 122, 170, 130, 7, 105, 165, 60, 190, 18, 162, 171, 19, 2, 94, 130, 161, 83, 84, 134, 111, 237, 7, 93, 70, 1, 0, 0, 0, 0, 0, 0, 0, 0, 0, 0, 0, 0, 0, 0, 0]) (4 * i)) (bt (byL [101, 120, 112, 97, 110, 100, 32, 51, 50, 45, 98, 121, 116, 101, 32, 107, 45, 173, 220, 235, 183, 206, 125, 69, 122, 170, 130, 7, 105, 165, 60, 190, 18, 162, 171, 19, 2, 94, 130, 161, 83, 84, 134, 111, 237, 7, 93, 70, 1, 0, 0, 0, 0, 0, 0, 0, 0, 0, 0, 0, 0, 0, 0, 0]) (4 * i + 1)) (bt (byL [101, 120, 112, 97, 110, 100, 32, 51, 50, 45, 98, 121, 116, 101, 32, 107, 45, 173, 220, 235, 183, 206, 125, 69, 122, 170, 130, 7, 105, 165, 60, 190, 18, 162, 171, 19, 2, 94, 130, 161, 83, 84, 134, 111, 237, 7, 93, 70, 1, 0, 0, 0, 0, 0, 0, 0, 0, 0, 0, 0, 0, 0, 0, 0]) (4 * i + 2)) (bt (byL [101, 120, 112, 97, 110, 100, 32, 51, 50, 45, 98, 121, 116, 101, 32, 107, 45, 173, 220, 235, 183, 206, 125, 69, 122, 170, 130, 7, 105, 165, 60, 190, 18, 162, 171, 19, 2, 94, 130, 161, 83, 84, 134, 111, 237, 7, 93, 70, 1, 0, 0, 0, 0, 0, 0, 0, 0, 0, 0, 0, 0, 0, 0, 0]) (4 * i + 3)) = nl cW1 i) i hi
 ·rw [dx_out _ 16 i (by omega)]
  unfold nl
  rw [List.getD_eq_getElem?_getD, List.getElem?_eq_none (by show 16 ≤ i; omega)]
  rfl
theorem bl_lt (V : List Nat) (i : Nat) : (fBl V).getD i 0 < 256 := by
 unfold fBl
 rw [fcL_eq, List.getD_eq_getElem?_getD, List.getElem?_map]
 cases h : (List.range 64)[i]? with
 | none => exact (by decide : (0 : Nat) < 256)
 | some x => exact Nat.mod_lt _ (by decide)
theorem otk_c : otk (byL cK) n0 = byL [41, 150, 18, 155, 193, 10, 71, 61, 20, 138, 219, 12, 154, 204, 93, 182, 30, 161, 14, 91, 101, 162, 119, 174, 176, 239, 106, 83, 128, 91, 44, 206] := by
 unfold otk blk
 rw [fw_0, bl_map (wk_of cW0 (by decide)) 64 (by decide), bs_byL, byL_ext, show ((List.range 64).map fun i => (fBl cW0).getD i 0) = [41, 150, 18, 155, 193, 10, 71, 61, 20, 138, 219, 12, 154, 204, 93, 182, 30, 161, 14, 91, 101, 162, 119, 174, 176, 239, 106, 83, 128, 91, 44, 206, 161, 207, 180, 154, 149, 66, 202, 23, 115, 86, 236, 156, 99, 36, 175, 213, 11, 176, 249, 142, 247, 119, 83, 70, 75, 62, 255, 155, 45, 135, 22, 191] by decide +kernel]
 decide
theorem ct_c : tn (byL cK) n0 (byL [25, 60, 77, 103, 59, 0, 42, 221, 148, 203, 36, 3, 232, 147, 223, 114, 73, 166, 100, 172, 210, 123, 165, 125, 210, 35, 39, 239, 153, 207, 163, 36]) = byL [198, 128, 44, 247, 7, 101, 173, 251, 10, 202, 183, 85, 77, 20, 11, 241, 103, 9, 107, 98, 106, 47, 108, 122, 141, 99, 241, 155, 255, 145, 40, 165] := by
 unfold tn
 rw [oS_bs, byL_size]
 have e : (List.range 32).map (ob (fw (byL cK) n0 1) (byL [25, 60, 77, 103, 59, 0, 42, 221, 148, 203, 36, 3, 232, 147, 223, 114, 73, 166, 100, 172, 210, 123, 165, 125, 210, 35, 39, 239, 153, 207, 163, 36])) = [198, 128, 44, 247, 7, 101, 173, 251, 10, 202, 183, 85, 77, 20, 11, 241, 103, 9, 107, 98, 106, 47, 108, 122, 141, 99, 241, 155, 255, 145, 40, 165].map fun (x : Nat) => (x : Int) := by
  refine Eq.trans (List.map_congr_left (g := fun i => ((([25, 60, 77, 103, 59, 0, 42, 221, 148, 203, 36, 3, 232, 147, 223, 114, 73, 166, 100, 172, 210, 123, 165, 125, 210, 35, 39, 239, 153, 207, 163, 36].getD i 0 % 256) ^^^ (fBl cW1).getD i 0 : Nat) : Int)) fun i hi => ?_) ?_
  ·have hi := List.mem_range.1 hi
   unfold ob
   rw [show i / 64 = 0 by omega, show i % 64 = i by omega, bt_byL]
   rw [show sw (fw (byL cK) n0 1) 0 = nl cW1 from fw_1, fBl_eq (wk_of cW1 (by decide)) (by omega)]
   exact xb_n (Nat.mod_lt _ (by decide)) (bl_lt _ _)
  ·rw [show (List.range 32).map (fun i => ((([25, 60, 77, 103, 59, 0, 42, 221, 148, 203, 36, 3, 232, 147, 223, 114, 73, 166, 100, 172, 210, 123, 165, 125, 210, 35, 39, 239, 153, 207, 163, 36].getD i 0 % 256) ^^^ (fBl cW1).getD i 0 : Nat) : Int)) = ((List.range 32).map fun i => ([25, 60, 77, 103, 59, 0, 42, 221, 148, 203, 36, 3, 232, 147, 223, 114, 73, 166, 100, 172, 210, 123, 165, 125, 210, 35, 39, 239, 153, 207, 163, 36].getD i 0 % 256) ^^^ (fBl cW1).getD i 0).map fun (x : Nat) => (x : Int) by rw [List.map_map]; rfl]
   exact congrArg (List.map fun (x : Nat) => (x : Int)) (by decide +kernel)
 show bs ((List.range 32).map _) = _
 rw [e, bs_byL]
def hP : List Nat := [6, 239, 145, 85, 31, 50, 220, 196, 185, 97, 81, 166, 238, 4, 177, 41, 225, 21, 20, 59, 184, 0, 58, 239, 160, 19, 211, 76, 67, 118, 170, 192]
def hQ : List Nat := [47, 181, 222, 28, 131, 35, 5, 143, 60, 145, 11, 159, 87, 203, 190, 209, 147, 58, 63, 167, 115, 4, 236, 220, 68, 31, 55, 141, 205, 198, 79, 157]
theorem tags_c : tgO (byL cK) n0 (byL hQ) (byL [198, 128, 44, 247, 7, 101, 173, 251, 10, 202, 183, 85, 77, 20, 11, 241, 103, 9, 107, 98, 106, 47, 108, 122, 141, 99, 241, 155, 255, 145, 40, 165]) ≠ tgO (byL cK) n0 (byL hP) (byL [198, 128, 44, 247, 7, 101, 173, 251, 10, 202, 183, 85, 77, 20, 11, 241, 103, 9, 107, 98, 106, 47, 108, 122, 141, 99, 241, 155, 255, 145, 40, 165]) := by
 unfold tgO
 rw [otk_c]
 decide +kernel
open Go.RowKit
def keE : ByteArray := bs (List.replicate 31 0 ++ [101])
def keF : ByteArray := bs (List.replicate 31 0 ++ [102])
def pS : ByteArray := byL [112]
def qS : ByteArray := byL [113]
def abcS : ByteArray := byL [97, 98, 99]
def xyS : ByteArray := byL [120, 121]
theorem keE_size : keE.size = 32 := by decide +kernel
theorem keF_size : keF.size = 32 := by decide +kernel
theorem pN_a : Mon.shV (Mon.clS Mon.aS) 9 = 16572691432107831290236438983220704641597839740724002177525024145463529258009 := by decide +kernel
theorem pN_b : Mon.shV (Mon.clS Mon.bbS) 9 = 3873599628253772194686510826457445042224408612751331329672488392857300769615 := by decide +kernel
theorem pN_e : Mon.shV (Mon.clS keE) 9 = 34107742065115193518099035582793541296935167776723933399429897696738411264332 := by decide +kernel
theorem sN_1 : Mon.shV (Mon.clS keE) 3873599628253772194686510826457445042224408612751331329672488392857300769615 = 28191942077556465510392378457765919935009007859398376681088946255094371469576 := by decide +kernel
theorem sN_2 : Mon.shV (Mon.clS Mon.aS) 3873599628253772194686510826457445042224408612751331329672488392857300769615 = 45863505615179444264250632754092809270636439140959747961807530266934234225689 := by decide +kernel
theorem sN_3 : Mon.shV (Mon.clS keF) 34107742065115193518099035582793541296935167776723933399429897696738411264332 = 31278884780669883789621468763246920430992810269124065668733665284318415149686 := by decide +kernel
theorem sN_4 : Mon.shV (Mon.clS keF) 16572691432107831290236438983220704641597839740724002177525024145463529258009 = 41691078657918421984347907972951763659788406297479256988546525889969654557035 := by decide +kernel
theorem pu_a : puV Mon.aS = byL [25, 60, 77, 103, 59, 0, 42, 221, 148, 203, 36, 3, 232, 147, 223, 114, 73, 166, 100, 172, 210, 123, 165, 125, 210, 35, 39, 239, 153, 207, 163, 36] := by
 unfold puV
 rw [pN_a]
 decide +kernel
theorem pu_b : puV Mon.bbS = byL [79, 27, 96, 151, 118, 98, 90, 116, 181, 78, 149, 199, 95, 183, 95, 149, 127, 246, 209, 76, 9, 226, 24, 247, 86, 158, 8, 170, 51, 97, 144, 8] := by
 unfold puV
 rw [pN_b]
 decide +kernel
theorem pu_e : puV keE = byL [76, 185, 251, 227, 249, 75, 208, 125, 153, 88, 205, 209, 164, 41, 137, 33, 21, 255, 84, 111, 126, 59, 171, 197, 185, 217, 51, 138, 66, 76, 104, 75] := by
 unfold puV
 rw [pN_e]
 decide +kernel
theorem lS_1 : Mon.lebytes (shN keE (puV Mon.bbS)) = byL [8, 73, 234, 88, 45, 34, 114, 81, 41, 199, 116, 4, 222, 241, 35, 90, 51, 231, 78, 155, 198, 119, 81, 61, 21, 66, 249, 137, 225, 18, 84, 62] := by
 rw [sh_pu, pN_b, sN_1]
 decide +kernel
theorem lS_2 : Mon.lebytes (shN Mon.aS (puV Mon.bbS)) = byL [25, 156, 6, 225, 163, 41, 76, 124, 93, 239, 67, 202, 62, 33, 172, 74, 126, 61, 159, 248, 35, 165, 6, 54, 58, 170, 248, 50, 3, 211, 101, 101] := by
 rw [sh_pu, pN_b, sN_2]
 decide +kernel
theorem lS_3 : Mon.lebytes (shN keF (puV keE)) = byL [118, 218, 153, 197, 230, 28, 188, 154, 18, 189, 12, 213, 27, 226, 213, 116, 191, 31, 23, 87, 46, 82, 51, 222, 85, 127, 170, 38, 174, 56, 39, 69] := by
 rw [sh_pu, pN_e, sN_3]
 decide +kernel
theorem lS_4 : Mon.lebytes (shN keF (puV Mon.aS)) = byL [107, 105, 251, 172, 237, 35, 90, 192, 20, 38, 20, 133, 206, 250, 196, 65, 167, 117, 135, 255, 160, 171, 57, 30, 94, 156, 16, 222, 117, 80, 44, 92] := by
 rw [sh_pu, pN_a, sN_4]
 decide +kernel
def c0L : List Nat := [187, 234, 2, 43, 148, 140, 243, 188, 88, 87, 215, 8, 4, 34, 145, 121, 225, 17, 107, 196, 12, 184, 204, 7, 72, 53, 52, 156, 70, 75, 202, 54]
theorem Bh0 : Bh nameS = byL c0L := by
 rw [show nameS = byL [78, 111, 105, 115, 101, 95, 73, 75, 95, 50, 53, 53, 49, 57, 95, 67, 104, 97, 67, 104, 97, 80, 111, 108, 121, 95, 66, 76, 65, 75, 69, 50, 115] from rfl, Bh_byL _ (by decide), show fD [78, 111, 105, 115, 101, 95, 73, 75, 95, 50, 53, 53, 49, 57, 95, 67, 104, 97, 67, 104, 97, 80, 111, 108, 121, 95, 66, 76, 65, 75, 69, 50, 115] = c0L by decide +kernel]
theorem Bh1p : Bh (byL c0L ++ byL [112]) = byL [149, 66, 126, 232, 213, 196, 184, 50, 129, 67, 232, 213, 223, 222, 111, 168, 230, 1, 16, 61, 223, 191, 26, 120, 203, 210, 59, 59, 151, 57, 231, 4] := by
 rw [byL_app, Bh_byL _ (by decide), show fD (c0L ++ [112]) = [149, 66, 126, 232, 213, 196, 184, 50, 129, 67, 232, 213, 223, 222, 111, 168, 230, 1, 16, 61, 223, 191, 26, 120, 203, 210, 59, 59, 151, 57, 231, 4] by decide +kernel]
theorem Bh2p : Bh (byL [149, 66, 126, 232, 213, 196, 184, 50, 129, 67, 232, 213, 223, 222, 111, 168, 230, 1, 16, 61, 223, 191, 26, 120, 203, 210, 59, 59, 151, 57, 231, 4] ++ byL [79, 27, 96, 151, 118, 98, 90, 116, 181, 78, 149, 199, 95, 183, 95, 149, 127, 246, 209, 76, 9, 226, 24, 247, 86, 158, 8, 170, 51, 97, 144, 8]) = byL [74, 100, 185, 144, 255, 206, 147, 208, 245, 60, 171, 64, 170, 142, 40, 125, 20, 83, 219, 37, 251, 65, 159, 157, 221, 196, 220, 19, 83, 117, 90, 13] := by
 rw [byL_app, Bh_byL _ (by decide), show fD ([149, 66, 126, 232, 213, 196, 184, 50, 129, 67, 232, 213, 223, 222, 111, 168, 230, 1, 16, 61, 223, 191, 26, 120, 203, 210, 59, 59, 151, 57, 231, 4] ++ [79, 27, 96, 151, 118, 98, 90, 116, 181, 78, 149, 199, 95, 183, 95, 149, 127, 246, 209, 76, 9, 226, 24, 247, 86, 158, 8, 170, 51, 97, 144, 8]) = [74, 100, 185, 144, 255, 206, 147, 208, 245, 60, 171, 64, 170, 142, 40, 125, 20, 83, 219, 37, 251, 65, 159, 157, 221, 196, 220, 19, 83, 117, 90, 13] by decide +kernel]
theorem Bh3p : Bh (byL [74, 100, 185, 144, 255, 206, 147, 208, 245, 60, 171, 64, 170, 142, 40, 125, 20, 83, 219, 37, 251, 65, 159, 157, 221, 196, 220, 19, 83, 117, 90, 13] ++ byL [76, 185, 251, 227, 249, 75, 208, 125, 153, 88, 205, 209, 164, 41, 137, 33, 21, 255, 84, 111, 126, 59, 171, 197, 185, 217, 51, 138, 66, 76, 104, 75]) = byL hP := by
 rw [byL_app, Bh_byL _ (by decide), show fD ([74, 100, 185, 144, 255, 206, 147, 208, 245, 60, 171, 64, 170, 142, 40, 125, 20, 83, 219, 37, 251, 65, 159, 157, 221, 196, 220, 19, 83, 117, 90, 13] ++ [76, 185, 251, 227, 249, 75, 208, 125, 153, 88, 205, 209, 164, 41, 137, 33, 21, 255, 84, 111, 126, 59, 171, 197, 185, 217, 51, 138, 66, 76, 104, 75]) = hP by decide +kernel]
theorem Bh1q : Bh (byL c0L ++ byL [113]) = byL [135, 172, 214, 70, 40, 75, 63, 72, 153, 173, 140, 69, 71, 118, 120, 48, 69, 245, 159, 216, 142, 8, 76, 176, 58, 40, 11, 226, 52, 126, 253, 250] := by
 rw [byL_app, Bh_byL _ (by decide), show fD (c0L ++ [113]) = [135, 172, 214, 70, 40, 75, 63, 72, 153, 173, 140, 69, 71, 118, 120, 48, 69, 245, 159, 216, 142, 8, 76, 176, 58, 40, 11, 226, 52, 126, 253, 250] by decide +kernel]
theorem Bh2q : Bh (byL [135, 172, 214, 70, 40, 75, 63, 72, 153, 173, 140, 69, 71, 118, 120, 48, 69, 245, 159, 216, 142, 8, 76, 176, 58, 40, 11, 226, 52, 126, 253, 250] ++ byL [79, 27, 96, 151, 118, 98, 90, 116, 181, 78, 149, 199, 95, 183, 95, 149, 127, 246, 209, 76, 9, 226, 24, 247, 86, 158, 8, 170, 51, 97, 144, 8]) = byL [15, 144, 203, 178, 67, 157, 144, 41, 202, 178, 143, 179, 56, 111, 12, 154, 31, 143, 118, 211, 155, 224, 120, 255, 204, 209, 158, 74, 222, 55, 144, 62] := by
 rw [byL_app, Bh_byL _ (by decide), show fD ([135, 172, 214, 70, 40, 75, 63, 72, 153, 173, 140, 69, 71, 118, 120, 48, 69, 245, 159, 216, 142, 8, 76, 176, 58, 40, 11, 226, 52, 126, 253, 250] ++ [79, 27, 96, 151, 118, 98, 90, 116, 181, 78, 149, 199, 95, 183, 95, 149, 127, 246, 209, 76, 9, 226, 24, 247, 86, 158, 8, 170, 51, 97, 144, 8]) = [15, 144, 203, 178, 67, 157, 144, 41, 202, 178, 143, 179, 56, 111, 12, 154, 31, 143, 118, 211, 155, 224, 120, 255, 204, 209, 158, 74, 222, 55, 144, 62] by decide +kernel]
theorem Bh3q : Bh (byL [15, 144, 203, 178, 67, 157, 144, 41, 202, 178, 143, 179, 56, 111, 12, 154, 31, 143, 118, 211, 155, 224, 120, 255, 204, 209, 158, 74, 222, 55, 144, 62] ++ byL [76, 185, 251, 227, 249, 75, 208, 125, 153, 88, 205, 209, 164, 41, 137, 33, 21, 255, 84, 111, 126, 59, 171, 197, 185, 217, 51, 138, 66, 76, 104, 75]) = byL hQ := by
 rw [byL_app, Bh_byL _ (by decide), show fD ([15, 144, 203, 178, 67, 157, 144, 41, 202, 178, 143, 179, 56, 111, 12, 154, 31, 143, 118, 211, 155, 224, 120, 255, 204, 209, 158, 74, 222, 55, 144, 62] ++ [76, 185, 251, 227, 249, 75, 208, 125, 153, 88, 205, 209, 164, 41, 137, 33, 21, 255, 84, 111, 126, 59, 171, 197, 185, 217, 51, 138, 66, 76, 104, 75]) = hQ by decide +kernel]
theorem nB_1 : nxB (byL c0L) (byL [8, 73, 234, 88, 45, 34, 114, 81, 41, 199, 116, 4, 222, 241, 35, 90, 51, 231, 78, 155, 198, 119, 81, 61, 21, 66, 249, 137, 225, 18, 84, 62]) = byL cK := by
 rw [nxB_n _ _ (by decide) (by decide), show fB c0L [8, 73, 234, 88, 45, 34, 114, 81, 41, 199, 116, 4, 222, 241, 35, 90, 51, 231, 78, 155, 198, 119, 81, 61, 21, 66, 249, 137, 225, 18, 84, 62] = cK by decide +kernel]
theorem nA_1 : nxA (byL c0L) (byL [8, 73, 234, 88, 45, 34, 114, 81, 41, 199, 116, 4, 222, 241, 35, 90, 51, 231, 78, 155, 198, 119, 81, 61, 21, 66, 249, 137, 225, 18, 84, 62]) = byL [143, 229, 75, 56, 63, 207, 41, 25, 28, 112, 30, 91, 85, 98, 38, 204, 209, 123, 114, 101, 227, 85, 5, 95, 66, 83, 84, 126, 222, 27, 235, 163] := by
 rw [nxA_n _ _ (by decide) (by decide), show fA c0L [8, 73, 234, 88, 45, 34, 114, 81, 41, 199, 116, 4, 222, 241, 35, 90, 51, 231, 78, 155, 198, 119, 81, 61, 21, 66, 249, 137, 225, 18, 84, 62] = [143, 229, 75, 56, 63, 207, 41, 25, 28, 112, 30, 91, 85, 98, 38, 204, 209, 123, 114, 101, 227, 85, 5, 95, 66, 83, 84, 126, 222, 27, 235, 163] by decide +kernel]
theorem nA_2 : nxA (byL [143, 229, 75, 56, 63, 207, 41, 25, 28, 112, 30, 91, 85, 98, 38, 204, 209, 123, 114, 101, 227, 85, 5, 95, 66, 83, 84, 126, 222, 27, 235, 163]) (byL [25, 156, 6, 225, 163, 41, 76, 124, 93, 239, 67, 202, 62, 33, 172, 74, 126, 61, 159, 248, 35, 165, 6, 54, 58, 170, 248, 50, 3, 211, 101, 101]) = byL [96, 157, 8, 103, 203, 24, 214, 52, 86, 232, 125, 157, 98, 84, 75, 222, 218, 190, 144, 87, 222, 217, 149, 27, 50, 41, 60, 254, 253, 58, 84, 102] := by
 rw [nxA_n _ _ (by decide) (by decide), show fA [143, 229, 75, 56, 63, 207, 41, 25, 28, 112, 30, 91, 85, 98, 38, 204, 209, 123, 114, 101, 227, 85, 5, 95, 66, 83, 84, 126, 222, 27, 235, 163] [25, 156, 6, 225, 163, 41, 76, 124, 93, 239, 67, 202, 62, 33, 172, 74, 126, 61, 159, 248, 35, 165, 6, 54, 58, 170, 248, 50, 3, 211, 101, 101] = [96, 157, 8, 103, 203, 24, 214, 52, 86, 232, 125, 157, 98, 84, 75, 222, 218, 190, 144, 87, 222, 217, 149, 27, 50, 41, 60, 254, 253, 58, 84, 102] by decide +kernel]
theorem nA_3 : nxA (byL [96, 157, 8, 103, 203, 24, 214, 52, 86, 232, 125, 157, 98, 84, 75, 222, 218, 190, 144, 87, 222, 217, 149, 27, 50, 41, 60, 254, 253, 58, 84, 102]) (byL [118, 218, 153, 197, 230, 28, 188, 154, 18, 189, 12, 213, 27, 226, 213, 116, 191, 31, 23, 87, 46, 82, 51, 222, 85, 127, 170, 38, 174, 56, 39, 69]) = byL [39, 164, 111, 139, 204, 152, 194, 218, 174, 108, 97, 111, 90, 25, 14, 44, 41, 129, 73, 135, 246, 146, 90, 0, 211, 171, 174, 60, 213, 157, 77, 203] := by
 rw [nxA_n _ _ (by decide) (by decide), show fA [96, 157, 8, 103, 203, 24, 214, 52, 86, 232, 125, 157, 98, 84, 75, 222, 218, 190, 144, 87, 222, 217, 149, 27, 50, 41, 60, 254, 253, 58, 84, 102] [118, 218, 153, 197, 230, 28, 188, 154, 18, 189, 12, 213, 27, 226, 213, 116, 191, 31, 23, 87, 46, 82, 51, 222, 85, 127, 170, 38, 174, 56, 39, 69] = [39, 164, 111, 139, 204, 152, 194, 218, 174, 108, 97, 111, 90, 25, 14, 44, 41, 129, 73, 135, 246, 146, 90, 0, 211, 171, 174, 60, 213, 157, 77, 203] by decide +kernel]
theorem nA_4 : nxA (byL [39, 164, 111, 139, 204, 152, 194, 218, 174, 108, 97, 111, 90, 25, 14, 44, 41, 129, 73, 135, 246, 146, 90, 0, 211, 171, 174, 60, 213, 157, 77, 203]) (byL [107, 105, 251, 172, 237, 35, 90, 192, 20, 38, 20, 133, 206, 250, 196, 65, 167, 117, 135, 255, 160, 171, 57, 30, 94, 156, 16, 222, 117, 80, 44, 92]) = byL [214, 64, 249, 90, 109, 63, 175, 24, 230, 226, 181, 15, 133, 56, 221, 218, 28, 155, 124, 104, 215, 52, 90, 73, 15, 172, 116, 114, 2, 56, 216, 49] := by
 rw [nxA_n _ _ (by decide) (by decide), show fA [39, 164, 111, 139, 204, 152, 194, 218, 174, 108, 97, 111, 90, 25, 14, 44, 41, 129, 73, 135, 246, 146, 90, 0, 211, 171, 174, 60, 213, 157, 77, 203] [107, 105, 251, 172, 237, 35, 90, 192, 20, 38, 20, 133, 206, 250, 196, 65, 167, 117, 135, 255, 160, 171, 57, 30, 94, 156, 16, 222, 117, 80, 44, 92] = [214, 64, 249, 90, 109, 63, 175, 24, 230, 226, 181, 15, 133, 56, 221, 218, 28, 155, 124, 104, 215, 52, 90, 73, 15, 172, 116, 114, 2, 56, 216, 49] by decide +kernel]
theorem nA_5 : nxA (byL [214, 64, 249, 90, 109, 63, 175, 24, 230, 226, 181, 15, 133, 56, 221, 218, 28, 155, 124, 104, 215, 52, 90, 73, 15, 172, 116, 114, 2, 56, 216, 49]) ⟨#[]⟩ = byL [115, 36, 65, 180, 23, 80, 192, 76, 126, 14, 59, 226, 203, 66, 214, 244, 232, 80, 240, 184, 72, 200, 34, 198, 145, 215, 230, 81, 221, 202, 144, 101] := by
 rw [show (⟨#[]⟩ : Yb) = byL [] from rfl, nxA_n _ _ (by decide) (by decide), show fA [214, 64, 249, 90, 109, 63, 175, 24, 230, 226, 181, 15, 133, 56, 221, 218, 28, 155, 124, 104, 215, 52, 90, 73, 15, 172, 116, 114, 2, 56, 216, 49] [] = [115, 36, 65, 180, 23, 80, 192, 76, 126, 14, 59, 226, 203, 66, 214, 244, 232, 80, 240, 184, 72, 200, 34, 198, 145, 215, 230, 81, 221, 202, 144, 101] by decide +kernel]
theorem nB_5 : nxB (byL [214, 64, 249, 90, 109, 63, 175, 24, 230, 226, 181, 15, 133, 56, 221, 218, 28, 155, 124, 104, 215, 52, 90, 73, 15, 172, 116, 114, 2, 56, 216, 49]) ⟨#[]⟩ = byL [142, 128, 23, 199, 31, 174, 107, 85, 45, 177, 79, 154, 75, 69, 42, 68, 100, 200, 32, 228, 81, 210, 84, 199, 110, 122, 11, 152, 100, 215, 201, 254] := by
 rw [show (⟨#[]⟩ : Yb) = byL [] from rfl, nxB_n _ _ (by decide) (by decide), show fB [214, 64, 249, 90, 109, 63, 175, 24, 230, 226, 181, 15, 133, 56, 221, 218, 28, 155, 124, 104, 215, 52, 90, 73, 15, 172, 116, 114, 2, 56, 216, 49] [] = [142, 128, 23, 199, 31, 174, 107, 85, 45, 177, 79, 154, 75, 69, 42, 68, 100, 200, 32, 228, 81, 210, 84, 199, 110, 122, 11, 152, 100, 215, 201, 254] by decide +kernel]
def mK : ByteArray := tMs Mon.aS (puV Mon.bbS) keE pS abcS
def sK : St := endF (tS5 Mon.aS (puV Mon.bbS) keE pS abcS)
theorem hx_p : (tS2 (puV Mon.bbS) keE pS).h = byL hP := by
 show Bh (Bh (Bh (Bh nameS ++ pS) ++ puV Mon.bbS) ++ puV keE) = _
 rw [Bh0, show pS = byL [112] from rfl, Bh1p, pu_b, Bh2p, pu_e, Bh3p]
theorem kx_p : (tS2 (puV Mon.bbS) keE pS).k = byL cK := by
 show nxB (Bh nameS) (Mon.lebytes (shN keE (puV Mon.bbS))) = _
 rw [Bh0, lS_1, nB_1]
theorem hx_q : (uS2 Mon.bbS qS mK).h = byL hQ := by
 show Bh (Bh (Bh (Bh nameS ++ qS) ++ puV Mon.bbS) ++ rE mK) = _
 rw [Bh0, show qS = byL [113] from rfl, Bh1q, pu_b, Bh2q, show rE mK = puV keE from tMs_E _ _ _ _ _, pu_e, Bh3q]
theorem kx_q : (uS2 Mon.bbS qS mK).k = byL cK := by
 show nxB (Bh nameS) (Mon.lebytes (shN Mon.bbS (rE mK))) = _
 rw [show rE mK = puV keE from tMs_E _ _ _ _ _, sh_swap, Bh0, lS_1, nB_1]
theorem q_bad : ¬ tagOk (uS2 Mon.bbS qS mK) (rC1 mK) := by
 rw [show rC1 mK = tX1 Mon.aS (puV Mon.bbS) keE pS from tMs_1 _ _ _ _ _]
 unfold tagOk tX1 tgX
 rw [hx_q, kx_q, hx_p, kx_p, seal_cx, seal_tx, pu_a, ct_c]
 exact tags_c
theorem mK_size : mK.size = 99 := tMs_size _ _ _ _ _
theorem read_q : rdE Mon.bbS qS mK = 100 := by
 have h := mK_size
 have h1 : qS.size = 1 := rfl
 have h2 := Mon.bbS_size
 unfold rdE
 rw [if_pos (by omega), if_neg (by omega), if_neg (by omega), if_neg (by omega), rS5_e, if_neg (show ¬ shN Mon.bbS (rE mK) = 0 from rE_ne _ _ _ _ _), if_neg q_bad]
theorem keys_two : ¬ nxB (vS4 sK (puV Mon.aS) (puV keE) keF xyS).c ⟨#[]⟩ = nxA (vS4 sK (puV Mon.aS) (puV keE) keF xyS).c ⟨#[]⟩ := by
 have h : (vS4 sK (puV Mon.aS) (puV keE) keF xyS).c = byL [214, 64, 249, 90, 109, 63, 175, 24, 230, 226, 181, 15, 133, 56, 221, 218, 28, 155, 124, 104, 215, 52, 90, 73, 15, 172, 116, 114, 2, 56, 216, 49] := by
  show nxA (nxA (nxA (nxA (Bh nameS) (Mon.lebytes (shN keE (puV Mon.bbS)))) (Mon.lebytes (shN Mon.aS (puV Mon.bbS)))) (Mon.lebytes (shN keF (puV keE)))) (Mon.lebytes (shN keF (puV Mon.aS))) = _
  rw [Bh0, lS_1, lS_2, lS_3, lS_4, nA_1, nA_2, nA_3, nA_4]
 rw [h, nB_5, nA_5]
 decide
open Go.RowKit
theorem c_BeginG (a b e pr pl : Yb) (ha : a.size = 32) (he : e.size = 32) (hp : pr.size ≤ 4096) (hl : pl.size ≤ 4096) (w : World) (hL : Laid w) : Calls Tryz.prog 10 #[.string a, .string (puV b), .string e, .string pr, .string pl] w fun r w' => ∃ g, r = .returned (.tuple #[pJ g, .string (tMs a (puV b) e pr pl), .int .i64 0]) ∧ w.heap.size ≤ g ∧ w'.heap[g]? = some (.cells (av 7 (stL (endF (tS5 a (puV b) e pr pl)) [.string a, .string e, .string (puV b)])) 66) ∧ Below w.heap.size w w' := by
 refine (c_Begin a (puV b) e pr pl w hL).mono fun r w' h => ?_
 obtain ⟨hb, ⟨h1, _⟩ | ⟨_, g, h2, h3, h4⟩⟩ := h
 ·exact absurd (begin_0 a b e pr pl ha he hp hl) h1
 ·rw [begin_m] at h2
  rw [begin_s] at h4
  exact ⟨g, h2, h3, h4, hb⟩
theorem c_BeginO (a b e pr pl : Yb) (h : bgE a b e pr pl = 0) (w : World) (hL : Laid w) : Calls Tryz.prog 10 #[.string a, .string b, .string e, .string pr, .string pl] w fun r w' => ∃ g, r = .returned (.tuple #[pJ g, .string (bMs a b e pr pl), .int .i64 0]) ∧ w.heap.size ≤ g ∧ w'.heap[g]? = some (.cells (av 7 (stL (endF (bS5 a b e pr pl)) [.string a, .string e, .string b])) 66) ∧ Below w.heap.size w w' := by
 refine (c_Begin a b e pr pl w hL).mono fun r w' k => ?_
 obtain ⟨hb, ⟨h1, _⟩ | ⟨_, g, h2, h3, h4⟩⟩ := k
 ·exact absurd h h1
 ·exact ⟨g, h2, h3, h4, hb⟩
theorem c_BeginE (a b e pr pl : Yb) (h : ¬ bgE a b e pr pl = 0) (w : World) (hL : Laid w) : Cs 10 #[.string a, .string b, .string e, .string pr, .string pl] w (.tuple #[.pointer none, .string zb, .int .i64 (bgE a b e pr pl)]) := by
 refine (c_Begin a b e pr pl w hL).mono fun r w' k => ?_
 obtain ⟨hb, ⟨_, h1⟩ | ⟨h2, _⟩⟩ := k
 ·exact ⟨h1, hb⟩
 ·exact absurd h2 h
theorem c_ReadO (b pr m : Yb) (h : rdE b pr m = 0) (w : World) (hL : Laid w) : Calls Tryz.prog 13 #[.string b, .string pr, .string m] w fun r w' => ∃ g, r = .returned (.tuple #[pJ g, .agg (av 5 (sQ [rF b pr m, rP b pr m, zb, zb, zb])), .int .i64 0]) ∧ w.heap.size ≤ g ∧ w'.heap[g]? = some (.cells (av 6 (stL (endF (rS5 b pr m)) [.string (rF b pr m), .string (rE m)])) 77) ∧ Below w.heap.size w w' := by
 refine (c_Read b pr m w hL).mono fun r w' k => ?_
 obtain ⟨hb, ⟨h1, _⟩ | ⟨_, g, h2, h3, h4⟩⟩ := k
 ·exact absurd h h1
 ·exact ⟨g, h2, h3, h4, hb⟩
theorem c_ReadE (b pr m : Yb) (h : ¬ rdE b pr m = 0) (w : World) (hL : Laid w) : Cs 13 #[.string b, .string pr, .string m] w (.tuple #[.pointer none, .agg (av 5 (zq 5)), .int .i64 (rdE b pr m)]) := by
 refine (c_Read b pr m w hL).mono fun r w' k => ?_
 obtain ⟨hb, ⟨_, h1⟩ | ⟨h2, _⟩⟩ := k
 ·exact ⟨h1, hb⟩
 ·exact absurd h2 h
theorem c_ReadG (a b e pr pl : Yb) (hb : b.size = 32) (hp : pr.size ≤ 4096) (hl : pl.size ≤ 4096) (w : World) (hL : Laid w) : Calls Tryz.prog 13 #[.string b, .string pr, .string (tMs a (puV b) e pr pl)] w fun r w' => ∃ g, r = .returned (.tuple #[pJ g, .agg (av 5 (sQ [puV a, pl, zb, zb, zb])), .int .i64 0]) ∧ w.heap.size ≤ g ∧ w'.heap[g]? = some (.cells (av 6 (stL (endF (tS5 a (puV b) e pr pl)) [.string (puV a), .string (puV e)])) 77) ∧ Below w.heap.size w w' := by
 have h := c_ReadO b pr (tMs a (puV b) e pr pl) (read_0 a b e pr pl hb hp hl) w hL
 rwa [read_f, read_p, read_s, tMs_E] at h
theorem c_AnswerG (g : Nat) (s : St) (a e f pl : Yb) (hs : s.h.size = 32) (h0 : s.e = 0) (hf : f.size = 32) (hl : pl.size ≤ 4096) (w : World) (hL : Laid w) (hg : w.heap[g]? = some (.cells (av 6 (stL s [.string (puV a), .string (puV e)])) 77)) (hn : 2 < g) : Cs 15 #[pJ g, .string f, .string pl] w (.tuple #[.string (vRp s (puV a) (puV e) f pl), .agg (av 5 (sQ [puV a, zb, nxB (vS4 s (puV a) (puV e) f pl).c ⟨#[]⟩, nxA (vS4 s (puV a) (puV e) f pl).c ⟨#[]⟩, (vS4 s (puV a) (puV e) f pl).h])), .int .i64 0]) := by
 refine (c_Answer g s (puV a) (puV e) f pl hs (puV_size a) (puV_size e) w hL hg hn).mono fun r w' k => ?_
 obtain ⟨hb, ⟨h1, _⟩ | ⟨_, h2⟩⟩ := k
 ·exact absurd (answer_0 a e f pl h0 hf hl) h1
 ·rw [answer_r _ _ _ _ h0, answer_s _ _ _ _ h0] at h2
  exact ⟨h2, hb⟩
theorem c_FinishG (g : Nat) (s : St) (a e b f pl : Yb) (hs : s.h.size = 32) (h0 : s.e = 0) (ha : a.size = 32) (he : e.size = 32) (hl : pl.size ≤ 4096) (w : World) (hL : Laid w) (hg : w.heap[g]? = some (.cells (av 7 (stL s [.string a, .string e, .string b])) 66)) (hn : 2 < g) : Cs 17 #[pJ g, .string (vRp s (puV a) (puV e) f pl)] w (.tuple #[.agg (av 5 (sQ [b, pl, nxA (vS4 s (puV a) (puV e) f pl).c ⟨#[]⟩, nxB (vS4 s (puV a) (puV e) f pl).c ⟨#[]⟩, (vS4 s (puV a) (puV e) f pl).h])), .int .i64 0]) := by
 refine (c_Finish g s a e b (vRp s (puV a) (puV e) f pl) hs ha he w hL hg hn).mono fun r w' k => ?_
 obtain ⟨hb, ⟨h1, _⟩ | ⟨_, h2⟩⟩ := k
 ·exact absurd (finish_0 a e f pl h0 hl) h1
 ·rw [finish_s _ _ _ _ h0, finish_p _ _ _ _ h0] at h2
  exact ⟨h2, hb⟩
def keS (c : Int) : ByteArray := bs (List.replicate 31 0 ++ [c])
theorem bs_app (l m : List Int) : bs l ++ bs m = bs (l ++ m) := by
 unfold bs
 apply ByteArray.ext
 rw [ByteArray.data_append, List.map_append, List.append_toArray]
theorem ker (c : Int) (h0 : 0 ≤ c) (h1 : c < 256) : ∀ x ∈ [c], 0 ≤ x ∧ x < 256 := fun x hx => by
 rw [List.mem_singleton.1 hx]
 exact ⟨h0, h1⟩
theorem tS5_h (a b e pr pl : Yb) : (endF (tS5 a b e pr pl)).h.size = 32 := mixF_h (tS4 a b e pr) (tX2 a b e pr pl)
def rK : ByteArray := vRp sK (puV Mon.aS) (puV keE) keF xyS
def gA : ByteArray := nxA (vS4 sK (puV Mon.aS) (puV keE) keF xyS).c ⟨#[]⟩
def gB : ByteArray := nxB (vS4 sK (puV Mon.aS) (puV keE) keF xyS).c ⟨#[]⟩
def gH : ByteArray := (vS4 sK (puV Mon.aS) (puV keE) keF xyS).h
theorem rK_size : rK.size = 50 := vRp_size _ _ _ _
theorem gB_size : gB.size = 32 := nxB_size _ _
theorem gAB : ¬ gB = gA := keys_two
end Go.Proofs.YtffimigpbcilbaaGreatDoor
namespace Go.Proofs.YtffimigpbcilbaaGreatDoor.Mon
open Go.RowKit
theorem rladL (s p : Yb) (w : World) (hL : Laid w) (V : Int) (hs : s.size = 32) (hp : p.size = 32) (hV : shV (clS s) (val (mkS p) % Pm) = V) : Cs 20 #[.string s, .string p] w (.string (lebytes V)) := by
 have h := l_ladder s p (clS s) (val (mkS p) % Pm) hs hp rfl rfl w hL
 have e : lebytes V = bs (rb (d16 ((rladF (clS s) (val (mkS p) % Pm) 255).x2 * pwm (rladF (clS s) (val (mkS p) % Pm) 255).z2 (xbit 255 21) 255 % Pm)) 32) := by
  rw [← hV]
  exact leb_rb (shV_bd _ _)
 rwa [← e] at h
theorem rsh_zL (s p S : Yb) (w : World) (hL : Laid w) (hs : s.size = 32) (hp : p.size = 32) (H : ∀ w, Laid w → Cs 20 #[.string s, .string p] w (.string S)) (hc : (S.toList == z32S.toList) = true) : Cs 51 #[.string s, .string p] w (.tuple #[.string ⟨#[]⟩, .int .i64 30]) := by
 have n1 : ((s.size : Int) != 32) = false := by simp [hs]
 have n2 : ((p.size : Int) != 32) = false := by simp [hp]
 clear hs hp
 have H1 := hide H
 have Z1 := hide mk32
 have Z2 := hide cv32
 clear H
 generalize z32S = z at *
 go_enter Tryz.func51, Tryz.ntmps51
 go_wp2_with fail
 refine (H1.out _ hL).mono ?_
 rintro _ w1 ⟨rfl, O⟩
 have m1 := Z1.out w1
 have m2 := Z2.out w1
 have O' := hide (O.trans ((new_below w1 (.cells #[Value.int .u8 0, Value.int .u8 0, Value.int .u8 0, Value.int .u8 0, Value.int .u8 0, Value.int .u8 0, Value.int .u8 0, Value.int .u8 0, Value.int .u8 0, Value.int .u8 0, Value.int .u8 0, Value.int .u8 0, Value.int .u8 0, Value.int .u8 0, Value.int .u8 0, Value.int .u8 0, Value.int .u8 0, Value.int .u8 0, Value.int .u8 0, Value.int .u8 0, Value.int .u8 0, Value.int .u8 0, Value.int .u8 0, Value.int .u8 0, Value.int .u8 0, Value.int .u8 0, Value.int .u8 0, Value.int .u8 0, Value.int .u8 0, Value.int .u8 0, Value.int .u8 0, Value.int .u8 0] 5)).mono O.size))
 clear Z1 Z2 H1
 go_wp2_with fail
 exact bodyPost_ret (v := .tuple #[.string ⟨#[]⟩, .int .i64 30]) (by simp [results, Tryz.results51, go_sem]) rfl ⟨rfl, O'.out⟩
theorem rsh_nzL (s p S : Yb) (w : World) (hL : Laid w) (hs : s.size = 32) (hp : p.size = 32) (H : ∀ w, Laid w → Cs 20 #[.string s, .string p] w (.string S)) (hc : (S.toList == z32S.toList) = false) : Cs 51 #[.string s, .string p] w (.tuple #[.string S, .int .i64 0]) := by
 have n1 : ((s.size : Int) != 32) = false := by simp [hs]
 have n2 : ((p.size : Int) != 32) = false := by simp [hp]
 clear hs hp
 have H1 := hide H
 have Z1 := hide mk32
 have Z2 := hide cv32
 clear H
 generalize z32S = z at *
 go_enter Tryz.func51, Tryz.ntmps51
 go_wp2_with fail
 refine (H1.out _ hL).mono ?_
 rintro _ w1 ⟨rfl, O⟩
 have m1 := Z1.out w1
 have m2 := Z2.out w1
 have O' := hide (O.trans ((new_below w1 (.cells #[Value.int .u8 0, Value.int .u8 0, Value.int .u8 0, Value.int .u8 0, Value.int .u8 0, Value.int .u8 0, Value.int .u8 0, Value.int .u8 0, Value.int .u8 0, Value.int .u8 0, Value.int .u8 0, Value.int .u8 0, Value.int .u8 0, Value.int .u8 0, Value.int .u8 0, Value.int .u8 0, Value.int .u8 0, Value.int .u8 0, Value.int .u8 0, Value.int .u8 0, Value.int .u8 0, Value.int .u8 0, Value.int .u8 0, Value.int .u8 0, Value.int .u8 0, Value.int .u8 0, Value.int .u8 0, Value.int .u8 0, Value.int .u8 0, Value.int .u8 0, Value.int .u8 0, Value.int .u8 0] 5)).mono O.size))
 clear Z1 Z2 H1
 go_wp2_with fail
 exact bodyPost_ret (v := .tuple #[.string S, .int .i64 0]) (by simp [results, Tryz.results51, go_sem]) rfl ⟨rfl, O'.out⟩
theorem rshL (s p : Yb) (w : World) (hL : Laid w) (V : Int) (hs : s.size = 32) (hp : p.size = 32) (hV : shV (clS s) (val (mkS p) % Pm) = V) : Cs 51 #[.string s, .string p] w (.tuple #[.string (sS V), .int .i64 (sC V)]) := by
 have hb : 0 ≤ V ∧ V < Pm := hV ▸ shV_bd _ _
 have L := fun w hL => rladL s p w hL V hs hp hV
 by_cases h : V = 0
 ·have h1 := rsh_zL s p _ w hL hs hp L (by rw [h, leb_z]; simp)
  unfold sS sC
  rwa [if_pos h, if_pos h]
 ·have h1 := rsh_nzL s p _ w hL hs hp L (leb_nz hb h)
  unfold sS sC
  rwa [if_neg h, if_neg h]
theorem rpub_genL (s S : Yb) (w : World) (hL : Laid w) (hs : s.size = 32) (H : ∀ w, Laid w → Cs 20 #[.string s, .string nineS] w (.string S)) : Cs 9 #[.string s] w (.tuple #[.string S, .int .i64 0]) := by
 have n1 : ((s.size : Int) != 32) = false := by simp [hs]
 clear hs
 have H1 := hide H
 clear H
 have m1 := mk32 w
 have B := bc32 w
 have c0 := B.c 0 (by omega)
 have f0 := B.fz 0 (by omega)
 have gl := B.lt
 have hbk := conv_back (B.set (k := 0) (by omega) 9) 32 (fun i _ => by unfold upd; by_cases h : i = 0 <;> simp [h])
 rw [nine_bs] at hbk
 have O := hide ((new_below w (.cells #[Value.int .u8 0, Value.int .u8 0, Value.int .u8 0, Value.int .u8 0, Value.int .u8 0, Value.int .u8 0, Value.int .u8 0, Value.int .u8 0, Value.int .u8 0, Value.int .u8 0, Value.int .u8 0, Value.int .u8 0, Value.int .u8 0, Value.int .u8 0, Value.int .u8 0, Value.int .u8 0, Value.int .u8 0, Value.int .u8 0, Value.int .u8 0, Value.int .u8 0, Value.int .u8 0, Value.int .u8 0, Value.int .u8 0, Value.int .u8 0, Value.int .u8 0, Value.int .u8 0, Value.int .u8 0, Value.int .u8 0, Value.int .u8 0, Value.int .u8 0, Value.int .u8 0, Value.int .u8 0] 5)).setCell (p := ⟨w.heap.size, 0, none⟩) (Nat.le_refl _) (.int .u8 9))
 clear B
 generalize nineS = N at *
 generalize w.alloc (.cells #[Value.int .u8 0, Value.int .u8 0, Value.int .u8 0, Value.int .u8 0, Value.int .u8 0, Value.int .u8 0, Value.int .u8 0, Value.int .u8 0, Value.int .u8 0, Value.int .u8 0, Value.int .u8 0, Value.int .u8 0, Value.int .u8 0, Value.int .u8 0, Value.int .u8 0, Value.int .u8 0, Value.int .u8 0, Value.int .u8 0, Value.int .u8 0, Value.int .u8 0, Value.int .u8 0, Value.int .u8 0, Value.int .u8 0, Value.int .u8 0, Value.int .u8 0, Value.int .u8 0, Value.int .u8 0, Value.int .u8 0, Value.int .u8 0, Value.int .u8 0, Value.int .u8 0, Value.int .u8 0] 5) = W1 at *
 go_enter Tryz.func9, Tryz.ntmps9
 go_wp2_with fail
 refine (H1.out _ (below_laid O.out hL)).mono ?_
 rintro _ w3 ⟨rfl, hb⟩
 have O2 := O.out.trans (hb.mono O.out.size)
 clear hb H1
 go_wp2_with fail
 exact bodyPost_ret (v := .tuple #[.string S, .int .i64 0]) (by simp [results, Tryz.results9, go_sem]) rfl ⟨rfl, O2⟩
theorem rpubL (s : Yb) (w : World) (hL : Laid w) (hs : s.size = 32) : Cs 9 #[.string s] w (.tuple #[.string (lebytes (shV (clS s) 9)), .int .i64 0]) :=
 rpub_genL s _ w hL hs fun w hL => rladL s nineS w hL _ hs nineS_size (by rw [v9])
end Go.Proofs.YtffimigpbcilbaaGreatDoor.Mon
