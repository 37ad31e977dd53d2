/- A digest that is known, and the walks of alive and BlakeNil. -/
import Derived.Test.YtnglfpekdedgfaaDoorB4
namespace Go.Proofs.YtnglfpekdedgfaaDoor
open Go.RowKit

def PQ0 : List Nat := [0, 1, 2, 3, 0, 1, 2, 3]
def PQ1 : List Nat := [4, 5, 6, 7, 5, 6, 7, 4]
def PQ2 : List Nat := [8, 9, 10, 11, 10, 11, 8, 9]
def PQ3 : List Nat := [12, 13, 14, 15, 15, 12, 13, 14]
theorem upd_congr {f g : Nat → Int} {k : Nat} {a b : Int} {t : Nat} (h : f t = g t) (e : a = b) : upd f k a t = upd g k b t := by
  unfold upd
  rw [h, e]
theorem mxF_congr {v u : Nat → Int} (h : ∀ t, t < 16 → v t = u t) (x y : Int) {i j k l : Nat} (hi : i < 16) (hj : j < 16) (hk : k < 16) (hl : l < 16) : ∀ t, t < 16 → mxF v x y i j k l t = mxF u x y i j k l t := by
  intro t ht
  have e1 : mA2 v x y i j k l = mA2 u x y i j k l := by simp only [mA2, mA1, mB1, mC1, mD1, h i hi, h j hj, h k hk, h l hl]
  have e2 : mB2 v x y i j k l = mB2 u x y i j k l := by simp only [mB2, mC2, mD2, mA2, mA1, mB1, mC1, mD1, h i hi, h j hj, h k hk, h l hl]
  have e3 : mC2 v x y i j k l = mC2 u x y i j k l := by simp only [mC2, mD2, mA2, mA1, mB1, mC1, mD1, h i hi, h j hj, h k hk, h l hl]
  have e4 : mD2 v x y i j k l = mD2 u x y i j k l := by simp only [mD2, mA2, mA1, mB1, mC1, mD1, h i hi, h j hj, h k hk, h l hl]
  unfold mxF
  exact upd_congr (upd_congr (upd_congr (upd_congr (h t ht) e1) e2) e3) e4
theorem rn_congr {m m' : Nat → Int} (hm : ∀ t, t < 16 → m t = m' t) {v u : Nat → Int} (h : ∀ t, t < 16 → v t = u t) (j : Nat) : ∀ t, t < 16 → rn8 m v j t = rn8 m' u j t := by
  have h1 : ∀ t, t < 16 → rn1 m v j t = rn1 m' u j t := by
    unfold rn1
    rw [hm _ (OF_lt _), hm _ (OF_lt _)]
    exact mxF_congr h _ _ (by decide) (by decide) (by decide) (by decide)
  have h2 : ∀ t, t < 16 → rn2 m v j t = rn2 m' u j t := by
    unfold rn2
    rw [hm _ (OF_lt _), hm _ (OF_lt _)]
    exact mxF_congr h1 _ _ (by decide) (by decide) (by decide) (by decide)
  have h3 : ∀ t, t < 16 → rn3 m v j t = rn3 m' u j t := by
    unfold rn3
    rw [hm _ (OF_lt _), hm _ (OF_lt _)]
    exact mxF_congr h2 _ _ (by decide) (by decide) (by decide) (by decide)
  have h4 : ∀ t, t < 16 → rn4 m v j t = rn4 m' u j t := by
    unfold rn4
    rw [hm _ (OF_lt _), hm _ (OF_lt _)]
    exact mxF_congr h3 _ _ (by decide) (by decide) (by decide) (by decide)
  have h5 : ∀ t, t < 16 → rn5 m v j t = rn5 m' u j t := by
    unfold rn5
    rw [hm _ (OF_lt _), hm _ (OF_lt _)]
    exact mxF_congr h4 _ _ (by decide) (by decide) (by decide) (by decide)
  have h6 : ∀ t, t < 16 → rn6 m v j t = rn6 m' u j t := by
    unfold rn6
    rw [hm _ (OF_lt _), hm _ (OF_lt _)]
    exact mxF_congr h5 _ _ (by decide) (by decide) (by decide) (by decide)
  have h7 : ∀ t, t < 16 → rn7 m v j t = rn7 m' u j t := by
    unfold rn7
    rw [hm _ (OF_lt _), hm _ (OF_lt _)]
    exact mxF_congr h6 _ _ (by decide) (by decide) (by decide) (by decide)
  have h8 : ∀ t, t < 16 → rn8 m v j t = rn8 m' u j t := by
    unfold rn8
    rw [hm _ (OF_lt _), hm _ (OF_lt _)]
    exact mxF_congr h7 _ _ (by decide) (by decide) (by decide) (by decide)
  exact h8
theorem rd_congr {m m' : Nat → Int} (hm : ∀ t, t < 16 → m t = m' t) {v u : Nat → Int} (h : ∀ t, t < 16 → v t = u t) : ∀ j, ∀ t, t < 16 → rd m v j t = rd m' u j t
  | 0 => h
  | j + 1 => rn_congr hm (rd_congr hm h j) j
def chkM (M : List Int) (S : List (List Int)) : Bool := (List.range 80).all fun e => (List.range 16).all fun t => mxF (lf (S.getD e [])) (lf M (OF (2 * e))) (lf M (OF (2 * e + 1))) (PQ0.getD (e % 8) 0) (PQ1.getD (e % 8) 0) (PQ2.getD (e % 8) 0) (PQ3.getD (e % 8) 0) t == lf (S.getD (e + 1) []) t
theorem rd_cert (M : List Int) (S : List (List Int)) (h : chkM M S = true) : ∀ j, j ≤ 10 → ∀ t, t < 16 → rd (lf M) (lf (S.getD 0 [])) j t = lf (S.getD (8 * j) []) t
  | 0, _ => fun _ _ => rfl
  | j + 1, hj => by
    have ih := rd_cert M S h j (by omega)
    have hS : ∀ k, k < 8 → ∀ t, t < 16 → mxF (lf (S.getD (8 * j + k) [])) (lf M (OF (j * 16 + 2 * k))) (lf M (OF (j * 16 + 2 * k + 1))) (PQ0.getD k 0) (PQ1.getD k 0) (PQ2.getD k 0) (PQ3.getD k 0) t = lf (S.getD (8 * j + k + 1) []) t := fun k hk t ht => by
      have h1 := List.all_eq_true.1 h (8 * j + k) (List.mem_range.2 (by omega))
      have h2 := eq_of_beq (List.all_eq_true.1 h1 t (List.mem_range.2 ht))
      rw [show (8 * j + k) % 8 = k by omega, show 2 * (8 * j + k) = j * 16 + 2 * k by omega] at h2
      exact h2
    show ∀ t, t < 16 → rn8 (lf M) (rd (lf M) (lf (S.getD 0 [])) j) j t = lf (S.getD (8 * j + 8) []) t
    obtain ⟨v, hv⟩ : ∃ v, v = rd (lf M) (lf (S.getD 0 [])) j := ⟨_, rfl⟩
    rw [← hv] at ih ⊢
    have h1 : ∀ t, t < 16 → rn1 (lf M) v j t = lf (S.getD (8 * j + 1) []) t := fun t ht => by
      unfold rn1
      rw [mxF_congr ih _ _ (by decide) (by decide) (by decide) (by decide) t ht]
      exact hS 0 (by decide) t ht
    have h2 : ∀ t, t < 16 → rn2 (lf M) v j t = lf (S.getD (8 * j + 2) []) t := fun t ht => by
      unfold rn2
      rw [mxF_congr h1 _ _ (by decide) (by decide) (by decide) (by decide) t ht]
      exact hS 1 (by decide) t ht
    have h3 : ∀ t, t < 16 → rn3 (lf M) v j t = lf (S.getD (8 * j + 3) []) t := fun t ht => by
      unfold rn3
      rw [mxF_congr h2 _ _ (by decide) (by decide) (by decide) (by decide) t ht]
      exact hS 2 (by decide) t ht
    have h4 : ∀ t, t < 16 → rn4 (lf M) v j t = lf (S.getD (8 * j + 4) []) t := fun t ht => by
      unfold rn4
      rw [mxF_congr h3 _ _ (by decide) (by decide) (by decide) (by decide) t ht]
      exact hS 3 (by decide) t ht
    have h5 : ∀ t, t < 16 → rn5 (lf M) v j t = lf (S.getD (8 * j + 5) []) t := fun t ht => by
      unfold rn5
      rw [mxF_congr h4 _ _ (by decide) (by decide) (by decide) (by decide) t ht]
      exact hS 4 (by decide) t ht
    have h6 : ∀ t, t < 16 → rn6 (lf M) v j t = lf (S.getD (8 * j + 6) []) t := fun t ht => by
      unfold rn6
      rw [mxF_congr h5 _ _ (by decide) (by decide) (by decide) (by decide) t ht]
      exact hS 5 (by decide) t ht
    have h7 : ∀ t, t < 16 → rn7 (lf M) v j t = lf (S.getD (8 * j + 7) []) t := fun t ht => by
      unfold rn7
      rw [mxF_congr h6 _ _ (by decide) (by decide) (by decide) (by decide) t ht]
      exact hS 6 (by decide) t ht
    have h8 : ∀ t, t < 16 → rn8 (lf M) v j t = lf (S.getD (8 * j + 8) []) t := fun t ht => by
      unfold rn8
      rw [mxF_congr h7 _ _ (by decide) (by decide) (by decide) (by decide) t ht]
      exact hS 7 (by decide) t ht
    exact h8
theorem mix_cert (x rs : Nat → Int) (n : Nat) (ct : Int) (last : Bool) (M : List Int) (S : List (List Int)) (hM : ∀ i, i < 16 → wo rs n i = lf M i) (h0 : ∀ i, i < 16 → spr x ct last i = lf (S.getD 0 []) i) (h : chkM M S = true) : ∀ i, i < 8 → mixV x rs n ct last i = vx (x i) (vx (lf (S.getD 80 []) i) (lf (S.getD 80 []) (8 + i))) := by
  intro i hi
  unfold mixV
  have hr := rd_congr hM h0 10
  rw [hr i (by omega), hr (8 + i) (by omega), rd_cert M S h 10 (by omega) i (by omega), rd_cert M S h 10 (by omega) (8 + i) (by omega)]
theorem lt16 {p : Nat → Prop} (h : ∀ i, i < 8 → p i) (k : ∀ i, i < 8 → p (8 + i)) : ∀ i, i < 16 → p i := fun i hi => by
  by_cases h8 : i < 8
  · exact h i h8
  · have := k (i - 8) (by omega)
    rwa [show 8 + (i - 8) = i by omega] at this

def strA : ByteArray := ⟨#[97, 98, 99]⟩
def strAB : ByteArray := ⟨#[97, 98]⟩
def strK : ByteArray := ⟨#[107]⟩
def mA : List Int := [6513249, 0, 0, 0, 0, 0, 0, 0, 0, 0, 0, 0, 0, 0, 0, 0]
def SA : List (List Int) := [[1795745351, 3144134277, 1013904242, 2773480762, 1359893119, 2600822924, 528734635, 1541459225, 1779033703, 3144134277, 1013904242, 2773480762, 1359893116, 2600822924, 3766232660, 1541459225], [3602956767, 3144134277, 1013904242, 2773480762, 2139719315, 2600822924, 528734635, 1541459225, 3733286663, 3144134277, 1013904242, 2773480762, 2870975276, 2600822924, 3766232660, 1541459225], [3602956767, 2357663506, 1013904242, 2773480762, 2139719315, 2366096685, 528734635, 1541459225, 3733286663, 3052967623, 1013904242, 2773480762, 2870975276, 2062752474, 3766232660, 1541459225], [3602956767, 2357663506, 3332788436, 2773480762, 2139719315, 2366096685, 3117853242, 1541459225, 3733286663, 3052967623, 2179374827, 2773480762, 2870975276, 2062752474, 1512959979, 1541459225], [3602956767, 2357663506, 3332788436, 3530537468, 2139719315, 2366096685, 3117853242, 2288030468, 3733286663, 3052967623, 2179374827, 3782702573, 2870975276, 2062752474, 1512959979, 752690659], [379790382, 2357663506, 3332788436, 3530537468, 2139719315, 2477039950, 3117853242, 2288030468, 3733286663, 3052967623, 1619671659, 3782702573, 2870975276, 2062752474, 1512959979, 1001671787], [379790382, 3619021368, 3332788436, 3530537468, 2139719315, 2477039950, 2756607025, 2288030468, 3733286663, 3052967623, 1619671659, 3060152382, 2056115471, 2062752474, 1512959979, 1001671787], [379790382, 3619021368, 3465339467, 3530537468, 2139719315, 2477039950, 2756607025, 1104442779, 2512335827, 3052967623, 1619671659, 3060152382, 2056115471, 3191312087, 1512959979, 1001671787], [379790382, 3619021368, 3465339467, 2457529825, 2813604057, 2477039950, 2756607025, 1104442779, 2512335827, 2593767809, 1619671659, 3060152382, 2056115471, 3191312087, 893198054, 1001671787], [1168276547, 3619021368, 3465339467, 2457529825, 2991688968, 2477039950, 2756607025, 1104442779, 2945295205, 2593767809, 1619671659, 3060152382, 2579868344, 3191312087, 893198054, 1001671787], [1168276547, 3848128633, 3465339467, 2457529825, 2991688968, 4052591055, 2756607025, 1104442779, 2945295205, 3167986443, 1619671659, 3060152382, 2579868344, 350751773, 893198054, 1001671787], [1168276547, 3848128633, 1490793771, 2457529825, 2991688968, 4052591055, 3641735461, 1104442779, 2945295205, 3167986443, 1849476163, 3060152382, 2579868344, 350751773, 3440919026, 1001671787], [1168276547, 3848128633, 1490793771, 2927210017, 2991688968, 4052591055, 3641735461, 3201018809, 2945295205, 3167986443, 1849476163, 3221198458, 2579868344, 350751773, 3440919026, 3665915457], [987959267, 3848128633, 1490793771, 2927210017, 2991688968, 241619750, 3641735461, 3201018809, 2945295205, 3167986443, 819684054, 3221198458, 2579868344, 350751773, 3440919026, 1380626658], [987959267, 159557995, 1490793771, 2927210017, 2991688968, 241619750, 3758484748, 3201018809, 2945295205, 3167986443, 819684054, 1212646172, 2130757006, 350751773, 3440919026, 1380626658], [987959267, 159557995, 3900802484, 2927210017, 2991688968, 241619750, 3758484748, 3583091319, 403382074, 3167986443, 819684054, 1212646172, 2130757006, 4219762822, 3440919026, 1380626658], [987959267, 159557995, 3900802484, 1043569430, 4064491725, 241619750, 3758484748, 3583091319, 403382074, 4243863828, 819684054, 1212646172, 2130757006, 4219762822, 3309627446, 1380626658], [3355162964, 159557995, 3900802484, 1043569430, 3743056527, 241619750, 3758484748, 3583091319, 395589451, 4243863828, 819684054, 1212646172, 1917502955, 4219762822, 3309627446, 1380626658], [3355162964, 2193479073, 3900802484, 1043569430, 3743056527, 726647922, 3758484748, 3583091319, 395589451, 3448950714, 819684054, 1212646172, 1917502955, 3431377465, 3309627446, 1380626658], [3355162964, 2193479073, 2715430921, 1043569430, 3743056527, 726647922, 1050590275, 3583091319, 395589451, 3448950714, 2517408982, 1212646172, 1917502955, 3431377465, 3392875581, 1380626658], [3355162964, 2193479073, 2715430921, 2172993539, 3743056527, 726647922, 1050590275, 3021473625, 395589451, 3448950714, 2517408982, 1640214188, 1917502955, 3431377465, 3392875581, 2349656577], [2050746243, 2193479073, 2715430921, 2172993539, 3743056527, 283665634, 1050590275, 3021473625, 395589451, 3448950714, 4072806581, 1640214188, 1917502955, 3431377465, 3392875581, 3303931032], [2050746243, 2574599873, 2715430921, 2172993539, 3743056527, 283665634, 3568005328, 3021473625, 395589451, 3448950714, 4072806581, 2376129719, 3620567797, 3431377465, 3392875581, 3303931032], [2050746243, 2574599873, 3562161887, 2172993539, 3743056527, 283665634, 3568005328, 3325866411, 1614338718, 3448950714, 4072806581, 2376129719, 3620567797, 2873690591, 3392875581, 3303931032], [2050746243, 2574599873, 3562161887, 3988125729, 2140710722, 283665634, 3568005328, 3325866411, 1614338718, 1095079088, 4072806581, 2376129719, 3620567797, 2873690591, 2231573074, 3303931032], [4180102623, 2574599873, 3562161887, 3988125729, 30034238, 283665634, 3568005328, 3325866411, 443949082, 1095079088, 4072806581, 2376129719, 3322746723, 2873690591, 2231573074, 3303931032], [4180102623, 3167542850, 3562161887, 3988125729, 30034238, 2018975464, 3568005328, 3325866411, 443949082, 970999459, 4072806581, 2376129719, 3322746723, 1444851935, 2231573074, 3303931032], [4180102623, 3167542850, 255129842, 3988125729, 30034238, 2018975464, 2543233699, 3325866411, 443949082, 970999459, 2908885128, 2376129719, 3322746723, 1444851935, 211995093, 3303931032], [4180102623, 3167542850, 255129842, 3687118442, 30034238, 2018975464, 2543233699, 2466161489, 443949082, 970999459, 2908885128, 1485038679, 3322746723, 1444851935, 211995093, 1972277377], [713788599, 3167542850, 255129842, 3687118442, 30034238, 3767592953, 2543233699, 2466161489, 443949082, 970999459, 4051624704, 1485038679, 3322746723, 1444851935, 211995093, 1205259656], [713788599, 449479346, 255129842, 3687118442, 30034238, 3767592953, 807785078, 2466161489, 443949082, 970999459, 4051624704, 3566191317, 3699723280, 1444851935, 211995093, 1205259656], [713788599, 449479346, 335830399, 3687118442, 30034238, 3767592953, 807785078, 1473269220, 2571873520, 970999459, 4051624704, 3566191317, 3699723280, 1379440809, 211995093, 1205259656], [713788599, 449479346, 335830399, 3430045933, 943519356, 3767592953, 807785078, 1473269220, 2571873520, 4036503385, 4051624704, 3566191317, 3699723280, 1379440809, 3225030537, 1205259656], [927001293, 449479346, 335830399, 3430045933, 1350231447, 3767592953, 807785078, 1473269220, 3915894417, 4036503385, 4051624704, 3566191317, 2163762004, 1379440809, 3225030537, 1205259656], [927001293, 1873513294, 335830399, 3430045933, 1350231447, 4207464626, 807785078, 1473269220, 3915894417, 272136670, 4051624704, 3566191317, 2163762004, 765307170, 3225030537, 1205259656], [927001293, 1873513294, 2592886240, 3430045933, 1350231447, 4207464626, 1688840340, 1473269220, 3915894417, 272136670, 45504473, 3566191317, 2163762004, 765307170, 4038783177, 1205259656], [927001293, 1873513294, 2592886240, 3709413991, 1350231447, 4207464626, 1688840340, 1226216394, 3915894417, 272136670, 45504473, 866084530, 2163762004, 765307170, 4038783177, 4088807497], [3299487195, 1873513294, 2592886240, 3709413991, 1350231447, 2984319369, 1688840340, 1226216394, 3915894417, 272136670, 1647097476, 866084530, 2163762004, 765307170, 4038783177, 1681890540], [3299487195, 286475171, 2592886240, 3709413991, 1350231447, 2984319369, 1868321503, 1226216394, 3915894417, 272136670, 1647097476, 2459394166, 239183127, 765307170, 4038783177, 1681890540], [3299487195, 286475171, 3578425354, 3709413991, 1350231447, 2984319369, 1868321503, 3710669731, 1737383822, 272136670, 1647097476, 2459394166, 239183127, 899531454, 4038783177, 1681890540], [3299487195, 286475171, 3578425354, 1464467625, 2239584840, 2984319369, 1868321503, 3710669731, 1737383822, 2534986985, 1647097476, 2459394166, 239183127, 899531454, 2275966429, 1681890540], [3857228834, 286475171, 3578425354, 1464467625, 1451529526, 2984319369, 1868321503, 3710669731, 3649798356, 2534986985, 1647097476, 2459394166, 1154014432, 899531454, 2275966429, 1681890540], [3857228834, 548196825, 3578425354, 1464467625, 1451529526, 2876614397, 1868321503, 3710669731, 3649798356, 3882551928, 1647097476, 2459394166, 1154014432, 2965323302, 2275966429, 1681890540], [3857228834, 548196825, 78085836, 1464467625, 1451529526, 2876614397, 3240983520, 3710669731, 3649798356, 3882551928, 690006498, 2459394166, 1154014432, 2965323302, 1851535548, 1681890540], [3857228834, 548196825, 78085836, 1715385866, 1451529526, 2876614397, 3240983520, 928930908, 3649798356, 3882551928, 690006498, 2665893797, 1154014432, 2965323302, 1851535548, 1135517414], [877892124, 548196825, 78085836, 1715385866, 1451529526, 3734115011, 3240983520, 928930908, 3649798356, 3882551928, 3959170834, 2665893797, 1154014432, 2965323302, 1851535548, 3974212160], [877892124, 3612958433, 78085836, 1715385866, 1451529526, 3734115011, 900593097, 928930908, 3649798356, 3882551928, 3959170834, 595981746, 4081451259, 2965323302, 1851535548, 3974212160], [877892124, 3612958433, 1496217453, 1715385866, 1451529526, 3734115011, 900593097, 2568420709, 2522230409, 3882551928, 3959170834, 595981746, 4081451259, 3619430651, 1851535548, 3974212160], [877892124, 3612958433, 1496217453, 1054255476, 1301904563, 3734115011, 900593097, 2568420709, 2522230409, 1319962514, 3959170834, 595981746, 4081451259, 3619430651, 3947178619, 3974212160], [1517002764, 3612958433, 1496217453, 1054255476, 1999061792, 3734115011, 900593097, 2568420709, 1272905990, 1319962514, 3959170834, 595981746, 2807324626, 3619430651, 3947178619, 3974212160], [1517002764, 1754487691, 1496217453, 1054255476, 1999061792, 2342372287, 900593097, 2568420709, 1272905990, 2084976162, 3959170834, 595981746, 2807324626, 3694775353, 3947178619, 3974212160], [1517002764, 1754487691, 620551037, 1054255476, 1999061792, 2342372287, 1560484512, 2568420709, 1272905990, 2084976162, 397229673, 595981746, 2807324626, 3694775353, 3831738814, 3974212160], [1517002764, 1754487691, 620551037, 3047700341, 1999061792, 2342372287, 1560484512, 2900936162, 1272905990, 2084976162, 397229673, 2849530314, 2807324626, 3694775353, 3831738814, 2042179852], [3196394285, 1754487691, 620551037, 3047700341, 1999061792, 2277384109, 1560484512, 2900936162, 1272905990, 2084976162, 118981570, 2849530314, 2807324626, 3694775353, 3831738814, 4165576068], [3196394285, 2824823640, 620551037, 3047700341, 1999061792, 2277384109, 1092171535, 2900936162, 1272905990, 2084976162, 118981570, 1850960525, 2592187905, 3694775353, 3831738814, 4165576068], [3196394285, 2824823640, 2179398715, 3047700341, 1999061792, 2277384109, 1092171535, 505569706, 2704379859, 2084976162, 118981570, 1850960525, 2592187905, 3891036401, 3831738814, 4165576068], [3196394285, 2824823640, 2179398715, 196247552, 4199916346, 2277384109, 1092171535, 505569706, 2704379859, 4096956438, 118981570, 1850960525, 2592187905, 3891036401, 2898303304, 4165576068], [3391027848, 2824823640, 2179398715, 196247552, 1329093678, 2277384109, 1092171535, 505569706, 2372545286, 4096956438, 118981570, 1850960525, 3553786072, 3891036401, 2898303304, 4165576068], [3391027848, 717585563, 2179398715, 196247552, 1329093678, 1228009136, 1092171535, 505569706, 2372545286, 1649451442, 118981570, 1850960525, 3553786072, 1781084587, 2898303304, 4165576068], [3391027848, 717585563, 199177046, 196247552, 1329093678, 1228009136, 2753481121, 505569706, 2372545286, 1649451442, 1203491038, 1850960525, 3553786072, 1781084587, 2527190364, 4165576068], [3391027848, 717585563, 199177046, 31435695, 1329093678, 1228009136, 2753481121, 1115260367, 2372545286, 1649451442, 1203491038, 3838324132, 3553786072, 1781084587, 2527190364, 843444602], [132495450, 717585563, 199177046, 31435695, 1329093678, 2595641834, 2753481121, 1115260367, 2372545286, 1649451442, 2937952652, 3838324132, 3553786072, 1781084587, 2527190364, 1327474585], [132495450, 110936420, 199177046, 31435695, 1329093678, 2595641834, 1015331185, 1115260367, 2372545286, 1649451442, 2937952652, 1977926582, 1379432668, 1781084587, 2527190364, 1327474585], [132495450, 110936420, 4192088385, 31435695, 1329093678, 2595641834, 1015331185, 568056271, 1181327244, 1649451442, 2937952652, 1977926582, 1379432668, 812732437, 2527190364, 1327474585], [132495450, 110936420, 4192088385, 2775533184, 2655259346, 2595641834, 1015331185, 568056271, 1181327244, 1985107948, 2937952652, 1977926582, 1379432668, 812732437, 964685441, 1327474585], [992183573, 110936420, 4192088385, 2775533184, 3475260749, 2595641834, 1015331185, 568056271, 115042062, 1985107948, 2937952652, 1977926582, 75551601, 812732437, 964685441, 1327474585], [992183573, 2946026761, 4192088385, 2775533184, 3475260749, 2747772475, 1015331185, 568056271, 115042062, 3985812586, 2937952652, 1977926582, 75551601, 736412508, 964685441, 1327474585], [992183573, 2946026761, 1407969267, 2775533184, 3475260749, 2747772475, 2709012729, 568056271, 115042062, 3985812586, 2712174993, 1977926582, 75551601, 736412508, 3998734568, 1327474585], [992183573, 2946026761, 1407969267, 574238729, 3475260749, 2747772475, 2709012729, 2350071194, 115042062, 3985812586, 2712174993, 1393909791, 75551601, 736412508, 3998734568, 3087471544], [1129400516, 2946026761, 1407969267, 574238729, 3475260749, 3206358377, 2709012729, 2350071194, 115042062, 3985812586, 3941900715, 1393909791, 75551601, 736412508, 3998734568, 677624110], [1129400516, 2779393297, 1407969267, 574238729, 3475260749, 3206358377, 1338716448, 2350071194, 115042062, 3985812586, 3941900715, 2969669416, 2155403640, 736412508, 3998734568, 677624110], [1129400516, 2779393297, 1261781363, 574238729, 3475260749, 3206358377, 1338716448, 1887099464, 1448820702, 3985812586, 3941900715, 2969669416, 2155403640, 1756226741, 3998734568, 677624110], [1129400516, 2779393297, 1261781363, 3577986206, 3181533468, 3206358377, 1338716448, 1887099464, 1448820702, 852085014, 3941900715, 2969669416, 2155403640, 1756226741, 2541288867, 677624110], [2555041529, 2779393297, 1261781363, 3577986206, 1303185231, 3206358377, 1338716448, 1887099464, 1104450239, 852085014, 3941900715, 2969669416, 1927336534, 1756226741, 2541288867, 677624110], [2555041529, 1935456985, 1261781363, 3577986206, 1303185231, 3542586882, 1338716448, 1887099464, 1104450239, 2640210230, 3941900715, 2969669416, 1927336534, 3016070070, 2541288867, 677624110], [2555041529, 1935456985, 2335429004, 3577986206, 1303185231, 3542586882, 4080809945, 1887099464, 1104450239, 2640210230, 1848160768, 2969669416, 1927336534, 3016070070, 4093903837, 677624110], [2555041529, 1935456985, 2335429004, 3130499608, 1303185231, 3542586882, 4080809945, 3450145967, 1104450239, 2640210230, 1848160768, 2791267540, 1927336534, 3016070070, 4093903837, 3314900943], [3653866666, 1935456985, 2335429004, 3130499608, 1303185231, 486686451, 4080809945, 3450145967, 1104450239, 2640210230, 4014497313, 2791267540, 1927336534, 3016070070, 4093903837, 1307245882], [3653866666, 3488365222, 2335429004, 3130499608, 1303185231, 486686451, 496943741, 3450145967, 1104450239, 2640210230, 4014497313, 2788325754, 3740207150, 3016070070, 4093903837, 1307245882], [3653866666, 3488365222, 1879902898, 3130499608, 1303185231, 486686451, 496943741, 2488489893, 1050672829, 2640210230, 4014497313, 2788325754, 3740207150, 2940043489, 4093903837, 1307245882], [3653866666, 3488365222, 1879902898, 741893902, 2942967654, 486686451, 496943741, 2488489893, 1050672829, 2527062033, 4014497313, 2788325754, 3740207150, 2940043489, 1317438107, 1307245882]]
theorem tkA : tk (nw 32 strE) strA strA.size = ⟨(hs0 32 0).ws, [97, 98, 99], 0⟩ := by
  have e : nw 32 strE = hs0 32 0 := by
    unfold nw
    rw [if_pos (show strE.size = 0 from rfl)]
    rfl
  have h := tk_run (hs0 32 0) strA 0 3 (by decide) (by decide)
  rw [Nat.zero_add] at h
  rw [e]
  show tk (hs0 32 0) strA 3 = _
  rw [h]
  rfl
theorem wsA : ∀ i, i < 8 → sumW (tk (nw 32 strE) strA strA.size) i = lf [2355006544, 3792993330, 2737547233, 793111374, 545998135, 691721886, 1285265741, 2186897286] i := by
  intro i hi
  rw [tkA]
  unfold sumW
  rw [mix_cert _ _ _ _ _ mA SA (lt16 (lt8 (by decide +kernel)) (lt8 (by decide +kernel))) (lt16 (lt8 (by decide +kernel)) (lt8 (by decide +kernel))) (by decide +kernel) i hi]
  revert i
  exact lt8 (by decide +kernel)
theorem bs_ext (l : List Int) (n : Nat) : (bs l).extract 0 n = bs (l.take n) := by
  apply ByteArray.ext
  rw [ByteArray.data_extract]
  unfold bs
  apply Array.ext_getElem?
  intro i
  simp only [Array.getElem?_extract, List.getElem?_toArray, List.getElem?_map, List.getElem?_take]
  by_cases h : i < n
  · simp [h]
    intro h2
    rw [List.getElem?_eq_none (by omega)]
    rfl
  · simp [h]
    omega
theorem loI_congr {f g : Nat → Int} : ∀ n, (∀ i, i < n → f i = g i) → loI f n = loI g n
  | 0, _ => rfl
  | n + 1, h => by
    unfold loI
    rw [loI_congr n fun i hi => h i (by omega), h n (by omega)]
theorem sumV_eq (z : Nat) (H : HS) : sumV z H = bs ((loI (sumW H) 8).take z) := bs_ext _ _
theorem sumV_size (z : Nat) (H : HS) (hz : z ≤ 32) : (sumV z H).size = z := by
  rw [sumV_eq, bs_size, List.length_take, loI_length]
  omega
theorem ofA4 : (blV 32 strE strA).extract 0 4 = ⟨#[80, 140, 94, 140]⟩ := by
  unfold blV
  rw [sumV_eq, bs_ext, loI_congr 8 wsA]
  decide +kernel

set_option maxRecDepth 100000 in
set_option maxHeartbeats 4000000 in
theorem c_alive  (w : World) (hL : Laid w)  :
    Calls Tryd.prog 7 #[] w fun r w' => r = .returned (.bool true) ∧ Below w.heap.size w w' := by
  go_enter Tryd.func7, Tryd.ntmps7
  have M := Mem.start hL
  refine wp_seq ?_
  refine rg_lit ?_
  refine pl_val (want_no rfl) (some 0) rfl (.bool false) (fun _ => by kernel_rfl) ?_
  refine pl_nil ?_
  refine au_then ?_
  refine wp_seq ?_
  refine rg_lit ?_
  refine pl_call M (want_no rfl) (some 6) rfl 12 #[.string ⟨#[97, 98, 99]⟩] (.string (blV 32 strE strA)) (fun _ => by kernel_rfl) (fun w M => c_of strA w M.laid) ?_
  intro u1 M
  refine pl_val (want_no rfl) (some 1) rfl (.string (blV 32 strE strA)) (fun _ => by kernel_rfl) ?_
  refine pl_nil ?_
  refine au_then ?_
  refine wp_seq ?_
  refine rg_lit ?_
  refine pl_calln2 M (want_no rfl) (some 8) rfl 9 #[.int .i64 16, .string ⟨#[107]⟩] (fun g1 => .tuple #[.pointer (some ⟨g1, 0, none⟩), .int .i64 0]) (fun g2 => .cells (av 11 (hF ((16 : Nat) : Int) (nw 16 strK).ws g2 (nw 16 strK).wl.length (nw 16 strK).ct)) 49) (fun Y => SB Y 64 (vs8 (nw 16 strK).wl)) (fun _ => by kernel_rfl) (fun w M => c_new 16 strK (by decide) (by decide) (by decide) w M.laid) ?_
  intro g1 g2 Y1 u2 hY1 M
  replace M : Mem ⟨w, []⟩ [⟨g1, .cells (av 11 (hF ((16 : Nat) : Int) (nw 16 strK).ws g2 (nw 16 strK).wl.length (nw 16 strK).ct)) 49⟩, ⟨g2, Y1⟩] u2 := M
  refine pl_val (want_no rfl) (some 7) rfl (.tuple #[.pointer (some ⟨g1, 0, none⟩), .int .i64 0]) (fun _ => by kernel_rfl) ?_
  refine pl_val (want_no rfl) (some 9) rfl (.pointer (some ⟨g1, 0, none⟩)) (fun _ => by kernel_rfl) ?_
  refine pl_val (want_no rfl) (some 10) rfl (.int .i64 0) (fun _ => by kernel_rfl) ?_
  refine pl_val (want_no rfl) (some 2) rfl (.pointer (some ⟨g1, 0, none⟩)) (fun _ => by kernel_rfl) ?_
  refine pl_val (want_no rfl) (some 3) rfl (.int .i64 0) (fun _ => by kernel_rfl) ?_
  refine pl_nil ?_
  refine au_then ?_
  refine wp_seq ?_
  refine rg_lit ?_
  refine pl_call M (want_no rfl) (some 12) rfl 8 #[.int .i64 33, .string ⟨#[]⟩, .string ⟨#[]⟩] (.tuple #[.string ⟨#[]⟩, .int .i64 2]) (fun _ => by kernel_rfl) (fun w M => c_blsume 33 strE strE (by unfold may; omega) w M.laid) ?_
  intro u3 M
  refine pl_val (want_no rfl) (some 11) rfl (.tuple #[.string ⟨#[]⟩, .int .i64 2]) (fun _ => by kernel_rfl) ?_
  refine pl_val (want_no rfl) (some 13) rfl (.string ⟨#[]⟩) (fun _ => by kernel_rfl) ?_
  refine pl_val (want_no rfl) (some 14) rfl (.int .i64 2) (fun _ => by kernel_rfl) ?_
  refine pl_val (want_no rfl) (some 4) rfl (.string ⟨#[]⟩) (fun _ => by kernel_rfl) ?_
  refine pl_val (want_no rfl) (some 5) rfl (.int .i64 2) (fun _ => by kernel_rfl) ?_
  refine pl_nil ?_
  refine au_then ?_
  refine wp_seq ?_
  refine rg_lit ?_
  refine pl_val (want_no rfl) (some 15) rfl (.string (blV 32 strE strA)) (fun _ => by kernel_rfl) ?_
  refine pl_val (want_no rfl) (some 16) rfl (.int .i64 ((blV 32 strE strA).size : Int)) (fun _ => by kernel_rfl) ?_
  refine pl_val (want_no rfl) (some 17) rfl (.bool true) (fun w => Eq.trans (b := .ok (.value (.bool (decide (((blV 32 strE strA).size : Int) = 32)))) w) (by kernel_rfl) (by rw [blV, sumV_size _ _ (by decide)]; rfl)) ?_
  refine pl_val (want_no rfl) (some 18) rfl (.bool true) (fun _ => by kernel_rfl) ?_
  refine pl_val (want_on 3 true rfl 18 rfl (by kernel_rfl)) (some 19) rfl (.string (blV 32 strE strA)) (fun _ => by kernel_rfl) ?_
  refine pl_val (want_on 3 true rfl 18 rfl (by kernel_rfl)) (some 20) rfl (.string (⟨#[80, 140, 94, 140]⟩ : ByteArray)) (run_strh 9 Tryd.underlying9 _ _ rfl (blV 32 strE strA) (by kernel_rfl) .i64 4 (by kernel_rfl) (by rw [blV, sumV_size _ _ (by decide)]; decide) _ ofA4) ?_
  refine pl_val (want_on 3 true rfl 18 rfl (by kernel_rfl)) (some 21) rfl (.bool true) (fun w => Eq.trans (b := .ok (.value (.bool ((⟨#[80, 140, 94, 140]⟩ : ByteArray).toList == (⟨#[80, 140, 94, 140]⟩ : ByteArray).toList))) w) (by kernel_rfl) (by rw [beq_self_eq_true])) ?_
  refine pl_val (want_no rfl) (some 22) rfl (.bool true) (fun _ => by kernel_rfl) ?_
  refine pl_val (want_no rfl) (some 23) rfl (.bool true) (fun _ => by kernel_rfl) ?_
  refine pl_val (want_on 8 true rfl 23 rfl (by kernel_rfl)) (some 24) rfl (.int .i64 0) (fun _ => by kernel_rfl) ?_
  refine pl_val (want_on 8 true rfl 23 rfl (by kernel_rfl)) (some 25) rfl (.bool true) (fun _ => by kernel_rfl) ?_
  refine pl_val (want_no rfl) (some 26) rfl (.bool true) (fun _ => by kernel_rfl) ?_
  refine pl_val (want_no rfl) (some 27) rfl (.bool true) (fun _ => by kernel_rfl) ?_
  refine pl_val (want_on 12 true rfl 27 rfl (by kernel_rfl)) (some 28) rfl (.pointer (some ⟨g1, 0, none⟩)) (fun _ => by kernel_rfl) ?_
  refine pl_callp2 M (want_on 12 true rfl 27 rfl (by kernel_rfl)) (some 29) rfl 14 #[.pointer (some ⟨g1, 0, none⟩), .string ⟨#[97, 98]⟩] (.int .i64 0) 0 1 g1 g2 (.cells (av 11 (hF ((16 : Nat) : Int) (nw 16 strK).ws g2 (nw 16 strK).wl.length (nw 16 strK).ct)) 49) Y1 (.cells (av 11 (hF ((16 : Nat) : Int) (tk (nw 16 strK) strAB strAB.size).ws g2 (tk (nw 16 strK) strAB strAB.size).wl.length (tk (nw 16 strK) strAB strAB.size).ct)) 49) (fun Y => SB Y 64 (vs8 (tk (nw 16 strK) strAB strAB.size).wl)) rfl rfl (fun _ => by kernel_rfl) (fun w M => c_add (nw 16 strK) (nw_ok _ _) 16 (by decide) g1 g2 Y1 strAB w M.laid (M.get 0 rfl) (M.ne0 0 rfl) (M.get 1 rfl) (M.ne0 1 rfl) (nodup_at M.nodup (i := 0) (j := 1) rfl rfl (by decide)) hY1) ?_
  intro Y2 u4 hY2 M
  replace M : Mem ⟨w, []⟩ [⟨g1, .cells (av 11 (hF ((16 : Nat) : Int) (tk (nw 16 strK) strAB strAB.size).ws g2 (tk (nw 16 strK) strAB strAB.size).wl.length (tk (nw 16 strK) strAB strAB.size).ct)) 49⟩, ⟨g2, Y2⟩] u4 := M
  refine pl_val (want_on 12 true rfl 27 rfl (by kernel_rfl)) (some 30) rfl (.bool true) (fun _ => by kernel_rfl) ?_
  refine pl_val (want_no rfl) (some 31) rfl (.bool true) (fun _ => by kernel_rfl) ?_
  refine pl_val (want_no rfl) (some 32) rfl (.bool true) (fun _ => by kernel_rfl) ?_
  refine pl_val (want_on 17 true rfl 32 rfl (by kernel_rfl)) (some 33) rfl (.pointer (some ⟨g1, 0, none⟩)) (fun _ => by kernel_rfl) ?_
  refine pl_call M (want_on 17 true rfl 32 rfl (by kernel_rfl)) (some 34) rfl 15 #[.pointer (some ⟨g1, 0, none⟩)] (.string (sumV 16 (tk (nw 16 strK) strAB strAB.size))) (fun _ => by kernel_rfl) (fun w M => c_sum (tk (nw 16 strK) strAB strAB.size) (tk_ok (nw_ok _ _) _ _) 16 (by decide) (by decide) g1 g2 Y2 w M.laid (M.get 0 rfl) (M.ne0 0 rfl) (M.get 1 rfl) (M.ne0 1 rfl) (nodup_at M.nodup (i := 0) (j := 1) rfl rfl (by decide)) hY2) ?_
  intro u5 M
  refine pl_val (want_on 17 true rfl 32 rfl (by kernel_rfl)) (some 35) rfl (.int .i64 ((sumV 16 (tk (nw 16 strK) strAB strAB.size)).size : Int)) (fun _ => by kernel_rfl) ?_
  refine pl_val (want_on 17 true rfl 32 rfl (by kernel_rfl)) (some 36) rfl (.bool true) (fun w => Eq.trans (b := .ok (.value (.bool (decide (((sumV 16 (tk (nw 16 strK) strAB strAB.size)).size : Int) = 16)))) w) (by kernel_rfl) (by rw [sumV_size _ _ (by decide)]; rfl)) ?_
  refine pl_val (want_no rfl) (some 37) rfl (.bool true) (fun _ => by kernel_rfl) ?_
  refine pl_val (want_no rfl) (some 38) rfl (.bool true) (fun _ => by kernel_rfl) ?_
  refine pl_val (want_on 23 true rfl 38 rfl (by kernel_rfl)) (some 39) rfl (.int .i64 2) (fun _ => by kernel_rfl) ?_
  refine pl_val (want_on 23 true rfl 38 rfl (by kernel_rfl)) (some 40) rfl (.bool true) (fun _ => by kernel_rfl) ?_
  refine pl_val (want_no rfl) (some 41) rfl (.bool true) (fun _ => by kernel_rfl) ?_
  refine pl_val (want_no rfl) (some 0) rfl (.bool true) (fun _ => by kernel_rfl) ?_
  refine pl_nil ?_
  refine au_then ?_
  refine wp_ret ?_
  exact bodyPost_ret (v := .bool true) (results_tmp1 Tryd.results7 _ _ _ (by kernel_rfl)) (by kernel_rfl) ⟨rfl, below_grown M.old⟩

set_option maxRecDepth 100000 in
set_option maxHeartbeats 4000000 in
theorem c_blakenil (s : ByteArray) (w : World) (hL : Laid w)  :
    Calls Tryd.prog 6 #[.string s] w fun r w' => r = .returned (.bool true) ∧ Below w.heap.size w w' := by
  go_enter Tryd.func6, Tryd.ntmps6
  have M := Mem.start hL
  refine wp_seq ?_
  refine rg_lit ?_
  refine pl_val (want_no rfl) (some 2) rfl (.bool false) (fun _ => by kernel_rfl) ?_
  refine pl_nil ?_
  refine au_then ?_
  refine wp_seq ?_
  refine rg_lit ?_
  refine pl_val (want_no rfl) (some 3) rfl (.pointer none) (fun _ => by kernel_rfl) ?_
  refine pl_nil ?_
  refine au_then ?_
  refine wp_seq ?_
  refine rg_lit ?_
  refine pl_val (want_no rfl) (some 4) rfl (.pointer none) (fun _ => by kernel_rfl) ?_
  refine pl_val (want_no rfl) (some 5) rfl (.string s) (fun _ => by kernel_rfl) ?_
  refine pl_call M (want_no rfl) (some 6) rfl 14 #[.pointer none, .string s] (.int .i64 1) (fun _ => by kernel_rfl) (fun w M => c_addnil s w M.laid) ?_
  intro u1 M
  refine pl_val (want_no rfl) (some 7) rfl (.bool true) (fun _ => by kernel_rfl) ?_
  refine pl_val (want_no rfl) (some 8) rfl (.bool true) (fun _ => by kernel_rfl) ?_
  refine pl_val (want_on 4 true rfl 8 rfl (by kernel_rfl)) (some 9) rfl (.pointer none) (fun _ => by kernel_rfl) ?_
  refine pl_call M (want_on 4 true rfl 8 rfl (by kernel_rfl)) (some 10) rfl 15 #[.pointer none] (.string ⟨#[]⟩) (fun _ => by kernel_rfl) (fun w M => c_sumnil w M.laid) ?_
  intro u2 M
  refine pl_val (want_on 4 true rfl 8 rfl (by kernel_rfl)) (some 11) rfl (.bool true) (fun w => Eq.trans (b := .ok (.value (.bool ((⟨#[]⟩ : ByteArray).toList == (⟨#[]⟩ : ByteArray).toList))) w) (by kernel_rfl) (by rw [beq_self_eq_true])) ?_
  refine pl_val (want_no rfl) (some 12) rfl (.bool true) (fun _ => by kernel_rfl) ?_
  refine pl_val (want_no rfl) (some 13) rfl (.bool true) (fun _ => by kernel_rfl) ?_
  refine pl_call M (want_on 9 true rfl 13 rfl (by kernel_rfl)) (some 14) rfl 7 #[] (.bool true) (fun _ => by kernel_rfl) (fun w M => c_alive w M.laid) ?_
  intro u3 M
  refine pl_val (want_no rfl) (some 15) rfl (.bool true) (fun _ => by kernel_rfl) ?_
  refine pl_val (want_no rfl) (some 2) rfl (.bool true) (fun _ => by kernel_rfl) ?_
  refine pl_nil ?_
  refine au_then ?_
  refine wp_ret ?_
  exact bodyPost_ret (v := .bool true) (results_tmp1 Tryd.results6 _ _ _ (by kernel_rfl)) (by kernel_rfl) ⟨rfl, below_grown M.old⟩


end Go.Proofs.YtnglfpekdedgfaaDoor
