/- The contract of Canonical: which bytes are a number's below the prime. -/
import Derived.Test.YtamokcoobfmogaaIs
namespace Go.Proofs.Ytamokcoobfmogaa
open Go.RowKit

theorem by16_bd (f : Nat → Int) (i : Nat) : 0 ≤ by16 f i ∧ by16 f i < 256 := by unfold by16; omega

theorem by16_pt (s : ByteArray) (i : Nat) (hi : i < 32) : by16 (pt s 32) i = bt s i := by
  have hc : (∃ j, i = 2 * j) ∨ ∃ j, i = 2 * j + 1 := by
    have : i % 2 = 0 ∨ i % 2 = 1 := by omega
    rcases this with h | h
    · exact .inl ⟨i / 2, by omega⟩
    · exact .inr ⟨i / 2, by omega⟩
  rcases hc with ⟨j, rfl⟩ | ⟨j, rfl⟩
  · have h0 := bt_bd s (2 * j)
    have h1 := bt_bd s (2 * j + 1)
    unfold by16 pt
    rw [show 2 * j / 2 = j by omega, show 2 * j % 2 = 0 by omega, if_pos (by omega), if_pos (by omega)]
    simp
    omega
  · have h0 := bt_bd s (2 * j)
    have h1 := bt_bd s (2 * j + 1)
    unfold by16 pt
    rw [show (2 * j + 1) / 2 = j by omega, show (2 * j + 1) % 2 = 1 by omega, if_pos (by omega), if_pos (by omega)]
    simp
    omega

theorem rb_get (f : Nat → Int) (i : Nat) (hi : i < 32) : (rb f 32)[i]? = some (by16 f i) := by
  simp [rb, hi]

theorem bs_get (l : List Int) (i : Nat) : (bs l).data[i]? = l[i]?.map fun n => UInt8.ofNat n.toNat := by
  simp [bs]

theorem rb_val (s : ByteArray) (hs : s.size = 32) : bs (rb (pt s 32) 32) = s := by
  have hd : (bs (rb (pt s 32) 32)).data = s.data := by
    apply Array.ext_getElem?
    intro i
    rw [bs_get]
    have hs' : s.data.size = 32 := hs
    by_cases hi : i < 32
    · rw [rb_get _ i hi, by16_pt s i hi, Array.getElem?_eq_getElem (by omega)]
      simp only [Option.map_some, bt]
      rw [Array.getElem?_eq_getElem (by omega)]
      simp
    · rw [List.getElem?_eq_none (by rw [rb_len]; omega), Array.getElem?_eq_none (by omega)]
      rfl
  cases s
  unfold bs at *
  simp only at hd
  rw [hd]

theorem u8_inj {a b : Int} (ha : 0 ≤ a ∧ a < 256) (hb : 0 ≤ b ∧ b < 256) (h : UInt8.ofNat a.toNat = UInt8.ofNat b.toNat) : a = b := by
  have h2 := congrArg UInt8.toNat h
  simp only [UInt8.toNat_ofNat'] at h2
  omega

theorem rb_inj {f g : Nat → Int} (hf : Dig f 16) (hg : Dig g 16) (h : bs (rb f 32) = bs (rb g 32)) : S f 16 = S g 16 := by
  have hb : ∀ i, i < 32 → by16 f i = by16 g i := fun i hi => by
    have e := congrArg (fun s : ByteArray => s.data[i]?) h
    simp only [bs_get, rb_get _ i hi, Option.map_some, Option.some.injEq] at e
    exact u8_inj (by16_bd f i) (by16_bd g i) e
  refine S_congr fun j hj => ?_
  have a := hf j hj
  have b := hg j hj
  have h0 := hb (2 * j) (by omega)
  have h1 := hb (2 * j + 1) (by omega)
  unfold by16 at h0 h1
  rw [show 2 * j / 2 = j by omega, show 2 * j % 2 = 0 by omega] at h0
  rw [show (2 * j + 1) / 2 = j by omega, show (2 * j + 1) % 2 = 1 by omega] at h1
  simp at h0 h1
  omega

theorem canonR (s : ByteArray) (hs : s.size = 32) : ((lebytes ((ofF s).n % Pm)).toList == s.toList) = decide (val s < Pm) := by
  have hC := (ofF_n s).emod
  rw [hC]
  have hN0 : 0 ≤ val s % Pm := Int.emod_nonneg _ (by decide)
  have hN1 : val s % Pm < Pm := Int.emod_lt_of_pos _ (by decide)
  have hP : Pm < 65536 ^ 16 := by decide
  have e1 : S (d16 (val s % Pm)) 16 = val s % Pm := by rw [d16_S _ hN0, Int.emod_eq_of_lt hN0 (by omega)]
  have e2 : lebytes (val s % Pm) = bs (rb (d16 (val s % Pm)) 32) := by rw [← lebytes_S (d16_dig _ 16), e1]
  rw [Bool.eq_iff_iff, beq_iff_eq, decide_eq_true_eq]
  constructor
  · intro h
    have h' : lebytes (val s % Pm) = s := by
      rw [ByteArray.toList_eq, ByteArray.toList_eq] at h
      have h3 : (lebytes (val s % Pm)).data = s.data := Array.toList_inj.1 h
      generalize lebytes (val s % Pm) = L at *
      cases L
      cases s
      simp only at h3
      rw [h3]
    rw [e2] at h'
    have h4 := rb_inj (d16_dig _ 16) (pt_dig s 32) (h'.trans (rb_val s hs).symm)
    rw [e1, pt_S] at h4
    omega
  · intro h
    have hv : 0 ≤ val s := by rw [← pt_S]; exact (S_bd (pt_dig s 32)).1
    rw [Int.emod_eq_of_lt hv h, ← pt_S, lebytes_S (pt_dig s 32), rb_val s hs]

set_option maxRecDepth 100000 in
set_option maxHeartbeats 1000000 in
theorem canon_yes (s : ByteArray) (w : World) (hs : s.size = 32) :
    Calls Try.prog 10 #[.string s] w fun r w' => r = .returned (.bool (decide (val s < Pm))) ∧ Below w.heap.size w w' := by
  have HR := hide (canonR s hs)
  go_enter Try.func10, Try.ntmps10
  go_wp2_with fail
  refine (of_yes s _ hs).mono ?_
  rintro _ w1 ⟨rfl, O⟩
  have kx := ofF_ok s
  generalize ofF s = x at *
  have O' := hide (O.trans ((new_below w1 (.cells #[.int .u64 x.a, .int .u64 x.b, .int .u64 x.c, .int .u64 x.d, .int .u64 x.e] 27)).mono O.size))
  clear O
  go_wp2_with fail
  refine (bytes_any x _ kx).mono ?_
  rintro _ w2 ⟨rfl, hb⟩
  have O := O'.out.trans (hb.mono O'.out.size)
  clear hb O'
  generalize lebytes (x.n % Pm) = B at *
  generalize hd : decide (val s < Pm) = d at *
  have HD := hide hd
  clear hd
  have e := HR.out
  clear HR
  go_wp2
  go_ret
  exact ⟨by rw [HD.out]; rfl, O⟩

set_option maxRecDepth 100000 in
set_option maxHeartbeats 1000000 in
theorem canon_no (s : ByteArray) (w : World) (hs : s.size ≠ 32) :
    Calls Try.prog 10 #[.string s] w fun r w' => r = .returned (.bool false) ∧ Below w.heap.size w w' := by
  go_enter Try.func10, Try.ntmps10
  go_wp2_with fail
  refine (of_no s _ hs).mono ?_
  rintro _ w1 ⟨rfl, O⟩
  have O' := hide (O.trans ((new_below w1 (.cells #[.int .u64 zeroE.a, .int .u64 zeroE.b, .int .u64 zeroE.c, .int .u64 zeroE.d, .int .u64 zeroE.e] 27)).mono O.size))
  clear O
  go_wp2
  go_ret
  exact ⟨rfl, O'.out⟩

end Go.Proofs.Ytamokcoobfmogaa
