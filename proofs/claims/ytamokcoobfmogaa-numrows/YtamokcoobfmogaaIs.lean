/- When an answer is the document's: the bytes are the same; and the contract of Canonical. -/
import Derived.Test.YtamokcoobfmogaaRbytes
import Derived.Test.YtamokcoobfmogaaRef2
import Derived.Test.YtamokcoobfmogaaSame
namespace Go.Proofs.Ytamokcoobfmogaa
open Go.RowKit

set_option maxHeartbeats 2000000 in
theorem digs4 {a b c d : Int} (ha : 0 ≤ a ∧ a < 65536) (hb : 0 ≤ b ∧ b < 65536) (hc : 0 ≤ c ∧ c < 65536) (_hd : 0 ≤ d ∧ d < 65536) :
    digs (a + 65536 * b + 4294967296 * c + 281474976710656 * d) = [a % 256, a / 256 % 256, b % 256, b / 256 % 256, c % 256, c / 256 % 256, d % 256, d / 256 % 256] := by
  unfold digs
  have h1 : (a + 65536 * b + 4294967296 * c + 281474976710656 * d) % 256 = a % 256 := by omega
  have h2 : (a + 65536 * b + 4294967296 * c + 281474976710656 * d) / 256 % 256 = a / 256 % 256 := by omega
  have h3 : (a + 65536 * b + 4294967296 * c + 281474976710656 * d) / 65536 % 256 = b % 256 := by omega
  have h4 : (a + 65536 * b + 4294967296 * c + 281474976710656 * d) / 16777216 % 256 = b / 256 % 256 := by omega
  have h5 : (a + 65536 * b + 4294967296 * c + 281474976710656 * d) / 4294967296 % 256 = c % 256 := by omega
  have h6 : (a + 65536 * b + 4294967296 * c + 281474976710656 * d) / 1099511627776 % 256 = c / 256 % 256 := by omega
  have h7 : (a + 65536 * b + 4294967296 * c + 281474976710656 * d) / 281474976710656 % 256 = d % 256 := by omega
  have h8 : (a + 65536 * b + 4294967296 * c + 281474976710656 * d) / 72057594037927936 % 256 = d / 256 % 256 := by omega
  rw [h1, h2, h3, h4, h5, h6, h7, h8]

theorem S16 (f : Nat → Int) : S f 16 = f 0 + f 1 * 65536 + f 2 * 4294967296 + f 3 * 281474976710656 + f 4 * 18446744073709551616 + f 5 * 1208925819614629174706176 + f 6 * 79228162514264337593543950336 + f 7 * 5192296858534827628530496329220096 + f 8 * 340282366920938463463374607431768211456 + f 9 * 22300745198530623141535718272648361505980416 + f 10 * 1461501637330902918203684832716283019655932542976 + f 11 * 95780971304118053647396689196894323976171195136475136 + f 12 * 6277101735386680763835789423207666416102355444464034512896 + f 13 * 411376139330301510538742295639337626245683966408394965837152256 + f 14 * 26959946667150639794667015087019630673637144422540572481103610249216 + f 15 * 1766847064778384329583297500742918515827483896875618958121606201292619776 := by
  simp [S]

set_option maxHeartbeats 2000000 in
theorem lebytes_S {f : Nat → Int} (hf : Dig f 16) : lebytes (S f 16) = bs (rb f 32) := by
  have h0 := hf 0 (by omega)
  have h1 := hf 1 (by omega)
  have h2 := hf 2 (by omega)
  have h3 := hf 3 (by omega)
  have h4 := hf 4 (by omega)
  have h5 := hf 5 (by omega)
  have h6 := hf 6 (by omega)
  have h7 := hf 7 (by omega)
  have h8 := hf 8 (by omega)
  have h9 := hf 9 (by omega)
  have h10 := hf 10 (by omega)
  have h11 := hf 11 (by omega)
  have h12 := hf 12 (by omega)
  have h13 := hf 13 (by omega)
  have h14 := hf 14 (by omega)
  have h15 := hf 15 (by omega)
  have e := S16 f
  have w0 : S f 16 % 18446744073709551616 = f 0 + 65536 * f 1 + 4294967296 * f 2 + 281474976710656 * f 3 := by rw [e]; omega
  have w1 : S f 16 / 18446744073709551616 % 18446744073709551616 = f 4 + 65536 * f 5 + 4294967296 * f 6 + 281474976710656 * f 7 := by rw [e]; omega
  have w2 : S f 16 / 340282366920938463463374607431768211456 % 18446744073709551616 = f 8 + 65536 * f 9 + 4294967296 * f 10 + 281474976710656 * f 11 := by rw [e]; omega
  have w3 : S f 16 / 6277101735386680763835789423207666416102355444464034512896 % 18446744073709551616 = f 12 + 65536 * f 13 + 4294967296 * f 14 + 281474976710656 * f 15 := by rw [e]; omega
  unfold lebytes
  rw [w0, w1, w2, w3, digs4 h0 h1 h2 h3, digs4 h4 h5 h6 h7, digs4 h8 h9 h10 h11, digs4 h12 h13 h14 h15]
  congr 1
  simp [rb, by16, List.range, List.range.loop]

set_option maxRecDepth 100000 in
set_option maxHeartbeats 1000000 in
theorem is_yes (x : E5) (f : Nat → Int) (w : World) (hx : x.Ok) (hf : Dig f 16) (he : x.n % Pm = S f 16) :
    Calls Try.prog 12 #[x.v, .agg (arr 16 f)] w fun r w' => r = .returned (.bool true) ∧ Below w.heap.size w w' := by
  have e1 : bs (rb f 32) = lebytes (x.n % Pm) := by rw [he, lebytes_S hf]
  have hcall : ∀ w, Calls Try.prog 37 #[.agg (arr 16 f)] w fun r w' => r = .returned (.string (lebytes (x.n % Pm))) ∧ Below w.heap.size w w' := fun w => by
    have := rbytes_any f w hf
    rwa [e1] at this
  have HC := hide hcall
  clear e1 hcall
  go_enter Try.func12, Try.ntmps12
  go_wp2_with fail
  have A := EAt.new1 w x (.cells (arr 16 f) 35)
  have R : Row ((w.alloc (.cells #[.int .u64 x.a, .int .u64 x.b, .int .u64 x.c, .int .u64 x.d, .int .u64 x.e] 27)).alloc (.cells (arr 16 f) 35)) (w.heap.size + 1) 35 16 f := Row.new' _ 35 16 f (by simp)
  have O := hide (((Below.refl w.heap.size w).alloc (Nat.le_refl _) (.cells #[.int .u64 x.a, .int .u64 x.b, .int .u64 x.c, .int .u64 x.d, .int .u64 x.e] 27)).alloc (by simp) (.cells (arr 16 f) 35))
  generalize (w.alloc (.cells #[.int .u64 x.a, .int .u64 x.b, .int .u64 x.c, .int .u64 x.d, .int .u64 x.e] 27)).alloc (.cells (arr 16 f) 35) = W at A R O ⊢
  have hne := KW.some W
  have a0 := A.k0
  have a1 := A.k1
  have a2 := A.k2
  have a3 := A.k3
  have a4 := A.k4
  have hg3 : ∀ w', (∃ s : KW W, w' = s.w) → w'.heap[w.heap.size + 1]? = some (.cells (arr 16 f) 35 (0, 0)) := by
    rintro _ ⟨s, rfl⟩
    exact R.keep s.keep
  have HG := hide hg3
  clear hg3 A
  have hb := bytes_any x
  have HB := hide (fun w => hb w hx)
  clear hb
  generalize lebytes (x.n % Pm) = B at *
  refine wp_region_keep (by kernel_rfl) (by kernel_rfl) ?_
  go_big_quiet_step (fail)
  go_big_quiet_step ((exact keep_of (HB.out _)))
  go_big_quiet_want
  refine quiet_load_row 35 _ rfl (w.heap.size + 1) rfl 35 (arr 16 f) (0, 0) _ HG.out Try.underlying35 rfl (info35 _) ?_
  go_simp
  go_big_quiet_on
  go_big_quiet_step ((exact keep_of (HC.out _)))
  go_big_quiet_step (fail)
  go_big_quiet_step (fail)
  refine wpQuiet_nil ?_
  intro s
  have hw := O.out.trans (s.keep.mono O.out.size)
  clear HB HC HG O hne a0 a1 a2 a3 a4
  go_wp2
  go_ret
  exact ⟨rfl, hw⟩

end Go.Proofs.Ytamokcoobfmogaa
