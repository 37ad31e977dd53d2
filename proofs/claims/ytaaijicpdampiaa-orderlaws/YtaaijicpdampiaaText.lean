/- The contracts of text, words, Bytes: the 32 bytes of a number, the lowest first. -/
import Derived.Test.YtaaijicpdampiaaRowB
import Derived.Laws.BytesString
import Derived.Laws.Rows
namespace Go.Proofs.Ytaaijicpdampiaa
open Go.RowKit

/-- Bytes as a string. -/
def bs (ns : List Int) : ByteArray := ⟨(ns.map fun n => UInt8.ofNat n.toNat).toArray⟩

theorem bs_fold (ns : List Int) : ∀ s : ByteArray, ns.foldl (fun r n => r.push (UInt8.ofNat n.toNat)) s = ⟨s.data ++ (ns.map fun n => UInt8.ofNat n.toNat).toArray⟩ := by
  induction ns with
  | nil => intro s; simp
  | cons n ns ih =>
    intro s
    rw [List.foldl_cons, ih]
    simp [ByteArray.push]

theorem conv_bytes (W : World) (g : Nat) (T : TypeId) (ns : List Int) (l cap : Nat) (fr : Nat × Nat) (hg : W.heap[g]? = some (.cells (ns.map (Value.int .u8)).toArray T fr)) (hl : ns.length = l) :
    (convert 48 9 (.slice (some ⟨g, 0, none⟩) l cap)).run Try.prog W = .ok (.string (bs ns)) W := by
  subst hl
  rw [run_convert_bytes_string W 48 9 5 (some ⟨g, 0, none⟩) ns.length cap Try.underlying48 Try.underlying5 Try.underlying9]
  have h := run_loadCells_list (P := Try.prog) W ⟨g, 0, none⟩ (ns.map (Value.int .u8)) (fun j v hv => by
    have hadd : (⟨g, 0, none⟩ : Addr).add j = ⟨g, j, none⟩ := by unfold Addr.add; split <;> simp_all
    rw [hadd, cell_of_row W g j _ T fr hg]
    simpa using hv)
  rw [List.length_map] at h
  have he : ByteArray.empty.data = #[] := rfl
  rw [run_bytesToString W _ ns.length cap ns h, bs_fold, he]
  simp [bs]

/-- The eight bytes of a word. -/
def digs (a : Int) : List Int := [a % 256, a / 256 % 256, a / 65536 % 256, a / 16777216 % 256, a / 4294967296 % 256, a / 1099511627776 % 256, a / 281474976710656 % 256, a / 72057594037927936 % 256]

/-- The 32 bytes of a number. -/
def lebytes (n : Int) : ByteArray := bs (digs (n % 18446744073709551616) ++ digs (n / 18446744073709551616 % 18446744073709551616) ++ digs (n / 340282366920938463463374607431768211456 % 18446744073709551616) ++ digs (n / 6277101735386680763835789423207666416102355444464034512896 % 18446744073709551616))

set_option maxRecDepth 100000 in
set_option maxHeartbeats 4000000 in
theorem text_any (a b c d : Int) (w : World) :
    Calls Try.prog 38 #[.agg #[.int .u64 a, .int .u64 b, .int .u64 c, .int .u64 d]] w fun r w' => r = .returned (.string (bs (digs a ++ digs b ++ digs c ++ digs d))) ∧ Below w.heap.size w w' := by
  go_enter Try.func38, Try.ntmps38
  go_wp2
  refine wp_loop_rounds 33 ?_
  iterate 33 (rw [rounds_succ]; go_wp2)
  have hcv : (convert 48 9 (.slice (some ⟨w.heap.size + 1, 0, none⟩) 32 32)).run Try.prog ((w.alloc (.cells #[.int .u64 a, .int .u64 b, .int .u64 c, .int .u64 d] 25)).alloc (.cells #[.int .u8 (a % 256), .int .u8 (a / 256 % 256), .int .u8 (a / 65536 % 256), .int .u8 (a / 16777216 % 256), .int .u8 (a / 4294967296 % 256), .int .u8 (a / 1099511627776 % 256), .int .u8 (a / 281474976710656 % 256), .int .u8 (a / 72057594037927936 % 256), .int .u8 (b % 256), .int .u8 (b / 256 % 256), .int .u8 (b / 65536 % 256), .int .u8 (b / 16777216 % 256), .int .u8 (b / 4294967296 % 256), .int .u8 (b / 1099511627776 % 256), .int .u8 (b / 281474976710656 % 256), .int .u8 (b / 72057594037927936 % 256), .int .u8 (c % 256), .int .u8 (c / 256 % 256), .int .u8 (c / 65536 % 256), .int .u8 (c / 16777216 % 256), .int .u8 (c / 4294967296 % 256), .int .u8 (c / 1099511627776 % 256), .int .u8 (c / 281474976710656 % 256), .int .u8 (c / 72057594037927936 % 256), .int .u8 (d % 256), .int .u8 (d / 256 % 256), .int .u8 (d / 65536 % 256), .int .u8 (d / 16777216 % 256), .int .u8 (d / 4294967296 % 256), .int .u8 (d / 1099511627776 % 256), .int .u8 (d / 281474976710656 % 256), .int .u8 (d / 72057594037927936 % 256)] 70)) = .ok (.string (bs (digs a ++ digs b ++ digs c ++ digs d))) _ := conv_bytes _ (w.heap.size + 1) 70 (digs a ++ digs b ++ digs c ++ digs d) 32 32 (0, 0) (heap_alloc2_new w _ _) rfl
  rw [hcv]
  clear hcv
  generalize hB : bs (digs a ++ digs b ++ digs c ++ digs d) = B
  have HB := hide hB
  clear hB
  go_wp2
  go_ret
  exact ⟨by rw [HB.out]; rfl, ((Below.refl _ _).alloc (Nat.le_refl _) _).alloc (by simp) _⟩

end Go.Proofs.Ytaaijicpdampiaa
