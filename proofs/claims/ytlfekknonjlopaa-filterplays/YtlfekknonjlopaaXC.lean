/- Words on operations that the kernel can't reckon alone. -/
import Derived.Test.YtlfekknonjlopaaXB
import Derived.Laws.Bits64
import Derived.Laws.BitsAllLaws
import Derived.Laws.IdiomStrings
import Derived.Laws.BytesString
import Derived.Laws.Strings
import Derived.Laws.Strings2
import Derived.Laws.Slices
import Derived.Laws.Concat
namespace Go.Proofs.Ytlfekknonjlopaa
open Go.RowKit
set_option linter.unusedVariables false

theorem DT {p : Prop} [Decidable p] (h : p) : decide p = true := decide_eq_true h
theorem DF {p : Prop} [Decidable p] (h : ¬ p) : decide p = false := decide_eq_false h
theorem DNT {p : Prop} [Decidable p] (h : ¬ p) : (!decide p) = true := by rw [decide_eq_false h]; rfl
theorem DNF {p : Prop} [Decidable p] (h : p) : (!decide p) = false := by rw [decide_eq_true h]; rfl
theorem toList_inj {s t : ByteArray} : s.toList = t.toList ↔ s = t := ⟨fun h => by
  have e : s.data.toList = t.data.toList := by rw [← ByteArray.toList_eq, ← ByteArray.toList_eq, h]
  exact ByteArray.ext (Array.toList_inj.1 e), fun h => h ▸ rfl⟩
theorem sEq (s t : ByteArray) : (s.toList == t.toList) = decide (s = t) := by
  by_cases h : s = t
  · subst h; simp
  · rw [decide_eq_false h, beq_eq_false_iff_ne]
    exact fun e => h (toList_inj.1 e)
theorem sNe (s t : ByteArray) : (!(s.toList == t.toList)) = !(decide (s = t)) := by rw [sEq]
theorem size0 {s : ByteArray} : s = ⟨#[]⟩ ↔ s.size = 0 := ⟨fun h => h ▸ rfl, fun h => ByteArray.ext (Array.eq_empty_of_size_eq_zero h)⟩
theorem sE0 (s : ByteArray) : (s.toList == (ByteArray.mk #[]).toList) = decide (s.size = 0) := by
  rw [sEq]; exact decide_eq_decide.2 size0
theorem sN0 (s : ByteArray) : (!(s.toList == (ByteArray.mk #[]).toList)) = !(decide (s.size = 0)) := by rw [sE0]
theorem iEq (x y : Int) : (x == y) = decide (x = y) := by by_cases h : x = y <;> simp [h]
theorem iNe (x y : Int) : (!(x == y)) = !(decide (x = y)) := by rw [iEq]
theorem xB {P : Program} {S : Seat P} {c : Ctx} {E0 : Nat → Ent} {n : Nat} {K : List Fr} {s : St} {fn : Func} {w0 : World} {R I J N : List It} {b b' : Bool} (e : b' = b) (k : OK S c E0 n (Bk S fn w0 E0 R I J N (vV (.bool b'))) K s) : OK S c E0 n (Bk S fn w0 E0 R I J N (vV (.bool b))) K s := e ▸ k
theorem xI {P : Program} {S : Seat P} {c : Ctx} {E0 : Nat → Ent} {n : Nat} {K : List Fr} {s : St} {fn : Func} {w0 : World} {R I J N : List It} {t : IntKind} {b b' : Int} (e : b' = b) (k : OK S c E0 n (Bk S fn w0 E0 R I J N (vV (.int t b'))) K s) : OK S c E0 n (Bk S fn w0 E0 R I J N (vV (.int t b))) K s := e ▸ k
theorem xV {P : Program} {S : Seat P} {c : Ctx} {E0 : Nat → Ent} {n : Nat} {K : List Fr} {s : St} {fn : Func} {w0 : World} {R I J N : List It} {v v' : SV} (e : v' = v) (k : OK S c E0 n (Bk S fn w0 E0 R I J N v') K s) : OK S c E0 n (Bk S fn w0 E0 R I J N v) K s := e ▸ k

section
variable {P : Program} {S : Seat P} {C : World → Prop}
theorem ls_read {q : (Nat → Ent) → Sem Next} {v : SV} {b : Nat} (h : ∀ E w, S.laid w → C w → (q E).run P w = .ok (.value (v.den E)) w) : LS S C q [] (newAt b 0) v [] := fun E w hL hC T _ => by
  rw [h E w hL (hC w (grw_refl _ _))]
  exact ⟨E, fun _ _ => rfl, by simp [okP], rfl, OkT.refl T⟩
/-- What an operation hands back, as the world tells it. -/
def dRd (q : VO) (v : SV) (h : ∀ E w, S.laid w → C w → (q.sem E).run P w = .ok (.value (v.den E)) w) : Dr S C :=
  dSp fun b => ⟨q, [], [], [], [], v, fun _ _ => ls_read h⟩
/-- A comparison that is known. -/
def dT {p : Prop} [Decidable p] (h : p) : Dr S C := dEq (x := .bool (decide p)) (y := .bool true) (by rw [decide_eq_true h])
def dF {p : Prop} [Decidable p] (h : ¬ p) : Dr S C := dEq (x := .bool (decide p)) (y := .bool false) (by rw [decide_eq_false h])
def dNT {p : Prop} [Decidable p] (h : ¬ p) : Dr S C := dEq (x := .bool (!(decide p))) (y := .bool true) (by rw [decide_eq_false h]; rfl)
def dNF {p : Prop} [Decidable p] (h : p) : Dr S C := dEq (x := .bool (!(decide p))) (y := .bool false) (by rw [decide_eq_true h]; rfl)
def dB {b c : Bool} (h : b = c) : Dr S C := dEq (x := .bool b) (y := .bool c) (by rw [h])
theorem wrap_id {x : Int} (h0 : -9223372036854775808 ≤ x) (h1 : x < 9223372036854775808) : IntKind.wrap .i64 x = x := by
  simp [IntKind.wrap, IntKind.signed, IntKind.bits, go_sem]
  omega
/-- A number that goes not round. -/
def dW (x : Int) (y : Int) (h : x = y) (h1 : -9223372036854775808 ≤ x) (h2 : x < 9223372036854775808) : Dr S C := dEq (x := .int .i64 (IntKind.wrap .i64 x)) (y := .int .i64 y) (by rw [wrap_id h1 h2, h])
def bt (s : ByteArray) (i : Nat) : Int := ((s.data[i]?.getD 0).toNat : Int)
/-- A string's byte. -/
theorem run_ixs {t : TypeId} {s : ByteArray} {k : IntKind} {i : Nat} {w : World} (hu : P.underlying t = some .string) (h : i < s.size) : (semV (Instr.index t (.string s) (.int k (i : Int)))).run P w = .ok (.value (.int .u8 (bt s i))) w := by
  have e : s[i]? = some s[i] := ByteArray.getElem?_lt' s i h
  have e2 : bt s i = (s[i].toNat : Int) := by
    unfold bt
    rw [Array.getElem?_eq_getElem h]
    rfl
  simp [semV, Instr.index, asIntOf, run_underlying hu, e, e2]
def dIs (t : TypeId) (s : ByteArray) (i : Nat) (h : i < s.size) (hu : P.underlying t = some .string := by kernel_rfl) : Dr S C :=
  dRd (oOp 6 t 0 [] [vV (.string s), vV (.int .i64 (i : Int))]) (vV (.int .u8 (bt s i))) fun _ _ _ _ => run_ixs hu h
/-- A part of a string. -/
def dSh (t : TypeId) (s : ByteArray) (i : Nat) (h : i ≤ s.size) (hu : P.underlying t = some .string := by kernel_rfl) : Dr S C :=
  dRd (oOp 5 t 0 [false, true, false] [vV (.string s), vV undef, vV (.int .i64 (i : Int)), vV undef]) (vV (.string (s.extract 0 i))) fun _ w _ _ => by
    show (semV (Instr.sliceAt t (.string s) none (some (.int .i64 (i : Int))) none)).run P w = _
    simp [semV, run_sliceAt_string w t (.string s) none (some (.int .i64 i)) none hu, run_slice_string_h w t s hu .i64 i (by omega) (by omega)]
    rfl
def dSl (t : TypeId) (s : ByteArray) (i : Nat) (h : i ≤ s.size) (hu : P.underlying t = some .string := by kernel_rfl) : Dr S C :=
  dRd (oOp 5 t 0 [true, false, false] [vV (.string s), vV (.int .i64 (i : Int)), vV undef, vV undef]) (vV (.string (s.extract i s.size))) fun _ w _ _ => by
    show (semV (Instr.sliceAt t (.string s) (some (.int .i64 (i : Int))) none none)).run P w = _
    simp [semV, run_sliceAt_string w t (.string s) (some (.int .i64 i)) none none hu, run_slice_string_l w t s hu .i64 i (by omega) (by omega)]
    rfl
def dSlh (t : TypeId) (s : ByteArray) (i j : Nat) (h : i ≤ j) (h2 : j ≤ s.size) (hu : P.underlying t = some .string := by kernel_rfl) : Dr S C :=
  dRd (oOp 5 t 0 [true, true, false] [vV (.string s), vV (.int .i64 (i : Int)), vV (.int .i64 (j : Int)), vV undef]) (vV (.string (s.extract i j))) fun _ w _ _ => by
    show (semV (Instr.sliceAt t (.string s) (some (.int .i64 (i : Int))) (some (.int .i64 (j : Int))) none)).run P w = _
    simp [semV, run_sliceAt_string w t (.string s) (some (.int .i64 i)) (some (.int .i64 j)) none hu, run_slice_string w t s .i64 .i64 i j hu (by omega) (by omega) (by omega)]
    rfl
/-- An element's place: of a slice whose address is told. -/
theorem run_ixsl {t e : TypeId} {a : Option Addr} {n cap i off : Nat} {g o : Nat} {w : World} (hu : P.underlying t = some (.slice e)) (h0 : (P.info? e).isSome = true) (h : i < n) (ho : off = o + i * sizeT P e) : (semV (Instr.indexAt t (.slice (some ⟨g, o, none⟩) n cap) (.int .i64 (i : Int)))).run P w = .ok (.value (.pointer (some ⟨g, off, none⟩))) w := by
  subst ho
  cases hq : P.info? e with
  | none => rw [hq] at h0; cases h0
  | some u => simp [semV, Instr.indexAt, asIntOf, run_underlying hu, sizeOf, typeInfo, hq, h, sizeT, Addr.add_mid]
def dIx (t : TypeId) (g o n cap i off : Nat) {e : TypeId} (h : i < n) (ho : off = o + i * sizeT P e) (hu : P.underlying t = some (.slice e) := by kernel_rfl) (h0 : (P.info? e).isSome = true := by kernel_rfl) : Dr S C :=
  dRd (oOp 4 t 0 [] [vV (.slice (some ⟨g, o, none⟩) n cap), vV (.int .i64 (i : Int))]) (vV (.pointer (some ⟨g, off, none⟩))) fun _ _ _ _ => run_ixsl (a := none) hu h0 h ho
/-- The same, of a slice of block b. -/
def dIxB (t : TypeId) (b o n cap i off : Nat) {e : TypeId} (h : i < n) (ho : off = o + i * sizeT P e) (hu : P.underlying t = some (.slice e) := by kernel_rfl) (h0 : (P.info? e).isSome = true := by kernel_rfl) : Dr S C :=
  dRd (oOp 4 t 0 [] [vS b o n cap, vV (.int .i64 (i : Int))]) (vP b off) fun _ _ _ _ => run_ixsl (a := none) hu h0 h ho
/-- A cell that was there ahead. -/
def dRo (t : TypeId) (g off : Nat) (x : Value) (h : ∀ w, C w → w.cell? ⟨g, off, none⟩ = some x) (ha : aggT P t = some false := by kernel_rfl) : Dr S C :=
  dRd (oOp 2 t 0 [] [vV (.pointer (some ⟨g, off, none⟩))]) (vV x) fun _ w _ hC => load_one ha (h w hC)
theorem vG_map (E : Nat → Ent) (cs : List Value) : (vG (cs.map vV)).den E = .agg cs.toArray := by
  show Value.agg ((cs.map vV).map (SV.denC E)).toArray = _
  rw [List.map_map]
  congr 2
  exact List.map_id cs
def dRoA (t : TypeId) (g off : Nat) (cs : List Value) (h : ∀ w, C w → w.rangeAt g off cs) (hs : cs.length = sizeT P t := by kernel_rfl) (ha : aggT P t = some true := by kernel_rfl) : Dr S C :=
  dRd (oOp 2 t 0 [] [vV (.pointer (some ⟨g, off, none⟩))]) (vG (cs.map vV)) fun E w _ hC => by rw [vG_map]; exact load_row ha hs (info_some ha) (h w hC)
end
end Go.Proofs.Ytlfekknonjlopaa
