/- FilterPlays: spoil. -/
import Derived.Test.YtlfekknonjlopaaHA
import Derived.Test.YtlfekknonjlopaaXZ
namespace Go.Proofs.Ytlfekknonjlopaa
open Go.RowKit
set_option linter.unusedVariables false
set_option linter.unusedSimpArgs false
set_option maxHeartbeats 0
set_option maxRecDepth 100000
variable {C : World → Prop}
theorem RowD.slB {α : Type} {K : Nat} {e : TypeId} {el : α → List Value → List Blk → Prop} {l : List α} {v : Value} {T : List Blk} (h : RowD K e el l v T) : ∃ (F : Nat → Nat → Value) (base : Option Addr) (cap g0 : Nat), v = .slice base l.length cap ∧ (0 < l.length → base = some ⟨g0, 0, none⟩ ∧ ∃ Z : List Value, (⟨g0, .cells Z.toArray e (0, 0)⟩ : Blk) ∈ T ∧ ∀ i j, i < l.length → j < K → Z[0 + i * K + j]? = some (F i j)) ∧ ∀ i x, l[i]? = some x → ∃ cs Te, el x cs Te ∧ cs.length = K ∧ (∀ j y, cs[j]? = some y → F i j = y) ∧ ∀ b ∈ Te, b ∈ T := by
  obtain ⟨cs, Tb, Te, hB, hE, rfl⟩ := h
  have hl := hB.1
  obtain ⟨base, cap, g0, hv, hz⟩ : ∃ (base : Option Addr) (cap g0 : Nat), v = .slice base l.length cap ∧ (0 < l.length → base = some ⟨g0, 0, none⟩ ∧ ∃ Z : List Value, (⟨g0, .cells Z.toArray e (0, 0)⟩ : Blk) ∈ Tb ++ Te ∧ ∀ i j, i < l.length → j < K → Z[0 + i * K + j]? = some (cs.getD (i * K + j) undef)) := by
    rcases hB.2 with ⟨h0, ⟨a, rfl⟩, rfl⟩ | ⟨g, cap, Z, rfl, hc, hZ, hZt, rfl⟩
    · exact ⟨a, 0, 0, by rw [h0], fun h => by omega⟩
    · refine ⟨some ⟨g, 0, none⟩, cap, g, rfl, fun _ => ⟨rfl, Z, by simp, fun i j hi hj => ?_⟩⟩
      have h1 : i * K + j < l.length * K := by
        have : (i + 1) * K ≤ l.length * K := Nat.mul_le_mul_right _ hi
        rw [Nat.succ_mul] at this
        omega
      have h2 : cs[i * K + j]? = Z[i * K + j]? := by rw [← hZt, List.getElem?_take, if_pos h1]
      have h3 : i * K + j < cs.length := by omega
      rw [Nat.zero_add, ← h2, List.getElem?_eq_getElem h3]
      simp [List.getD, List.getElem?_eq_getElem h3]
  refine ⟨fun i j => cs.getD (i * K + j) undef, base, cap, g0, hv, hz, ?_⟩
  · have key : ∀ (l : List α) (cs : List Value) (Te : List Blk), Els el K l cs Te → ∀ i x, l[i]? = some x → ∃ c Tx, el x c Tx ∧ c.length = K ∧ (∀ j y, c[j]? = some y → cs.getD (i * K + j) undef = y) ∧ ∀ b ∈ Tx, b ∈ Te := by
      intro l
      induction l with
      | nil => intro cs Te _ i x h; simp at h
      | cons a l ih =>
        intro cs Te h i x hx
        obtain ⟨c1, cs', T1, Te', rfl, hl1, rfl, he, hE'⟩ := h
        cases i with
        | zero =>
          simp at hx
          subst hx
          refine ⟨c1, T1, he, hl1, fun j y hj => ?_, fun b hb => List.mem_append_left _ hb⟩
          have hj2 := (List.getElem?_eq_some_iff.1 hj).1
          rw [Nat.zero_mul, Nat.zero_add, List.getD_eq_getElem?_getD, List.getElem?_append_left hj2, hj]
          rfl
        | succ i =>
          obtain ⟨c, Tx, g1, g2, g3, g4⟩ := ih cs' Te' hE' i x (by simpa using hx)
          refine ⟨c, Tx, g1, g2, fun j y hj => ?_, fun b hb => List.mem_append_right _ (g4 b hb)⟩
          rw [← g3 j y hj, List.getD_eq_getElem?_getD, List.getD_eq_getElem?_getD, List.getElem?_append_right (by rw [hl1, Nat.succ_mul]; omega)]
          congr 2
          rw [hl1, Nat.succ_mul]
          omega
    intro i x hx
    obtain ⟨c, Tx, g1, g2, g3, g4⟩ := key l cs Te hE i x hx
    exact ⟨c, Tx, g1, g2, g3, fun b hb => List.mem_append_right _ (g4 b hb)⟩
theorem ShS.sub {T T' : List Blk} {n K : Nat} {e : TypeId} {ba : Option Addr} (h : ShS T n K e ba) (hs : ∀ b ∈ T, b ∈ T') : ShS T' n K e ba := fun hn => by
  obtain ⟨g, o, Z, h1, h2, h3⟩ := h hn
  exact ⟨g, o, Z, h1, hs _ h2, h3⟩
theorem buf_sh {K : Nat} {e : TypeId} {n : Nat} {cs : List Value} {v : Value} {T : List Blk} (h : Buf K e n cs v T) : ∃ p : Option Addr × Nat, v = .slice p.1 n p.2 ∧ ShS T n K e p.1 := by
  rcases h.2 with ⟨h0, ⟨a, rfl⟩, rfl⟩ | ⟨g, cap, Z, rfl, hc, hZ, hZt, rfl⟩
  · exact ⟨(a, 0), by rw [h0], fun h => by omega⟩
  · refine ⟨(some ⟨g, 0, none⟩, cap), rfl, fun _ => ⟨g, 0, Z, rfl, by simp, ?_⟩⟩
    have : n * K ≤ cap * K := Nat.mul_le_mul_right _ hc
    omega
theorem rulD_sp {l : List Rul} {v : Value} {T : List Blk} (h : rulD l v T) : ∃ (base : Option Addr) (cap g0 : Nat) (bs : Nat → Nat → Option Addr × Nat), v = .slice base l.length cap ∧ SlO T 4 l.length (slF l bs) base g0 0 ∧ ∀ v', spD g0 0 l bs v' T := by
  obtain ⟨F, base, cap, g0, hv, hz, hE⟩ := RowD.slB h
  have hb : ∀ i, ∃ p : Nat → Option Addr × Nat, i < l.length → (∀ j, j < 4 → F i j = [Value.slice (p 0).1 (l.getD i ru0).p.length (p 0).2, .slice (p 1).1 (l.getD i ru0).s.length (p 1).2, .slice (p 2).1 (l.getD i ru0).d.length (p 2).2, .slice (p 3).1 (l.getD i ru0).t.length (p 3).2].getD j undef) ∧ ShR T (l.getD i ru0) p := fun i => by
    by_cases hi : i < l.length
    · have hx : l[i]? = some (l.getD i ru0) := by rw [List.getD_eq_getElem?_getD, List.getElem?_eq_getElem hi]; rfl
      obtain ⟨cs, Te, ⟨v1, v2, v3, v4, T1, T2, T3, T4, rfl, rfl, b1, b2, b3, b4⟩, -, hF, hs⟩ := hE i _ hx
      obtain ⟨p1, rfl, s1⟩ := buf_sh b1
      obtain ⟨p2, rfl, s2⟩ := buf_sh b2
      obtain ⟨p3, rfl, s3⟩ := buf_sh b3
      obtain ⟨p4, rfl, s4⟩ := buf_sh b4
      refine ⟨fun j => [p1, p2, p3, p4].getD j (none, 0), fun _ => ⟨fun j hj => hF j _ ?_, ⟨s1.sub fun b hb => hs b (by simp [hb]), s2.sub fun b hb => hs b (by simp [hb]), s3.sub fun b hb => hs b (by simp [hb]), s4.sub fun b hb => hs b (by simp [hb])⟩⟩⟩
      match j, hj with
      | 0, _ => rfl
      | 1, _ => rfl
      | 2, _ => rfl
      | 3, _ => rfl
    · exact ⟨fun _ => (none, 0), fun h => absurd h hi⟩
  obtain ⟨bs, hbs⟩ := Classical.axiomOfChoice hb
  refine ⟨base, cap, g0, bs, hv, fun h0 => ?_, fun v' => ⟨fun h0 => ?_, fun i hi => (hbs i hi).2⟩⟩
  · obtain ⟨h1, Z, h2, h3⟩ := hz h0
    refine ⟨h1, Z.toArray, 67, (0, 0), h2, fun i j hi hj => ?_⟩
    rw [List.getElem?_toArray, h3 i j hi hj, (hbs i hi).1 j hj]
  · obtain ⟨-, Z, h2, h3⟩ := hz h0
    refine ⟨Z, h2, fun i j hi hj => ?_⟩
    rw [h3 i j hi hj, (hbs i hi).1 j hj]
end Go.Proofs.Ytlfekknonjlopaa
