/- Results that lie in cells. -/
import Derived.Test.YtlfekknonjlopaaXP
namespace Go.Proofs.Ytlfekknonjlopaa
open Go.RowKit
set_option linter.unusedVariables false
set_option linter.unusedSimpArgs false

theorem semV_inv {P : Program} {q : Sem Value} {w w' : World} {v : Value} (h : (semV q).run P w = .ok (.value v) w') : q.run P w = .ok v w' := by
  unfold semV at h
  simp only [Sem.run_bind] at h
  cases e : q.run P w with
  | ok x w1 =>
    rw [e] at h
    simp only [Result.andThen_ok, Sem.run_pure] at h
    cases h
    rfl
  | halt x w1 =>
    rw [e] at h
    cases h
def resV (P : Program) (t : List SV) (m : List It) : ResultVar → Option SV
  | .tmp i => some (evS t (.tmp i))
  | .cell a ty => match (evS t (.tmp a)).k, m[(evS t (.tmp a)).b]?, aggT P ty with
    | 1, some it, some ag => match it.k with
      | 0 => match ag with
        | true => if Nat.ble ((evS t (.tmp a)).o + sizeT P ty) it.l.length then some (vG ((it.l.drop (evS t (.tmp a)).o).take (sizeT P ty))) else none
        | false => match it.l[(evS t (.tmp a)).o]? with
          | some s => if s.isC then some s else none
          | none => none
      | _ => none
    | _, _, _ => none
def resL (P : Program) (t : List SV) (m : List It) : List ResultVar → Option (List SV)
  | [] => some []
  | r :: l => match resV P t m r, resL P t m l with
    | some v, some vs => some (v :: vs)
    | _, _ => none
def resT : List SV → Option SV
  | [v] => some v
  | l => if l.all SV.isU then some (vT l) else none
def resOf (tmps : Array Value) : ResultVar → Sem Value
  | .tmp t => pure (tmps.getD t undef)
  | .cell a t => do loadVar t (← asAddr (tmps.getD a undef))
theorem resV_run {P : Program} {S : Seat P} {c : Ctx} {E : Nat → Ent} {s : St} {a : Act} {w : World} (H : Hold S c E s a w) {r : ResultVar} {v : SV} (h : resV P s.t s.m r = some v) : (resOf a.tmps r).run P w = .ok (v.den E) w := by
  cases r with
  | tmp i =>
    cases h
    show Result.ok (a.tmps.getD i undef) w = _
    exact congrArg (fun x => Result.ok x w) (ev_den H.tm (.tmp i))
  | cell i ty =>
    have he : a.tmps.getD i undef = (evS s.t (.tmp i)).den E := ev_den H.tm (.tmp i)
    show ((do loadVar ty (← asAddr (a.tmps.getD i undef))) : Sem Value).run P w = _
    rw [he]
    unfold resV at h
    simp only at h
    split at h
    · rename_i it ag hk hit hag
      split at h
      · rename_i hk0
        have hd := den1 hk E
        have hin : inM s.m [(evS s.t (.tmp i)).b] = true := by simpa using inM1 hit
        have T := ((H.mem.perm (dens_part E _ _ hin)).drop (List.sublist_append_left _ _)).there
        simp only [lk, List.map_cons, List.map_nil, getD_some hit, denP, it0 hk0] at T
        have hc := there1 T
        rw [hd]
        split at h
        · split at h
          · rename_i hle
            have hle := Nat.le_of_ble_eq_true hle
            cases h
            refine semV_inv (q := loadVar ty ⟨(E (evS s.t (.tmp i)).b).g, (evS s.t (.tmp i)).o, none⟩) ?_
            exact load_row (cs := ((it.l.drop (evS s.t (.tmp i)).o).take (sizeT P ty)).map (SV.denC E)) hag (by simp; omega) (info_some hag) (fun j v hv => by
              have hj := (List.getElem?_eq_some_iff.1 hv).1
              simp only [List.length_map, List.length_take, List.length_drop] at hj
              rw [cell_at hc, ← hv, List.getElem?_map, List.getElem?_map, List.getElem?_take_of_lt (by omega), List.getElem?_drop])
          · cases h
        · split at h
          · rename_i s' hs
            split at h
            · rename_i hC
              cases h
              refine semV_inv (q := loadVar ty ⟨(E (evS s.t (.tmp i)).b).g, (evS s.t (.tmp i)).o, none⟩) ?_
              rw [(SV.den_C hC E).1]
              exact load_one hag (v := v.denC E) (by rw [cell_at hc, List.getElem?_map, hs]; rfl)
            · cases h
          · cases h
      · cases h
    · cases h
theorem resL_run {P : Program} {S : Seat P} {c : Ctx} {E : Nat → Ent} {s : St} {a : Act} {w : World} (H : Hold S c E s a w) : ∀ {l : List ResultVar} {vs : List SV}, resL P s.t s.m l = some vs → (l.mapM (resOf a.tmps)).run P w = .ok (vs.map (SV.den E)) w
  | [], vs, h => by cases h; rfl
  | r :: l, vs, h => by
    unfold resL at h
    split at h
    · rename_i v us hv hu
      cases h
      simp only [List.mapM_cons, Sem.run_bind, resV_run H hv, Result.andThen_ok, resL_run H hu, Sem.run_pure, List.map_cons]
    · cases h
theorem res_run {P : Program} {S : Seat P} {c : Ctx} {E : Nat → Ent} {s : St} {a : Act} {w : World} (H : Hold S c E s a w) {fn : Func} {vs : List SV} {v : SV} (h : resL P s.t s.m fn.results.toList = some vs) (h2 : resT vs = some v) : (results fn a.tmps).run P w = .ok (v.den E) w := by
  have e : results fn a.tmps = ((do
      let vs ← fn.results.mapM (resOf a.tmps)
      pure (if h : vs.size = 1 then vs[0] else Value.tuple vs)) : Sem Value) := by
    unfold results
    refine congrArg (fun f => ((Array.mapM f fn.results >>= fun vs => pure (if h : vs.size = 1 then vs[0] else Value.tuple vs)) : Sem Value)) ?_
    funext r
    cases r <;> rfl
  rw [e]
  simp only [Array.mapM_eq_mapM_toList, bind_map_left, Sem.run_bind, resL_run H h, Result.andThen_ok, Sem.run_pure]
  refine congrArg (fun x => Result.ok x w) ?_
  match vs, h2 with
  | [], h2 =>
    cases h2
    rfl
  | [u], h2 =>
    cases h2
    simp
  | x :: y :: l, h2 =>
    unfold resT at h2
    split at h2
    · rename_i he
      cases he
    · split at h2
      · rename_i hU
        cases h2
        have hl : (x :: y :: l).map (SV.den E) = (x :: y :: l).map (SV.denU E) := List.map_congr_left fun z hz => SV.den_U (List.all_eq_true.1 hU z hz) E
        show (if h : ((x :: y :: l).map (SV.den E)).toArray.size = 1 then _ else Value.tuple _) = Value.tuple ((x :: y :: l).map (SV.denU E)).toArray
        rw [dif_neg (by simp), hl]
      · cases h2
/-- The end of a body, with results in cells. -/
theorem xRetC {P : Program} {S : Seat P} {s : St} {w0 : World} {E0 : Nat → Ent} {fn : Func} {R I J N : List It} {v : SV} {K : List Fr} (mm : List Nat)
    (hk : (match K with | [] => true | f :: _ => match f.k with | 0 => (match f.c with | .ret => true | _ => false) | _ => false) = true := by kernel_rfl)
    (hr : (resL P s.t s.m fn.results.toList).bind resT = some (v.ren (mmF (R ++ I).length mm)) := by kernel_rfl)
    (hq : (Nat.beq J.length I.length && (inM s.m ((postC R I J N).map fun p => mmF (R ++ I).length mm p.1) && (v.al (isLt ((R ++ I).length + N.length)) && (postC R I J N).all (fun p => p.2.al (isLt ((R ++ I).length + N.length)))))) = true := by kernel_rfl)
    (hm : ((postC R I J N).map (rnP (mmF (R ++ I).length mm))).map Prod.snd = (lk s.m ((postC R I J N).map fun p => mmF (R ++ I).length mm p.1)).map Prod.snd := by kernel_rfl) : OK S ⟨w0, (denP E0 (ix 0 (R ++ I))).map Blk.g⟩ E0 (R ++ I).length (Bk S fn w0 E0 R I J N v) K s := by
  refine ⟨fun E a w _ hE H => ?_⟩
  simp only [Bool.and_eq_true, nbeq] at hq
  have key : Bk S fn w0 E0 R I J N v .ret a w := by
    cases e : resL P s.t s.m fn.results.toList with
    | none => rw [e] at hr; cases hr
    | some vs =>
      rw [e] at hr
      have hr : resT vs = some (v.ren (mmF (R ++ I).length mm)) := hr
      refine ⟨H.df, _, res_run H e hr, _, rfl, ?_⟩
      exact ret_ok mm rfl (by simp) hq.1 hE H hq.2.1 hm hq.2.2.1 hq.2.2.2
  cases K with
  | nil => exact key
  | cons f k =>
    obtain ⟨fk, fc, fi, fa, fr, fI⟩ := f
    simp only at hk
    split at hk
    · split at hk
      · exact wp_ret (post_ret key k)
      · cases hk
    · cases hk
end Go.Proofs.Ytlfekknonjlopaa
